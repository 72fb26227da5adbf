import PyProof.Rows.All
import Wide.All
import OpenK.AllK
import Wide.FinOn
import HandS.ForMost
import HandS.IsInst
import HandS.Style
import HandS.SortKw
import HandS.RaiseMore
import KE.DataMinMax
import PyProof.ReprRoads
import HandS.SetBool
import HandS.Strs
import HandS.SortInts
import HandS.Flow
import HandS.Deep
import HandS.Small
import HandS.DictComp
import PySem.Challenge.RW_circlesettle_k52_are_papers_right
set_option Elab.async false
set_option linter.all false
set_option maxRecDepth 100000
namespace Dl
open PySem PySem.Spec PyProof.Rows L2

abbrev D := PyData
mutual
/-- the value v stands for the data d in the frozen heap F -/
inductive Rp (K : PySem.W.Frag) (F : Hp) : V → D → Prop
  | non : Rp K F .non .none
  | bl (b : Bool) : Rp K F (.bl b) (.bool b)
  | int (i : Int) : Rp K F (.int i) (.int i)
  | str (x : Str) : Rp K F (.str x) (.str x)
  | lst {a : Addr} {vs : List V} {ds : List D} : SqL K F a vs → RpA K F vs ds → Rp K F (.ref a) (.list ds)
  | tup {a : Addr} {vs : List V} {ds : List D} : SqT K F a vs → RpA K F vs ds → Rp K F (.ref a) (.tuple ds)
  | dic {a : Addr} {ks : List Int} : F a = some (.dK (ks.map fun k => (Sum.inl k, V.bl true))) → Rp K F (.ref a) (.dict (ks.map fun k => (PyData.int k, PyData.bool true)))
  | dii {a : Addr} {ks : List (Int × Int)} : F a = some (.dK (ks.map fun p => (Sum.inl p.1, V.int p.2))) → Rp K F (.ref a) (.dict (ks.map fun p => (PyData.int p.1, PyData.int p.2)))
inductive RpA (K : PySem.W.Frag) (F : Hp) : List V → List D → Prop
  | nil : RpA K F [] []
  | cons {v : V} {vs : List V} {d : D} {ds : List D} : Rp K F v d → RpA K F vs ds → RpA K F (v :: vs) (d :: ds)
end

theorem sqS {K : PySem.W.Frag} {F F' : Hp} {a : Addr} {xs : List V} (e : Same F F') (h : SqL K F a xs) : SqL K F' a xs := Same.seq e h
theorem tqS {K : PySem.W.Frag} {F F' : Hp} {a : Addr} {xs : List V} (e : Same F F') (h : SqT K F a xs) : SqT K F' a xs := by
  rcases h with (h | ⟨o, h⟩) | h
  · exact .inl (.inl (e _ _ h))
  · exact .inl (.inr ⟨o, e _ _ h⟩)
  · exact .inr h
variable {K : PySem.W.Frag}
mutual
theorem Rp.mono {F F' : Hp} (e : Same F F') : ∀ {d : D} {v : V}, Rp K F v d → Rp K F' v d
  | _, _, .non => .non
  | _, _, .bl b => .bl b
  | _, _, .int i => .int i
  | _, _, .str x => .str x
  | _, _, .lst h r => .lst (sqS e h) (RpA.mono e r)
  | _, _, .tup h r => .tup (tqS e h) (RpA.mono e r)
  | _, _, .dic h => .dic (e _ _ h)
  | _, _, .dii h => .dii (e _ _ h)
theorem RpA.mono {F F' : Hp} (e : Same F F') : ∀ {ds : List D} {vs : List V}, RpA K F vs ds → RpA K F' vs ds
  | _, _, .nil => .nil
  | _, _, .cons h r => .cons (Rp.mono e h) (RpA.mono e r)
end
mutual
theorem Rp.dp {F : Hp} : ∀ {d : D} {v : V}, Rp K F v d → d.hasDict = false → Dp K F v d
  | _, _, .non, _ => .non
  | _, _, .bl b, _ => .bl b
  | _, _, .int i, _ => .int i
  | _, _, .str x, _ => .str x
  | _, _, .lst h r, e => .lst h (RpA.dp r (by simpa [PyData.hasDict] using e))
  | _, _, .tup h r, e => .tup h (RpA.dp r (by simpa [PyData.hasDict] using e))
  | _, _, .dic h, e => by simp [PyData.hasDict] at e
  | _, _, .dii h, e => by simp [PyData.hasDict] at e
theorem RpA.dp {F : Hp} : ∀ {ds : List D} {vs : List V}, RpA K F vs ds → PyData.hasDictAll ds = false → DpAll K F vs ds
  | _, _, .nil, _ => .nil
  | _, _, .cons h r, e => by
    rw [PyData.hasDictAll, Bool.or_eq_false_iff] at e
    exact .cons (Rp.dp h e.1) (RpA.dp r e.2)
end
theorem nd_shaped {d : D} (h : SeqAt.shaped d = true) : d.hasDict = false := PyData.hasDict_of_canLay d (SeqAt.canLay_of_shaped h)
theorem RpA.len {F : Hp} : ∀ {vs : List V} {ds : List D}, RpA K F vs ds → vs.length = ds.length
  | _, _, .nil => rfl
  | _, _, .cons _ r => by rw [List.length_cons, List.length_cons, RpA.len r]
theorem RpA.get {F : Hp} : ∀ {vs : List V} {ds : List D} {i : Nat} {d : D}, RpA K F vs ds → ds[i]? = some d → ∃ v, vs[i]? = some v ∧ Rp K F v d
  | _, _, _, _, .nil, h => by simp at h
  | _, _, 0, _, .cons r _, h => by
    rw [List.getElem?_cons_zero] at h
    cases h
    exact ⟨_, rfl, r⟩
  | _, _, i + 1, _, .cons _ r, h => by
    rw [List.getElem?_cons_succ] at h
    obtain ⟨v, e, q⟩ := RpA.get r h
    exact ⟨v, by rw [List.getElem?_cons_succ]; exact e, q⟩
theorem RpA.app {F : Hp} : ∀ {vs ws : List V} {ds es : List D}, RpA K F vs ds → RpA K F ws es → RpA K F (vs ++ ws) (ds ++ es)
  | _, _, _, _, .nil, q => q
  | _, _, _, _, .cons h r, q => .cons h (RpA.app r q)
theorem RpA.one {F : Hp} {v : V} {d : D} (h : Rp K F v d) : RpA K F [v] [d] := .cons h .nil
theorem RpA.setAt {F : Hp} {v : V} {d : D} (h : Rp K F v d) : ∀ {vs : List V} {ds : List D} {i : Nat}, RpA K F vs ds → RpA K F (vs.set i v) (ds.set i d)
  | _, _, _, .nil => .nil
  | _, _, 0, .cons _ r => .cons h r
  | _, _, i + 1, .cons q r => .cons q (RpA.setAt h r)
theorem RpA.takeN {F : Hp} : ∀ {vs : List V} {ds : List D} (n : Nat), RpA K F vs ds → RpA K F (vs.take n) (ds.take n)
  | _, _, 0, _ => by rw [List.take_zero, List.take_zero]; exact .nil
  | _, _, _ + 1, .nil => .nil
  | _, _, n + 1, .cons h r => .cons h (RpA.takeN n r)
theorem RpA.dropN {F : Hp} : ∀ {vs : List V} {ds : List D} (n : Nat), RpA K F vs ds → RpA K F (vs.drop n) (ds.drop n)
  | _, _, 0, r => r
  | _, _, _ + 1, .nil => .nil
  | _, _, n + 1, .cons _ r => by rw [List.drop_succ_cons, List.drop_succ_cons]; exact RpA.dropN n r
theorem RpA.back {F : Hp} : ∀ {vs : List V} {ds : List D} {i : Nat} {v : V}, RpA K F vs ds → vs[i]? = some v → ∃ d, ds[i]? = some d ∧ Rp K F v d
  | _, _, _, _, .nil, h => by simp at h
  | _, _, 0, _, .cons r _, h => by
    rw [List.getElem?_cons_zero] at h
    cases h
    exact ⟨_, rfl, r⟩
  | _, _, i + 1, _, .cons _ r, h => by
    rw [List.getElem?_cons_succ] at h
    obtain ⟨v, e, q⟩ := RpA.back r h
    exact ⟨v, by rw [List.getElem?_cons_succ]; exact e, q⟩

/-! ### how the two heaps move -/
structure Mv (F H F' H' : Hp) : Prop where
  f : Same F F'
  h : Same H H'
  fh : Same F' H'
  sep : ∀ p, H p ≠ none → F p = none → F' p = none
theorem Mv.rfl' {F H : Hp} (e : Same F H) : Mv F H F H := ⟨Same.refl _, Same.refl _, e, fun _ _ h => h⟩
theorem Mv.trans {F H F1 H1 F2 H2 : Hp} (a : Mv F H F1 H1) (b : Mv F1 H1 F2 H2) : Mv F H F2 H2 :=
  ⟨a.f.trans b.f, a.h.trans b.h, b.fh, fun p hp hf => b.sep p (by
    cases q : H p with
    | none => exact absurd q hp
    | some o => rw [a.h _ _ q]; exact fun z => nomatch z) (a.sep p hp hf)⟩
/-- a new object, frozen -/
theorem Mv.new {F H : Hp} {p : Addr} {o : HO} (e : Same F H) (hp : H p = none) : Mv F H (upd F p o) (upd H p o) := by
  have nf : F p = none := by
    cases q : F p with
    | none => rfl
    | some u => rw [e _ _ q] at hp; cases hp
  refine ⟨fun a u h => ?_, fun a u h => ?_, fun a u h => ?_, fun a ha hf => ?_⟩
  · rw [upd_ne (ne_of_none h nf)]; exact h
  · rw [upd_ne (ne_of_none h hp)]; exact h
  · by_cases q : a = p
    · subst q; rw [upd_same] at h ⊢; exact h
    · rw [upd_ne q] at h ⊢; exact e _ _ h
  · rw [upd_ne (fun z => ha (by rw [z]; exact hp))]; exact hf
/-- a new object, not frozen -/
theorem Mv.newO {F H : Hp} {p : Addr} {o : HO} (e : Same F H) (hp : H p = none) : Mv F H F (upd H p o) := by
  refine ⟨Same.refl _, fun a u h => ?_, fun a u h => ?_, fun a ha hf => hf⟩
  · rw [upd_ne (ne_of_none h hp)]; exact h
  · have h2 := e _ _ h
    rw [upd_ne (ne_of_none h2 hp)]; exact h2
/-- only the heap grew -/
theorem Mv.grow {F H H' : Hp} (e : Same F H) (h : Same H H') : Mv F H F H' := ⟨Same.refl _, h, e.trans h, fun _ _ q => q⟩
/-- freeze what is new since H -/
theorem Mv.freeze {F H F' H' : Hp} {p : Addr} {o : HO} (m : Mv F H F' H') (hp : H p = none) (hq : H' p = some o) (hn : F' p = none) : Mv F H (upd F' p o) H' := by
  refine ⟨fun a u h => ?_, m.h, fun a u h => ?_, fun a ha hf => ?_⟩
  · have h2 := m.f _ _ h
    rw [upd_ne (ne_of_none h2 hn)]; exact h2
  · by_cases q : a = p
    · subst q; rw [upd_same] at h; cases h; exact hq
    · rw [upd_ne q] at h; exact m.fh _ _ h
  · rw [upd_ne (fun z => ha (by rw [z]; exact hp))]; exact m.sep a ha hf
theorem same_updF {F : Hp} {p : Addr} {o : HO} (h : F p = none) : Same F (upd F p o) := fun a u e => by
  rw [upd_ne (ne_of_none e h)]; exact e

/-! ### slots -/
inductive DV where
  | val (d : D)
  /-- a list of its owner's alone -/
  | own (ds : List D)
def DV.data : DV → D
  | .val d => d
  | .own ds => .list ds
abbrev DS := List (Option DV)

structure Rel (K : PySem.W.Frag) (F H : Hp) (σ : L2.St) (δ : DS) : Prop where
  fh : Same F H
  len : σ.length = δ.length
  val : ∀ (i : Nat) d, δ[i]? = some (some (.val d)) → ∃ v, σ[i]? = some (some v) ∧ Rp K F v d
  own : ∀ (i : Nat) ds, δ[i]? = some (some (.own ds)) → ∃ p vs, σ[i]? = some (some (.ref p)) ∧ F p = none ∧ H p = some (.lst vs) ∧ RpA K F vs ds
theorem Rel.mv {F H F' H' : Hp} {σ : L2.St} {δ : DS} (r : Rel K F H σ δ) (m : Mv F H F' H') : Rel K F' H' σ δ := by
  refine ⟨m.fh, r.len, fun i d h => ?_, fun i ds h => ?_⟩
  · obtain ⟨v, e, q⟩ := r.val i d h
    exact ⟨v, e, q.mono m.f⟩
  · obtain ⟨p, vs, e, n, hp, q⟩ := r.own i ds h
    exact ⟨p, vs, e, m.sep p (by rw [hp]; exact fun z => nomatch z) n, m.h _ _ hp, q.mono m.f⟩
/-- all that is owned is read as data -/
def thaw (δ : DS) : DS := δ.map fun o => o.map fun r => .val r.data
theorem thaw_get {δ : DS} {i : Nat} : (thaw δ)[i]? = (δ[i]?).map fun o => o.map fun r => .val r.data := by
  unfold thaw
  rw [List.getElem?_map]
theorem Rel.thaw {F H : Hp} {σ : L2.St} {δ : DS} (r : Rel K F H σ δ) : Rel K H H σ (thaw δ) := by
  refine ⟨Same.refl _, by unfold Dl.thaw; rw [List.length_map]; exact r.len, fun i d h => ?_, fun i ds h => ?_⟩
  · rw [thaw_get] at h
    cases q : δ[i]? with
    | none => rw [q] at h; cases h
    | some o =>
      cases o with
      | none => rw [q] at h; cases h
      | some u =>
        rw [q] at h
        cases u with
        | val d' =>
          cases h
          obtain ⟨v, e, z⟩ := r.val i _ q
          exact ⟨v, e, z.mono r.fh⟩
        | own ds =>
          cases h
          obtain ⟨p, vs, e, n, hp, z⟩ := r.own i _ q
          exact ⟨_, e, .lst (.inl (.inl hp)) (z.mono r.fh)⟩
  · rw [thaw_get] at h
    cases q : δ[i]? with
    | none => rw [q] at h; cases h
    | some o =>
      cases o with
      | none => rw [q] at h; cases h
      | some u => rw [q] at h; cases u <;> cases h

/-! ### what evaluates to what -/
def Ev (K : PySem.W.Frag) (t : TE) (m : DS → Option D) : Prop := ∀ F H σ δ, Rel K F H σ δ → ∀ d, m δ = some d → ∀ Q : VK, (∀ F' H' v, Mv F H F' H' → Rp K F' v d → Q v H') → t σ H Q
def EvO (K : PySem.W.Frag) (t : TE) (m : DS → Option (List D)) : Prop := ∀ F H σ δ, Rel K F H σ δ → ∀ ds, m δ = some ds → ∀ Q : VK,
  (∀ F' H' p vs, Mv F H F' H' → H p = none → F' p = none → H' p = some (.lst vs) → RpA K F' vs ds → Q (.ref p) H') → t σ H Q
def EvT (K : PySem.W.Frag) (t : TT) (m : DS → Option Bool) : Prop := ∀ F H σ δ, Rel K F H σ δ → ∀ b, m δ = some b → ∀ Q : Bool → Hp → Prop, (∀ H', Same H H' → Q b H') → t σ H Q
def EvA (K : PySem.W.Frag) (n : Nat) (t : TA) (m : DS → Option (List D)) : Prop := ∀ F H σ δ, Rel K F H σ δ → ∀ ds, m δ = some ds → ∀ Q : List V → Hp → Prop, (∀ F' H' vs, Mv F H F' H' → RpA K F' vs ds → ds.length = n → Q vs H') → t σ H Q
/-- operations on values -/
def OpD (K : PySem.W.Frag) (r : R2) (g : D → D → Option D) : Prop := ∀ F H x y d e z, Same F H → Rp K F x d → Rp K F y e → g d e = some z → ∀ Q : VK, (∀ F' H' v, Mv F H F' H' → Rp K F' v z → Q v H') → r x y H Q
def UnD (K : PySem.W.Frag) (r : V → Hp → VK → Prop) (g : D → Option D) : Prop := ∀ F H x d z, Same F H → Rp K F x d → g d = some z → ∀ Q : VK, (∀ F' H' v, Mv F H F' H' → Rp K F' v z → Q v H') → r x H Q
def CallD (K : PySem.W.Frag) (r : List V → Hp → VK → Prop) (g : List D → Option D) : Prop := ∀ F H vs ds z, Same F H → RpA K F vs ds → g ds = some z → ∀ Q : VK, (∀ F' H' v, Mv F H F' H' → Rp K F' v z → Q v H') → r vs H Q
def CallO (K : PySem.W.Frag) (r : List V → Hp → VK → Prop) (g : List D → Option (List D)) : Prop := ∀ F H vs ds z, Same F H → RpA K F vs ds → g ds = some z → ∀ Q : VK,
  (∀ F' H' p ws, Mv F H F' H' → H p = none → F' p = none → H' p = some (.lst ws) → RpA K F' ws z → Q (.ref p) H') → r vs H Q

def mLst (ms : DS → Option (List D)) : DS → Option D := fun δ => (ms δ).map .list
theorem EvO.ev {t : TE} {m : DS → Option (List D)} (h : EvO K t m) : Ev K t (mLst m) := fun F H σ δ r d e Q q => by
  obtain ⟨ds, hm, rfl⟩ := Option.map_eq_some_iff.mp e
  refine h F H σ δ r ds hm Q fun F' H' p vs mv hp hn hq ra => ?_
  exact q _ H' _ (mv.freeze hp hq hn) (.lst (.inl (.inl upd_same)) (ra.mono (same_updF hn)))
def gLst (g : List D → Option (List D)) : List D → Option D := fun ds => (g ds).map .list
theorem CallO.d {r : List V → Hp → VK → Prop} {g : List D → Option (List D)} (h : CallO K r g) : CallD K r (gLst g) := fun F H vs ds d e rv hm Q q => by
  obtain ⟨zs, hg, rfl⟩ := Option.map_eq_some_iff.mp hm
  refine h F H vs ds zs e rv hg Q fun F' H' p ws mv hp hn hq ra => ?_
  exact q _ H' _ (mv.freeze hp hq hn) (.lst (.inl (.inl upd_same)) (ra.mono (same_updF hn)))

def flatD : D → Bool
  | .none => true
  | .bool _ => true
  | .int _ => true
  | .str _ => true
  | _ => false
theorem Rp.flat {F G : Hp} {v : V} {d : D} (h : Rp K F v d) (f : flatD d = true) : Rp K G v d := by
  cases h with
  | non => exact .non
  | bl b => exact .bl b
  | int i => exact .int i
  | str x => exact .str x
  | lst _ _ => cases f
  | tup _ _ => cases f
  | dic _ => cases f
  | dii _ => cases f
/-- read with what is owned as data; the value flat -/
def mBor (m : DS → Option D) : DS → Option D := fun δ => match m (thaw δ) with
  | some d => if flatD d = true then some d else none
  | none => none
theorem Ev.bor {t : TE} {m : DS → Option D} (h : Ev K t m) : Ev K t (mBor m) := fun F H σ δ r d e Q q => by
  unfold mBor at e
  cases hm : m (Dl.thaw δ) with
  | none => rw [hm] at e; cases e
  | some d' =>
    rw [hm] at e
    by_cases hf : flatD d' = true
    · have e' : (if flatD d' = true then some d' else none) = some d := e
      rw [if_pos hf] at e'
      cases e'
      refine h H H σ _ r.thaw d hm Q fun F' H' v mv rp => ?_
      exact q F H' v (.grow r.fh mv.h) (rp.flat hf)
    · have e' : (if flatD d' = true then some d' else none) = some d := e
      rw [if_neg hf] at e'
      cases e'
def mBorT (m : DS → Option Bool) : DS → Option Bool := fun δ => m (thaw δ)
theorem EvT.bor {t : TT} {m : DS → Option Bool} (h : EvT K t m) : EvT K t (mBorT m) := fun F H σ δ r b e Q q =>
  h H H σ _ r.thaw b e Q fun H' s => q H' s

/-! ### expressions -/
def mVar (i : Nat) : DS → Option D := fun δ => match δ[i]? with
  | some (some (.val d)) => some d
  | _ => none
theorem ev_var {i : Nat} : Ev K (tVar i) (mVar i) := fun F H σ δ r d e Q q => by
  unfold mVar at e
  split at e
  · rename_i d' h
    cases e
    obtain ⟨v, ev, rp⟩ := r.val i _ h
    exact ⟨v, ev, q F H v (.rfl' r.fh) rp⟩
  · cases e
def mC (d : D) : DS → Option D := fun _ => some d
theorem ev_int {i : Int} : Ev K (tC (.int i)) (mC (.int i)) := fun F H σ δ r d e Q q => by cases e; exact q F H _ (.rfl' r.fh) (.int i)
theorem ev_str {x : Str} : Ev K (tC (.str x)) (mC (.str x)) := fun F H σ δ r d e Q q => by cases e; exact q F H _ (.rfl' r.fh) (.str x)
theorem ev_bl {b : Bool} : Ev K (tC (.bl b)) (mC (.bool b)) := fun F H σ δ r d e Q q => by cases e; exact q F H _ (.rfl' r.fh) (.bl b)
theorem ev_non : Ev K (tC .non) (mC .none) := fun F H σ δ r d e Q q => by cases e; exact q F H _ (.rfl' r.fh) .non
def m2 (g : D → D → Option D) (ma mb : DS → Option D) : DS → Option D := fun δ => (ma δ).bind fun a => (mb δ).bind fun b => g a b
theorem ev_op {r : R2} {g : D → D → Option D} {ta tb : TE} {ma mb : DS → Option D} (ha : Ev K ta ma) (hb : Ev K tb mb) (ho : OpD K r g) : Ev K (tOp r ta tb) (m2 g ma mb) := fun F H σ δ rl d e Q q => by
  unfold m2 at e
  obtain ⟨a, ea, e⟩ := Option.bind_eq_some_iff.mp e
  obtain ⟨b, eb, e⟩ := Option.bind_eq_some_iff.mp e
  refine ha F H σ δ rl a ea _ fun F1 H1 x m1 r1 => ?_
  refine hb F1 H1 σ δ (rl.mv m1) b eb _ fun F2 H2 y m2 r2 => ?_
  exact ho F2 H2 x y a b d m2.fh (r1.mono m2.f) r2 e Q fun F3 H3 v m3 r3 => q F3 H3 v ((m1.trans m2).trans m3) r3
def m1 (g : D → Option D) (ma : DS → Option D) : DS → Option D := fun δ => (ma δ).bind g
theorem ev_un {r : V → Hp → VK → Prop} {g : D → Option D} {ta : TE} {ma : DS → Option D} (ha : Ev K ta ma) (ho : UnD K r g) : Ev K (tUn r ta) (m1 g ma) := fun F H σ δ rl d e Q q => by
  unfold m1 at e
  obtain ⟨a, ea, e⟩ := Option.bind_eq_some_iff.mp e
  refine ha F H σ δ rl a ea _ fun F1 H1 x m1 r1 => ?_
  exact ho F1 H1 x a d m1.fh r1 e Q fun F3 H3 v m3 r3 => q F3 H3 v (m1.trans m3) r3
/-! arguments -/
def mNil : DS → Option (List D) := fun _ => some []
def mCons (ma : DS → Option D) (mr : DS → Option (List D)) : DS → Option (List D) := fun δ => (ma δ).bind fun a => (mr δ).bind fun r => some (a :: r)
theorem ea_nil : EvA K 0 tNil mNil := fun F H σ δ r ds e Q q => by cases e; exact q F H [] (.rfl' r.fh) .nil rfl
theorem ea_cons {n : Nat} {te : TE} {t : TA} {ma : DS → Option D} {mr : DS → Option (List D)} (ha : Ev K te ma) (hr : EvA K n t mr) : EvA K (n + 1) (tCons te t) (mCons ma mr) := fun F H σ δ rl ds e Q q => by
  unfold mCons at e
  obtain ⟨a, ea, e⟩ := Option.bind_eq_some_iff.mp e
  obtain ⟨b, eb, e⟩ := Option.bind_eq_some_iff.mp e
  cases e
  refine ha F H σ δ rl a ea _ fun F1 H1 x m1 r1 => ?_
  refine hr F1 H1 σ δ (rl.mv m1) b eb _ fun F2 H2 vs m2 r2 hl => ?_
  exact q F2 H2 (x :: vs) (m1.trans m2) (.cons (r1.mono m2.f) r2) (by rw [List.length_cons, hl])
/-! displays -/
def mTup (ms : DS → Option (List D)) : DS → Option D := fun δ => (ms δ).map .tuple
theorem ev_tup {n : Nat} {t : TA} {ms : DS → Option (List D)} (h : EvA K n t ms) (hn : n ≤ 1000 := by decide) : Ev K (tTup t) (mTup ms) := fun F H σ δ rl d e Q q => by
  obtain ⟨ds, ed, rfl⟩ := Option.map_eq_some_iff.mp e
  refine h F H σ δ rl ds ed _ fun F1 H1 vs m1 r1 hl => ?_
  refine ⟨?_, fun p hp => ?_⟩
  · rw [r1.len, hl]; exact Nat.le_trans hn (by decide)
  · have mv := Mv.new (o := .tup vs) m1.fh hp
    exact q _ _ _ (m1.trans mv) (.tup (.inl (.inl upd_same)) (r1.mono mv.f))
theorem eo_lst {n : Nat} {t : TA} {ms : DS → Option (List D)} (h : EvA K n t ms) (hn : n ≤ 1000 := by decide) : EvO K (tLst t) ms := fun F H σ δ rl ds ed Q q => by
  refine h F H σ δ rl ds ed _ fun F1 H1 vs m1 r1 hl => ?_
  refine ⟨?_, fun p hp => ?_⟩
  · rw [r1.len, hl]; exact Nat.le_trans hn (by decide)
  · have mv := Mv.newO (o := .lst vs) m1.fh hp
    refine q F1 _ p vs (m1.trans mv) (m1.h.free hp) ?_ upd_same r1
    exact m1.fh.free hp
theorem ev_lst {n : Nat} {t : TA} {ms : DS → Option (List D)} (h : EvA K n t ms) (hn : n ≤ 1000 := by decide) : Ev K (tLst t) (mLst ms) := (eo_lst h hn).ev
/-! builtins, own defs -/
def mCall (ms : DS → Option (List D)) (g : List D → Option D) : DS → Option D := fun δ => (ms δ).bind g
theorem ev_cb {n : Nat} {r : List V → Hp → VK → Prop} {t : TA} {ms : DS → Option (List D)} {g : List D → Option D} (ha : EvA K n t ms) (hc : CallD K r g) : Ev K (tCB r t) (mCall ms g) := fun F H σ δ rl d e Q q => by
  obtain ⟨a, ea, e⟩ := Option.bind_eq_some_iff.mp e
  refine ha F H σ δ rl a ea _ fun F1 H1 vs m1 r1 hl => ?_
  exact hc F1 H1 vs a d m1.fh r1 e Q fun F3 H3 v m3 r3 => q F3 H3 v (m1.trans m3) r3
def mCallO (ms : DS → Option (List D)) (g : List D → Option (List D)) : DS → Option (List D) := fun δ => (ms δ).bind g
theorem eo_cb {n : Nat} {r : List V → Hp → VK → Prop} {t : TA} {ms : DS → Option (List D)} {g : List D → Option (List D)} (ha : EvA K n t ms) (hc : CallO K r g) : EvO K (tCB r t) (mCallO ms g) := fun F H σ δ rl d e Q q => by
  obtain ⟨a, ea, e⟩ := Option.bind_eq_some_iff.mp e
  refine ha F H σ δ rl a ea _ fun F1 H1 vs m1 r1 hl => ?_
  exact hc F1 H1 vs a d m1.fh r1 e Q fun F3 H3 p ws m3 h1 h2 h3 r3 => q F3 H3 p ws (m1.trans m3) (m1.h.free h1) h2 h3 r3
/-- what a def hands back -/
def RetOk (K : PySem.W.Frag) (H F' H' : Hp) (v : V) : DV → Prop
  | .val d => Rp K F' v d
  | .own ds => ∃ p vs, v = .ref p ∧ H p = none ∧ F' p = none ∧ H' p = some (.lst vs) ∧ RpA K F' vs ds
/-- THE PROMISE of a def whose mirror is f -/
def spD (K : PySem.W.Frag) (f : List D → Option DV) : Sp := fun vs H Q _ => ∃ F ds r, Same F H ∧ RpA K F vs ds ∧ f ds = some r ∧ ∀ F' H' v, Mv F H F' H' → RetOk K H F' H' v r → Q v H'
def mCallF (ms : DS → Option (List D)) (f : List D → Option DV) : DS → Option D := fun δ => (ms δ).bind fun ds => (f ds).map DV.data
theorem ev_call {n : Nat} {E : XK} {t : TA} {ms : DS → Option (List D)} {f : List D → Option DV} (ha : EvA K n t ms) : Ev K (tCall (spD K f) [] E t) (mCallF ms f) := fun F H σ δ rl d e Q q => by
  obtain ⟨a, ea, e⟩ := Option.bind_eq_some_iff.mp e
  obtain ⟨r, er, rfl⟩ := Option.map_eq_some_iff.mp e
  refine ha F H σ δ rl a ea _ fun F1 H1 vs m1 r1 hl => ?_
  refine ⟨F1, a, r, m1.fh, by rw [List.append_nil]; exact r1, er, fun F2 H2 v m2 rk => ?_⟩
  cases r with
  | val d => exact q F2 H2 v (m1.trans m2) rk
  | own ds =>
    obtain ⟨p, ws, rfl, h1, h2, h3, ra⟩ := rk
    exact q _ H2 _ (m1.trans (m2.freeze h1 h3 h2)) (.lst (.inl (.inl upd_same)) (ra.mono (same_updF h2)))
def DV.owned : DV → Option (List D)
  | .val _ => none
  | .own ds => some ds
def mCallFO (ms : DS → Option (List D)) (f : List D → Option DV) : DS → Option (List D) := fun δ => (ms δ).bind fun ds => (f ds).bind DV.owned
theorem eo_call {n : Nat} {E : XK} {t : TA} {ms : DS → Option (List D)} {f : List D → Option DV} (ha : EvA K n t ms) : EvO K (tCall (spD K f) [] E t) (mCallFO ms f) := fun F H σ δ rl d e Q q => by
  obtain ⟨a, ea, e⟩ := Option.bind_eq_some_iff.mp e
  obtain ⟨r, er, eo⟩ := Option.bind_eq_some_iff.mp e
  refine ha F H σ δ rl a ea _ fun F1 H1 vs m1 r1 hl => ?_
  refine ⟨F1, a, r, m1.fh, by rw [List.append_nil]; exact r1, er, fun F2 H2 v m2 rk => ?_⟩
  cases r with
  | val d => cases eo
  | own ds =>
    cases eo
    obtain ⟨p, ws, rfl, h1, h2, h3, ra⟩ := rk
    exact q F2 H2 p ws (m1.trans m2) (m1.h.free h1) h2 h3 ra

/-! tests -/
def mB (m : DS → Option D) : DS → Option Bool := fun δ => match m δ with
  | some (.bool b) => some b
  | _ => none
theorem et_B {t : TE} {m : DS → Option D} (h : Ev K t m) : EvT K (tB t) (mB m) := fun F H σ δ r b e Q q => by
  unfold mB at e
  split at e
  · rename_i b' hm
    cases e
    refine h F H σ δ r _ hm _ fun F' H' v mv rp => ?_
    cases rp
    exact ⟨_, rfl, q H' mv.h⟩
  · cases e
theorem et_test {t : TE} {m : DS → Option D} (h : Ev K t m) : EvT K (tTest t) (mB m) := fun F H σ δ r b e Q q => by
  unfold mB at e
  split at e
  · rename_i b' hm
    cases e
    refine h F H σ δ r _ hm _ fun F' H' v mv rp => ?_
    cases rp
    exact ⟨_, rfl, q H' mv.h⟩
  · cases e
def mAndT (a b : DS → Option Bool) : DS → Option Bool := fun δ => (a δ).bind fun x => if x = true then b δ else some false
def mOrT (a b : DS → Option Bool) : DS → Option Bool := fun δ => (a δ).bind fun x => if x = true then some true else b δ
def mNotT (a : DS → Option Bool) : DS → Option Bool := fun δ => (a δ).map fun x => !x
theorem Rel.grow {F H H' : Hp} {σ : L2.St} {δ : DS} (r : Rel K F H σ δ) (s : Same H H') : Rel K F H' σ δ := r.mv (.grow r.fh s)
theorem et_and {t u : TT} {a b : DS → Option Bool} (ha : EvT K t a) (hb : EvT K u b) : EvT K (tAnd t u) (mAndT a b) := fun F H σ δ r c e Q q => by
  obtain ⟨x, ea, e⟩ := Option.bind_eq_some_iff.mp e
  refine ha F H σ δ r x ea _ fun H1 s1 => ?_
  cases x with
  | true =>
    show u σ H1 Q
    exact hb F H1 σ δ (r.grow s1) c e Q fun H2 s2 => q H2 (s1.trans s2)
  | false =>
    cases e
    show Q false H1
    exact q H1 s1
theorem et_or {t u : TT} {a b : DS → Option Bool} (ha : EvT K t a) (hb : EvT K u b) : EvT K (tOr t u) (mOrT a b) := fun F H σ δ r c e Q q => by
  obtain ⟨x, ea, e⟩ := Option.bind_eq_some_iff.mp e
  refine ha F H σ δ r x ea _ fun H1 s1 => ?_
  cases x with
  | true =>
    cases e
    show Q true H1
    exact q H1 s1
  | false =>
    show u σ H1 Q
    exact hb F H1 σ δ (r.grow s1) c e Q fun H2 s2 => q H2 (s1.trans s2)
theorem et_not {t : TT} {a : DS → Option Bool} (ha : EvT K t a) : EvT K (tNot t) (mNotT a) := fun F H σ δ r c e Q q => by
  obtain ⟨x, ea, rfl⟩ := Option.map_eq_some_iff.mp e
  exact ha F H σ δ r x ea _ fun H1 s1 => q H1 s1
/-- and, or, not as values; a if t else b -/
def mAndV (a b : DS → Option D) : DS → Option D := fun δ => (mB a δ).bind fun x => if x = true then b δ else some (.bool false)
def mOrV (a b : DS → Option D) : DS → Option D := fun δ => (mB a δ).bind fun x => if x = true then some (.bool true) else b δ
def mNotV (a : DS → Option D) : DS → Option D := fun δ => (mB a δ).map fun x => .bool (!x)
theorem mB_some {m : DS → Option D} {δ : DS} {b : Bool} (h : mB m δ = some b) : m δ = some (.bool b) := by
  unfold mB at h
  split at h
  · rename_i b' hm
    cases h
    exact hm
  · cases h
theorem ev_and {t u : TE} {a b : DS → Option D} (ha : Ev K t a) (hb : Ev K u b) : Ev K (tAndV t u) (mAndV a b) := fun F H σ δ r c e Q q => by
  obtain ⟨x, ea, e⟩ := Option.bind_eq_some_iff.mp e
  refine ha F H σ δ r _ (mB_some ea) _ fun F1 H1 v m1 rp => ?_
  cases rp
  refine ⟨x, rfl, ?_⟩
  cases x with
  | true =>
    show u σ H1 Q
    exact hb F1 H1 σ δ (r.mv m1) c e Q fun F2 H2 v m2 rp => q F2 H2 v (m1.trans m2) rp
  | false =>
    cases e
    show Q (.bl false) H1
    exact q F1 H1 _ m1 (.bl false)
theorem ev_or {t u : TE} {a b : DS → Option D} (ha : Ev K t a) (hb : Ev K u b) : Ev K (tOrV t u) (mOrV a b) := fun F H σ δ r c e Q q => by
  obtain ⟨x, ea, e⟩ := Option.bind_eq_some_iff.mp e
  refine ha F H σ δ r _ (mB_some ea) _ fun F1 H1 v m1 rp => ?_
  cases rp
  refine ⟨x, rfl, ?_⟩
  cases x with
  | true =>
    cases e
    show Q (.bl true) H1
    exact q F1 H1 _ m1 (.bl true)
  | false =>
    show u σ H1 Q
    exact hb F1 H1 σ δ (r.mv m1) c e Q fun F2 H2 v m2 rp => q F2 H2 v (m1.trans m2) rp
theorem ev_not {t : TE} {a : DS → Option D} (ha : Ev K t a) : Ev K (tNotV t) (mNotV a) := fun F H σ δ r c e Q q => by
  obtain ⟨x, ea, rfl⟩ := Option.map_eq_some_iff.mp e
  refine ha F H σ δ r _ (mB_some ea) _ fun F1 H1 v m1 rp => ?_
  cases rp
  exact ⟨x, rfl, q F1 H1 _ m1 (.bl (!x))⟩
def mIf (c : DS → Option Bool) (a b : DS → Option D) : DS → Option D := fun δ => (c δ).bind fun x => if x = true then a δ else b δ
theorem ev_if {t : TT} {ta tb : TE} {c : DS → Option Bool} {a b : DS → Option D} (hc : EvT K t c) (ha : Ev K ta a) (hb : Ev K tb b) : Ev K (tIf t ta tb) (mIf c a b) := fun F H σ δ r d e Q q => by
  obtain ⟨x, ea, e⟩ := Option.bind_eq_some_iff.mp e
  refine hc F H σ δ r x ea _ fun H1 s1 => ?_
  have m1 : Mv F H F H1 := .grow r.fh s1
  cases x with
  | true =>
    show ta σ H1 Q
    exact ha F H1 σ δ (r.mv m1) d e Q fun F2 H2 v m2 rp => q F2 H2 v (m1.trans m2) rp
  | false =>
    show tb σ H1 Q
    exact hb F H1 σ δ (r.mv m1) d e Q fun F2 H2 v m2 rp => q F2 H2 v (m1.trans m2) rp
end Dl
namespace Dl
open PySem PySem.Spec PyProof.Rows L2
variable {K : PySem.W.Frag}

/-! ### what is walked -/
def Walks (K : PySem.W.Frag) (J : It) (F : Hp) (ds : List D) : Prop := ∀ (i : Nat) F1 H1, Same F F1 → Same F1 H1 →
  (∀ d, ds[i]? = some d → J.go i H1 ∧ ∀ x H2, J.yld i H1 x H2 → ∃ F2, Mv F1 H1 F2 H2 ∧ Rp K F2 x d) ∧ (ds.length ≤ i → J.stop i H1)
def EvI (K : PySem.W.Frag) (wi : TI) (m : DS → Option (List D)) : Prop := ∀ F H σ δ, Rel K F H σ δ → ∀ ds, m δ = some ds → ∀ R : It → Hp → Prop, (∀ J F' H', Mv F H F' H' → Walks K J F' ds → R J H') → wi σ H R
def mItems (m : DS → Option D) : DS → Option (List D) := fun δ => match m δ with
  | some (.list ds) => some ds
  | _ => none
theorem mItems_some {m : DS → Option D} {δ : DS} {ds : List D} (h : mItems m δ = some ds) : m δ = some (.list ds) := by
  unfold mItems at h
  split at h
  · rename_i b' hm
    cases h
    exact hm
  · cases h
def mItemsT (m : DS → Option D) : DS → Option (List D) := fun δ => match m δ with
  | some (.tuple ds) => some ds
  | _ => none
theorem mItemsT_some {m : DS → Option D} {δ : DS} {ds : List D} (h : mItemsT m δ = some ds) : m δ = some (.tuple ds) := by
  unfold mItemsT at h
  split at h
  · rename_i b' hm
    cases h
    exact hm
  · cases h
theorem ei_list {tl : TE} {m : DS → Option D} (h : Ev K tl m) : EvI K (iList K tl) (mItems m) := fun F H σ δ r ds e R q => by
  refine h F H σ δ r _ (mItems_some e) _ fun F1 H1 v m1 rp => ?_
  cases rp with
  | @lst a vs _ rd ra =>
    refine ⟨a, rfl, ⟨vs, (sqS m1.fh rd)⟩, q _ F1 H1 m1 fun i F2 H2 s1 s2 => ⟨fun d hd => ?_, fun hl => ?_⟩⟩
    · obtain ⟨v, hv, rv⟩ := ra.get hd
      have hq : SqL K H2 a vs := sqS (s1.trans s2) rd
      refine ⟨⟨vs, v, hq, hv⟩, fun x H3 hy => ?_⟩
      obtain ⟨e3, hx⟩ := hy
      subst e3
      have ex := hx vs hq
      rw [hv] at ex
      cases ex
      exact ⟨F2, .rfl' s2, rv.mono s1⟩
    · exact ⟨vs, sqS (s1.trans s2) rd, by rw [ra.len]; exact hl⟩
theorem ei_tup {tl : TE} {m : DS → Option D} (h : Ev K tl m) : EvI K (iTup K tl) (mItemsT m) := fun F H σ δ r ds e R q => by
  refine h F H σ δ r _ (mItemsT_some e) _ fun F1 H1 v m1 rp => ?_
  cases rp with
  | @tup a vs _ rd ra =>
    refine ⟨a, rfl, ⟨vs, (tqS m1.fh rd)⟩, q _ F1 H1 m1 fun i F2 H2 s1 s2 => ⟨fun d hd => ?_, fun hl => ?_⟩⟩
    · obtain ⟨v, hv, rv⟩ := ra.get hd
      have hq : SqT K H2 a vs := tqS (s1.trans s2) rd
      refine ⟨⟨vs, v, hq, hv⟩, fun x H3 hy => ?_⟩
      obtain ⟨e3, hx⟩ := hy
      subst e3
      have ex := hx vs hq
      rw [hv] at ex
      cases ex
      exact ⟨F2, .rfl' s2, rv.mono s1⟩
    · exact ⟨vs, tqS (s1.trans s2) rd, by rw [ra.len]; exact hl⟩
def rngD (lo : Int) (n : Nat) : List D := (List.range n).map fun (i : Nat) => PyData.int (lo + (i : Int))
theorem rngD_len (lo : Int) (n : Nat) : (rngD lo n).length = n := by unfold rngD; rw [List.length_map, List.length_range]
theorem walks_rng (lo : Int) (n : Nat) (F : Hp) : Walks K (Itr lo n) F (rngD lo n) := fun i F1 H1 s1 s2 => by
  refine ⟨fun d hd => ?_, fun hl => ?_⟩
  · have hi : i < n := by
      have := (List.getElem?_eq_some_iff.mp hd).1
      rw [rngD_len] at this
      exact this
    refine ⟨hi, fun x H2 hy => ?_⟩
    obtain ⟨e1, e2⟩ := hy
    subst e1 e2
    have ed : d = .int (lo + i) := by
      unfold rngD at hd
      rw [List.getElem?_map, List.getElem?_range hi] at hd
      exact (Option.some.inj hd).symm
    subst ed
    exact ⟨F1, .rfl' s2, .int _⟩
  · rw [rngD_len] at hl
    exact hl
def okRng (n : Int) : Bool := decide (-1000000 ≤ n ∧ n ≤ 1000000)
def mRng1 (ms : DS → Option (List D)) : DS → Option (List D) := fun δ => match ms δ with
  | some [.int n] => if okRng n = true then some (rngD 0 n.toNat) else none
  | _ => none
theorem ei_rng1 {n : Nat} {ta : TA} {ms : DS → Option (List D)} (h : EvA K n ta ms) : EvI K (iRng1 ta) (mRng1 ms) := fun F H σ δ r ds e R q => by
  unfold mRng1 at e
  split at e
  · rename_i k hm
    by_cases hk : okRng k = true
    · rw [if_pos hk] at e
      cases e
      have hk2 := of_decide_eq_true hk
      refine h F H σ δ r _ hm _ fun F1 H1 vs m1 ra hl => ?_
      cases ra with
      | cons r1 r2 =>
        cases r1
        cases r2
        exact ⟨k, rfl, by omega, by omega, q _ F1 H1 m1 (walks_rng 0 _ F1)⟩
    · rw [if_neg hk] at e
      cases e
  · cases e
def mRng2 (ms : DS → Option (List D)) : DS → Option (List D) := fun δ => match ms δ with
  | some [.int i, .int j] => if (okRng i && okRng j) = true then some (rngD i (j - i).toNat) else none
  | _ => none
theorem ei_rng2 {n : Nat} {ta : TA} {ms : DS → Option (List D)} (h : EvA K n ta ms) : EvI K (iRng2 ta) (mRng2 ms) := fun F H σ δ r ds e R q => by
  unfold mRng2 at e
  split at e
  · rename_i i j hm
    by_cases hk : (okRng i && okRng j) = true
    · rw [if_pos hk] at e
      cases e
      rw [Bool.and_eq_true] at hk
      have hk1 := of_decide_eq_true hk.1
      have hk2 := of_decide_eq_true hk.2
      refine h F H σ δ r _ hm _ fun F1 H1 vs m1 ra hl => ?_
      cases ra with
      | cons r1 r2 =>
        cases r1
        cases r2 with
        | cons r2 r3 =>
          cases r2
          cases r3
          exact ⟨i, j, rfl, ⟨by omega, by omega, by omega, by omega⟩, q _ F1 H1 m1 (walks_rng i _ F1)⟩
    · rw [if_neg hk] at e
      cases e
  · cases e
/-- zip of two lists -/
def zipD (xs ys : List D) : List D := List.zipWith (fun a b => PyData.tuple [a, b]) xs ys
def mZip (ms : DS → Option (List D)) : DS → Option (List D) := fun δ => match ms δ with
  | some [.list xs, .list ys] => some (zipD xs ys)
  | _ => none
theorem ei_zip {n : Nat} {ta : TA} {ms : DS → Option (List D)} (h : EvA K n ta ms) : EvI K (iZip K ta) (mZip ms) := fun F H σ δ r ds e R q => by
  unfold mZip at e
  split at e
  · rename_i xs ys hm
    cases e
    refine h F H σ δ r _ hm _ fun F1 H1 vs m1 ra hl => ?_
    cases ra with
    | cons r1 r2 =>
      cases r2 with
      | cons r2 r3 =>
        cases r3
        cases r1 with
        | @lst a us _ rda raa =>
          cases r2 with
          | @lst b ws _ rdb rab =>
            refine ⟨a, b, us, ws, rfl, (sqS m1.fh rda), (sqS m1.fh rdb), q _ F1 H1 m1 fun i F2 H2 s1 s2 => ⟨fun d hd => ?_, fun hl => ?_⟩⟩
            · unfold zipD at hd
              rw [List.getElem?_zipWith] at hd
              cases hx : xs[i]? with
              | none => rw [hx] at hd; cases hd
              | some x =>
                cases hy : ys[i]? with
                | none => rw [hx, hy] at hd; cases hd
                | some y =>
                  rw [hx, hy] at hd
                  have hd2 : PyData.tuple [x, y] = d := Option.some.inj hd
                  subst hd2
                  obtain ⟨v, hv, rv⟩ := raa.get hx
                  obtain ⟨u, hu, ru⟩ := rab.get hy
                  have hqa : SqL K H2 a us := (sqS (s1.trans s2) rda)
                  have hqb : SqL K H2 b ws := (sqS (s1.trans s2) rdb)
                  refine ⟨⟨us, ws, v, u, hqa, hqb, hv, hu⟩, fun z H3 hz => ?_⟩
                  obtain ⟨T, x1, y1, rfl, nT, rfl, f1, f2⟩ := hz
                  have e1 := f1 us hqa
                  have e2 := f2 ws hqb
                  rw [hv] at e1
                  rw [hu] at e2
                  cases e1
                  cases e2
                  have mv := Mv.new (o := .tup [v, u]) s2 nT
                  exact ⟨_, mv, .tup (.inl (.inl upd_same)) (.cons ((rv.mono s1).mono mv.f) (.cons ((ru.mono s1).mono mv.f) .nil))⟩
            · refine ⟨us, ws, (sqS (s1.trans s2) rda), (sqS (s1.trans s2) rdb), ?_⟩
              unfold zipD at hl
              rw [List.length_zipWith] at hl
              rw [raa.len, rab.len]
              omega
  · cases e
/-- enumerate of a list -/
def enumD (k : Nat) : List D → List D
  | [] => []
  | x :: r => PyData.tuple [.int (k : Int), x] :: enumD (k + 1) r
theorem enumD_get : ∀ (xs : List D) (k i : Nat), (enumD k xs)[i]? = (xs[i]?).map fun x => PyData.tuple [.int ((k + i : Nat) : Int), x]
  | [], k, i => by simp [enumD]
  | x :: r, k, 0 => by simp [enumD]
  | x :: r, k, i + 1 => by
    show (enumD (k + 1) r)[i]? = _
    rw [enumD_get r (k + 1) i, List.getElem?_cons_succ]
    have e : k + 1 + i = k + (i + 1) := by omega
    rw [e]
theorem enumD_len : ∀ (xs : List D) (k : Nat), (enumD k xs).length = xs.length
  | [], _ => rfl
  | x :: r, k => by
    show (enumD (k + 1) r).length + 1 = _
    rw [enumD_len r (k + 1), List.length_cons]
def mEnum (ms : DS → Option (List D)) : DS → Option (List D) := fun δ => match ms δ with
  | some [.list xs] => some (enumD 0 xs)
  | _ => none
theorem ei_enum {n : Nat} {ta : TA} {ms : DS → Option (List D)} (h : EvA K n ta ms) : EvI K (iEnum K ta) (mEnum ms) := fun F H σ δ r ds e R q => by
  unfold mEnum at e
  split at e
  · rename_i xs hm
    cases e
    refine h F H σ δ r _ hm _ fun F1 H1 vs m1 ra hl => ?_
    cases ra with
    | cons r1 r2 =>
      cases r2
      cases r1 with
      | @lst a us _ rda raa =>
        refine ⟨a, us, rfl, (sqS m1.fh rda), q _ F1 H1 m1 fun i F2 H2 s1 s2 => ⟨fun d hd => ?_, fun hl => ?_⟩⟩
        · rw [enumD_get] at hd
          obtain ⟨x, hx, rfl⟩ := Option.map_eq_some_iff.mp hd
          obtain ⟨v, hv, rv⟩ := raa.get hx
          have hqa : SqL K H2 a us := (sqS (s1.trans s2) rda)
          refine ⟨⟨us, v, hqa, hv⟩, fun z H3 hz => ?_⟩
          obtain ⟨T, x1, rfl, nT, rfl, f1⟩ := hz
          have e1 := f1 us hqa
          rw [hv] at e1
          cases e1
          have mv := Mv.new (o := .tup [.int (i : Nat), v]) s2 nT
          refine ⟨_, mv, .tup (.inl (.inl upd_same)) (.cons ?_ (.cons ((rv.mono s1).mono mv.f) .nil))⟩
          rw [Nat.zero_add]
          exact .int _
        · rw [enumD_len] at hl
          exact ⟨us, (sqS (s1.trans s2) rda), by rw [raa.len]; exact hl⟩
  · cases e

/-! ### statements: the state of a def's frame -/
structure RelS (K : PySem.W.Frag) (F0 H0 F H : Hp) (σ : L2.St) (δ : DS) : Prop where
  rel : Rel K F H σ δ
  f0 : Same F0 F
  h0 : Same H0 H
  sep : ∀ p, H0 p ≠ none → F0 p = none → F p = none
  own0 : ∀ (i : Nat) ds p, δ[i]? = some (some (.own ds)) → σ[i]? = some (some (.ref p)) → H0 p = none
  apart : ∀ (i j : Nat) ds es p, i ≠ j → δ[i]? = some (some (.own ds)) → δ[j]? = some (some (.own es)) → σ[i]? = some (some (.ref p)) → σ[j]? = some (some (.ref p)) → False
theorem RelS.len {F0 H0 F H : Hp} {σ : L2.St} {δ : DS} (r : RelS K F0 H0 F H σ δ) : σ.length = δ.length := r.rel.len
theorem RelS.mv {F0 H0 F H F' H' : Hp} {σ : L2.St} {δ : DS} (r : RelS K F0 H0 F H σ δ) (m : Mv F H F' H') : RelS K F0 H0 F' H' σ δ :=
  ⟨r.rel.mv m, r.f0.trans m.f, r.h0.trans m.h, fun p hp hf => m.sep p (by
    cases q : H0 p with
    | none => exact absurd q hp
    | some o => rw [r.h0 _ _ q]; exact fun z => nomatch z) (r.sep p hp hf), r.own0, r.apart⟩
theorem RelS.back {F0 H0 F H : Hp} {σ : L2.St} {δ : DS} (r : RelS K F0 H0 F H σ δ) : Mv F0 H0 F H := ⟨r.f0, r.h0, r.rel.fh, r.sep⟩
theorem set_get {α : Type} {l : List α} {i j : Nat} {x y : α} (h : (l.set i x)[j]? = some y) : (j = i ∧ y = x ∧ i < l.length) ∨ (j ≠ i ∧ l[j]? = some y) := by
  by_cases e : j = i
  · subst e
    have hl : j < l.length := by
      have := (List.getElem?_eq_some_iff.mp h).1
      rw [List.length_set] at this
      exact this
    rw [List.getElem?_set_self hl] at h
    exact .inl ⟨rfl, (Option.some.inj h).symm, hl⟩
  · rw [List.getElem?_set_ne (Ne.symm e)] at h
    exact .inr ⟨e, h⟩
theorem get_set {α : Type} {l : List α} {i : Nat} {x : α} (h : i < l.length) : (l.set i x)[i]? = some x := List.getElem?_set_self h
theorem Rel.setV {F H : Hp} {σ : L2.St} {δ : DS} {i : Nat} {v : V} {d : D} (r : Rel K F H σ δ) (h : Rp K F v d) : Rel K F H (σ.set i (some v)) (δ.set i (some (.val d))) := by
  refine ⟨r.fh, by rw [List.length_set, List.length_set, r.len], fun j e hj => ?_, fun j ds hj => ?_⟩
  · rcases set_get hj with ⟨e1, e2, e3⟩ | ⟨e1, e2⟩
    · subst e1
      cases e2
      exact ⟨v, get_set (by rw [r.len]; exact e3), h⟩
    · obtain ⟨u, eu, q⟩ := r.val j e e2
      exact ⟨u, by rw [List.getElem?_set_ne (Ne.symm e1)]; exact eu, q⟩
  · rcases set_get hj with ⟨e1, e2, e3⟩ | ⟨e1, e2⟩
    · cases e2
    · obtain ⟨p, vs, ep, n, hp, q⟩ := r.own j ds e2
      exact ⟨p, vs, by rw [List.getElem?_set_ne (Ne.symm e1)]; exact ep, n, hp, q⟩
theorem RelS.setV {F0 H0 F H : Hp} {σ : L2.St} {δ : DS} {i : Nat} {v : V} {d : D} (r : RelS K F0 H0 F H σ δ) (h : Rp K F v d) : RelS K F0 H0 F H (σ.set i (some v)) (δ.set i (some (.val d))) := by
  refine ⟨r.rel.setV h, r.f0, r.h0, r.sep, fun j ds p hj hp => ?_, fun j k ds es p hjk hj hk h1 h2 => ?_⟩
  · rcases set_get hj with ⟨e1, e2, e3⟩ | ⟨e1, e2⟩
    · cases e2
    · rw [List.getElem?_set_ne (Ne.symm e1)] at hp
      exact r.own0 j ds p e2 hp
  · rcases set_get hj with ⟨e1, e2, e3⟩ | ⟨e1, e2⟩
    · cases e2
    · rcases set_get hk with ⟨f1, f2, f3⟩ | ⟨f1, f2⟩
      · cases f2
      · rw [List.getElem?_set_ne (Ne.symm e1)] at h1
        rw [List.getElem?_set_ne (Ne.symm f1)] at h2
        exact r.apart j k ds es p hjk e2 f2 h1 h2
/-- a new list to a slot -/
theorem RelS.setO {F0 H0 F H F' H' : Hp} {σ : L2.St} {δ : DS} {i : Nat} {p : Addr} {vs : List V} {ds : List D} (r : RelS K F0 H0 F H σ δ) (m : Mv F H F' H') (hp : H p = none) (hf : F' p = none) (hq : H' p = some (.lst vs)) (ra : RpA K F' vs ds) :
    RelS K F0 H0 F' H' (σ.set i (some (.ref p))) (δ.set i (some (.own ds))) := by
  have r' := r.mv m
  have other : ∀ (j : Nat) es q, δ[j]? = some (some (.own es)) → σ[j]? = some (some (V.ref q)) → q ≠ p := fun j es q h1 h2 z => by
    obtain ⟨q', us, e1, _, e2, _⟩ := r.rel.own j es h1
    rw [h2] at e1
    cases e1
    rw [z, hp] at e2
    cases e2
  refine ⟨⟨r'.rel.fh, by rw [List.length_set, List.length_set, r.len], fun j e hj => ?_, fun j es hj => ?_⟩, r'.f0, r'.h0, r'.sep, fun j es q hj hq2 => ?_, fun j k es fs q hjk hj hk h1 h2 => ?_⟩
  · rcases set_get hj with ⟨e1, e2, e3⟩ | ⟨e1, e2⟩
    · cases e2
    · obtain ⟨u, eu, q⟩ := r'.rel.val j e e2
      exact ⟨u, by rw [List.getElem?_set_ne (Ne.symm e1)]; exact eu, q⟩
  · rcases set_get hj with ⟨e1, e2, e3⟩ | ⟨e1, e2⟩
    · subst e1
      cases e2
      exact ⟨p, vs, get_set (by rw [r.len]; exact e3), hf, hq, ra⟩
    · obtain ⟨q, us, eq, n, hq3, z⟩ := r'.rel.own j es e2
      exact ⟨q, us, by rw [List.getElem?_set_ne (Ne.symm e1)]; exact eq, n, hq3, z⟩
  · rcases set_get hj with ⟨e1, e2, e3⟩ | ⟨e1, e2⟩
    · subst e1
      rw [get_set (by rw [r.len]; exact e3)] at hq2
      cases hq2
      exact r.h0.free hp
    · rw [List.getElem?_set_ne (Ne.symm e1)] at hq2
      exact r.own0 j es q e2 hq2
  · rcases set_get hj with ⟨e1, e2, e3⟩ | ⟨e1, e2⟩
    · rcases set_get hk with ⟨f1, f2, f3⟩ | ⟨f1, f2⟩
      · exact hjk (e1.trans f1.symm)
      · subst e1
        rw [get_set (by rw [r.len]; exact e3)] at h1
        cases h1
        rw [List.getElem?_set_ne (Ne.symm f1)] at h2
        exact other k fs _ f2 h2 rfl
    · rw [List.getElem?_set_ne (Ne.symm e1)] at h1
      rcases set_get hk with ⟨f1, f2, f3⟩ | ⟨f1, f2⟩
      · subst f1
        rw [get_set (by rw [r.len]; exact f3)] at h2
        cases h2
        exact other j es _ e2 h1 rfl
      · rw [List.getElem?_set_ne (Ne.symm f1)] at h2
        exact r.apart j k es fs q hjk e2 f2 h1 h2
/-- an owned list changes -/
theorem RelS.mut {F0 H0 F H : Hp} {σ : L2.St} {δ : DS} {i : Nat} {p : Addr} {vs : List V} {ds es : List D} (r : RelS K F0 H0 F H σ δ) (hi : δ[i]? = some (some (.own ds))) (hs : σ[i]? = some (some (.ref p))) (ra : RpA K F vs es) :
    RelS K F0 H0 F (upd H p (.lst vs)) σ (δ.set i (some (.own es))) := by
  obtain ⟨p', ws, e1, nf, hp, _⟩ := r.rel.own i ds hi
  rw [hs] at e1
  cases e1
  have hil : i < δ.length := (List.getElem?_eq_some_iff.mp hi).1
  have other : ∀ (j : Nat) fs q, j ≠ i → δ[j]? = some (some (.own fs)) → σ[j]? = some (some (V.ref q)) → q ≠ p := fun j fs q hji h1 h2 z => by
    subst z
    exact r.apart j i fs ds q hji h1 hi h2 hs
  refine ⟨⟨fun a o h => ?_, by rw [List.length_set, r.len], fun j e hj => ?_, fun j fs hj => ?_⟩, r.f0, fun a o h => ?_, r.sep, fun j fs q hj hq2 => ?_, fun j k fs gs q hjk hj hk h1 h2 => ?_⟩
  · rw [upd_ne (ne_of_none h nf)]
    exact r.rel.fh _ _ h
  · rcases set_get hj with ⟨e1, e2, e3⟩ | ⟨e1, e2⟩
    · cases e2
    · exact r.rel.val j e e2
  · rcases set_get hj with ⟨e1, e2, e3⟩ | ⟨e1, e2⟩
    · subst e1
      cases e2
      exact ⟨p, vs, hs, nf, upd_same, ra⟩
    · obtain ⟨q, us, eq, n, hq3, z⟩ := r.rel.own j fs e2
      exact ⟨q, us, eq, n, by rw [upd_ne (other j fs q e1 e2 eq)]; exact hq3, z⟩
  · have hn := r.own0 i ds p hi hs
    rw [upd_ne (ne_of_none h hn)]
    exact r.h0 _ _ h
  · rcases set_get hj with ⟨e1, e2, e3⟩ | ⟨e1, e2⟩
    · subst e1
      exact r.own0 j ds q hi hq2
    · exact r.own0 j fs q e2 hq2
  · have old : ∀ (j : Nat) fs, (δ.set i (some (.own es)))[j]? = some (some (.own fs)) → ∃ fs', δ[j]? = some (some (.own fs')) := fun j fs h => by
      rcases set_get h with ⟨e1, e2, e3⟩ | ⟨e1, e2⟩
      · subst e1
        exact ⟨ds, hi⟩
      · exact ⟨fs, e2⟩
    obtain ⟨f1, g1⟩ := old j fs hj
    obtain ⟨f2, g2⟩ := old k gs hk
    exact r.apart j k f1 f2 q hjk g1 g2 h1 h2
/-- an owned list is frozen -/
def frz (i : Nat) (δ : DS) : DS := match δ[i]? with
  | some (some (.own ds)) => δ.set i (some (.val (.list ds)))
  | _ => δ
theorem RelS.frz {F0 H0 F H : Hp} {σ : L2.St} {δ : DS} (i : Nat) (r : RelS K F0 H0 F H σ δ) : ∃ F', Same F F' ∧ RelS K F0 H0 F' H σ (frz i δ) := by
  unfold Dl.frz
  split
  · rename_i ds hi
    obtain ⟨p, ws, hs, nf, hp, ra⟩ := r.rel.own i ds hi
    have hil : i < δ.length := (List.getElem?_eq_some_iff.mp hi).1
    have hn := r.own0 i ds p hi hs
    have sf : Same F (upd F p (.lst ws)) := same_updF nf
    have other : ∀ (j : Nat) fs q, j ≠ i → δ[j]? = some (some (.own fs)) → σ[j]? = some (some (V.ref q)) → q ≠ p := fun j fs q hji h1 h2 z => by
      subst z
      exact r.apart j i fs ds q hji h1 hi h2 hs
    refine ⟨upd F p (.lst ws), sf, ⟨fun a o h => ?_, by rw [List.length_set, r.len], fun j e hj => ?_, fun j fs hj => ?_⟩, r.f0.trans sf, r.h0, fun q hq1 hq2 => ?_, fun j fs q hj hq2 => ?_, fun j k fs gs q hjk hj hk h1 h2 => ?_⟩
    · by_cases q : a = p
      · subst q
        rw [upd_same] at h
        cases h
        exact hp
      · rw [upd_ne q] at h
        exact r.rel.fh _ _ h
    · rcases set_get hj with ⟨e1, e2, e3⟩ | ⟨e1, e2⟩
      · subst e1
        cases e2
        exact ⟨_, hs, .lst (.inl (.inl upd_same)) (ra.mono sf)⟩
      · obtain ⟨u, eu, q⟩ := r.rel.val j e e2
        exact ⟨u, eu, q.mono sf⟩
    · rcases set_get hj with ⟨e1, e2, e3⟩ | ⟨e1, e2⟩
      · cases e2
      · obtain ⟨q, us, eq, n, hq3, z⟩ := r.rel.own j fs e2
        exact ⟨q, us, eq, by rw [upd_ne (other j fs q e1 e2 eq)]; exact n, hq3, z.mono sf⟩
    · rw [upd_ne (fun z => hq1 (by rw [z]; exact hn))]
      exact r.sep q hq1 hq2
    · rcases set_get hj with ⟨e1, e2, e3⟩ | ⟨e1, e2⟩
      · cases e2
      · exact r.own0 j fs q e2 hq2
    · rcases set_get hj with ⟨e1, e2, e3⟩ | ⟨e1, e2⟩
      · cases e2
      · rcases set_get hk with ⟨f1, f2, f3⟩ | ⟨f1, f2⟩
        · cases f2
        · exact r.apart j k fs gs q hjk e2 f2 h1 h2
  · exact ⟨F, Same.refl _, r⟩

inductive Out where
  | nx (δ : DS)
  | rt (r : DV)
  | bk (δ : DS)
  | ct (δ : DS)
def Fin (K : PySem.W.Frag) (F0 H0 F : Hp) (E : Ends) : Out → Prop
  | .nx δ => ∀ F' H' σ, Same F F' → RelS K F0 H0 F' H' σ δ → E.nx σ H'
  | .bk δ => ∀ F' H' σ, Same F F' → RelS K F0 H0 F' H' σ δ → E.bk σ H'
  | .ct δ => ∀ F' H' σ, Same F F' → RelS K F0 H0 F' H' σ δ → E.ct σ H'
  | .rt r => ∀ F' H' v, Mv F0 H0 F' H' → RetOk K H0 F' H' v r → E.rt v H'
theorem Fin.mono {F0 H0 F F1 : Hp} {E : Ends} {o : Out} (s : Same F F1) (h : Fin K F0 H0 F E o) : Fin K F0 H0 F1 E o := by
  cases o with
  | nx δ => exact fun F' H' σ s' r => h F' H' σ (s.trans s') r
  | bk δ => exact fun F' H' σ s' r => h F' H' σ (s.trans s') r
  | ct δ => exact fun F' H' σ s' r => h F' H' σ (s.trans s') r
  | rt r => exact h
def SD (K : PySem.W.Frag) (t : TS) (m : DS → Option Out) : Prop := ∀ F0 H0 F H σ δ, RelS K F0 H0 F H σ δ → ∀ o, m δ = some o → ∀ E : Ends, Fin K F0 H0 F E o → t E σ H

def nNext : DS → Option Out := fun δ => some (.nx δ)
def nSeq (a b : DS → Option Out) : DS → Option Out := fun δ => (a δ).bind fun o => match o with
  | .nx δ' => b δ'
  | o => some o
theorem sd_next : SD K tNext nNext := fun F0 H0 F H σ δ r o e E q => by
  cases e
  exact q F H σ (Same.refl _) r
theorem sd_seq {t u : TS} {a b : DS → Option Out} (ha : SD K t a) (hb : SD K u b) : SD K (tSeq t u) (nSeq a b) := fun F0 H0 F H σ δ r o e E q => by
  obtain ⟨x, ea, e⟩ := Option.bind_eq_some_iff.mp e
  refine ha F0 H0 F H σ δ r x ea _ ?_
  cases x with
  | nx δ' => exact fun F' H' σ' s r' => hb F0 H0 F' H' σ' δ' r' o e E (q.mono s)
  | bk δ' => cases e; exact q
  | ct δ' => cases e; exact q
  | rt v => cases e; exact q
def nBrk : DS → Option Out := fun δ => some (.bk δ)
def nCnt : DS → Option Out := fun δ => some (.ct δ)
theorem sd_brk : SD K tBreak nBrk := fun F0 H0 F H σ δ r o e E q => by
  cases e
  exact q F H σ (Same.refl _) r
theorem sd_cnt : SD K tCont nCnt := fun F0 H0 F H σ δ r o e E q => by
  cases e
  exact q F H σ (Same.refl _) r
/-- a step of the reading alone: slot i is frozen -/
def nFrz (i : Nat) (a : DS → Option Out) : DS → Option Out := fun δ => a (frz i δ)
theorem sd_frz {t : TS} {a : DS → Option Out} (i : Nat) (h : SD K t a) : SD K t (nFrz i a) := fun F0 H0 F H σ δ r o e E q => by
  obtain ⟨F', s, r'⟩ := r.frz i
  exact h F0 H0 F' H σ _ r' o e E (q.mono s)
def nAsg (i : Nat) (m : DS → Option D) : DS → Option Out := fun δ => (m δ).map fun d => .nx (δ.set i (some (.val d)))
theorem sd_asg {i : Nat} {te : TE} {m : DS → Option D} (h : Ev K te m) : SD K (tAsg te (gName i)) (nAsg i m) := fun F0 H0 F H σ δ r o e E q => by
  obtain ⟨d, hm, rfl⟩ := Option.map_eq_some_iff.mp e
  refine h F H σ δ r.rel d hm _ fun F' H' v mv rp => ?_
  exact q F' H' _ mv.f ((r.mv mv).setV rp)
def nAsgO (i : Nat) (m : DS → Option (List D)) : DS → Option Out := fun δ => (m δ).map fun d => .nx (δ.set i (some (.own d)))
theorem sd_asgO {i : Nat} {te : TE} {m : DS → Option (List D)} (h : EvO K te m) : SD K (tAsg te (gName i)) (nAsgO i m) := fun F0 H0 F H σ δ r o e E q => by
  obtain ⟨d, hm, rfl⟩ := Option.map_eq_some_iff.mp e
  refine h F H σ δ r.rel d hm _ fun F' H' p vs mv hp hf hq ra => ?_
  exact q F' H' _ mv.f (r.setO mv hp hf hq ra)
/-- an int's name changed in place -/
def nAug (i : Nat) (f : Int → Int → Int) (m : DS → Option D) : DS → Option Out := fun δ => match δ[i]?, m δ with
  | some (some (.val (.int a))), some (.int b) => some (.nx (δ.set i (some (.val (.int (f a b))))))
  | _, _ => none
theorem sd_aug {i : Nat} {f : Int → Int → Int} {te : TE} {m : DS → Option D} (h : Ev K te m) : SD K (tAug i te (ipI f)) (nAug i f m) := fun F0 H0 F H σ δ r o e E q => by
  unfold nAug at e
  split at e
  · rename_i a b h1 h2
    cases e
    obtain ⟨v, ev, rv⟩ := r.rel.val i _ h1
    refine ⟨v, ev, h F H σ δ r.rel _ h2 _ fun F' H' y mv ry => ?_⟩
    cases rv
    cases ry
    exact ⟨a, b, rfl, rfl, q F' H' _ mv.f ((r.mv mv).setV (.int _))⟩
  · cases e
def nIf (c : DS → Option Bool) (a b : DS → Option Out) : DS → Option Out := fun δ => (c δ).bind fun x => if x = true then a δ else b δ
theorem sd_if {c : TT} {t u : TS} {mc : DS → Option Bool} {a b : DS → Option Out} (hc : EvT K c mc) (ha : SD K t a) (hb : SD K u b) : SD K (tIfS c t u) (nIf mc a b) := fun F0 H0 F H σ δ r o e E q => by
  obtain ⟨x, ea, e⟩ := Option.bind_eq_some_iff.mp e
  refine hc F H σ δ r.rel x ea _ fun H1 s1 => ?_
  have r1 := r.mv (.grow r.rel.fh s1)
  cases x with
  | true =>
    show t E σ H1
    exact ha F0 H0 F H1 σ δ r1 o e E q
  | false =>
    show u E σ H1
    exact hb F0 H0 F H1 σ δ r1 o e E q
def nRet (m : DS → Option D) : DS → Option Out := fun δ => (m δ).map fun d => .rt (.val d)
theorem sd_ret {te : TE} {m : DS → Option D} (h : Ev K te m) : SD K (tRet te) (nRet m) := fun F0 H0 F H σ δ r o e E q => by
  obtain ⟨d, hm, rfl⟩ := Option.map_eq_some_iff.mp e
  refine h F H σ δ r.rel d hm _ fun F' H' v mv rp => ?_
  exact q F' H' v (r.back.trans mv) rp
def nRetO (m : DS → Option (List D)) : DS → Option Out := fun δ => (m δ).map fun d => .rt (.own d)
theorem sd_retO {te : TE} {m : DS → Option (List D)} (h : EvO K te m) : SD K (tRet te) (nRetO m) := fun F0 H0 F H σ δ r o e E q => by
  obtain ⟨d, hm, rfl⟩ := Option.map_eq_some_iff.mp e
  refine h F H σ δ r.rel d hm _ fun F' H' p vs mv hp hf hq ra => ?_
  exact q F' H' _ (r.back.trans mv) ⟨p, vs, rfl, r.h0.free hp, hf, hq, ra⟩
/-- return x, x an owned list -/
def nRetX (i : Nat) : DS → Option Out := fun δ => match δ[i]? with
  | some (some (.own ds)) => some (.rt (.own ds))
  | _ => none
theorem sd_retX {i : Nat} : SD K (tRet (tVar i)) (nRetX i) := fun F0 H0 F H σ δ r o e E q => by
  unfold nRetX at e
  split at e
  · rename_i ds hi
    cases e
    obtain ⟨p, ws, hs, nf, hp, ra⟩ := r.rel.own i ds hi
    exact ⟨_, hs, q F H _ r.back ⟨p, ws, rfl, r.own0 i ds p hi hs, nf, hp, ra⟩⟩
  · cases e
def nRetN : DS → Option Out := fun _ => some (.rt (.val .none))
theorem sd_retN : SD K tRetN nRetN := fun F0 H0 F H σ δ r o e E q => by
  cases e
  exact q F H _ r.back .non
/-- an expression whose value is dropped -/
def nDrop (m : DS → Option D) : DS → Option Out := fun δ => (m δ).map fun _ => .nx δ
theorem sd_drop {te : TE} {m : DS → Option D} (h : Ev K te m) : SD K (tDrop te) (nDrop m) := fun F0 H0 F H σ δ r o e E q => by
  obtain ⟨d, hm, rfl⟩ := Option.map_eq_some_iff.mp e
  refine h F H σ δ r.rel d hm _ fun F' H' v mv rp => ?_
  exact q F' H' σ mv.f (r.mv mv)

/-! x.append(e), x[i] = e, x.extend(e) of an owned list -/
def cap : Nat := 1000000
theorem cap_lt {n : Nat} (h : n ≤ cap) : n < sizeLine := Nat.lt_of_le_of_lt h (by decide)
def nApp (i : Nat) (m : DS → Option D) : DS → Option Out := fun δ => match δ[i]?, m δ with
  | some (some (.own ds)), some d => if ds.length ≤ cap then some (.nx (δ.set i (some (.own (ds ++ [d]))))) else none
  | _, _ => none
theorem sd_app {i : Nat} {te : TE} {m : DS → Option D} (h : Ev K te m) : SD K (tDrop (tBM K "list" rAppend (tVar i) (tCons te tNil))) (nApp i m) := fun F0 H0 F H σ δ r o e E q => by
  unfold nApp at e
  split at e
  · rename_i ds d hi hm
    by_cases hc : ds.length ≤ cap
    · rw [if_pos hc] at e
      cases e
      obtain ⟨p, ws, hs, nf, hp, ra⟩ := r.rel.own i ds hi
      refine ⟨_, hs, .inl ⟨rfl, ws, .inl (.inl hp)⟩, h F H σ δ r.rel d hm _ fun F' H' y mv ry => ?_⟩
      have r1 := r.mv mv
      have hp1 := mv.h _ _ hp
      refine ⟨p, ws, y, rfl, rfl, hp1, by rw [ra.len]; exact cap_lt hc, ?_⟩
      exact q F' _ σ mv.f (r1.mut hi hs ((ra.mono mv.f).app (.one ry)))
    · rw [if_neg hc] at e
      cases e
  · cases e
def nSetI (i : Nat) (mi m : DS → Option D) : DS → Option Out := fun δ => match δ[i]?, mi δ, m δ with
  | some (some (.own ds)), some (.int k), some d => (ixN ds.length k).map fun j => .nx (δ.set i (some (.own (ds.set j d))))
  | _, _, _ => none
theorem sd_setI {i : Nat} {te ti : TE} {m mi : DS → Option D} (h : Ev K te m) (hi' : Ev K ti mi) : SD K (tAsg te (gSub (tVar i) ti rSetL)) (nSetI i mi m) := fun F0 H0 F H σ δ r o e E q => by
  unfold nSetI at e
  split at e
  · rename_i ds k d hi hk hm
    obtain ⟨j, hj, rfl⟩ := Option.map_eq_some_iff.mp e
    refine h F H σ δ r.rel d hm _ fun F' H' y mv ry => ?_
    obtain ⟨p, ws, hs, nf, hp, ra⟩ := r.rel.own i ds hi
    refine ⟨_, hs, ?_⟩
    have r1 := r.mv mv
    refine hi' F' H' σ δ r1.rel _ hk _ fun F2 H2 z mv2 rz => ?_
    cases rz
    have r2 := r1.mv mv2
    refine ⟨p, ws, k, j, rfl, rfl, mv2.h _ _ (mv.h _ _ hp), by rw [ra.len]; exact hj, ?_⟩
    exact q F2 _ σ (mv.f.trans mv2.f) (r2.mut hi hs (((ra.mono mv.f).mono mv2.f).setAt (ry.mono mv2.f)))
  · cases e
def nExt (i : Nat) (m : DS → Option D) : DS → Option Out := fun δ => match δ[i]?, m δ with
  | some (some (.own ds)), some (.list es) => if ds.length + es.length ≤ cap then some (.nx (δ.set i (some (.own (ds ++ es))))) else none
  | _, _ => none

/-! targets -/
def EvG (K : PySem.W.Frag) (g : TG) (js : List Nat) (gm : D → DS → Option DS) : Prop := ∀ F H σ δ x d δ', Rp K F x d → Same F H → gm d δ = some δ' → ∀ Q : L2.St → Hp → Prop,
  (∀ σ', (∀ F0 H0, RelS K F0 H0 F H σ δ → RelS K F0 H0 F H σ' δ') → (Rel K F H σ δ → Rel K F H σ' δ') → (∀ vs : List Nat, (∀ j ∈ js, j ∈ vs) → wipe σ' vs = wipe σ vs) → Q σ' H) → g x σ H Q
theorem wipe_set {σ : L2.St} {j : Nat} {x : Option V} : ∀ {vs : List Nat}, j ∈ vs → wipe (σ.set j x) vs = wipe σ vs
  | v :: vs, h => by
    show (wipe (σ.set j x) vs).set v none = (wipe σ vs).set v none
    by_cases hv : j ∈ vs
    · rw [wipe_set hv]
    · have e : v = j := by
        rcases List.mem_cons.mp h with z | z
        · exact z.symm
        · exact absurd z hv
      subst e
      have out : ∀ vs : List Nat, v ∉ vs → wipe (σ.set v x) vs = (wipe σ vs).set v x := by
        intro vs
        induction vs with
        | nil => intro _; rfl
        | cons u us ih =>
          intro hu
          have h1 : v ≠ u := fun z => hu (by rw [z]; exact List.mem_cons_self)
          have h2 : v ∉ us := fun z => hu (List.mem_cons_of_mem _ z)
          show (wipe (σ.set v x) us).set u none = ((wipe σ us).set u none).set v x
          rw [ih h2, List.set_comm _ _ h1]
      rw [out vs hv, List.set_set]
def gmName (i : Nat) : D → DS → Option DS := fun d δ => some (δ.set i (some (.val d)))
theorem eg_name {i : Nat} : EvG K (gName i) [i] (gmName i) := fun F H σ δ x d δ' rp s e Q q => by
  cases e
  exact q _ (fun F0 H0 r => r.setV rp) (fun r => r.setV rp) (fun vs hv => wipe_set (hv i List.mem_cons_self))
/-- two names, three names -/
def gmPair (i j : Nat) : D → DS → Option DS := fun d δ => match d with
  | .tuple [a, b] => some ((δ.set i (some (.val a))).set j (some (.val b)))
  | _ => none
theorem eg_pair {i j : Nat} : EvG K (gTup K 2 (gCons (gName i) (gCons (gName j) gNil))) [i, j] (gmPair i j) := fun F H σ δ x d δ' rp s e Q q => by
  unfold gmPair at e
  split at e
  · rename_i a b
    cases e
    cases rp with
    | @tup p vs _ rd ra =>
      cases ra with
      | cons r1 ra =>
        cases ra with
        | cons r2 ra =>
          cases ra
          refine ⟨p, _, rfl, (tqS s rd), rfl, _, _, rfl, _, _, rfl, rfl, ?_⟩
          refine q _ (fun F0 H0 r => (r.setV r1).setV r2) (fun r => (r.setV r1).setV r2) (fun vs hv => ?_)
          rw [wipe_set (hv j (by simp)), wipe_set (hv i (by simp))]
  · cases e
def gmTri (i j k : Nat) : D → DS → Option DS := fun d δ => match d with
  | .tuple [a, b, c] => some (((δ.set i (some (.val a))).set j (some (.val b))).set k (some (.val c)))
  | _ => none
theorem eg_tri {i j k : Nat} : EvG K (gTup K 3 (gCons (gName i) (gCons (gName j) (gCons (gName k) gNil)))) [i, j, k] (gmTri i j k) := fun F H σ δ x d δ' rp s e Q q => by
  unfold gmTri at e
  split at e
  · rename_i a b c
    cases e
    cases rp with
    | @tup p vs _ rd ra =>
      cases ra with
      | cons r1 ra =>
        cases ra with
        | cons r2 ra =>
          cases ra with
          | cons r3 ra =>
            cases ra
            refine ⟨p, _, rfl, (tqS s rd), rfl, _, _, rfl, _, _, rfl, _, _, rfl, rfl, ?_⟩
            refine q _ (fun F0 H0 r => ((r.setV r1).setV r2).setV r3) (fun r => ((r.setV r1).setV r2).setV r3) (fun vs hv => ?_)
            rw [wipe_set (hv k (by simp)), wipe_set (hv j (by simp)), wipe_set (hv i (by simp))]
  · cases e
/-- a, b = e -/
def nAsgG (gm : D → DS → Option DS) (m : DS → Option D) : DS → Option Out := fun δ => (m δ).bind fun d => (gm d δ).map fun δ' => .nx δ'
theorem sd_asgG {g : TG} {js : List Nat} {gm : D → DS → Option DS} {te : TE} {m : DS → Option D} (h : Ev K te m) (hg : EvG K g js gm) : SD K (tAsg te g) (nAsgG gm m) := fun F0 H0 F H σ δ r o e E q => by
  obtain ⟨d, hm, e⟩ := Option.bind_eq_some_iff.mp e
  obtain ⟨δ', hg', rfl⟩ := Option.map_eq_some_iff.mp e
  refine h F H σ δ r.rel d hm _ fun F' H' v mv rp => ?_
  refine hg F' H' σ δ v d δ' rp mv.fh hg' _ fun σ' h1 h2 h4 => ?_
  exact q F' H' σ' mv.f (h1 F0 H0 (r.mv mv))

/-! for -/
def mForL (gm : D → DS → Option DS) (b : DS → Option Out) : List D → DS → Option Out
  | [], δ => some (.nx δ)
  | d :: ds, δ => (gm d δ).bind fun δ1 => (b δ1).bind fun o => match o with
    | .nx δ2 => mForL gm b ds δ2
    | .ct δ2 => mForL gm b ds δ2
    | .bk δ2 => some (.nx δ2)
    | .rt r => some (.rt r)
def nFor (mi : DS → Option (List D)) (gm : D → DS → Option DS) (b : DS → Option Out) : DS → Option Out := fun δ => (mi δ).bind fun ds => mForL gm b ds δ
theorem sd_for {wi : TI} {g : TG} {js : List Nat} {tb : TS} {mi : DS → Option (List D)} {gm : D → DS → Option DS} {b : DS → Option Out} (hi : EvI K wi mi) (hg : EvG K g js gm) (hb : SD K tb b) : SD K (tFor wi g tb) (nFor mi gm b) := fun F0 H0 F H σ δ r o e E q => by
  obtain ⟨ds, hm, e⟩ := Option.bind_eq_some_iff.mp e
  refine hi F H σ δ r.rel ds hm _ fun J F1 H1 mv wk => ?_
  refine ⟨fun i m σ' H' => m = ds.length - i ∧ i ≤ ds.length ∧ ∃ F' δ', RelS K F0 H0 F' H' σ' δ' ∧ Same F1 F' ∧ mForL gm b (ds.drop i) δ' = some o, ⟨ds.length, by omega, Nat.zero_le _, F1, δ, r.mv mv, Same.refl _, e⟩, ?_⟩
  rintro i m σ' H' ⟨rfl, hle, F', δ', r', s', e'⟩
  obtain ⟨w1, w2⟩ := wk i F' H' s' r'.rel.fh
  by_cases hlt : i < ds.length
  · have hd : ds.drop i = ds[i] :: ds.drop (i + 1) := List.drop_eq_getElem_cons hlt
    rw [hd] at e'
    unfold mForL at e'
    obtain ⟨δ1, hg1, e'⟩ := Option.bind_eq_some_iff.mp e'
    obtain ⟨o1, hb1, e'⟩ := Option.bind_eq_some_iff.mp e'
    obtain ⟨hgo, hyl⟩ := w1 _ (List.getElem?_eq_getElem hlt)
    refine .inr ⟨hgo, fun σ2 H2 => ∃ F2 δ2, RelS K F0 H0 F2 H2 σ2 δ2 ∧ Same F1 F2 ∧ mForL gm b (ds.drop (i + 1)) δ2 = some o, fun σ2 H2 hN => ?_, fun x H2 hy => ?_⟩
    · obtain ⟨F2, δ2, r2, s2, e2⟩ := hN
      exact ⟨ds.length - (i + 1), by omega, rfl, hlt, F2, δ2, r2, s2, e2⟩
    · obtain ⟨F2, mv2, rx⟩ := hyl x H2 hy
      refine hg F2 H2 σ' δ' x _ δ1 rx mv2.fh hg1 _ fun σ3 h1 h2 h4 => ?_
      have r3 := h1 F0 H0 (r'.mv mv2)
      refine hb F0 H0 F2 H2 σ3 δ1 r3 o1 hb1 _ ?_
      cases o1 with
      | nx δ2 => exact fun F3 H3 σ4 s3 r4 => ⟨F3, δ2, r4, (s'.trans mv2.f).trans s3, e'⟩
      | ct δ2 => exact fun F3 H3 σ4 s3 r4 => ⟨F3, δ2, r4, (s'.trans mv2.f).trans s3, e'⟩
      | bk δ2 =>
        cases e'
        exact fun F3 H3 σ4 s3 r4 => q F3 H3 σ4 (((mv.f.trans s').trans mv2.f).trans s3) r4
      | rt v =>
        cases e'
        exact q
  · have hz : ds.drop i = [] := List.drop_eq_nil_of_le (by omega)
    rw [hz] at e'
    cases e'
    exact .inl ⟨w2 (by omega), q F' H' σ' (mv.f.trans s') r'⟩

/-! comprehensions -/
def wipeD (δ : DS) : List Nat → DS
  | [] => δ
  | v :: vs => (wipeD δ vs).set v none
theorem wipeD_len (δ : DS) : ∀ vs : List Nat, (wipeD δ vs).length = δ.length
  | [] => rfl
  | v :: vs => by
    show ((wipeD δ vs).set v none).length = δ.length
    rw [List.length_set, wipeD_len δ vs]
theorem Rel.unset {F H : Hp} {σ : L2.St} {δ : DS} {i : Nat} (r : Rel K F H σ δ) : Rel K F H (σ.set i none) (δ.set i none) := by
  refine ⟨r.fh, by rw [List.length_set, List.length_set, r.len], fun j e hj => ?_, fun j ds hj => ?_⟩
  · rcases set_get hj with ⟨e1, e2, e3⟩ | ⟨e1, e2⟩
    · cases e2
    · obtain ⟨u, eu, q⟩ := r.val j e e2
      exact ⟨u, by rw [List.getElem?_set_ne (Ne.symm e1)]; exact eu, q⟩
  · rcases set_get hj with ⟨e1, e2, e3⟩ | ⟨e1, e2⟩
    · cases e2
    · obtain ⟨p, vs, ep, n, hp, q⟩ := r.own j ds e2
      exact ⟨p, vs, by rw [List.getElem?_set_ne (Ne.symm e1)]; exact ep, n, hp, q⟩
theorem Rel.wipe {F H : Hp} {σ : L2.St} {δ : DS} (r : Rel K F H σ δ) : ∀ vs : List Nat, Rel K F H (L2.wipe σ vs) (wipeD δ vs)
  | [] => r
  | v :: vs => (Rel.wipe r vs).unset
end Dl
namespace Dl
open PySem PySem.Spec PyProof.Rows L2
variable {K : PySem.W.Frag}

/-! ### comprehensions -/
def mapO (f : D → Option D) : List D → Option (List D)
  | [] => some []
  | d :: ds => (f d).bind fun a => (mapO f ds).bind fun r => some (a :: r)
def colO (f : D → Option (Option D)) : List D → Option (List D)
  | [] => some []
  | d :: ds => (f d).bind fun a => (colO f ds).bind fun r => some (match a with | some x => x :: r | none => r)
def mLcF (gm : D → DS → Option DS) (mt : DS → Option Bool) (me : DS → Option D) (δ : DS) : D → Option (Option D) := fun d => (gm d δ).bind fun δ1 => (mt δ1).bind fun b => if b = true then (me δ1).map some else some none
def mLcI (mi : DS → Option (List D)) (gm : D → DS → Option DS) (mt : DS → Option Bool) (me : DS → Option D) (vs : List Nat) : DS → Option (List D) :=
  fun δ => (mi δ).bind fun ds => if ds.length ≤ cap then colO (mLcF gm mt me (wipeD δ vs)) ds else none
theorem wipe_wipe (σ : L2.St) : ∀ vs ws : List Nat, (∀ v ∈ vs, v ∈ ws) → L2.wipe (L2.wipe σ vs) ws = L2.wipe σ ws
  | [], ws, _ => rfl
  | v :: vs, ws, h => by
    show L2.wipe ((L2.wipe σ vs).set v none) ws = L2.wipe σ ws
    rw [wipe_set (h v List.mem_cons_self)]
    exact wipe_wipe σ vs ws fun u hu => h u (List.mem_cons_of_mem _ hu)
theorem eo_lcI {wi : TI} {g : TG} {tt : TT} {te : TE} {mi : DS → Option (List D)} {gm : D → DS → Option DS} {mt : DS → Option Bool} {me : DS → Option D} {js vs : List Nat} (hi : EvI K wi mi) (hg : EvG K g js gm) (ht : EvT K tt mt) (he : Ev K te me)
    (hj : ∀ j ∈ js, j ∈ vs := by decide) : EvO K (tLc wi g tt te vs) (mLcI mi gm mt me vs) := fun F H σ δ r ds e Q q => by
  obtain ⟨xs, hm, e⟩ := Option.bind_eq_some_iff.mp e
  by_cases hc : xs.length ≤ cap
  case neg => rw [if_neg hc] at e; cases e
  rw [if_pos hc] at e
  refine hi F H σ δ r xs hm _ fun J F1 H1 mv wk => ?_
  intro Dd hD
  have r1 := r.mv mv
  have nF1 : F1 Dd = none := mv.fh.free hD
  refine ⟨fun i m H' => m = xs.length - i ∧ i ≤ xs.length ∧ ∃ F' acc es rest, Mv F1 H1 F' H' ∧ F' Dd = none ∧ H' Dd = some (.lst acc) ∧ RpA K F' acc es ∧ es.length ≤ i ∧ colO (mLcF gm mt me (wipeD δ vs)) (xs.drop i) = some rest ∧ ds = es ++ rest,
    ⟨xs.length, by omega, Nat.zero_le _, F1, [], [], ds, Mv.newO mv.fh hD, nF1, upd_same, .nil, Nat.le_refl _, e, rfl⟩, ?_⟩
  rintro i m H' ⟨rfl, hle, F', acc, es, rest, mv', nF, hq, ra, hes, e', rfl⟩
  obtain ⟨w1, w2⟩ := wk i F' H' mv'.f mv'.fh
  by_cases hlt : i < xs.length
  · have hd : xs.drop i = xs[i] :: xs.drop (i + 1) := List.drop_eq_getElem_cons hlt
    rw [hd] at e'
    unfold colO at e'
    obtain ⟨a, ha, e'⟩ := Option.bind_eq_some_iff.mp e'
    obtain ⟨rest', hr, e'⟩ := Option.bind_eq_some_iff.mp e'
    unfold mLcF at ha
    obtain ⟨δ1, hg1, ha⟩ := Option.bind_eq_some_iff.mp ha
    obtain ⟨b, hb, ha⟩ := Option.bind_eq_some_iff.mp ha
    obtain ⟨hgo, hyl⟩ := w1 _ (List.getElem?_eq_getElem hlt)
    refine .inr ⟨hgo, fun H2 => ∃ F2 acc es' , Mv F1 H1 F2 H2 ∧ F2 Dd = none ∧ H2 Dd = some (.lst acc) ∧ RpA K F2 acc es' ∧ es'.length ≤ i + 1 ∧ es ++ rest = es' ++ rest', fun H2 hN => ?_, fun x H2 hy => ?_⟩
    · obtain ⟨F2, acc2, es2, a1, a2, a3, a4, a5, a6⟩ := hN
      exact ⟨xs.length - (i + 1), by omega, rfl, hlt, F2, acc2, es2, rest', a1, a2, a3, a4, a5, hr, a6⟩
    · obtain ⟨F2, mv2, rx⟩ := hyl x H2 hy
      have nF2 : F2 Dd = none := mv2.sep Dd (by rw [hq]; exact fun z => nomatch z) nF
      have hq2 := mv2.h _ _ hq
      have mv3 := mv'.trans mv2
      have rw1 : Rel K F2 H2 (L2.wipe σ vs) (wipeD δ vs) := ((r1.mv mv3)).wipe vs
      refine hg F2 H2 _ _ x _ δ1 rx mv2.fh hg1 _ fun σ3 h1 h2 h4 => ?_
      have r3 := h2 rw1
      refine ⟨(h4 vs hj).trans (wipe_wipe σ vs vs fun _ h => h), ?_⟩
      refine ht F2 H2 σ3 δ1 r3 b hb _ fun H3 s3 => ?_
      have hq3 := s3 _ _ hq2
      cases b with
      | false =>
        cases ha
        have e2 : rest' = rest := Option.some.inj e'
        subst e2
        show ∃ F2 acc es' , Mv F1 H1 F2 H3 ∧ F2 Dd = none ∧ H3 Dd = some (.lst acc) ∧ RpA K F2 acc es' ∧ es'.length ≤ i + 1 ∧ es ++ rest' = es' ++ rest'
        exact ⟨F2, acc, es, mv3.trans (.grow mv2.fh s3), nF2, hq3, ra.mono mv2.f, by omega, rfl⟩
      | true =>
        obtain ⟨y, hy2, rfl⟩ := Option.map_eq_some_iff.mp ha
        have e2 : y :: rest' = rest := Option.some.inj e'
        subst e2
        have mg : Mv F2 H2 F2 H3 := .grow mv2.fh s3
        show te σ3 H3 fun y H4 => ∃ acc, H4 Dd = some (.lst acc) ∧ acc.length < sizeLine ∧ _
        refine he F2 H3 σ3 δ1 (r3.mv mg) y hy2 _ fun F4 H4 v mv4 ry => ?_
        have nF4 : F4 Dd = none := mv4.sep Dd (by rw [hq3]; exact fun z => nomatch z) nF2
        have hq4 := mv4.h _ _ hq3
        have sF : Same F' F4 := mv2.f.trans mv4.f
        refine ⟨acc, hq4, by rw [ra.len]; exact cap_lt (by omega), F4, acc ++ [v], es ++ [y], ?_, nF4, upd_same, (ra.mono sF).app (.one ry), by rw [List.length_append]; show es.length + 1 ≤ i + 1; omega, by rw [List.append_assoc]; rfl⟩
        have mv5 := (mv3.trans mg).trans mv4
        refine ⟨mv5.f, fun z o hz => ?_, fun z o hz => ?_, mv5.sep⟩
        · rw [upd_ne (ne_of_none hz hD)]
          exact mv5.h _ _ hz
        · rw [upd_ne (ne_of_none hz nF4)]
          exact mv5.fh _ _ hz
  · have hz : xs.drop i = [] := List.drop_eq_nil_of_le (by omega)
    rw [hz] at e'
    cases e'
    rw [List.append_nil] at q
    refine .inl ⟨w2 (by omega), ?_⟩
    exact q F' H' Dd acc (mv.trans mv') (mv.h.free hD) nF hq ra
end Dl
namespace Dl
open PySem PySem.Spec PyProof.Rows L2
variable {K : PySem.W.Frag}

/-! ### operators -/
theorem RpA.ints {F : Hp} : ∀ {vs : List V} {ns : List Int}, RpA K F vs (ns.map PyData.int) → vs = ns.map V.int
  | [], [], _ => rfl
  | _, [], h => by cases h; rfl
  | _, n :: ns, h => by
    cases h with
    | cons h1 h2 =>
      cases h1
      rw [RpA.ints h2]
      rfl
theorem RpA.bls {F : Hp} : ∀ {vs : List V} {ns : List Bool}, RpA K F vs (ns.map PyData.bool) → vs = ns.map V.bl
  | [], [], _ => rfl
  | _, [], h => by cases h; rfl
  | _, n :: ns, h => by
    cases h with
    | cons h1 h2 =>
      cases h1
      rw [RpA.bls h2]
      rfl
theorem OpD.flat {r : R2} {g : D → D → Option D} (h : ∀ F x y d e z, Rp K F x d → Rp K F y e → g d e = some z → ∃ v, (∀ G, Rp K G v z) ∧ ∀ H (Q : VK), Same F H → Q v H → r x y H Q) : OpD K r g := fun F H x y d e z s r1 r2 hg Q q => by
  obtain ⟨v, hv, k⟩ := h F x y d e z r1 r2 hg
  exact k H Q s (q F H v (.rfl' s) (hv F))
def dI2 (f : Int → Int → Int) (c : Int → Int → Bool) : D → D → Option D
  | .int i, .int j => if c i j = true then some (.int (f i j)) else none
  | _, _ => none
theorem op_I {C : Int → Int → Prop} {f : Int → Int → Int} {c : Int → Int → Bool} (hc : ∀ i j, c i j = true → C i j) : OpD K (rI C fun i j => .int (f i j)) (dI2 f c) := .flat fun F x y d e z r1 r2 hg => by
  unfold dI2 at hg
  split at hg
  · rename_i i j
    by_cases h : c i j = true
    · rw [if_pos h] at hg
      cases hg
      cases r1
      cases r2
      exact ⟨_, fun G => .int _, fun H Q _ q => ⟨i, j, rfl, rfl, hc i j h, q⟩⟩
    · rw [if_neg h] at hg
      cases hg
  · cases hg
def dI0 (f : Int → Int → Int) : D → D → Option D
  | .int i, .int j => some (.int (f i j))
  | _, _ => none
theorem op_I0 {f : Int → Int → Int} : OpD K (rI0 fun i j => .int (f i j)) (dI0 f) := .flat fun F x y d e z r1 r2 hg => by
  unfold dI0 at hg
  split at hg
  · rename_i i j
    cases hg
    cases r1
    cases r2
    exact ⟨_, fun G => .int _, fun H Q _ q => ⟨i, j, rfl, rfl, q⟩⟩
  · cases hg
def dB0 (f : Int → Int → Bool) : D → D → Option D
  | .int i, .int j => some (.bool (f i j))
  | _, _ => none
theorem op_B0 {f : Int → Int → Bool} : OpD K (rI0 fun i j => .bl (f i j)) (dB0 f) := .flat fun F x y d e z r1 r2 hg => by
  unfold dB0 at hg
  split at hg
  · rename_i i j
    cases hg
    cases r1
    cases r2
    exact ⟨_, fun G => .bl _, fun H Q _ q => ⟨i, j, rfl, rfl, q⟩⟩
  · cases hg
abbrev dSub := dI0 fun i j => i - j
abbrev dMul := dI2 (fun i j => i * j) fun i j => decide ((-(2 ^ 64) < i ∧ i < 2 ^ 64) ∨ (-(2 ^ 64) < j ∧ j < 2 ^ 64))
abbrev dDiv := dI2 (fun i j => i / j) fun _ j => decide (0 < j ∧ j < 1073741824)
abbrev dMod := dI2 (fun i j => i % j) fun _ j => decide (0 < j)
abbrev dPow := dI2 (fun i j => i ^ j.toNat) fun i j => decide (0 ≤ j ∧ j ≤ 1000000 ∧ i.natAbs < 2 ^ 64)
abbrev dLt := dB0 fun i j => decide (i < j)
abbrev dLe := dB0 fun i j => decide (i ≤ j)
abbrev dGt := dB0 fun i j => decide (j < i)
abbrev dGe := dB0 fun i j => decide (j ≤ i)
theorem od_sub : OpD K (rI0 fun i j => .int (i - j)) dSub := op_I0
theorem od_mul : OpD K (rI CMul fun i j => .int (i * j)) dMul := op_I fun _ _ h => by have h2 := of_decide_eq_true h; exact h2
theorem od_div : OpD K (rI CDiv fun i j => .int (i / j)) dDiv := op_I fun _ _ h => by have h2 := of_decide_eq_true h; exact h2
theorem od_mod : OpD K (rI (fun _ j => 0 < j) fun i j => .int (i % j)) dMod := op_I fun _ _ h => of_decide_eq_true h
theorem od_pow : OpD K (rI CPow fun i j => .int (i ^ j.toNat)) dPow := op_I fun _ _ h => by have h2 := of_decide_eq_true h; exact h2
theorem od_lt : OpD K (rI0 fun i j => .bl (decide (i < j))) dLt := op_B0
theorem od_le : OpD K (rI0 fun i j => .bl (decide (i ≤ j))) dLe := op_B0
theorem od_gt : OpD K (rI0 fun i j => .bl (decide (j < i))) dGt := op_B0
theorem od_ge : OpD K (rI0 fun i j => .bl (decide (j ≤ i))) dGe := op_B0
/-- + : ints, texts, tuples -/
def rAddU (K : PySem.W.Frag) : R2 := fun x y H Q => (rI0 fun i j => .int (i + j)) x y H Q ∨ ((∃ i j, x = .str i ∧ y = .str j ∧ i.length + j.length ≤ sizeLine ∧ Q (.str (i ++ j)) H) ∨ rCatT K x y H Q)
theorem op_addU {X : Cx} : OpR X (binaryOp .Add) (rAddU X.K) := OpR.or op_add (OpR.or op_add_str op_catT)
def dAdd : D → D → Option D
  | .int i, .int j => some (.int (i + j))
  | .str x, .str y => if x.length + y.length ≤ 10000000 then some (.str (x ++ y)) else none
  | .tuple xs, .tuple ys => if xs ≠ [] ∧ xs.length + ys.length ≤ cap then some (.tuple (xs ++ ys)) else none
  | _, _ => none
theorem od_add : OpD K (rAddU K) dAdd := fun F H x y d e z s r1 r2 hg Q q => by
  unfold dAdd at hg
  split at hg
  · rename_i i j
    cases hg
    cases r1
    cases r2
    exact .inl ⟨i, j, rfl, rfl, q F H _ (.rfl' s) (.int _)⟩
  · rename_i i j
    by_cases h : i.length + j.length ≤ 10000000
    · rw [if_pos h] at hg
      cases hg
      cases r1
      cases r2
      exact .inr (.inl ⟨i, j, rfl, rfl, Nat.le_trans h (by decide), q F H _ (.rfl' s) (.str _)⟩)
    · rw [if_neg h] at hg
      cases hg
  · rename_i xs ys
    by_cases h : xs ≠ [] ∧ xs.length + ys.length ≤ cap
    · rw [if_pos h] at hg
      cases hg
      cases r1 with
      | @tup a vs _ rd1 ra1 =>
        cases r2 with
        | @tup b ws _ rd2 ra2 =>
          have hl : vs.length + ws.length ≤ sizeLine := by
            rw [ra1.len, ra2.len]
            exact Nat.le_of_lt (cap_lt h.2)
          refine .inr (.inr ⟨a, b, vs, ws, rfl, rfl, (tqS s rd1), (tqS s rd2), ?_, hl, fun hy => ?_, fun hy p hp => ?_⟩)
          · intro z
            subst z
            cases ra1
            exact h.1 rfl
          · subst hy
            cases ra2
            rw [List.append_nil] at q
            exact q F H _ (.rfl' s) (.tup rd1 ra1)
          · have mv := Mv.new (o := .tup (vs ++ ws)) s hp
            exact q _ _ _ mv (.tup (.inl (.inl upd_same)) ((ra1.app ra2).mono mv.f))
    · rw [if_neg h] at hg
      cases hg
  · cases hg
/-- list + list -/
def rCatS (K : PySem.W.Frag) : R2 := fun x y H Q => ∃ l b xs zs, x = .ref l ∧ y = .ref b ∧ SqL K H l xs ∧ SqL K H b zs ∧ xs.length + zs.length ≤ sizeLine ∧ ∀ p, H p = none → Q (.ref p) (upd H p (.lst (xs ++ zs)))
theorem op_catS {X : Cx} : OpR X (binaryOp .Add) (rCatS X.K) := by
  intro pins s σ H x y v u Q I rx ry h
  obtain ⟨l, b, xs, zs, rfl, rfl, hH, hB, hz, q⟩ := h
  cases rx
  cases ry
  obtain ⟨its, r, ⟨⟨c1, d1, t1, l1⟩, n, e, h1, h2, h3⟩, _⟩ := I.list hH
  obtain ⟨its2, r2, ⟨⟨c2, d2, t2, l2⟩, n2, e2, k1, k2, k3⟩, _⟩ := I.list hB
  simp only at h1 h2 h3 k1 k2 k3
  subst h1 h2 h3 k1 k2 k3
  have hl := r.length
  have hl2 := r2.length
  have hsz : its.toArray.size + its2.toArray.size ≤ sizeLine := by
    rw [List.size_toArray, List.size_toArray]
    omega
  have ea : its.toArray ++ its2.toArray = (its ++ its2).toArray := by simp
  have hz' : (xs ++ zs).length ≤ sizeLine := by
    rw [List.length_append]
    exact hz
  refine concat_meets ⟨_, e, rfl⟩ ⟨_, e2, rfl⟩ noFill_list_add seq_list_add PySem.F.slot_list_add PySem.F.entry_list_add (PySem.F.args_list_add_2 _ _) (list_addW l b its.toArray its2.toArray n n2 none none l1 l2 hsz) ⟨e, e2, ?_⟩
  rw [ea]
  exact ⟨.ref _, _, I.lnew (t' := s.toks) (r.append r2) hz', rfl, q _ I.fresh⟩
def OpO (K : PySem.W.Frag) (r : R2) (g : D → D → Option (List D)) : Prop := ∀ F H x y d e z, Same F H → Rp K F x d → Rp K F y e → g d e = some z → ∀ Q : VK, (∀ F' H' p ws, Mv F H F' H' → H p = none → F' p = none → H' p = some (.lst ws) → RpA K F' ws z → Q (.ref p) H') → r x y H Q
def m2O (g : D → D → Option (List D)) (ma mb : DS → Option D) : DS → Option (List D) := fun δ => (ma δ).bind fun a => (mb δ).bind fun b => g a b
theorem eo_op {r : R2} {g : D → D → Option (List D)} {ta tb : TE} {ma mb : DS → Option D} (ha : Ev K ta ma) (hb : Ev K tb mb) (ho : OpO K r g) : EvO K (tOp r ta tb) (m2O g ma mb) := fun F H σ δ rl d e Q q => by
  unfold m2O at e
  obtain ⟨a, ea, e⟩ := Option.bind_eq_some_iff.mp e
  obtain ⟨b, eb, e⟩ := Option.bind_eq_some_iff.mp e
  refine ha F H σ δ rl a ea _ fun F1 H1 x m1 r1 => ?_
  refine hb F1 H1 σ δ (rl.mv m1) b eb _ fun F2 H2 y m2 r2 => ?_
  exact ho F2 H2 x y a b d m2.fh (r1.mono m2.f) r2 e Q fun F3 H3 p ws m3 h1 h2 h3 r3 => q F3 H3 p ws ((m1.trans m2).trans m3) ((m1.trans m2).h.free h1) h2 h3 r3
def dCat : D → D → Option (List D)
  | .list xs, .list ys => if xs.length + ys.length ≤ cap then some (xs ++ ys) else none
  | _, _ => none
theorem od_cat : OpO K (rCatS K) dCat := fun F H x y d e z s r1 r2 hg Q q => by
  unfold dCat at hg
  split at hg
  · rename_i xs ys
    by_cases h : xs.length + ys.length ≤ cap
    · rw [if_pos h] at hg
      cases hg
      cases r1 with
      | @lst a vs _ rd1 ra1 =>
        cases r2 with
        | @lst b ws _ rd2 ra2 =>
          have hl : vs.length + ws.length ≤ sizeLine := by
            rw [ra1.len, ra2.len]
            exact Nat.le_of_lt (cap_lt h)
          exact ⟨a, b, vs, ws, rfl, rfl, sqS s rd1, sqS s rd2, hl, fun p hp => q F _ p _ (Mv.newO s hp) hp (s.free hp) upd_same (ra1.app ra2)⟩
    · rw [if_neg h] at hg
      cases hg
  · cases hg
/-- list * int -/
def rRepS : R2 := fun x y H Q => ∃ l k xs, x = .ref l ∧ y = .int k ∧ H l = some (.lst xs) ∧ -(2 ^ 63) ≤ k ∧ k < 2 ^ 63 ∧ xs.length * k.toNat ≤ sizeLine ∧ ∀ p, H p = none → Q (.ref p) (upd H p (.lst (List.replicate k.toNat xs).flatten))

/-! == -/
def rEqU (K : PySem.W.Frag) : R2 := fun x y H Q => rEq x y H Q ∨ rEqD K x y H Q
def rNeU (K : PySem.W.Frag) : R2 := fun x y H Q => rNe x y H Q ∨ rNeD K x y H Q
theorem op_eqU {X : Cx} (hu : X.A.units + 64 < cLine) : OpR X (compareOp .Eq) (rEqU X.K) := OpR.or op_eq (op_eqD hu)
theorem op_neU {X : Cx} (hu : X.A.units + 64 < cLine) : OpR X (compareOp .NotEq) (rNeU X.K) := OpR.or op_ne (op_neD hu)
def eqB : D → D → Option Bool
  | .str x, .str y => some (decide (x = y))
  | d, e => if (SeqAt.shaped d && SeqAt.shaped e) = true then some (PyData.eqv d e) else none
def dEq (d e : D) : Option D := (eqB d e).map .bool
def dNe (d e : D) : Option D := (eqB d e).map fun b => .bool (!b)
theorem eqB_cases {F H : Hp} {x y : V} {d e : D} {b : Bool} (s : Same F H) (r1 : Rp K F x d) (r2 : Rp K F y e) (h : eqB d e = some b) :
    (scal x y = true ∧ decide (x = y) = b) ∨ (Dp K H x d ∧ Dp K H y e ∧ SeqAt.shaped d = true ∧ SeqAt.shaped e = true ∧ PyData.eqv d e = b) := by
  unfold eqB at h
  split at h
  · rename_i i j
    cases r1
    cases r2
    refine .inl ⟨rfl, ?_⟩
    have h2 := Option.some.inj h
    rw [← h2]
    by_cases z : i = j
    · rw [decide_eq_true z, decide_eq_true (by rw [z])]
    · rw [decide_eq_false z, decide_eq_false (fun q => z (V.str.inj q))]
  · by_cases hc : (SeqAt.shaped d && SeqAt.shaped e) = true
    · rw [if_pos hc] at h
      rw [Bool.and_eq_true] at hc
      exact .inr ⟨(r1.mono s).dp (nd_shaped hc.1), (r2.mono s).dp (nd_shaped hc.2), hc.1, hc.2, Option.some.inj h⟩
    · rw [if_neg hc] at h
      cases h
theorem od_eq : OpD K (rEqU K) dEq := fun F H x y d e z s r1 r2 hg Q q => by
  obtain ⟨b, hb, rfl⟩ := Option.map_eq_some_iff.mp hg
  rcases eqB_cases (K := K) s r1 r2 hb with ⟨h1, h2⟩ | ⟨h1, h2, h3, h4, h5⟩
  · refine .inl ⟨h1, ?_⟩
    rw [h2]
    exact q F H _ (.rfl' s) (.bl b)
  · refine .inr ⟨d, e, h1, h2, h3, h4, ?_⟩
    rw [h5]
    exact q F H _ (.rfl' s) (.bl b)
theorem od_ne : OpD K (rNeU K) dNe := fun F H x y d e z s r1 r2 hg Q q => by
  obtain ⟨b, hb, rfl⟩ := Option.map_eq_some_iff.mp hg
  rcases eqB_cases (K := K) s r1 r2 hb with ⟨h1, h2⟩ | ⟨h1, h2, h3, h4, h5⟩
  · refine .inl ⟨h1, ?_⟩
    rw [h2]
    exact q F H _ (.rfl' s) (.bl (!b))
  · refine .inr ⟨d, e, h1, h2, h3, h4, ?_⟩
    rw [h5]
    exact q F H _ (.rfl' s) (.bl (!b))
/-! is None, is True -/
def rIsU : R2 := fun x y H Q => (y = .non ∧ Q (.bl (decide (x = .non))) H) ∨ rIsB x y H Q
def rNotU : R2 := fun x y H Q => (y = .non ∧ Q (.bl (!decide (x = .non))) H) ∨ rNotB x y H Q
theorem op_isU {X : Cx} : OpR X (compareOp .Is) rIsU := OpR.or op_isN op_isBl
theorem op_notU {X : Cx} : OpR X (compareOp .IsNot) rNotU := OpR.or op_notN op_notBl
def isNoneD : D → Bool
  | .none => true
  | _ => false
def isB : D → D → Option Bool
  | d, .none => some (isNoneD d)
  | .bool a, .bool b => some (decide (a = b))
  | _, _ => none
def dIs (d e : D) : Option D := (isB d e).map .bool
def dIsNot (d e : D) : Option D := (isB d e).map fun b => .bool (!b)
theorem isNone_of {F : Hp} {x : V} {d : D} (h : Rp K F x d) : decide (x = .non) = isNoneD d := by
  cases h <;> rfl
theorem od_is : OpD K rIsU dIs := .flat fun F x y d e z r1 r2 hg => by
  obtain ⟨b, hb, rfl⟩ := Option.map_eq_some_iff.mp hg
  unfold isB at hb
  split at hb
  · cases hb
    cases r2
    exact ⟨_, fun G => .bl _, fun H Q _ q => .inl ⟨rfl, by rw [isNone_of r1]; exact q⟩⟩
  · rename_i a c
    cases hb
    cases r1
    cases r2
    exact ⟨_, fun G => .bl _, fun H Q _ q => .inr ⟨a, c, rfl, rfl, q⟩⟩
  · cases hb
theorem od_isNot : OpD K rNotU dIsNot := .flat fun F x y d e z r1 r2 hg => by
  obtain ⟨b, hb, rfl⟩ := Option.map_eq_some_iff.mp hg
  unfold isB at hb
  split at hb
  · cases hb
    cases r2
    exact ⟨_, fun G => .bl _, fun H Q _ q => .inl ⟨rfl, by rw [isNone_of r1]; exact q⟩⟩
  · rename_i a c
    cases hb
    cases r1
    cases r2
    exact ⟨_, fun G => .bl _, fun H Q _ q => .inr ⟨a, c, rfl, rfl, q⟩⟩
  · cases hb
/-! in, not in: flat things in a list or tuple; a text in a text -/
def inD (d : D) (es : List D) : Bool := es.any fun e => PyData.eqv e d
theorem eqV_eqv {F G : Hp} {x y : V} {d e : D} (h1 : Rp K F x d) (h2 : Rp K G y e) (f1 : flatD d = true) (f2 : flatD e = true) : eqV x y = PyData.eqv d e := by
  cases h1 <;> first | (cases f1; done) | (cases h2 <;> first | (cases f2; done) | (simp [eqV, PyData.eqv]; done))
theorem Rp.flatV {F : Hp} {x : V} {d : D} (h : Rp K F x d) (f : flatD d = true) : L2.flatV x = true := by
  cases h <;> first | rfl | cases f
theorem RpA.flatV {F : Hp} : ∀ {vs : List V} {ds : List D}, RpA K F vs ds → ds.all flatD = true → vs.all L2.flatV = true
  | _, _, .nil, _ => rfl
  | _, _, .cons h r, f => by
    rw [List.all_cons, Bool.and_eq_true] at f
    rw [List.all_cons, h.flatV f.1, RpA.flatV r f.2]
    rfl
theorem inV_inD {F G : Hp} {x : V} {d : D} (h : Rp K G x d) (f : flatD d = true) : ∀ {vs : List V} {ds : List D}, RpA K F vs ds → ds.all flatD = true → inV x vs = inD d ds
  | _, _, .nil, _ => rfl
  | _, _, .cons h1 r, fs => by
    rw [List.all_cons, Bool.and_eq_true] at fs
    have ih := inV_inD h f r fs.2
    unfold inV inD at *
    rw [List.any_cons, List.any_cons, ih, eqV_eqv h1 h fs.1 f]
def rInU (K : PySem.W.Frag) (neg : Bool) : R2 := fun x y H Q => rIn K neg x y H Q
def inB : D → D → Option Bool
  | d, .list es => if (flatD d && es.all flatD) = true then some (inD d es) else none
  | d, .tuple es => if (flatD d && es.all flatD) = true then some (inD d es) else none
  | _, _ => none
theorem inB_cases {F H : Hp} {x y : V} {d e : D} {b : Bool} (s : Same F H) (r1 : Rp K F x d) (r2 : Rp K F y e) (h : inB d e = some b) :
    ∃ p xs, y = .ref p ∧ (SqL K H p xs ∨ SqT K H p xs) ∧ L2.flatV x = true ∧ xs.all L2.flatV = true ∧ inV x xs = b := by
  unfold inB at h
  split at h
  · rename_i es
    by_cases hc : (flatD d && es.all flatD) = true
    · rw [if_pos hc] at h
      rw [Bool.and_eq_true] at hc
      cases h
      cases r2 with
      | @lst p ws _ rd ra => exact ⟨p, ws, rfl, .inl (sqS s rd), r1.flatV hc.1, ra.flatV hc.2, inV_inD r1 hc.1 ra hc.2⟩
    · rw [if_neg hc] at h
      cases h
  · rename_i es
    by_cases hc : (flatD d && es.all flatD) = true
    · rw [if_pos hc] at h
      rw [Bool.and_eq_true] at hc
      cases h
      cases r2 with
      | @tup p ws _ rd ra => exact ⟨p, ws, rfl, .inr (tqS s rd), r1.flatV hc.1, ra.flatV hc.2, inV_inD r1 hc.1 ra hc.2⟩
    · rw [if_neg hc] at h
      cases h
  · cases h
def dIn (d e : D) : Option D := (inB d e).map .bool
def dNotIn (d e : D) : Option D := (inB d e).map fun b => .bool (!b)
theorem od_in : OpD K (rIn K false) dIn := fun F H x y d e z s r1 r2 hg Q q => by
  obtain ⟨b, hb, rfl⟩ := Option.map_eq_some_iff.mp hg
  obtain ⟨p, xs, h1, h2, h3, h4, h5⟩ := inB_cases (K := K) s r1 r2 hb
  refine ⟨p, xs, h1, h2, h3, h4, ?_⟩
  rw [h5]
  exact q F H _ (.rfl' s) (.bl b)
theorem od_notIn : OpD K (rIn K true) dNotIn := fun F H x y d e z s r1 r2 hg Q q => by
  obtain ⟨b, hb, rfl⟩ := Option.map_eq_some_iff.mp hg
  obtain ⟨p, xs, h1, h2, h3, h4, h5⟩ := inB_cases (K := K) s r1 r2 hb
  refine ⟨p, xs, h1, h2, h3, h4, ?_⟩
  rw [h5]
  exact q F H _ (.rfl' s) (.bl (!b))
/-! items and slices -/
def dIx : D → D → Option D
  | .list xs, .int i => atI xs i
  | .tuple xs, .int i => atI xs i
  | .str z, .int i => if z.length ≤ 10000000 then (atI z.cps.toList i).map fun c => .str ⟨#[c]⟩ else none
  | _, _ => none
theorem RpA.atI {F : Hp} {vs : List V} {ds : List D} {i : Int} {d : D} (r : RpA K F vs ds) (h : L2.atI ds i = some d) : ∃ v, L2.atI vs i = some v ∧ Rp K F v d := by
  unfold L2.atI at *
  rw [r.len]
  obtain ⟨j, hj, e⟩ := Option.bind_eq_some_iff.mp h
  rw [hj]
  exact r.get e
theorem od_ix : OpD K (rIx K) dIx := fun F H x y d e z s r1 r2 hg Q q => by
  unfold dIx at hg
  split at hg
  · rename_i xs i
    cases r2
    cases r1 with
    | @lst a vs _ rd ra =>
      obtain ⟨v, h1, h2⟩ := ra.atI hg
      exact .inl ⟨a, vs, i, v, rfl, rfl, (sqS s rd), h1, q F H v (.rfl' s) h2⟩
  · rename_i xs i
    cases r2
    cases r1 with
    | @tup a vs _ rd ra =>
      obtain ⟨v, h1, h2⟩ := ra.atI hg
      exact .inr (.inl ⟨a, vs, i, v, rfl, rfl, (tqS s rd), h1, q F H v (.rfl' s) h2⟩)
  · rename_i w i
    cases r2
    cases r1
    by_cases h : w.length ≤ 10000000
    · rw [if_pos h] at hg
      obtain ⟨c, hc, rfl⟩ := Option.map_eq_some_iff.mp hg
      exact .inr (.inr ⟨w, i, c, rfl, rfl, Nat.le_trans h (by decide), hc, q F H _ (.rfl' s) (.str _)⟩)
    · rw [if_neg h] at hg
      cases hg
  · cases hg
/-- an item of an owned list -/
def mIxO (i : Nat) (mi : DS → Option D) : DS → Option D := fun δ => match δ[i]?, mi δ with
  | some (some (.own ds)), some (.int k) => atI ds k
  | _, _ => none
theorem ev_ixO {i : Nat} {ti : TE} {mi : DS → Option D} (h : Ev K ti mi) : Ev K (tOp (rIx K) (tVar i) ti) (mIxO i mi) := fun F H σ δ r d e Q q => by
  unfold mIxO at e
  split at e
  · rename_i ds k hi hk
    obtain ⟨p, ws, hs, nf, hp, ra⟩ := r.own i ds hi
    refine ⟨_, hs, h F H σ δ r _ hk _ fun F' H' y mv ry => ?_⟩
    cases ry
    obtain ⟨v, h1, h2⟩ := (ra.mono mv.f).atI e
    exact .inl ⟨p, ws, k, v, rfl, rfl, .inl (.inl (mv.h _ _ hp)), h1, q F' H' v mv h2⟩
  · cases e
def EvP (K : PySem.W.Frag) (t : TO) (m : DS → Option (Option Int)) : Prop := ∀ F H σ δ, Rel K F H σ δ → ∀ o, m δ = some o → ∀ Q : Option Int → Hp → Prop, (∀ H', Same H H' → Q o H') → t σ H Q
def mNoP : DS → Option (Option Int) := fun _ => some none
def mP (m : DS → Option D) : DS → Option (Option Int) := fun δ => match m δ with
  | some (.int i) => some (some i)
  | _ => none
theorem ep_none : EvP K tNoPart mNoP := fun F H σ δ r o e Q q => by
  cases e
  exact q H (Same.refl _)
theorem ep_some {t : TE} {m : DS → Option D} (h : Ev K t m) : EvP K (tPart t) (mP m) := fun F H σ δ r o e Q q => by
  unfold mP at e
  split at e
  · rename_i i hm
    cases e
    refine h F H σ δ r _ hm _ fun F' H' v mv rp => ?_
    cases rp
    exact ⟨i, rfl, q H' mv.h⟩
  · cases e
def cutD {α : Type} (xs : List α) (lo hi : Option Int) : List α := (xs.drop (HT.sIx xs.length 0 lo)).take (HT.sIx xs.length xs.length hi - HT.sIx xs.length 0 lo)
theorem RpA.cut {F : Hp} {vs : List V} {ds : List D} (r : RpA K F vs ds) (lo hi : Option Int) : RpA K F (cutV vs lo hi) (cutD ds lo hi) := by
  unfold cutV cutD
  rw [r.len]
  exact (r.dropN _).takeN _
def mSlL (m : DS → Option D) (l u : DS → Option (Option Int)) : DS → Option (List D) := fun δ => match m δ, l δ, u δ with
  | some (.list xs), some lo, some hi => some (cutD xs lo hi)
  | _, _, _ => none
theorem eo_slL {te : TE} {tl th : TO} {m : DS → Option D} {l u : DS → Option (Option Int)} (h : Ev K te m) (hl : EvP K tl l) (hu : EvP K th u) : EvO K (tSl (rSlL K) te tl th) (mSlL m l u) := fun F H σ δ r d e Q q => by
  unfold mSlL at e
  split at e
  · rename_i xs lo hi h1 h2 h3
    cases e
    refine h F H σ δ r _ h1 _ fun F1 H1 v m1 rp => ?_
    refine hl F1 H1 σ δ (r.mv m1) _ h2 _ fun H2 s2 => ?_
    have m2 := m1.trans (.grow m1.fh s2)
    refine hu F1 H2 σ δ (r.mv m2) _ h3 _ fun H3 s3 => ?_
    have m3 := m2.trans (.grow m2.fh s3)
    cases rp with
    | @lst a vs _ rd ra =>
      exact ⟨a, vs, rfl, (sqS m3.fh rd), fun p hp => q F1 _ p _ (m3.trans (Mv.newO m3.fh hp)) (m3.h.free hp) (m3.fh.free hp) upd_same (ra.cut lo hi)⟩
  · cases e
/-- a tuple's slice, not the whole -/
def mSlT (m : DS → Option D) (l u : DS → Option (Option Int)) : DS → Option D := fun δ => match m δ, l δ, u δ with
  | some (.tuple xs), some lo, some hi => if ¬ (HT.sIx xs.length 0 lo = 0 ∧ HT.sIx xs.length xs.length hi = xs.length) then some (.tuple (cutD xs lo hi)) else none
  | _, _, _ => none
theorem ev_slT {te : TE} {tl th : TO} {m : DS → Option D} {l u : DS → Option (Option Int)} (h : Ev K te m) (hl : EvP K tl l) (hu : EvP K th u) : Ev K (tSl (rSlT K) te tl th) (mSlT m l u) := fun F H σ δ r d e Q q => by
  unfold mSlT at e
  split at e
  · rename_i xs lo hi h1 h2 h3
    by_cases hc : ¬ (HT.sIx xs.length 0 lo = 0 ∧ HT.sIx xs.length xs.length hi = xs.length)
    · rw [if_pos hc] at e
      cases e
      refine h F H σ δ r _ h1 _ fun F1 H1 v m1 rp => ?_
      refine hl F1 H1 σ δ (r.mv m1) _ h2 _ fun H2 s2 => ?_
      have m2 := m1.trans (.grow m1.fh s2)
      refine hu F1 H2 σ δ (r.mv m2) _ h3 _ fun H3 s3 => ?_
      have m3 := m2.trans (.grow m2.fh s3)
      cases rp with
      | @tup a vs _ rd ra =>
        refine ⟨a, vs, rfl, (tqS m3.fh rd), by rw [ra.len]; exact hc, fun p hp => ?_⟩
        have mv := Mv.new (o := .tup (cutV vs lo hi)) m3.fh hp
        exact q _ _ _ (m3.trans mv) (.tup (.inl (.inl upd_same)) ((ra.cut lo hi).mono mv.f))
    · rw [if_neg hc] at e
      cases e
  · cases e
/-- -x -/
def dNeg : D → Option D
  | .int i => some (.int (-i))
  | _ => none
theorem ud_neg : UnD K (rU fun i => .int (-i)) dNeg := fun F H x d z s r1 hg Q q => by
  unfold dNeg at hg
  split at hg
  · rename_i i
    cases hg
    cases r1
    exact ⟨i, rfl, q F H _ (.rfl' s) (.int _)⟩
  · cases hg
end Dl
namespace Dl
open PySem PySem.Spec PyProof.Rows L2
variable {K : PySem.W.Frag}

/-! ### built-ins -/
theorem CallD.one {r : List V → Hp → VK → Prop} {g : List D → Option D} (h : ∀ F H vs ds z, Same F H → RpA K F vs ds → g ds = some z → ∃ v, (∀ G, Rp K G v z) ∧ ∀ Q : VK, Q v H → r vs H Q) : CallD K r g := fun F H vs ds z s ra hg Q q => by
  obtain ⟨v, hv, k⟩ := h F H vs ds z s ra hg
  exact k Q (q F H v (.rfl' s) (hv F))
def dLen : List D → Option D
  | [.list xs] => some (.int xs.length)
  | [.tuple xs] => some (.int xs.length)
  | [.str x] => if x.length ≤ 10000000 then some (.int x.length) else none
  | _ => none
theorem cd_len : CallD K (fun xs H Q => ∃ x n, xs = [x] ∧ LenV K x H n ∧ Q (.int (n : Nat)) H) dLen := .one fun F H vs ds z s ra hg => by
  unfold dLen at hg
  split at hg
  · rename_i xs
    cases hg
    cases ra with
    | cons r1 r2 =>
      cases r2
      cases r1 with
      | @lst a ws _ rd ra => exact ⟨_, fun G => .int _, fun Q q => ⟨_, xs.length, rfl, .inl ⟨ws, (sqS s rd), ra.len.symm⟩, q⟩⟩
  · rename_i xs
    cases hg
    cases ra with
    | cons r1 r2 =>
      cases r2
      cases r1 with
      | @tup a ws _ rd ra => exact ⟨_, fun G => .int _, fun Q q => ⟨_, xs.length, rfl, .inr ⟨ws, (tqS s rd), ra.len.symm⟩, q⟩⟩
  · rename_i x
    by_cases h : x.length ≤ 10000000
    · rw [if_pos h] at hg
      cases hg
      cases ra with
      | cons r1 r2 =>
        cases r2
        cases r1
        exact ⟨_, fun G => .int _, fun Q q => ⟨_, x.length, rfl, ⟨Nat.le_trans h (by decide), rfl⟩, q⟩⟩
    · rw [if_neg h] at hg
      cases hg
  · cases hg
/-- len of an owned list -/
def mLenO (i : Nat) : DS → Option D := fun δ => match δ[i]? with
  | some (some (.own ds)) => some (.int ds.length)
  | _ => none
theorem ev_lenO {i : Nat} : Ev K (tCB (fun xs H Q => ∃ x n, xs = [x] ∧ LenV K x H n ∧ Q (.int (n : Nat)) H) (tCons (tVar i) tNil)) (mLenO i) := fun F H σ δ r d e Q q => by
  unfold mLenO at e
  split at e
  · rename_i ds hi
    cases e
    obtain ⟨p, ws, hs, nf, hp, ra⟩ := r.own i ds hi
    exact ⟨_, hs, _, ds.length, rfl, .inl ⟨ws, .inl (.inl hp), ra.len.symm⟩, q F H _ (.rfl' r.fh) (.int _)⟩
  · cases e
def dInt : List D → Option D
  | [.int i] => some (.int i)
  | [.bool b] => some (.int (if b then 1 else 0))
  | _ => none
theorem cd_int : CallD K (fun xs H Q => (∃ i, xs = [.int i] ∧ Q (.int i) H) ∨ ∃ k, xs = [.bl k] ∧ Q (.int (if k then 1 else 0)) H) dInt := .one fun F H vs ds z s ra hg => by
  unfold dInt at hg
  split at hg
  · cases hg
    cases ra with
    | cons r1 r2 =>
      cases r2
      cases r1
      exact ⟨_, fun G => .int _, fun Q q => .inl ⟨_, rfl, q⟩⟩
  · cases hg
    cases ra with
    | cons r1 r2 =>
      cases r2
      cases r1
      exact ⟨_, fun G => .int _, fun Q q => .inr ⟨_, rfl, q⟩⟩
  · cases hg
def dAbs : List D → Option D
  | [.int i] => some (.int (if i < 0 then -i else i))
  | _ => none
theorem cd_abs : CallD K (fun xs H Q => ∃ i, xs = [.int i] ∧ Q (.int (if i < 0 then -i else i)) H) dAbs := .one fun F H vs ds z s ra hg => by
  unfold dAbs at hg
  split at hg
  · cases hg
    cases ra with
    | cons r1 r2 =>
      cases r2
      cases r1
      exact ⟨_, fun G => .int _, fun Q q => ⟨_, rfl, q⟩⟩
  · cases hg
def dMax2 : List D → Option D
  | [.int i, .int j] => some (.int (if j > i then j else i))
  | _ => none
def dMin2 : List D → Option D
  | [.int i, .int j] => some (.int (if j < i then j else i))
  | _ => none
theorem cd_max2 : CallD K (fun xs H Q => ∃ i j, xs = [.int i, .int j] ∧ Q (.int (if j > i then j else i)) H) dMax2 := .one fun F H vs ds z s ra hg => by
  unfold dMax2 at hg
  split at hg
  · cases hg
    cases ra with
    | cons r1 r2 =>
      cases r2 with
      | cons r2 r3 =>
        cases r3
        cases r1
        cases r2
        exact ⟨_, fun G => .int _, fun Q q => ⟨_, _, rfl, q⟩⟩
  · cases hg
theorem cd_min2 : CallD K (fun xs H Q => ∃ i j, xs = [.int i, .int j] ∧ Q (.int (if j < i then j else i)) H) dMin2 := .one fun F H vs ds z s ra hg => by
  unfold dMin2 at hg
  split at hg
  · cases hg
    cases ra with
    | cons r1 r2 =>
      cases r2 with
      | cons r2 r3 =>
        cases r3
        cases r1
        cases r2
        exact ⟨_, fun G => .int _, fun Q q => ⟨_, _, rfl, q⟩⟩
  · cases hg
def asBs : List D → Option (List Bool)
  | [] => some []
  | .bool b :: ds => (asBs ds).map fun r => b :: r
  | _ :: _ => none
theorem asBs_some : ∀ {ds : List D} {bs : List Bool}, asBs ds = some bs → ds = bs.map PyData.bool
  | [], _, h => by cases h; rfl
  | .bool b :: ds, bs, h => by
    unfold asBs at h
    obtain ⟨r, hr, rfl⟩ := Option.map_eq_some_iff.mp h
    rw [asBs_some hr]
    rfl
  | .none :: _, _, h => by cases h
  | .int _ :: _, _, h => by cases h
  | .str _ :: _, _, h => by cases h
  | .list _ :: _, _, h => by cases h
  | .tuple _ :: _, _, h => by cases h
  | .dict _ :: _, _, h => by cases h
def asIs : List D → Option (List Int)
  | [] => some []
  | .int b :: ds => (asIs ds).map fun r => b :: r
  | _ :: _ => none
theorem asIs_some : ∀ {ds : List D} {bs : List Int}, asIs ds = some bs → ds = bs.map PyData.int
  | [], _, h => by cases h; rfl
  | .int b :: ds, bs, h => by
    unfold asIs at h
    obtain ⟨r, hr, rfl⟩ := Option.map_eq_some_iff.mp h
    rw [asIs_some hr]
    rfl
  | .none :: _, _, h => by cases h
  | .bool _ :: _, _, h => by cases h
  | .str _ :: _, _, h => by cases h
  | .list _ :: _, _, h => by cases h
  | .tuple _ :: _, _, h => by cases h
  | .dict _ :: _, _, h => by cases h
def dAll : List D → Option D
  | [.list ds] => (asBs ds).map fun bs => .bool (bs.all id)
  | _ => none
def dAny : List D → Option D
  | [.list ds] => (asBs ds).map fun bs => .bool (bs.any id)
  | _ => none
def dSum : List D → Option D
  | [.list ds] => (asIs ds).map fun ns => .int ns.sum
  | _ => none
theorem cd_all : CallD K (rAll K) dAll := .one fun F H vs ds z s ra hg => by
  unfold dAll at hg
  split at hg
  · obtain ⟨bs, hb, rfl⟩ := Option.map_eq_some_iff.mp hg
    have e := asBs_some hb
    subst e
    cases ra with
    | cons r1 r2 =>
      cases r2
      cases r1 with
      | @lst a ws _ rd ra =>
        have e := ra.bls
        subst e
        exact ⟨_, fun G => .bl _, fun Q q => ⟨a, bs, rfl, (sqS s rd), q⟩⟩
  · cases hg
theorem cd_any : CallD K (rAny K) dAny := .one fun F H vs ds z s ra hg => by
  unfold dAny at hg
  split at hg
  · obtain ⟨bs, hb, rfl⟩ := Option.map_eq_some_iff.mp hg
    have e := asBs_some hb
    subst e
    cases ra with
    | cons r1 r2 =>
      cases r2
      cases r1 with
      | @lst a ws _ rd ra =>
        have e := ra.bls
        subst e
        exact ⟨_, fun G => .bl _, fun Q q => ⟨a, bs, rfl, (sqS s rd), q⟩⟩
  · cases hg
theorem cd_sum : CallD K (rSum K) dSum := .one fun F H vs ds z s ra hg => by
  unfold dSum at hg
  split at hg
  · obtain ⟨bs, hb, rfl⟩ := Option.map_eq_some_iff.mp hg
    have e := asIs_some hb
    subst e
    cases ra with
    | cons r1 r2 =>
      cases r2
      cases r1 with
      | @lst a ws _ rd ra =>
        have e := ra.ints
        subst e
        exact ⟨_, fun G => .int _, fun Q q => ⟨a, bs, rfl, (sqS s rd), q⟩⟩
  · cases hg
/-- list(xs) -/
def dListOf : List D → Option (List D)
  | [.list xs] => some xs
  | [.tuple xs] => some xs
  | _ => none
theorem co_list : CallO K (fun xs H Q => ∃ p ys, xs = [.ref p] ∧ (SqL K H p ys ∨ SqT K H p ys) ∧ ∀ l, H l = none → Q (.ref l) (upd H l (.lst ys))) dListOf := fun F H vs ds z s ra hg Q q => by
  unfold dListOf at hg
  split at hg
  · cases hg
    cases ra with
    | cons r1 r2 =>
      cases r2
      cases r1 with
      | @lst a ws _ rd ra => exact ⟨a, ws, rfl, .inl (sqS s rd), fun l hl => q F _ l _ (Mv.newO s hl) hl (s.free hl) upd_same ra⟩
  · cases hg
    cases ra with
    | cons r1 r2 =>
      cases r2
      cases r1 with
      | @tup a ws _ rd ra => exact ⟨a, ws, rfl, .inr (tqS s rd), fun l hl => q F _ l _ (Mv.newO s hl) hl (s.free hl) upd_same ra⟩
  · cases hg
/-- isinstance(x, T) -/
def tyName : D → String
  | .none => "NoneType"
  | .bool _ => "bool"
  | .int _ => "int"
  | .str _ => "str"
  | .list _ => "list"
  | .tuple _ => "tuple"
  | .dict _ => "dict"
theorem tyX {F H : Hp} {v : V} {d : D} (s : Same F H) (r : Rp K F v d) : TyX K H v (.type (tyName d)) := by
  cases r with
  | non => exact .base .non
  | bl b => exact .base (.bl b)
  | int i => exact .base (.int i)
  | str x => exact .base (.str x)
  | lst rd _ =>
    rcases sqS s rd with (h | ⟨o, h⟩) | ⟨o, its, n, e, c, _⟩
    · exact .base (.lst h)
    · exact .base (.frz h)
    · exact .kList e c
  | tup rd _ =>
    rcases tqS s rd with (h | ⟨o, h⟩) | ⟨o, its, n, e, c, _⟩
    · exact .base (.tup h)
    · exact .fTuple h
    · exact .kTuple e c
  | dic h => exact .base (.dK (s _ _ h))
  | dii h => exact .base (.dK (s _ _ h))
def isiD (T : String) (d : D) : Option D := (kitB (tyName d) T).map .bool
def mIsi (T : String) (m : DS → Option D) : DS → Option D := fun δ => (m δ).bind (isiD T)
theorem ev_isi {T : String} {te : TE} {m : DS → Option D} (h : Ev K te m) : Ev K (tCB (rIsi K) (tCons te (tCons (tC (.ty T)) tNil))) (mIsi T m) := fun F H σ δ r d e Q q => by
  obtain ⟨a, ha, e⟩ := Option.bind_eq_some_iff.mp e
  obtain ⟨b, hb, rfl⟩ := Option.map_eq_some_iff.mp e
  refine h F H σ δ r a ha _ fun F1 H1 v m1 rp => ?_
  exact ⟨v, .ty T, _, .type T, b, rfl, .ty T, tyX m1.fh rp, kit_ty hb, q F1 H1 _ m1 (.bl b)⟩

/-! min(xs, default=d), max(xs, default=d): ints -/
theorem reads_ints {h : Heap} : ∀ {us : List Value} {ns : List Int}, Vals (ns.map V.int) us → ∃ as, ReadsAll h us (ns.map PyData.int) as
  | us, [], r => by
    cases r
    exact ⟨_, .nil⟩
  | us, n :: ns, r => by
    cases r with
    | cons r1 r2 =>
      obtain ⟨t, rfl⟩ := r1
      obtain ⟨as, q⟩ := reads_ints r2
      exact ⟨_, .cons (.int n t) q⟩
end Dl
namespace Dl
open PySem PySem.Spec PyProof.Rows L2
variable {K : PySem.W.Frag}

/-! ### min(xs, default=d), max(xs, default=d) of ints -/
theorem alike_ints (ns : List Int) : PySem.W.AlikeAll (ns.map PyData.int) := by
  refine ⟨fun x hx y hy => ?_, fun x hx z => ?_⟩
  · obtain ⟨a, _, rfl⟩ := List.mem_map.mp hx
    obtain ⟨b, _, rfl⟩ := List.mem_map.mp hy
    simp [PySem.W.alike]
  · obtain ⟨a, _, rfl⟩ := List.mem_map.mp hx
    cases z
theorem depth_ints : ∀ ns : List Int, PyData.depthAll (ns.map PyData.int) = 0
  | [] => rfl
  | n :: ns => by
    rw [List.map_cons, PyData.depthAll, depth_ints ns]
    rfl
def rMinDf (K : PySem.W.Frag) (pick : Int → Int → Int) : List V → List V → Hp → VK → Prop := fun xs zs H Q => ∃ (a : Addr) (ns : List Int) (v : V), xs = [.ref a] ∧ zs = [v] ∧ SqL K H a (ns.map V.int) ∧ (ns = [] → Q v H) ∧ ∀ n r, ns = n :: r → Q (.int (r.foldl pick n)) H
section
variable {X : Cx}
theorem cr_minDf {k : Nat} (hr : Room k X.A) : CallRK X (.builtin "min") [Str.ofString "default"] (rMinDf X.K min) := by
  intro pins s σ H xs zs us ws Q I r1 r2 h
  obtain ⟨a, ns, v, rfl, rfl, hs, q0, q1⟩ := h
  obtain ⟨u, rfl, ru⟩ := vals1 r1
  obtain ⟨w, rfl, rw'⟩ := vals1 r2
  cases ru
  obtain ⟨its, rv, hl, _⟩ := I.list hs
  obtain ⟨as, hra⟩ := reads_ints (h := s.heap) rv
  show wpAny _ _ (call (.builtin "min") [.ref a] [(Str.ofString "default", w)]) _ _ _
  refine PySem.W.min_list_default (xs := ns.map PyData.int) hr.hd hl.isList (by simpa using hra) (alike_ints ns) (by rw [depth_ints]; have := hr.un; omega) (fun e h' tk hk => ?_) (fun y ys i v' h' tk bs e hi hrd hk => ?_)
  · exact ⟨v, H, I.kept hk, rw', q0 (List.map_eq_nil_iff.mp e)⟩
  · cases ns with
    | nil => cases e
    | cons n r =>
      cases e
      rw [PySem.W.minD_ints] at hrd
      cases hrd
      exact ⟨.int _, H, I.kept hk, ⟨_, rfl⟩, q1 n r rfl⟩
theorem cr_maxDf {k : Nat} (hr : Room k X.A) : CallRK X (.builtin "max") [Str.ofString "default"] (rMinDf X.K max) := by
  intro pins s σ H xs zs us ws Q I r1 r2 h
  obtain ⟨a, ns, v, rfl, rfl, hs, q0, q1⟩ := h
  obtain ⟨u, rfl, ru⟩ := vals1 r1
  obtain ⟨w, rfl, rw'⟩ := vals1 r2
  cases ru
  obtain ⟨its, rv, hl, _⟩ := I.list hs
  obtain ⟨as, hra⟩ := reads_ints (h := s.heap) rv
  show wpAny _ _ (call (.builtin "max") [.ref a] [(Str.ofString "default", w)]) _ _ _
  refine PySem.W.max_list_default (xs := ns.map PyData.int) hr.hd hl.isList (by simpa using hra) (alike_ints ns) (by rw [depth_ints]; have := hr.un; omega) (fun e h' tk hk => ?_) (fun y ys i v' h' tk bs e hi hrd hk => ?_)
  · exact ⟨v, H, I.kept hk, rw', q0 (List.map_eq_nil_iff.mp e)⟩
  · cases ns with
    | nil => cases e
    | cons n r =>
      cases e
      rw [PySem.W.maxD_ints] at hrd
      cases hrd
      exact ⟨.int _, H, I.kept hk, ⟨_, rfl⟩, q1 n r rfl⟩
end
def CallKD (K : PySem.W.Frag) (r : List V → List V → Hp → VK → Prop) (g : List D → List D → Option D) : Prop := ∀ F H vs zs ds es z, Same F H → RpA K F vs ds → RpA K F zs es → g ds es = some z → ∀ Q : VK, (∀ F' H' v, Mv F H F' H' → Rp K F' v z → Q v H') → r vs zs H Q
def mCallK (ms mk : DS → Option (List D)) (g : List D → List D → Option D) : DS → Option D := fun δ => (ms δ).bind fun a => (mk δ).bind fun b => g a b
theorem ev_ckw {n k : Nat} {r : List V → List V → Hp → VK → Prop} {t tk : TA} {ms mk : DS → Option (List D)} {g : List D → List D → Option D} (ha : EvA K n t ms) (hb : EvA K k tk mk) (hc : CallKD K r g) : Ev K (tCKw r t tk) (mCallK ms mk g) := fun F H σ δ rl d e Q q => by
  obtain ⟨a, ea, e⟩ := Option.bind_eq_some_iff.mp e
  obtain ⟨b, eb, e⟩ := Option.bind_eq_some_iff.mp e
  refine ha F H σ δ rl a ea _ fun F1 H1 vs m1 r1 hl => ?_
  refine hb F1 H1 σ δ (rl.mv m1) b eb _ fun F2 H2 zs m2 r2 hl2 => ?_
  exact hc F2 H2 vs zs a b d m2.fh (r1.mono m2.f) r2 e Q fun F3 H3 v m3 r3 => q F3 H3 v ((m1.trans m2).trans m3) r3
def dPick (pick : Int → Int → Int) : List D → List D → Option D
  | [.list ds], [e] => match asIs ds with
    | some [] => some e
    | some (n :: r) => some (.int (r.foldl pick n))
    | none => none
  | _, _ => none
theorem ck_pick {pick : Int → Int → Int} : CallKD K (rMinDf K pick) (dPick pick) := fun F H vs zs ds es z s r1 r2 hg Q q => by
  unfold dPick at hg
  split at hg
  · rename_i ds e
    cases r1 with
    | cons a1 a2 =>
      cases a2
      cases r2 with
      | cons b1 b2 =>
        cases b2
        cases a1 with
        | @lst a ws _ rd ra =>
          split at hg
          · rename_i hn
            cases hg
            have e1 := asIs_some hn
            subst e1
            have e2 := RpA.ints (ns := []) ra
            subst e2
            exact ⟨a, [], _, rfl, rfl, (sqS s rd), fun _ => q F H _ (.rfl' s) b1, fun n r z => (nomatch z)⟩
          · rename_i n r hn
            cases hg
            have e1 := asIs_some hn
            subst e1
            have e2 := RpA.ints (ns := n :: r) ra
            subst e2
            refine ⟨a, n :: r, _, rfl, rfl, (sqS s rd), fun z => (nomatch z), fun n' r' z => ?_⟩
            cases z
            exact q F H _ (.rfl' s) (.int _)
          · cases hg
  · cases hg

/-! ### repr of lists and tuples (where no repr runs) -/
def rRepr (K : PySem.W.Frag) : List V → Hp → VK → Prop := fun xs H Q => ∃ (a : Addr) (d : D), xs = [.ref a] ∧ Dp K H (.ref a) d ∧ d.showable = true ∧ d.hasDict = false ∧ d.depth ≤ 60 ∧ d.shown.length ≤ 10000000 ∧ Q (.str d.shown) H
theorem cr_repr {X : Cx} {k : Nat} (hr : Room k X.A) (hg : X.A.guards = some []) : CallR X (.builtin "repr") (rRepr X.K) := by
  intro pins s σ H xs us Q I r h
  obtain ⟨a, d, rfl, hd, h1, h2, h3, h4, q⟩ := h
  obtain ⟨u, rfl, ru⟩ := vals1 r
  cases ru
  obtain ⟨as, hrd⟩ := Dp.reads I d _ _ hd rfl
  have hu : X.A.units + (d.depth + 1) < cLine := by
    have := hr.un
    omega
  refine repr_of_reads' hrd h1 (PyData.noDict_hsm h2) hg hu (fun _ _ e => e) (fun h' u tk hk => ?_) (Nat.le_trans h4 (by decide))
  exact ⟨.str _, H, I.kept hk, ⟨_, rfl⟩, q⟩
def reprOk (d : D) : Bool := d.showable && decide (d.depth ≤ 60) && decide (d.shown.length ≤ 10000000) && !d.hasDict
def dRepr : List D → Option D
  | [.list ds] => if reprOk (.list ds) = true then some (.str (PyData.list ds).shown) else none
  | [.tuple ds] => if reprOk (.tuple ds) = true then some (.str (PyData.tuple ds).shown) else none
  | _ => none
theorem cd_repr : CallD K (rRepr K) dRepr := .one fun F H vs ds z s ra hg => by
  unfold dRepr at hg
  split at hg
  · rename_i es
    by_cases h : reprOk (.list es) = true
    · rw [if_pos h] at hg
      cases hg
      unfold reprOk at h
      rw [Bool.and_eq_true, Bool.and_eq_true, Bool.and_eq_true] at h
      obtain ⟨h, nd⟩ := h
      have nd : PyData.hasDict (.list es) = false := by simpa using nd
      cases ra with
      | cons r1 r2 =>
        cases r2
        have r1' := (r1.mono s).dp (K := K) nd
        cases r1 with
        | @lst a ws _ rd ra => exact ⟨_, fun G => .str _, fun Q q => ⟨a, _, rfl, r1', h.1.1, nd, of_decide_eq_true h.1.2, of_decide_eq_true h.2, q⟩⟩
    · rw [if_neg h] at hg
      cases hg
  · rename_i es
    by_cases h : reprOk (.tuple es) = true
    · rw [if_pos h] at hg
      cases hg
      unfold reprOk at h
      rw [Bool.and_eq_true, Bool.and_eq_true, Bool.and_eq_true] at h
      obtain ⟨h, nd⟩ := h
      have nd : PyData.hasDict (.tuple es) = false := by simpa using nd
      cases ra with
      | cons r1 r2 =>
        cases r2
        have r1' := (r1.mono s).dp (K := K) nd
        cases r1 with
        | @tup a ws _ rd ra => exact ⟨_, fun G => .str _, fun Q q => ⟨a, _, rfl, r1', h.1.1, nd, of_decide_eq_true h.1.2, of_decide_eq_true h.2, q⟩⟩
    · rw [if_neg h] at hg
      cases hg
  · cases hg

/-! ### a def by its body -/
def startD (n : Nat) (ds : List D) : DS := ds.map (fun d => some (.val d)) ++ List.replicate (n - ds.length) none
def fnD (n k : Nat) (mm : DS → Option Out) : List D → Option DV := fun ds => if ds.length = k then
    match mm (startD n ds) with
    | some (.nx _) => some (.val .none)
    | some (.rt r) => some r
    | _ => none
  else none
theorem start_get {N : List Str} {vs : List V} {i : Nat} : (L2.start N vs)[i]? = if i < vs.length then (vs[i]?).map some else if i < vs.length + (N.length - vs.length) then some none else none := by
  unfold L2.start
  by_cases h : i < vs.length
  · rw [if_pos h, List.getElem?_append_left (by rw [List.length_map]; exact h), List.getElem?_map]
  · rw [if_neg h, List.getElem?_append_right (by rw [List.length_map]; omega), List.length_map, List.getElem?_replicate]
    by_cases h2 : i < vs.length + (N.length - vs.length)
    · rw [if_pos h2, if_pos (by omega)]
    · rw [if_neg h2, if_neg (by omega)]
theorem rel_start {F H : Hp} {N : List Str} {vs : List V} {ds : List D} (s : Same F H) (ra : RpA K F vs ds) : RelS K F H F H (L2.start N vs) (startD N.length ds) := by
  have hl := ra.len
  have get : ∀ (i : Nat) r, (startD N.length ds)[i]? = some (some r) → ∃ d, r = .val d ∧ ds[i]? = some d := fun i r h => by
    unfold startD at h
    by_cases hi : i < ds.length
    · rw [List.getElem?_append_left (by rw [List.length_map]; exact hi), List.getElem?_map] at h
      obtain ⟨d, h1, h2⟩ := Option.map_eq_some_iff.mp h
      exact ⟨d, (Option.some.inj h2).symm, h1⟩
    · rw [List.getElem?_append_right (by rw [List.length_map]; omega), List.getElem?_replicate] at h
      split at h <;> cases h
  refine ⟨⟨s, ?_, fun i d h => ?_, fun i es h => ?_⟩, Same.refl _, Same.refl _, fun _ _ h => h, fun i es p h => ?_, fun i j es fs p _ h => ?_⟩
  · unfold L2.start startD
    rw [List.length_append, List.length_append, List.length_map, List.length_map, List.length_replicate, List.length_replicate, hl]
  · obtain ⟨d', e, hd⟩ := get i _ h
    cases e
    obtain ⟨v, hv, rv⟩ := ra.get hd
    refine ⟨v, ?_, rv⟩
    rw [start_get, if_pos (List.getElem?_eq_some_iff.mp hv).1, hv]
    rfl
  · obtain ⟨d', e, hd⟩ := get i _ h
    cases e
  · obtain ⟨d', e, hd⟩ := get i _ h
    cases e
  · obtain ⟨d', e, hd⟩ := get i _ h
    cases e
theorem fnD_go {t : TS} {mm : DS → Option Out} (h : SD K t mm) {N : List Str} {k : Nat} {vs : List V} {H : Hp} {Q : VK} {E : XK} (sp : spD K (fnD N.length k mm) vs H Q E) : t { nx := fun _ H' => Q .non H', rt := Q } (L2.start N vs) H := by
  obtain ⟨F, ds, r, s, ra, e, q⟩ := sp
  unfold fnD at e
  by_cases hk : ds.length = k
  · rw [if_pos hk] at e
    have rl := rel_start (N := N) s ra
    split at e
    · rename_i δ' hm
      cases e
      refine h F H F H _ _ rl _ hm _ fun F' H' σ s' r' => ?_
      exact q F' H' _ r'.back .non
    · rename_i r' hm
      cases e
      refine h F H F H _ _ rl _ hm _ fun F' H' v mv rk => ?_
      exact q F' H' v mv rk
    · cases e
  · rw [if_neg hk] at e
    cases e
theorem fnD_len {n k : Nat} {mm : DS → Option Out} {vs : List V} {H : Hp} {Q : VK} {E : XK} (sp : spD K (fnD n k mm) vs H Q E) : vs.length = k := by
  obtain ⟨F, ds, r, s, ra, e, q⟩ := sp
  unfold fnD at e
  by_cases hk : ds.length = k
  · rw [ra.len, hk]
  · rw [if_neg hk] at e
    cases e
section
variable {P : Program} {w : World} {mg : Str → Option Value} {base : Heap}
/-- THE RULE for a def of data -/
theorem okD {x qual : Str} {st : Stmt} {f : Addr} {fd : FuncData} {N ps : List Str} {k : Nat} {mm : DS → Option Out} (F : Fun K x qual st f fd) (S : FnScope N ps (defScope st))
    (hbody : ∀ (cdv : Value) (A : Around) (outer : List Env) (s : Shared) (H : Hp) (E : XK), Room k (A.deeper (envOfC qual (defScope st) s.heap.objs.size f cdv)) →
      ∃ t, PSs (cxOf CX0 P w K mg base N qual (defScope st) f cdv A outer s H E).nox (defBody st) t ∧ SD K t mm) : FnOk P w K mg base CX0 (k + 1) f fd ps (spD K (fnD N.length ps.length mm)) := by
  refine F.ok S (fun vs H Q E h => fnD_len h) (fun cdv A outer s H vs Q E hr h => ?_)
  obtain ⟨t, h1, h2⟩ := hbody cdv A outer s H E hr
  exact ⟨t, h1, fnD_go h2 h⟩
/-- nothing promised -/
theorem okNo {f : Addr} {fd : FuncData} {ps : List Str} {k : Nat} : FnOk P w K mg base CX0 k f fd ps (spD K fun _ => none) := by
  refine ⟨fun vs H Q E h => ?_, fun A outer s H args us vs Q E hr e0 hb r h => ?_⟩
  · obtain ⟨F, ds, r, s, ra, e, q⟩ := h
    cases e
  · obtain ⟨F, ds, r, s, ra, e, q⟩ := h
    cases e
/-- a def of the text that keeps its promise, with all that a call of it wants -/
structure Df (P : Program) (w : World) (K : PySem.W.Frag) (mg : Str → Option Value) (base : Heap) (k : Nat) (x : Str) (ps : List Str) (fm : List D → Option DV) : Prop where
  ex : ∃ (f : Addr) (fd : FuncData), mg x = some (.ref f) ∧ PySem.W.keepIn K (.ref f) = true ∧ Binds K fd ps [] ∧ FnOk P w K mg base CX0 k f fd ps (spD K fm)
theorem Df.mono {j k : Nat} {x : Str} {ps : List Str} {fm : List D → Option DV} (h : Df P w K mg base j x ps fm) (hk : j ≤ k) : Df P w K mg base k x ps fm := by
  obtain ⟨f, fd, h1, h2, h3, h4⟩ := h.ex
  exact ⟨f, fd, h1, h2, h3, h4.mono hk⟩
/-- what the top has of a def -/
structure Tx (K : PySem.W.Frag) (mg : Str → Option Value) (x : Str) (st : Stmt) (ps : List Str) (f : Addr) (fd : FuncData) : Prop where
  fn : Fun K x x st f fd
  gl : mg x = some (.ref f)
  bd : Binds K fd ps []
theorem Tx.df {x : Str} {st : Stmt} {N ps : List Str} {k : Nat} {mm : DS → Option Out} {f : Addr} {fd : FuncData} (T : Tx K mg x st ps f fd) (S : FnScope N ps (defScope st))
    (hbody : ∀ (cdv : Value) (A : Around) (outer : List Env) (s : Shared) (H : Hp) (E : XK), Room k (A.deeper (envOfC x (defScope st) s.heap.objs.size f cdv)) →
      ∃ t, PSs (cxOf CX0 P w K mg base N x (defScope st) f cdv A outer s H E).nox (defBody st) t ∧ SD K t mm) : Df P w K mg base (k + 1) x ps (fnD N.length ps.length mm) :=
  ⟨f, fd, T.gl, T.fn.kp, T.bd, okD T.fn S hbody⟩
theorem Tx.no {x : Str} {st : Stmt} {ps : List Str} {k : Nat} {f : Addr} {fd : FuncData} (T : Tx K mg x st ps f fd) : Df P w K mg base k x ps fun _ => none :=
  ⟨f, fd, T.gl, T.fn.kp, T.bd, okNo⟩
end
/-- a call of such a def -/
theorem pe_d {X : Cx} {k : Nat} {x : Str} {ps : List Str} {fm : List D → Option DV} {p pos : Pos} {e : Expr} {es : List Expr} {t : TA} (Dx : Df X.prog X.w X.K X.mg X.base k x ps fm) (hr : Room k X.A) (hg : Gl X x) (ha : PA X (e :: es) t)
    (he : starEach (e :: es) X.env = (false, eval e X.env) :: starEach es X.env := by rfl) (hpl : (backTo pos (starEach es X.env)).any (·.1) = false := by rfl) (hdb : (x == ("__debug__" : Str)) = false := by decide) :
    PE X (.Call (.Name x p) (e :: es) [] pos) (tCall (spD X.K fm) [] E0 t) := by
  obtain ⟨f, fd, h1, h2, h3, h4⟩ := Dx.ex
  exact pe_call h4 hr hg h1 h2 h3 .nil pass0 ha hdb he hpl
end Dl
namespace Dl
open PySem PySem.Spec PyProof.Rows L2
variable {K : PySem.W.Frag}

/-! ### the law's own call, made by the caller: there no repr runs -/
section
variable {P : Program} {w : World} {mg mb : Str → Option Value}
/-- a def called by the caller itself -/
theorem run_top {base : Heap} {x qual : Str} {st : Stmt} {f : Addr} {fd : FuncData} {N : List Str} {ps : List Str} {mm : DS → Option Out} {s : Shared} {H : Hp} {args : Args} {us : List Value} {vs : List V} {Q : VK} (T : Fun K x qual st f fd) (S : FnScope N ps (defScope st))
    (e0 : Env0 P w K mg base callerA [] s H) (hb : BindsTo s fd args (ps.zip us)) (rv : Vals vs us) (sp : spD K (fnD N.length ps.length mm) vs H Q E0)
    (hbody : ∀ (cdv : Value) (s : Shared) (H : Hp) (E : XK), ∃ t, PSs (cxOf CX0 P w K mg base N qual (defScope st) f cdv callerA [] s H E).nox (defBody st) t ∧ SD K t mm) :
    codeAny (model P w) callerA (.call (.ref f) args) (CR CX0 [] P w H s Q E0) s := by
  obtain ⟨oc, od, kV, doc, pm, an, cdv, ct, osl, rfl, lk, hcd⟩ := T.ex
  have hl : vs.length = ps.length := fnD_len sp
  have KX : K.In s.heap := e0.mod.kin.keeps fun b o e => (e0.bs b o e).1
  have lim : s.heap.NoLimit := e0.mod.nolimit.keeps fun b o e => (e0.bs b o e).1
  have kinds : ((ps.zip us).all fun y => (defScope st).names.lookup y.1 == some NameKind.local || (defScope st).names.lookup y.1 == some NameKind.cell) = true := by
    rw [List.all_eq_true]
    intro y hy
    rcases S.par y.1 (List.of_mem_zip (show (y.1, y.2) ∈ ps.zip us from hy)).1 with q | q
    · rw [q]; rfl
    · rw [q]; rfl
  refine Att.call_fn KX lim lk hcd (by decide) hb kinds (fun s1 x1 => ?_) S.co S.gen S.kind
  obtain ⟨t, ht, hs⟩ := hbody cdv s H E0
  have I := inv_start (CX := CX0) (P := P) (w := w) (mg := mg) (qual := qual) (f := f) (cd := cdv) (E := E0) S (show callerA.handled = none from rfl) e0 hl rv x1
  refine wpAny_mono (ht.nox.run [] s1 (L2.start N vs) H _ I (fnD_go hs sp)) (fun fl s' h => ?_) fun e s' h => h
  have fin : ∀ {σ' : L2.St} {H' : Hp} {v : V} {u : Value}, Inv (cxOf CX0 P w K mg base N qual (defScope st) f cdv callerA [] s H E0) [] σ' H' s' → RelV v u → Q v H' → CE [] P w H s Q u s' :=
    fun {σ' H' v u} J r q => ⟨v, H', J.os, J.bare, J.base, J.hok, r, q⟩
  cases fl with
  | next =>
    obtain ⟨σ', H', J, q⟩ := h
    exact fin (v := V.non) (u := Value.none) J rfl q
  | ret u =>
    obtain ⟨v, σ', H', J, r, q⟩ := h
    exact fin J r q
  | brk =>
    obtain ⟨_, _, _, q⟩ := h
    exact q.elim
  | cont =>
    obtain ⟨_, _, _, q⟩ := h
    exact q.elim

theorem ints_rp {F : Hp} : ∀ ns : List Int, RpA K F (ns.map V.int) (ns.map PyData.int)
  | [] => .nil
  | n :: r => .cons (.int n) (ints_rp r)
/-- from a heap in which at most the script is tracked -/
theorem top_call {fa a : Addr} {fd : FuncData} {st : Stmt} {N : List Str} {mm : DS → Option Out} {s : Shared} {vs : List Value} {ns : List Int} {H : Hp} (T : Fun K "law" "law" st fa fd) (S : FnScope N ["script"] (defScope st))
    (kin : K.In s.heap) (hns : s.heap.Ns mainGlobals mg) (hb : s.heap.Ns builtinsNs mb) (hbb : ∀ x : Str, x ≠ "__name__" → mb x = bootBuiltins x) (hlim : s.heap.NoLimit) (hg : s.gens = #[])
    (ha : s.heap.get? a = some { cls := .type "list", data := .seq vs.toArray }) (ok : HOk P w H s.heap) (sq : SqL K H a (ns.map V.int)) (off : ∀ b, b ≠ a → H b = none) (kh : H a ≠ none → K.lookup a = none) (fr : ∀ o, H a = some o → ∃ ob u, o = .frz ob u)
    (hbind : ∀ (s : Shared) (u : Value), BindsTo s fd ⟨[u], []⟩ [("script", u)]) (hm : mm (startD N.length [.list (ns.map PyData.int)]) = some (.rt (.val (.bool true))))
    (hbody : ∀ base : Heap, K.In base → base.Ns mainGlobals mg → ∀ (cdv : Value) (s : Shared) (H : Hp) (E : XK), ∃ t, PSs (cxOf CX0 P w K mg base N "law" (defScope st) fa cdv callerA [] s H E).nox (defBody st) t ∧ SD K t mm) :
    codeAny (model P w) callerA (.call (.ref fa) ⟨[.ref a], []⟩) (fun r s' => r = .ok (.ret (.bool true)) ∧ OldK s.heap s'.heap ∧ s'.os = s.os ∧ AllBare s'.gens) s := by
  have dictFree : ∀ {b : Addr} {o : Obj} {es : Array DictEntry} {ep : Nat}, s.heap.get? b = some o → o.data = .dict es ep → H b = none := fun {b o es ep} e d => by
    by_cases h : b = a
    · subst h
      rw [ha] at e
      cases e
      cases (show Data.seq vs.toArray _ = Data.dict es ep from d)
    · exact off b h
  have nsB : ∀ {b : Addr} {m : Str → Option Value}, s.heap.Ns b m → (hidT s.heap H).Ns b m := fun h => by
    obtain ⟨o, es, ep, e, d, r⟩ := h
    exact ⟨o, es, ep, hidT_get e (dictFree e d), d, r⟩
  have kinB : K.In (hidT s.heap H) := fun b o e => by
    refine hidT_get (kin b o e) ?_
    by_cases h : b = a
    · subst h
      cases q : H b with
      | none => rfl
      | some u =>
        rw [kh (by rw [q]; exact fun z => nomatch z)] at e
        cases e
    · exact off b h
  have md : Mod K mg (hidT s.heap H) := by
    obtain ⟨mc, l1, l2⟩ := hlim
    exact ⟨kinB, nsB hns, ⟨mb, nsB hb, hbb⟩, ⟨mc, nsB l1, l2⟩⟩
  have e0 : Env0 P w K mg (hidT s.heap H) callerA [] s H :=
    { frames := rfl, mod := md, bs := fun b o e => of_hidT e, bsz := Nat.le_of_eq (hidT_size _ _), funs := trivial, frf := (fun b z => by cases z), hok := ok, bare := .of_eq hg }
  have sp : spD K (fnD N.length (["script"] : List Str).length mm) [.ref a] H (fun v _ => v = .bl true) E0 := by
    refine ⟨H, [.list (ns.map PyData.int)], .val (.bool true), Same.refl _, .one (.lst sq (ints_rp ns)), ?_, fun F' H' v mv rk => ?_⟩
    · show (match mm (startD N.length [.list (ns.map PyData.int)]) with | some (.nx _) => some (DV.val .none) | some (.rt r) => some r | _ => none) = _
      rw [hm]
    · cases (show Rp K F' v (.bool true) from rk)
      rfl
  refine codeAny_mono (run_top (ps := ["script"]) (us := [.ref a]) (vs := [.ref a]) T S e0 (hbind s (.ref a)) (.cons rfl .nil) sp (hbody _ kinB (nsB hns))) fun r s' h => ?_
  cases r with
  | error e => exact False.elim h
  | ok fl =>
    cases fl with
    | ret u =>
      obtain ⟨v, H', os, bare, un, ok', r', q⟩ := h
      cases (show v = .bl true from q)
      cases (show u = Value.bool true from r')
      refine ⟨rfl, OldK.of_keep fun b o e => ?_, os, bare⟩
      cases q : H b with
      | none => exact un.keep b o e q (fun z => by cases z) (fun z => by cases z)
      | some ho =>
        have hba : b = a := by
          by_cases h : b = a
          · exact h
          · rw [off b h] at q
            cases q
        subst hba
        obtain ⟨ob, xs, rfl⟩ := fr _ q
        have e2 := (ok' _ _ (un.frzs _ _ _ q)).1
        have e1 := (ok _ _ q).1
        rw [e] at e1
        cases e1
        exact e2
    | next => exact False.elim h
    | brk => exact False.elim h
    | cont => exact False.elim h
end
/-- the goal that the head leaves, for a law of data -/
theorem walk_D {l : PySem.W.OpenLaw} {q : Program} {loose : List Str} {XP : (Str → Option Value) → Heap → Prop} {YP : World → Heap → Prop} {d : DefRec} {KK : Params → PySem.W.Frag} {st : Stmt} {N : List Str} {mm : DS → Option Out}
    (hn : l.most = some 63) (hdf : d.params.defaults = []) (hY : ∀ (w : World) (h : Heap), YP w h → (KK w.params).In h)
    (S : FnScope N ["script"] (defScope st))
    (F : ∀ (w : World) (mg : Str → Option Value) (fa : Addr) (h : Heap), (KK w.params).In h → h.Ns mainGlobals mg → mg d.name = some (.ref fa) →
      ∃ fd : FuncData, Fun (KK w.params) "law" "law" st fa fd ∧ (∀ (s : Shared) (u : Value), BindsTo s fd ⟨[u], []⟩ [("script", u)]) ∧
        ∀ base : Heap, (KK w.params).In base → base.Ns mainGlobals mg → ∀ (cdv : Value) (s : Shared) (H : Hp) (E : XK), ∃ t, PSs (cxOf CX0 l.prog w (KK w.params) mg base N "law" (defScope st) fa cdv callerA [] s H E).nox (defBody st) t ∧ SD (KK w.params) t mm)
    (hm : ∀ ns : List Int, ns.length ≤ 63 → mm (startD N.length [.list (ns.map PyData.int)]) = some (.rt (.val (.bool true)))) :
    PySem.W.WalkO q loose XP YP l.row.toRowW d [] (fun f vs => PySem.call f vs) := by
  refine Att.attach_call hn hdf fun w s₀ s₁ mg mb fa o pm cd doc a vs ns G Y ho hd hcd hmg hobj hints hlen hg => ?_
  have kin := hY w _ Y
  obtain ⟨fd, T, hb, hF⟩ := F w mg fa _ kin G.T.g hmg
  have rv := vals_ints hints
  have hl : (ns.map V.int).length ≤ sizeLine := by
    rw [List.length_map]
    exact Nat.le_trans hlen (by decide)
  cases hk : (KK w.params).lookup a with
  | some ob =>
    -- the script is an object of the module's own
    have e := kin a ob hk
    rw [hobj] at e
    cases e
    have sq : SqL (KK w.params) (fun _ => none) a (ns.map V.int) := .inr ⟨_, vs.toArray, _, hk, rfl, rfl, rfl, by rw [List.size_toArray, ← rv.length]; exact hl, by simpa using rv⟩
    exact top_call (H := fun _ => none) T S kin G.T.g G.T.b G.T.builtins G.T.nolimit hg hobj (fun b u z => (by cases z)) sq (fun _ _ => rfl) (fun z => absurd rfl z) (fun _ z => (by cases z)) hb (hm ns hlen) hF
  | none =>
    have at_a : (fun b => if b = a then some (HO.frz { cls := .type "list", data := .seq vs.toArray } (.lst (ns.map V.int))) else none : Hp) a = some (.frz { cls := .type "list", data := .seq vs.toArray } (.lst (ns.map V.int))) := if_pos rfl
    refine top_call (H := fun b => if b = a then some (.frz { cls := .type "list", data := .seq vs.toArray } (.lst (ns.map V.int))) else none) T S kin G.T.g G.T.b G.T.builtins G.T.nolimit hg hobj (fun b u z => ?_) (.inl (.inr ⟨_, at_a⟩)) (fun b h => if_neg h) (fun _ => hk) (fun o z => ?_) hb (hm ns hlen) hF
    · by_cases h : b = a
      · have z2 := (if_pos h).symm.trans z
        cases z2
        subst h
        exact ⟨hobj, hl, vs, _, rv, hobj⟩
      · cases (if_neg h).symm.trans z
    · have z2 := at_a.symm.trans z
      cases z2
      exact ⟨_, _, rfl⟩
end Dl
namespace Dl
open PySem PySem.Spec PyProof.Rows L2
variable {K : PySem.W.Frag}
def mYes : DS → Option Bool := fun _ => some true
theorem et_yes : EvT K tYes mYes := fun F H σ δ r b e Q q => by
  cases e
  exact q H (Same.refl _)
def mChain (g g' : D → D → Option D) (ma mb mc : DS → Option D) : DS → Option D := fun δ => (ma δ).bind fun a => (mb δ).bind fun b => match g a b with
  | some (.bool true) => (mc δ).bind fun c => g' b c
  | some (.bool false) => some (.bool false)
  | _ => none
theorem ev_chain {r r' : R2} {g g' : D → D → Option D} {ta tb tc : TE} {ma mb mc : DS → Option D} (ha : Ev K ta ma) (hb : Ev K tb mb) (hc : Ev K tc mc) (ho : OpD K r g) (ho' : OpD K r' g') : Ev K (tChain r r' ta tb tc) (mChain g g' ma mb mc) := fun F H σ δ rl d e Q q => by
  unfold mChain at e
  obtain ⟨a, ea, e⟩ := Option.bind_eq_some_iff.mp e
  obtain ⟨b, eb, e⟩ := Option.bind_eq_some_iff.mp e
  refine ha F H σ δ rl a ea _ fun F1 H1 x m1 r1 => ?_
  refine hb F1 H1 σ δ (rl.mv m1) b eb _ fun F2 H2 y m2 r2 => ?_
  have m12 := m1.trans m2
  split at e
  · rename_i hg
    obtain ⟨c, ec, e⟩ := Option.bind_eq_some_iff.mp e
    refine ho F2 H2 x y a b _ m2.fh (r1.mono m2.f) r2 hg _ fun F3 H3 v m3 r3 => ?_
    cases r3
    refine ⟨true, rfl, iteT ?_⟩
    have m13 := m12.trans m3
    refine hc F3 H3 σ δ (rl.mv m13) c ec _ fun F4 H4 z m4 r4 => ?_
    exact ho' F4 H4 y z b c d m4.fh ((r2.mono m3.f).mono m4.f) r4 e Q fun F5 H5 v m5 r5 => q F5 H5 v ((m13.trans m4).trans m5) r5
  · rename_i hg
    cases e
    refine ho F2 H2 x y a b _ m2.fh (r1.mono m2.f) r2 hg _ fun F3 H3 v m3 r3 => ?_
    cases r3
    exact ⟨false, rfl, iteF (q F3 H3 _ (m12.trans m3) (.bl false))⟩
  · cases e
/-- return f(..): what f hands back -/
def nRetC (ms : DS → Option (List D)) (f : List D → Option DV) : DS → Option Out := fun δ => (ms δ).bind fun ds => (f ds).map Out.rt
theorem sd_retC {n : Nat} {E : XK} {t : TA} {ms : DS → Option (List D)} {f : List D → Option DV} (ha : EvA K n t ms) : SD K (tRet (tCall (spD K f) [] E t)) (nRetC ms f) := fun F0 H0 F H σ δ r o e EE q => by
  obtain ⟨a, ea, e⟩ := Option.bind_eq_some_iff.mp e
  obtain ⟨d, ed, rfl⟩ := Option.map_eq_some_iff.mp e
  refine ha F H σ δ r.rel a ea _ fun F1 H1 vs m1 r1 hl => ?_
  refine ⟨F1, a, d, m1.fh, by rw [List.append_nil]; exact r1, ed, fun F2 H2 v m2 rk => ?_⟩
  have r1' := (r.mv m1)
  refine q F2 H2 v (r1'.back.trans m2) ?_
  cases d with
  | val d => exact rk
  | own ds =>
    obtain ⟨p, vs, h1, h2, h3, h4, h5⟩ := rk
    exact ⟨p, vs, h1, r1'.h0.free h2, h3, h4, h5⟩
/-- a new list times an int -/
def repD (ds : List D) (k : Int) : Option (List D) := if -1000000 ≤ k ∧ k ≤ 1000000 ∧ ds.length * k.toNat ≤ cap then some (List.replicate k.toNat ds).flatten else none
def mRep (ma : DS → Option (List D)) (mb : DS → Option D) : DS → Option (List D) := fun δ => match ma δ, mb δ with
  | some ds, some (.int k) => repD ds k
  | _, _ => none
theorem RpA.rep {F : Hp} {vs : List V} {ds : List D} (h : RpA K F vs ds) : ∀ n : Nat, RpA K F (List.replicate n vs).flatten (List.replicate n ds).flatten
  | 0 => .nil
  | n + 1 => by
    rw [List.replicate_succ, List.replicate_succ, List.flatten_cons, List.flatten_cons]
    exact h.app (RpA.rep h n)
theorem eo_rep {ta tb : TE} {ma : DS → Option (List D)} {mb : DS → Option D} (ha : EvO K ta ma) (hb : Ev K tb mb) : EvO K (tOp rRep ta tb) (mRep ma mb) := fun F H σ δ rl d e Q q => by
  unfold mRep at e
  split at e
  · rename_i ds k e1 e2
    unfold repD at e
    by_cases hc : -1000000 ≤ k ∧ k ≤ 1000000 ∧ ds.length * k.toNat ≤ cap
    · rw [if_pos hc] at e
      cases e
      refine ha F H σ δ rl ds e1 _ fun F1 H1 p vs m1 hp hf hq ra => ?_
      refine hb F1 H1 σ δ (rl.mv m1) _ e2 _ fun F2 H2 y m2 ry => ?_
      cases ry
      have m12 := m1.trans m2
      refine ⟨p, k, vs, rfl, rfl, m2.h _ _ hq, by omega, by omega, ?_, fun r hr => ?_⟩
      · rw [ra.len]
        exact Nat.le_of_lt (cap_lt hc.2.2)
      · exact q F2 _ r _ (m12.trans (Mv.newO m12.fh hr)) (m12.h.free hr) (m12.fh.free hr) upd_same ((ra.mono m2.f).rep _)
    · rw [if_neg hc] at e
      cases e
  · cases e
end Dl
namespace Dl
open PySem PySem.Spec PyProof.Rows L2

/-! ### how the mirrors evaluate -/
abbrev v (d : D) : Option DV := some (.val d)
@[simp] theorem mVar_0 {d : D} {r : DS} : mVar 0 (v d :: r) = some d := rfl
@[simp] theorem mVar_s {i : Nat} {x : Option DV} {r : DS} : mVar (i + 1) (x :: r) = mVar i r := rfl
@[simp] theorem mC_e {d : D} {δ : DS} : mC d δ = some d := rfl
@[simp] theorem m2_e {g : D → D → Option D} {ma mb : DS → Option D} {δ : DS} : m2 g ma mb δ = (ma δ).bind fun a => (mb δ).bind fun b => g a b := rfl
@[simp] theorem m2O_e {g : D → D → Option (List D)} {ma mb : DS → Option D} {δ : DS} : m2O g ma mb δ = (ma δ).bind fun a => (mb δ).bind fun b => g a b := rfl
@[simp] theorem m1_e {g : D → Option D} {ma : DS → Option D} {δ : DS} : m1 g ma δ = (ma δ).bind g := rfl
@[simp] theorem mNil_e {δ : DS} : mNil δ = some [] := rfl
@[simp] theorem mCons_e {ma : DS → Option D} {mr : DS → Option (List D)} {δ : DS} : mCons ma mr δ = (ma δ).bind fun a => (mr δ).bind fun r => some (a :: r) := rfl
@[simp] theorem mTup_e {ms : DS → Option (List D)} {δ : DS} : mTup ms δ = (ms δ).map .tuple := rfl
@[simp] theorem mLst_e {ms : DS → Option (List D)} {δ : DS} : mLst ms δ = (ms δ).map .list := rfl
@[simp] theorem mCall_e {ms : DS → Option (List D)} {g : List D → Option D} {δ : DS} : mCall ms g δ = (ms δ).bind g := rfl
@[simp] theorem mCallO_e {ms : DS → Option (List D)} {g : List D → Option (List D)} {δ : DS} : mCallO ms g δ = (ms δ).bind g := rfl
@[simp] theorem mCallF_e {ms : DS → Option (List D)} {f : List D → Option DV} {δ : DS} : mCallF ms f δ = (ms δ).bind fun ds => (f ds).map DV.data := rfl
@[simp] theorem mCallFO_e {ms : DS → Option (List D)} {f : List D → Option DV} {δ : DS} : mCallFO ms f δ = (ms δ).bind fun ds => (f ds).bind DV.owned := rfl
@[simp] theorem mCallK_e {ms mk : DS → Option (List D)} {g : List D → List D → Option D} {δ : DS} : mCallK ms mk g δ = (ms δ).bind fun a => (mk δ).bind fun b => g a b := rfl
@[simp] theorem data_val {d : D} : (DV.val d).data = d := rfl
@[simp] theorem data_own {ds : List D} : (DV.own ds).data = .list ds := rfl
@[simp] theorem owned_own {ds : List D} : (DV.own ds).owned = some ds := rfl
@[simp] theorem mIf_e {c : DS → Option Bool} {a b : DS → Option D} {δ : DS} : mIf c a b δ = (c δ).bind fun x => if x = true then a δ else b δ := rfl
@[simp] theorem mAndV_e {a b : DS → Option D} {δ : DS} : mAndV a b δ = (mB a δ).bind fun x => if x = true then b δ else some (.bool false) := rfl
@[simp] theorem mOrV_e {a b : DS → Option D} {δ : DS} : mOrV a b δ = (mB a δ).bind fun x => if x = true then some (.bool true) else b δ := rfl
@[simp] theorem mNotV_e {a : DS → Option D} {δ : DS} : mNotV a δ = (mB a δ).map fun x => .bool (!x) := rfl
@[simp] theorem mAndT_e {a b : DS → Option Bool} {δ : DS} : mAndT a b δ = (a δ).bind fun x => if x = true then b δ else some false := rfl
@[simp] theorem mOrT_e {a b : DS → Option Bool} {δ : DS} : mOrT a b δ = (a δ).bind fun x => if x = true then some true else b δ := rfl
@[simp] theorem mNotT_e {a : DS → Option Bool} {δ : DS} : mNotT a δ = (a δ).map fun x => !x := rfl
def toB : Option D → Option Bool
  | some (.bool b) => some b
  | _ => none
@[simp] theorem toB_some {b : Bool} : toB (some (.bool b)) = some b := rfl
@[simp] theorem mB_e {m : DS → Option D} {δ : DS} : mB m δ = toB (m δ) := by
  unfold mB toB
  rfl
@[simp] theorem mIsi_e {T : String} {m : DS → Option D} {δ : DS} : mIsi T m δ = (m δ).bind (isiD T) := rfl
@[simp] theorem mYes_e {δ : DS} : mYes δ = some true := rfl
@[simp] theorem mBorT_e {m : DS → Option Bool} {δ : DS} : mBorT m δ = m (thaw δ) := rfl
def flt (o : Option D) : Option D := match o with
  | some d => if flatD d = true then some d else none
  | none => none
@[simp] theorem flt_int {i : Int} : flt (some (.int i)) = some (.int i) := rfl
@[simp] theorem flt_bool {i : Bool} : flt (some (.bool i)) = some (.bool i) := rfl
@[simp] theorem flt_str {i : Str} : flt (some (.str i)) = some (.str i) := rfl
@[simp] theorem flt_none : flt (some .none) = some .none := rfl
@[simp] theorem mBor_e {m : DS → Option D} {δ : DS} : mBor m δ = flt (m (thaw δ)) := rfl
@[simp] theorem thaw_nil : thaw [] = [] := rfl
def tw (x : Option DV) : Option DV := x.map fun r => .val r.data
@[simp] theorem thaw_c {x : Option DV} {r : DS} : thaw (x :: r) = tw x :: thaw r := rfl
@[simp] theorem tw_v {d : D} : tw (some (.val d)) = v d := rfl
@[simp] theorem tw_o {ds : List D} : tw (some (.own ds)) = v (.list ds) := rfl
@[simp] theorem tw_n : tw none = none := rfl
@[simp] theorem mNoP_e {δ : DS} : mNoP δ = some none := rfl
def toP : Option D → Option (Option Int)
  | some (.int i) => some (some i)
  | _ => none
@[simp] theorem toP_some {i : Int} : toP (some (.int i)) = some (some i) := rfl
@[simp] theorem mP_e {m : DS → Option D} {δ : DS} : mP m δ = toP (m δ) := by
  unfold mP toP
  rfl
def gSlL : Option D → Option (Option Int) → Option (Option Int) → Option (List D)
  | some (.list xs), some lo, some hi => some (cutD xs lo hi)
  | _, _, _ => none
@[simp] theorem gSlL_some {xs : List D} {lo hi : Option Int} : gSlL (some (.list xs)) (some lo) (some hi) = some (cutD xs lo hi) := rfl
@[simp] theorem mSlL_e {m : DS → Option D} {l u : DS → Option (Option Int)} {δ : DS} : mSlL m l u δ = gSlL (m δ) (l δ) (u δ) := by
  unfold mSlL gSlL
  rfl
def gItems : Option D → Option (List D)
  | some (.list xs) => some xs
  | _ => none
@[simp] theorem gItems_some {xs : List D} : gItems (some (.list xs)) = some xs := rfl
@[simp] theorem mItems_e {m : DS → Option D} {δ : DS} : mItems m δ = gItems (m δ) := by
  unfold mItems gItems
  rfl
def gItemsT : Option D → Option (List D)
  | some (.tuple xs) => some xs
  | _ => none
@[simp] theorem gItemsT_some {xs : List D} : gItemsT (some (.tuple xs)) = some xs := rfl
@[simp] theorem mItemsT_e {m : DS → Option D} {δ : DS} : mItemsT m δ = gItemsT (m δ) := by
  unfold mItemsT gItemsT
  rfl
def gRng1 : Option (List D) → Option (List D)
  | some [.int n] => if okRng n = true then some (rngD 0 n.toNat) else none
  | _ => none
theorem gRng1_some {n : Int} (h0 : -1000000 ≤ n) (h : n ≤ 1000000) : gRng1 (some [.int n]) = some (rngD 0 n.toNat) := by
  show (if okRng n = true then _ else none) = _
  have e : okRng n = true := decide_eq_true ⟨h0, h⟩
  rw [if_pos e]
@[simp] theorem mRng1_e {ms : DS → Option (List D)} {δ : DS} : mRng1 ms δ = gRng1 (ms δ) := by
  unfold mRng1 gRng1
  rfl
def gRng2 : Option (List D) → Option (List D)
  | some [.int i, .int j] => if (okRng i && okRng j) = true then some (rngD i (j - i).toNat) else none
  | _ => none
@[simp] theorem mRng2_e {ms : DS → Option (List D)} {δ : DS} : mRng2 ms δ = gRng2 (ms δ) := by
  unfold mRng2 gRng2
  rfl
def gZip : Option (List D) → Option (List D)
  | some [.list xs, .list ys] => some (zipD xs ys)
  | _ => none
@[simp] theorem gZip_some {xs ys : List D} : gZip (some [.list xs, .list ys]) = some (zipD xs ys) := rfl
@[simp] theorem mZip_e {ms : DS → Option (List D)} {δ : DS} : mZip ms δ = gZip (ms δ) := by
  unfold mZip gZip
  rfl
@[simp] theorem gmName_e {i : Nat} {d : D} {δ : DS} : gmName i d δ = some (δ.set i (v d)) := rfl
@[simp] theorem wipeD_nil {δ : DS} : wipeD δ [] = δ := rfl
@[simp] theorem wipeD_cons {δ : DS} {i : Nat} {r : List Nat} : wipeD δ (i :: r) = (wipeD δ r).set i none := rfl
@[simp] theorem mLcI_e {mi : DS → Option (List D)} {gm : D → DS → Option DS} {mt : DS → Option Bool} {me : DS → Option D} {vs : List Nat} {δ : DS} :
    mLcI mi gm mt me vs δ = (mi δ).bind fun ds => if ds.length ≤ cap then colO (mLcF gm mt me (wipeD δ vs)) ds else none := rfl
/-! arithmetic -/
theorem dI2_ok {f : Int → Int → Int} {c : Int → Int → Bool} {i j : Int} (h : c i j = true) : dI2 f c (.int i) (.int j) = some (.int (f i j)) := by
  show (if c i j = true then some (PyData.int (f i j)) else none) = _
  rw [if_pos h]
@[simp] theorem dSub_i {i j : Int} : dSub (.int i) (.int j) = some (.int (i - j)) := rfl
@[simp] theorem dAdd_i {i j : Int} : dAdd (.int i) (.int j) = some (.int (i + j)) := rfl
@[simp] theorem dNeg_i {i : Int} : dNeg (.int i) = some (.int (-i)) := rfl
@[simp] theorem dMod_i {i j : Int} (h : 0 < j) : dMod (.int i) (.int j) = some (.int (i % j)) := dI2_ok (decide_eq_true h)
@[simp] theorem dDiv_i {i j : Int} (h : 0 < j) (h2 : j < 1073741824) : dDiv (.int i) (.int j) = some (.int (i / j)) := dI2_ok (decide_eq_true ⟨h, h2⟩)
@[simp] theorem dMul_r {i j : Int} (h : -18446744073709551616 < j) (h2 : j < 18446744073709551616) : dMul (.int i) (.int j) = some (.int (i * j)) := dI2_ok (decide_eq_true (.inr ⟨h, h2⟩))
theorem dMul_l {i j : Int} (h : -18446744073709551616 < i) (h2 : i < 18446744073709551616) : dMul (.int i) (.int j) = some (.int (i * j)) := dI2_ok (decide_eq_true (.inl ⟨h, h2⟩))
theorem dPow_i {i j : Int} (h : 0 ≤ j) (h2 : j ≤ 1000000) (h3 : i.natAbs < 2 ^ 64) : dPow (.int i) (.int j) = some (.int (i ^ j.toNat)) := dI2_ok (decide_eq_true ⟨h, h2, h3⟩)
theorem pow18 : dPow (.int 10) (.int 18) = some (.int 1000000000000000000) := by
  rw [dPow_i (by decide) (by decide) (by decide)]
  rfl
@[simp] theorem dLt_i {i j : Int} : dLt (.int i) (.int j) = some (.bool (decide (i < j))) := rfl
@[simp] theorem dLe_i {i j : Int} : dLe (.int i) (.int j) = some (.bool (decide (i ≤ j))) := rfl
@[simp] theorem dGt_i {i j : Int} : dGt (.int i) (.int j) = some (.bool (decide (j < i))) := rfl
@[simp] theorem dGe_i {i j : Int} : dGe (.int i) (.int j) = some (.bool (decide (j ≤ i))) := rfl
@[simp] theorem dIx_l {xs : List D} {i : Int} : dIx (.list xs) (.int i) = atI xs i := rfl
@[simp] theorem dIx_t {xs : List D} {i : Int} : dIx (.tuple xs) (.int i) = atI xs i := rfl
@[simp] theorem dInt_i {i : Int} : dInt [.int i] = some (.int i) := rfl
@[simp] theorem dLen_l {xs : List D} : dLen [.list xs] = some (.int xs.length) := rfl
@[simp] theorem dLen_t {xs : List D} : dLen [.tuple xs] = some (.int xs.length) := rfl
@[simp] theorem dMax2_i {i j : Int} : dMax2 [.int i, .int j] = some (.int (max i j)) := by
  show some (PyData.int (if j > i then j else i)) = _
  congr 2
  by_cases h : j > i
  · rw [if_pos h]; omega
  · rw [if_neg h]; omega
@[simp] theorem dIs_n {d : D} : dIs d .none = some (.bool (isNoneD d)) := by cases d <;> rfl
@[simp] theorem dIsNot_n {d : D} : dIsNot d .none = some (.bool (!isNoneD d)) := by cases d <;> rfl
@[simp] theorem dIs_b {a b : Bool} : dIs (.bool a) (.bool b) = some (.bool (decide (a = b))) := rfl
@[simp] theorem dIsNot_b {a b : Bool} : dIsNot (.bool a) (.bool b) = some (.bool (!decide (a = b))) := rfl
@[simp] theorem isNoneD_n : isNoneD .none = true := rfl
@[simp] theorem isNoneD_i {i : Int} : isNoneD (.int i) = false := rfl
@[simp] theorem isNoneD_b {i : Bool} : isNoneD (.bool i) = false := rfl
@[simp] theorem isNoneD_s {i : Str} : isNoneD (.str i) = false := rfl
@[simp] theorem isNoneD_l {i : List D} : isNoneD (.list i) = false := rfl
@[simp] theorem isNoneD_t {i : List D} : isNoneD (.tuple i) = false := rfl
/-! statements -/
def nx2 (b : DS → Option Out) : Option Out → Option Out
  | some (.nx δ) => b δ
  | o => o
@[simp] theorem nx2_nx {b : DS → Option Out} {δ : DS} : nx2 b (some (.nx δ)) = b δ := rfl
@[simp] theorem nx2_rt {b : DS → Option Out} {r : DV} : nx2 b (some (.rt r)) = some (.rt r) := rfl
@[simp] theorem nx2_bk {b : DS → Option Out} {δ : DS} : nx2 b (some (.bk δ)) = some (.bk δ) := rfl
@[simp] theorem nx2_ct {b : DS → Option Out} {δ : DS} : nx2 b (some (.ct δ)) = some (.ct δ) := rfl
@[simp] theorem nSeq_e {a b : DS → Option Out} {δ : DS} : nSeq a b δ = nx2 b (a δ) := by
  unfold nSeq nx2
  cases h : a δ with
  | none => rfl
  | some o => cases o <;> rfl
@[simp] theorem nNext_e {δ : DS} : nNext δ = some (.nx δ) := rfl
@[simp] theorem nAsg_e {i : Nat} {m : DS → Option D} {δ : DS} : nAsg i m δ = (m δ).map fun d => .nx (δ.set i (v d)) := rfl
@[simp] theorem nAsgO_e {i : Nat} {m : DS → Option (List D)} {δ : DS} : nAsgO i m δ = (m δ).map fun d => .nx (δ.set i (some (.own d))) := rfl
@[simp] theorem nAsgG_e {gm : D → DS → Option DS} {m : DS → Option D} {δ : DS} : nAsgG gm m δ = (m δ).bind fun d => (gm d δ).map fun δ' => .nx δ' := rfl
@[simp] theorem nIf_e {c : DS → Option Bool} {a b : DS → Option Out} {δ : DS} : nIf c a b δ = (c δ).bind fun x => if x = true then a δ else b δ := rfl
@[simp] theorem nRet_e {m : DS → Option D} {δ : DS} : nRet m δ = (m δ).map fun d => .rt (.val d) := rfl
@[simp] theorem nRetO_e {m : DS → Option (List D)} {δ : DS} : nRetO m δ = (m δ).map fun d => .rt (.own d) := rfl
@[simp] theorem nRetC_e {ms : DS → Option (List D)} {f : List D → Option DV} {δ : DS} : nRetC ms f δ = (ms δ).bind fun ds => (f ds).map Out.rt := rfl
@[simp] theorem nBrk_e {δ : DS} : nBrk δ = some (.bk δ) := rfl
@[simp] theorem nFor_e {mi : DS → Option (List D)} {gm : D → DS → Option DS} {b : DS → Option Out} {δ : DS} : nFor mi gm b δ = (mi δ).bind fun ds => mForL gm b ds δ := rfl
@[simp] theorem nFrz_e {i : Nat} {a : DS → Option Out} {δ : DS} : nFrz i a δ = a (frz i δ) := rfl
def gRetX : Option (Option DV) → Option Out
  | some (some (.own ds)) => some (.rt (.own ds))
  | _ => none
@[simp] theorem gRetX_o {ds : List D} : gRetX (some (some (.own ds))) = some (.rt (.own ds)) := rfl
@[simp] theorem nRetX_e {i : Nat} {δ : DS} : nRetX i δ = gRetX δ[i]? := by
  unfold nRetX gRetX
  rfl
def gApp (i : Nat) (δ : DS) : Option (Option DV) → Option D → Option Out
  | some (some (.own ds)), some d => if ds.length ≤ cap then some (.nx (δ.set i (some (.own (ds ++ [d]))))) else none
  | _, _ => none
theorem gApp_o {i : Nat} {δ : DS} {ds : List D} {d : D} (h : ds.length ≤ cap) : gApp i δ (some (some (.own ds))) (some d) = some (.nx (δ.set i (some (.own (ds ++ [d]))))) := by
  show (if ds.length ≤ cap then _ else none) = _
  rw [if_pos h]
@[simp] theorem nApp_e {i : Nat} {m : DS → Option D} {δ : DS} : nApp i m δ = gApp i δ δ[i]? (m δ) := by
  unfold nApp gApp
  rfl
def gSetI (i : Nat) (δ : DS) : Option (Option DV) → Option D → Option D → Option Out
  | some (some (.own ds)), some (.int k), some d => (ixN ds.length k).map fun j => .nx (δ.set i (some (.own (ds.set j d))))
  | _, _, _ => none
@[simp] theorem gSetI_o {i : Nat} {δ : DS} {ds : List D} {k : Int} {d : D} : gSetI i δ (some (some (.own ds))) (some (.int k)) (some d) = (ixN ds.length k).map fun j => .nx (δ.set i (some (.own (ds.set j d)))) := rfl
@[simp] theorem nSetI_e {i : Nat} {mi m : DS → Option D} {δ : DS} : nSetI i mi m δ = gSetI i δ δ[i]? (mi δ) (m δ) := by
  unfold nSetI gSetI
  rfl
@[simp] theorem frz_e {i : Nat} {δ : DS} {ds : List D} (h : δ[i]? = some (some (.own ds))) : frz i δ = δ.set i (v (.list ds)) := by
  unfold frz
  rw [h]
@[simp] theorem mForL_nil {gm : D → DS → Option DS} {b : DS → Option Out} {δ : DS} : mForL gm b [] δ = some (.nx δ) := rfl
def fr2 (k : DS → Option Out) : Option Out → Option Out
  | some (.nx δ) => k δ
  | some (.ct δ) => k δ
  | some (.bk δ) => some (.nx δ)
  | some (.rt r) => some (.rt r)
  | none => none
@[simp] theorem fr2_nx {k : DS → Option Out} {δ : DS} : fr2 k (some (.nx δ)) = k δ := rfl
@[simp] theorem fr2_ct {k : DS → Option Out} {δ : DS} : fr2 k (some (.ct δ)) = k δ := rfl
@[simp] theorem fr2_bk {k : DS → Option Out} {δ : DS} : fr2 k (some (.bk δ)) = some (.nx δ) := rfl
@[simp] theorem fr2_rt {k : DS → Option Out} {r : DV} : fr2 k (some (.rt r)) = some (.rt r) := rfl
theorem mForL_cons {gm : D → DS → Option DS} {b : DS → Option Out} {d : D} {ds : List D} {δ : DS} : mForL gm b (d :: ds) δ = (gm d δ).bind fun δ1 => fr2 (mForL gm b ds) (b δ1) := by
  show (gm d δ).bind _ = _
  congr 1
  funext δ1
  cases h : b δ1 with
  | none => rfl
  | some o => cases o <;> rfl
/-- a for whose turns all go on -/
theorem mForL_inv {gm : D → DS → Option DS} {b : DS → Option Out} (P : Nat → DS → Prop) : ∀ (ds : List D) (k : Nat) (δ : DS), P k δ →
    (∀ i d δ, ds[i]? = some d → P (k + i) δ → ∃ δ1, gm d δ = some δ1 ∧ ∃ δ2, (b δ1 = some (.nx δ2) ∨ b δ1 = some (.ct δ2)) ∧ P (k + i + 1) δ2) → ∃ δ', mForL gm b ds δ = some (.nx δ') ∧ P (k + ds.length) δ'
  | [], k, δ, h, _ => ⟨δ, rfl, h⟩
  | d :: ds, k, δ, h, hs => by
    obtain ⟨δ1, h1, δ2, h2, h3⟩ := hs 0 d δ rfl h
    obtain ⟨δ', e, p⟩ := mForL_inv P ds (k + 1) δ2 h3 fun i d' δ hd hp => by
      have e : k + 1 + i = k + (i + 1) := by omega
      rw [e] at hp ⊢
      exact hs (i + 1) d' δ (by rw [List.getElem?_cons_succ]; exact hd) hp
    refine ⟨δ', ?_, by rw [List.length_cons]; have z : k + (ds.length + 1) = k + 1 + ds.length := by omega
                       rw [z]; exact p⟩
    rw [mForL_cons, h1]
    show fr2 _ (b δ1) = _
    rcases h2 with h2 | h2
    · rw [h2]; exact e
    · rw [h2]; exact e
/-! calls of defs -/
theorem fnD_rt {n k : Nat} {mm : DS → Option Out} {ds : List D} {r : DV} (hk : ds.length = k) (h : mm (startD n ds) = some (.rt r)) : fnD n k mm ds = some r := by
  unfold fnD
  rw [if_pos hk, h]
@[simp] theorem startD_1 {n : Nat} {a : D} : startD (n + 1) [a] = v a :: List.replicate n none := by
  unfold startD
  simp
@[simp] theorem startD_2 {n : Nat} {a b : D} : startD (n + 2) [a, b] = v a :: v b :: List.replicate n none := by
  unfold startD
  simp
@[simp] theorem startD_3 {n : Nat} {a b c : D} : startD (n + 3) [a, b, c] = v a :: v b :: v c :: List.replicate n none := by
  unfold startD
  simp
@[simp] theorem startD_4 {n : Nat} {a b c d : D} : startD (n + 4) [a, b, c, d] = v a :: v b :: v c :: v d :: List.replicate n none := by
  unfold startD
  simp
/-! lists of things -/
theorem rngD_succ (lo : Int) (n : Nat) : rngD lo (n + 1) = .int lo :: rngD (lo + 1) n := by
  unfold rngD
  rw [List.range_succ_eq_map, List.map_cons, List.map_map]
  congr 1
  · simp
  · apply List.map_congr_left
    intro i _
    show PyData.int (lo + ((i + 1 : Nat) : Int)) = PyData.int (lo + 1 + (i : Int))
    congr 1
    omega
@[simp] theorem rngD_zero (lo : Int) : rngD lo 0 = [] := rfl
theorem rngD_get {lo : Int} {n i : Nat} {d : D} (h : (rngD lo n)[i]? = some d) : d = .int (lo + (i : Int)) ∧ i < n := by
  have hi : i < n := by
    have := (List.getElem?_eq_some_iff.mp h).1
    rw [rngD_len] at this
    exact this
  unfold rngD at h
  rw [List.getElem?_map, List.getElem?_range hi] at h
  exact ⟨(Option.some.inj h).symm, hi⟩
@[simp] theorem colO_nil {f : D → Option (Option D)} : colO f [] = some [] := rfl
theorem colO_cons {f : D → Option (Option D)} {d : D} {ds : List D} : colO f (d :: ds) = (f d).bind fun a => (colO f ds).bind fun r => some (match a with | some x => x :: r | none => r) := rfl
/-- a comprehension without a test, item by item -/
theorem colO_map {f : D → Option (Option D)} {α : Type} (P : Nat → α → Prop) (enc : α → D) : ∀ (ds : List D) (k : Nat), (∀ i d, ds[i]? = some d → ∃ a, P (k + i) a ∧ f d = some (some (enc a))) →
    ∃ as : List α, as.length = ds.length ∧ (∀ i a, as[i]? = some a → P (k + i) a) ∧ colO f ds = some (as.map enc)
  | [], _, _ => ⟨[], rfl, fun i a h => by simp at h, rfl⟩
  | d :: ds, k, h => by
    obtain ⟨a, p, e⟩ := h 0 d rfl
    obtain ⟨as, h1, h2, h3⟩ := colO_map P enc ds (k + 1) fun i d' hd => by
      obtain ⟨b, q, e⟩ := h (i + 1) d' (by rw [List.getElem?_cons_succ]; exact hd)
      refine ⟨b, ?_, e⟩
      have z : k + 1 + i = k + (i + 1) := by omega
      rw [z]
      exact q
    refine ⟨a :: as, by rw [List.length_cons, List.length_cons, h1], fun i b hb => ?_, ?_⟩
    · cases i with
      | zero =>
        rw [List.getElem?_cons_zero] at hb
        cases hb
        exact p
      | succ i =>
        rw [List.getElem?_cons_succ] at hb
        have q := h2 i b hb
        have z : k + 1 + i = k + (i + 1) := by omega
        rw [z] at q
        exact q
    · rw [colO_cons, e, h3]
      rfl
/-- of equal functions -/
theorem colO_eq {f : D → Option (Option D)} {α : Type} (F : α → D) (G : α → D) : ∀ (as : List α), (∀ a ∈ as, f (F a) = some (some (G a))) → colO f (as.map F) = some (as.map G)
  | [], _ => rfl
  | a :: as, h => by
    rw [List.map_cons, colO_cons, h a List.mem_cons_self, colO_eq F G as fun b hb => h b (List.mem_cons_of_mem _ hb)]
    rfl
theorem atI_of {α : Type} {xs : List α} {i : Int} {x : α} (h0 : 0 ≤ i) (h : xs[i.toNat]? = some x) : atI xs i = some x := by
  have e : i = ((i.toNat : Nat) : Int) := by omega
  rw [e]
  exact atI_nat h
theorem atI_int {ns : List Int} {i : Int} (h0 : 0 ≤ i) (h : i < ns.length) : atI (ns.map PyData.int) i = some (.int (ns.getD i.toNat 0)) := by
  refine atI_of h0 ?_
  have hi : i.toNat < ns.length := by omega
  have e : ns.getD i.toNat 0 = ns[i.toNat] := by simp [List.getD, hi]
  rw [List.getElem?_map, List.getElem?_eq_getElem hi, e]
  rfl
theorem cutD_map {α β : Type} (f : α → β) (xs : List α) (lo hi : Option Int) : cutD (xs.map f) lo hi = (cutD xs lo hi).map f := by
  unfold cutD
  rw [List.length_map, List.map_take, List.map_drop]
theorem cutD_nat {α : Type} (xs : List α) {a b : Nat} (h : a ≤ b) (hb : b ≤ xs.length) : cutD xs (some (a : Int)) (some (b : Int)) = (xs.drop a).take (b - a) := by
  unfold cutD
  rw [HT.sIx_nat, HT.sIx_nat, Nat.min_eq_left hb, Nat.min_eq_left (Nat.le_trans h hb)]
theorem cutD_len {α : Type} (xs : List α) {a b : Nat} (h : a ≤ b) (hb : b ≤ xs.length) : (cutD xs (some (a : Int)) (some (b : Int))).length = b - a := by
  rw [cutD_nat xs h hb, List.length_take, List.length_drop]
  omega
theorem cutD_mem {α : Type} {xs : List α} {lo hi : Option Int} {x : α} (h : x ∈ cutD xs lo hi) : x ∈ xs := List.mem_of_mem_drop (List.mem_of_mem_take h)
end Dl
namespace Dl
open PySem PySem.Spec PyProof.Rows L2
/-- a comprehension that keeps some -/
theorem colO_fm {f : D → Option (Option D)} {α β : Type} (F : α → D) (g : α → Option β) (G : β → D) : ∀ (as : List α), (∀ a ∈ as, f (F a) = some ((g a).map G)) → colO f (as.map F) = some ((as.filterMap g).map G)
  | [], _ => rfl
  | a :: as, h => by
    rw [List.map_cons, colO_cons, h a List.mem_cons_self, colO_fm F g G as fun b hb => h b (List.mem_cons_of_mem _ hb)]
    cases hg : g a with
    | none => rw [List.filterMap_cons_none hg]; rfl
    | some b => rw [List.filterMap_cons_some hg]; rfl
/-- a for over data that stand for things, that folds a state -/
theorem mForL_fold {gm : D → DS → Option DS} {b : DS → Option Out} {α β : Type} (F : α → D) (step : β → α → β) (St : β → DS → Prop) : ∀ (as : List α) (s : β) (δ : DS), St s δ →
    (∀ a ∈ as, ∀ s δ, St s δ → ∃ δ1, gm (F a) δ = some δ1 ∧ ∃ δ2, b δ1 = some (.nx δ2) ∧ St (step s a) δ2) → ∃ δ', mForL gm b (as.map F) δ = some (.nx δ') ∧ St (as.foldl step s) δ'
  | [], s, δ, h, _ => ⟨δ, rfl, h⟩
  | a :: as, s, δ, h, hs => by
    obtain ⟨δ1, h1, δ2, h2, h3⟩ := hs a List.mem_cons_self s δ h
    obtain ⟨δ', e, p⟩ := mForL_fold F step St as (step s a) δ2 h3 fun x hx => hs x (List.mem_cons_of_mem _ hx)
    refine ⟨δ', ?_, p⟩
    rw [List.map_cons, mForL_cons, h1]
    show fr2 _ (b δ1) = _
    rw [h2]
    exact e
theorem asIs_map : ∀ ns : List Int, asIs (ns.map PyData.int) = some ns
  | [] => rfl
  | n :: r => by
    show (asIs (r.map PyData.int)).map _ = _
    rw [asIs_map r]
    rfl
theorem asBs_map : ∀ ns : List Bool, asBs (ns.map PyData.bool) = some ns
  | [] => rfl
  | n :: r => by
    show (asBs (r.map PyData.bool)).map _ = _
    rw [asBs_map r]
    rfl
@[simp] theorem dAll_map {bs : List Bool} : dAll [.list (bs.map PyData.bool)] = some (.bool (bs.all id)) := by
  show (asBs (bs.map PyData.bool)).map _ = _
  rw [asBs_map]
  rfl
@[simp] theorem dAny_map {bs : List Bool} : dAny [.list (bs.map PyData.bool)] = some (.bool (bs.any id)) := by
  show (asBs (bs.map PyData.bool)).map _ = _
  rw [asBs_map]
  rfl
@[simp] theorem dSum_map {bs : List Int} : dSum [.list (bs.map PyData.int)] = some (.int bs.sum) := by
  show (asIs (bs.map PyData.int)).map _ = _
  rw [asIs_map]
  rfl
theorem isi_lst : isiD "list" (.list ds) = some (.bool true) := by rfl
theorem isi_bb : isiD "bool" (.bool b) = some (.bool true) := by rfl
theorem isi_bi : isiD "bool" (.int b) = some (.bool false) := by rfl
theorem isi_ii : isiD "int" (.int b) = some (.bool true) := by rfl
theorem isi_ib : isiD "int" (.bool b) = some (.bool true) := by rfl
@[simp] theorem atI_zero {α : Type} {x : α} {r : List α} : atI (x :: r) 0 = some x := atI_nat (j := 0) rfl
@[simp] theorem isNoneD_d {i : List (D × D)} : isNoneD (.dict i) = false := rfl
theorem dPick_map {pick : Int → Int → Int} {ns : List Int} {e : D} : dPick pick [.list (ns.map PyData.int)] [e] = some (match ns with | [] => e | n :: r => .int (r.foldl pick n)) := by
  have h := asIs_map ns
  show (match asIs (ns.map PyData.int) with | some [] => some e | some (n :: r) => some (PyData.int (r.foldl pick n)) | none => none) = _
  rw [h]
  cases ns <;> rfl
theorem inB_l {d : D} {es : List D} (h1 : flatD d = true) (h2 : es.all flatD = true) : inB d (.list es) = some (inD d es) := by
  have h : (flatD d && es.all flatD) = true := by rw [h1, h2]; rfl
  unfold inB
  show (if (flatD d && es.all flatD) = true then some (inD d es) else none) = _
  rw [if_pos h]
@[simp] theorem zipD_map {α β : Type} {f : α → D} {g : β → D} {xs : List α} {ys : List β} : zipD (xs.map f) (ys.map g) = (List.zip xs ys).map fun p => .tuple [f p.1, g p.2] := by
  unfold zipD
  rw [List.zipWith_map, List.zip_eq_zipWith, List.map_zipWith]
@[simp] theorem gmPair_t {i j : Nat} {a b : D} {δ : DS} : gmPair i j (.tuple [a, b]) δ = some ((δ.set i (v a)).set j (v b)) := rfl
theorem seq_go {a b : DS → Option Out} {δ δ' : DS} {o : Option Out} (h : a δ = some (.nx δ')) (k : b δ' = o) : nSeq a b δ = o := by
  rw [nSeq_e, h]
  exact k
theorem len5 {α : Type} {xs : List α} (h : xs.length = 5) : ∃ a b c d e, xs = [a, b, c, d, e] := by
  match xs, h with
  | [a, b, c, d, e], _ => exact ⟨a, b, c, d, e, rfl⟩
theorem len4 {α : Type} {xs : List α} (h : xs.length = 4) : ∃ a b c d, xs = [a, b, c, d] := by
  match xs, h with
  | [a, b, c, d], _ => exact ⟨a, b, c, d, rfl⟩
end Dl
namespace Dl
open PySem PySem.Spec PyProof.Rows L2

/-! ### repr: sizes -/
mutual
def szD : D → Nat
  | .none => 4
  | .bool _ => 5
  | .int i => (Str.ofString (toString i)).length
  | .str x => (reprText x).length
  | .list xs => szA xs + 2
  | .tuple xs => szA xs + 3
  | .dict _ => 0
def szA : List D → Nat
  | [] => 0
  | x :: xs => szD x + 2 + szA xs
end
theorem textFrom_le : ∀ (ts : List Str) (k : Nat) (acc : Str), (textFrom k acc ts).length ≤ acc.length + piled ts
  | [], _, acc => Nat.le_add_right _ _
  | t :: ts, k, acc => by
    show (textFrom (k + 1) (acc ++ (if k > 0 then ", " else "" : String) ++ t) ts).length ≤ _
    have ih := textFrom_le ts (k + 1) (acc ++ (if k > 0 then ", " else "" : String) ++ t)
    rw [Str.length_append, Str.length_append] at ih
    have h2 : (Str.ofString (if k > 0 then ", " else "")).length ≤ 2 := by
      by_cases h : k > 0
      · rw [if_pos h]; decide
      · rw [if_neg h]; decide
    rw [piled_cons]
    omega
mutual
theorem shown_le : ∀ d : D, d.hasDict = false → d.shown.length ≤ szD d
  | .none, _ => by show (Str.ofString "None").length ≤ 4; decide
  | .bool true, _ => by show (Str.ofString "True").length ≤ 5; decide
  | .bool false, _ => by show (Str.ofString "False").length ≤ 5; decide
  | .int i, _ => Nat.le_refl _
  | .str x, _ => by rw [PyData.shown]; exact Nat.le_refl _
  | .list xs, h => by
    rw [PyData.shown, szD]
    have ih := shownAll_le xs (by simpa [PyData.hasDict] using h)
    unfold listText
    rw [Str.length_append]
    have h1 := textFrom_le (PyData.shownAll xs) 0 (Str.ofString "[")
    have h2 : (Str.ofString "[").length = 1 := by decide
    have h3 : (Str.ofString "]").length = 1 := by decide
    omega
  | .tuple xs, h => by
    rw [PyData.shown, szD]
    have ih := shownAll_le xs (by simpa [PyData.hasDict] using h)
    unfold tupleText
    rw [Str.length_append, Str.length_append]
    have h1 : (Str.join ", " (PyData.shownAll xs)).length ≤ piled (PyData.shownAll xs) := by
      by_cases he : PyData.shownAll xs = []
      · rw [he]; decide
      · have := join_length_add _ he
        omega
    have h2 : (Str.ofString "(").length = 1 := by decide
    have h3 : (Str.ofString (if (PyData.shownAll xs).length == 1 then ",)" else ")")).length ≤ 2 := by
      by_cases h : ((PyData.shownAll xs).length == 1) = true
      · rw [if_pos h]; decide
      · rw [if_neg h]; decide
    omega
  | .dict _, h => by simp [PyData.hasDict] at h
theorem shownAll_le : ∀ xs : List D, PyData.hasDictAll xs = false → piled (PyData.shownAll xs) ≤ szA xs
  | [], _ => by rw [PyData.shownAll]; decide
  | x :: xs, h => by
    rw [PyData.hasDictAll, Bool.or_eq_false_iff] at h
    rw [PyData.shownAll, piled_cons, szA]
    have h1 := shown_le x h.1
    have h2 := shownAll_le xs h.2
    omega
end
theorem log2_small {n k : Nat} (h : n < 2 ^ k) (hk : 0 < k) : n.log2 < k := by
  by_cases h0 : n = 0
  · subst h0
    simpa using hk
  · exact (Nat.log2_lt h0).mpr h
theorem int_sz {i : Int} {k : Nat} (h : i.natAbs < 2 ^ k) (hk : 0 < k) : szD (.int i) ≤ k + 1 := by
  have h1 := int_text_length_le hk (log2_small h hk)
  have h2 : (Str.ofString (toString i)).length = (toString i).length := PySem.ofString_length _
  show (Str.ofString (toString i)).length ≤ k + 1
  rw [h2]
  exact h1
theorem int_showable {i : Int} {k : Nat} (h : i.natAbs < 2 ^ k) (hk : 0 < k) (h2 : k ≤ 1920) : PyData.showable (.int i) = true := by
  rw [PyData.showable]
  exact decide_eq_true (Nat.lt_of_lt_of_le (log2_small h hk) h2)
/-- a predicate that is kept by lists and tuples -/
structure Shw (d : D) (dep n : Nat) : Prop where
  sh : d.showable = true
  nd : d.hasDict = false
  dp : d.depth ≤ dep
  sz : szD d ≤ n
theorem Shw.ok {d : D} {dep n : Nat} (h : Shw d dep n) (h1 : dep ≤ 60) (h2 : n ≤ 10000000) : reprOk d = true := by
  unfold reprOk
  rw [h.sh, decide_eq_true (Nat.le_trans h.dp h1), decide_eq_true (Nat.le_trans (shown_le d h.nd) (Nat.le_trans h.sz h2)), h.nd]
  rfl
theorem Shw.mono {d : D} {a b n m : Nat} (h : Shw d a n) (h1 : a ≤ b) (h2 : n ≤ m) : Shw d b m := ⟨h.sh, h.nd, Nat.le_trans h.dp h1, Nat.le_trans h.sz h2⟩
theorem shw_int {i : Int} {k : Nat} (h : i.natAbs < 2 ^ k) (hk : 0 < k) (h2 : k ≤ 1920) : Shw (.int i) 0 (k + 1) := ⟨int_showable h hk h2, rfl, Nat.le_refl _, int_sz h hk⟩
theorem shw_none : Shw .none 0 4 := ⟨rfl, rfl, Nat.le_refl _, Nat.le_refl _⟩
theorem shw_bool {b : Bool} : Shw (.bool b) 0 5 := ⟨rfl, rfl, Nat.le_refl _, Nat.le_refl _⟩
theorem shw_str {x : Str} : Shw (.str x) 0 (reprText x).length := ⟨rfl, rfl, Nat.le_refl _, Nat.le_refl _⟩
structure ShwA (ds : List D) (dep n : Nat) : Prop where
  sh : PyData.showableAll ds = true
  nd : PyData.hasDictAll ds = false
  dp : PyData.depthAll ds ≤ dep
  sz : szA ds ≤ n
theorem shw_nil {dep : Nat} : ShwA [] dep 0 := ⟨rfl, rfl, Nat.zero_le _, Nat.le_refl _⟩
theorem shw_cons {d : D} {ds : List D} {dep n m : Nat} (h : Shw d dep n) (h2 : ShwA ds dep m) : ShwA (d :: ds) dep (n + 2 + m) := by
  refine ⟨?_, ?_, ?_, ?_⟩
  · rw [PyData.showableAll, h.sh, h2.sh]; rfl
  · rw [PyData.hasDictAll, h.nd, h2.nd]; rfl
  · rw [PyData.depthAll]; exact Nat.max_le.mpr ⟨h.dp, h2.dp⟩
  · rw [szA]
    have := h.sz
    have := h2.sz
    omega
theorem shw_all {ds : List D} {dep n : Nat} (h : ∀ d ∈ ds, Shw d dep n) : ShwA ds dep ((n + 2) * ds.length) := by
  induction ds with
  | nil => exact ⟨rfl, rfl, Nat.zero_le _, Nat.zero_le _⟩
  | cons d r ih =>
    have h1 := shw_cons (h d List.mem_cons_self) (ih fun x hx => h x (List.mem_cons_of_mem _ hx))
    have e : n + 2 + (n + 2) * r.length = (n + 2) * (d :: r).length := by
      rw [List.length_cons, Nat.mul_succ, Nat.add_comm]
    rw [← e]
    exact h1
theorem shw_list {ds : List D} {dep n : Nat} (h : ShwA ds dep n) : Shw (.list ds) (dep + 1) (n + 2) := by
  refine ⟨by rw [PyData.showable]; exact h.sh, by rw [PyData.hasDict]; exact h.nd, by rw [PyData.depth]; exact Nat.succ_le_succ h.dp, by rw [szD]; exact Nat.add_le_add_right h.sz _⟩
theorem shw_tup {ds : List D} {dep n : Nat} (h : ShwA ds dep n) : Shw (.tuple ds) (dep + 1) (n + 3) := by
  refine ⟨by rw [PyData.showable]; exact h.sh, by rw [PyData.hasDict]; exact h.nd, by rw [PyData.depth]; exact Nat.succ_le_succ h.dp, by rw [szD]; exact Nat.add_le_add_right h.sz _⟩
theorem ShwA.mono {d : List D} {a b n m : Nat} (h : ShwA d a n) (h1 : a ≤ b) (h2 : n ≤ m) : ShwA d b m := ⟨h.sh, h.nd, Nat.le_trans h.dp h1, Nat.le_trans h.sz h2⟩

/-! == -/
mutual
theorem eqv_self : ∀ d : D, d.hasDict = false → PyData.eqv d d = true
  | .none, _ => by simp [PyData.eqv]
  | .bool _, _ => by simp [PyData.eqv]
  | .int _, _ => by simp [PyData.eqv]
  | .str _, _ => by simp [PyData.eqv]
  | .list xs, h => by rw [PyData.eqv]; exact eqvA_self xs (by simpa [PyData.hasDict] using h)
  | .tuple xs, h => by rw [PyData.eqv]; exact eqvA_self xs (by simpa [PyData.hasDict] using h)
  | .dict _, h => by simp [PyData.hasDict] at h
theorem eqvA_self : ∀ xs : List D, PyData.hasDictAll xs = false → PyData.eqvAll xs xs = true
  | [], _ => by simp [PyData.eqvAll]
  | x :: xs, h => by
    rw [PyData.hasDictAll, Bool.or_eq_false_iff] at h
    rw [PyData.eqvAll, eqv_self x h.1, eqvA_self xs h.2]
    rfl
end
theorem eqB_of {d e : D} (h1 : SeqAt.shaped d = true) (h2 : SeqAt.shaped e = true) (hd : ∀ x, d ≠ .str x) : eqB d e = some (PyData.eqv d e) := by
  have h : (SeqAt.shaped d && SeqAt.shaped e) = true := by rw [h1, h2]; rfl
  unfold eqB
  split
  · rename_i x y
    exact absurd rfl (hd x)
  · rw [if_pos h]
theorem eqB_self {d : D} (h : SeqAt.shaped d = true) (hd : d.hasDict = false) : eqB d d = some true := by
  cases d with
  | str x =>
    show some (decide (x = x)) = some true
    rw [decide_eq_true rfl]
  | _ => rw [eqB_of h h (fun x z => by cases z), eqv_self _ hd]
theorem eqB_int {i j : Int} : eqB (.int i) (.int j) = some (decide (i = j)) := by
  have h1 : ∀ k : Int, SeqAt.shaped (.int k) = true := fun k => by simp [SeqAt.shaped, PyData.canLay0, PyData.depth]
  show (if (SeqAt.shaped (.int i) && SeqAt.shaped (.int j)) = true then some (PyData.eqv (.int i) (.int j)) else none) = _
  rw [h1, h1]
  simp [PyData.eqv]
  by_cases h : i = j <;> simp [h]
theorem eqB_bool {i j : Bool} : eqB (.bool i) (.bool j) = some (decide (i = j)) := by
  have h1 : ∀ k : Bool, SeqAt.shaped (.bool k) = true := fun k => by simp [SeqAt.shaped, PyData.canLay0, PyData.depth]
  show (if (SeqAt.shaped (.bool i) && SeqAt.shaped (.bool j)) = true then some (PyData.eqv (.bool i) (.bool j)) else none) = _
  rw [h1, h1]
  simp [PyData.eqv]
  by_cases h : i = j <;> simp [h]
theorem shaped_of {d : D} (h1 : d.canLay0 = true) (h2 : d.depth ≤ 64) : SeqAt.shaped d = true := by
  unfold SeqAt.shaped
  rw [h1, decide_eq_true h2]
  rfl
/-- things as data, compared as things -/
structure Flt (α : Type) [DecidableEq α] (enc : α → D) (dep : Nat) : Prop where
  lay : ∀ a, (enc a).canLay0 = true
  dp : ∀ a, (enc a).depth ≤ dep
  eq : ∀ a b, PyData.eqv (enc a) (enc b) = decide (a = b)
theorem Flt.int : Flt Int PyData.int 0 := ⟨fun _ => rfl, fun _ => Nat.le_refl _, fun a b => by rw [PyData.eqv]; by_cases h : a = b <;> simp [h]⟩
theorem Flt.bool : Flt Bool PyData.bool 0 := ⟨fun _ => rfl, fun _ => Nat.le_refl _, fun a b => by rw [PyData.eqv]; by_cases h : a = b <;> simp [h]⟩
theorem Flt.all {α : Type} [DecidableEq α] {enc : α → D} {dep : Nat} (f : Flt α enc dep) : ∀ xs ys : List α, PyData.eqvAll (xs.map enc) (ys.map enc) = decide (xs = ys)
  | [], [] => by simp [PyData.eqvAll]
  | [], _ :: _ => by simp [PyData.eqvAll]
  | _ :: _, [] => by simp [PyData.eqvAll]
  | a :: r, b :: s => by
    rw [List.map_cons, List.map_cons, PyData.eqvAll, f.eq, f.all r s]
    by_cases h1 : a = b <;> by_cases h2 : r = s <;> simp [h1, h2]
theorem Flt.layA {α : Type} [DecidableEq α] {enc : α → D} {dep : Nat} (f : Flt α enc dep) : ∀ xs : List α, PyData.canLayAll0 (xs.map enc) = true ∧ PyData.depthAll (xs.map enc) ≤ dep
  | [] => ⟨rfl, Nat.zero_le _⟩
  | a :: r => by
    obtain ⟨h1, h2⟩ := f.layA r
    rw [List.map_cons, PyData.canLayAll0, PyData.depthAll, f.lay, h1]
    exact ⟨rfl, Nat.max_le.mpr ⟨f.dp a, h2⟩⟩
theorem Flt.list {α : Type} [DecidableEq α] {enc : α → D} {dep : Nat} (f : Flt α enc dep) : Flt (List α) (fun xs => .list (xs.map enc)) (dep + 1) :=
  ⟨fun xs => by show PyData.canLay0 (.list _) = true; rw [PyData.canLay0]; exact (f.layA xs).1, fun xs => by show PyData.depth (.list _) ≤ _; rw [PyData.depth]; exact Nat.succ_le_succ (f.layA xs).2, fun xs ys => by
    show PyData.eqv (.list _) (.list _) = _
    rw [PyData.eqv, f.all]⟩
theorem Flt.eqB {α : Type} [DecidableEq α] {enc : α → D} {dep : Nat} (f : Flt α enc dep) (hd : dep ≤ 60) (a b : α) (h : ∀ x, enc a ≠ .str x) : eqB (enc a) (enc b) = some (decide (a = b)) := by
  rw [eqB_of (shaped_of (f.lay a) (Nat.le_trans (f.dp a) (Nat.le_trans hd (by decide)))) (shaped_of (f.lay b) (Nat.le_trans (f.dp b) (Nat.le_trans hd (by decide)))) h, f.eq]
theorem Flt.dEq {α : Type} [DecidableEq α] {enc : α → D} {dep : Nat} (f : Flt α enc dep) (hd : dep ≤ 60) (a b : α) (h : ∀ x, enc a ≠ .str x) : dEq (enc a) (enc b) = some (.bool (decide (a = b))) := by
  unfold Dl.dEq
  rw [f.eqB hd a b h]
  rfl
theorem Flt.dNe {α : Type} [DecidableEq α] {enc : α → D} {dep : Nat} (f : Flt α enc dep) (hd : dep ≤ 60) (a b : α) (h : ∀ x, enc a ≠ .str x) : dNe (enc a) (enc b) = some (.bool (!decide (a = b))) := by
  unfold Dl.dNe
  rw [f.eqB hd a b h]
  rfl
@[simp] theorem dNe_bools {xs ys : List Bool} : Dl.dNe (.list (xs.map PyData.bool)) (.list (ys.map PyData.bool)) = some (.bool (!decide (xs = ys))) := Flt.bool.list.dNe (by decide) xs ys (fun x z => by cases z)
end Dl
namespace Dl
open PySem PySem.Spec PyProof.Rows L2
/-! one statement after the other, without naming the slots -/
section
variable {i : Nat} {m : DS → Option D} {b : DS → Option Out} {δ δ' : DS} {d : D} {ds : List D} {o : Option Out} {mo : DS → Option (List D)} {c : DS → Option Bool} {a e : DS → Option Out} {gm : D → DS → Option DS}
theorem asg_go (h : m δ = some d) (k : b (δ.set i (v d)) = o) : nSeq (nAsg i m) b δ = o := by
  rw [nSeq_e, nAsg_e, h]
  exact k
theorem asgO_go (h : mo δ = some ds) (k : b (δ.set i (some (.own ds))) = o) : nSeq (nAsgO i mo) b δ = o := by
  rw [nSeq_e, nAsgO_e, h]
  exact k
theorem asgG_go (h : m δ = some d) (hg : gm d δ = some δ') (k : b δ' = o) : nSeq (nAsgG gm m) b δ = o := by
  rw [nSeq_e, nAsgG_e, h]
  show nx2 b ((gm d δ).map _) = o
  rw [hg]
  exact k
theorem app_go (hs : δ[i]? = some (some (.own ds))) (h : m δ = some d) (hc : ds.length ≤ cap) (k : b (δ.set i (some (.own (ds ++ [d])))) = o) : nSeq (nApp i m) b δ = o := by
  rw [nSeq_e, nApp_e, hs, h, gApp_o hc]
  exact k
theorem app_end (hs : δ[i]? = some (some (.own ds))) (h : m δ = some d) (hc : ds.length ≤ cap) : nApp i m δ = some (.nx (δ.set i (some (.own (ds ++ [d]))))) := by
  rw [nApp_e, hs, h, gApp_o hc]
theorem ifT_go (h : c δ = some true) (k : nSeq a b δ = o) : nSeq (nIf c a e) b δ = o := by
  rw [nSeq_e, nIf_e, h]
  rw [nSeq_e] at k
  exact k
theorem ifF_go (h : c δ = some false) (k : nSeq e b δ = o) : nSeq (nIf c a e) b δ = o := by
  rw [nSeq_e, nIf_e, h]
  rw [nSeq_e] at k
  exact k
theorem ifT_end (h : c δ = some true) (k : a δ = o) : nIf c a e δ = o := by
  rw [nIf_e, h]
  exact k
theorem ifF_end (h : c δ = some false) (k : e δ = o) : nIf c a e δ = o := by
  rw [nIf_e, h]
  exact k
theorem chk_go (h : c δ = some false) (k : b δ = o) : nSeq (nIf c a nNext) b δ = o := ifF_go h (by rw [nSeq_e, nNext_e]; exact k)
theorem ret_go {r : DV} (h : a δ = some (.rt r)) (k : some (.rt r) = o) : nSeq a b δ = o := by
  rw [nSeq_e, h]
  exact k
theorem next_go (k : b δ = o) : nSeq nNext b δ = o := by rw [nSeq_e, nNext_e]; exact k
theorem assoc_go {a1 a2 : DS → Option Out} (k : nSeq a1 (nSeq a2 b) δ = o) : nSeq (nSeq a1 a2) b δ = o := by
  rw [nSeq_e, nSeq_e]
  rw [nSeq_e] at k
  rw [← k]
  cases a1 δ with
  | none => rfl
  | some x =>
    cases x with
    | nx δ1 =>
      show nx2 b (a2 δ1) = nSeq a2 b δ1
      rw [nSeq_e]
    | _ => rfl
theorem for_go {mi : DS → Option (List D)} {bb : DS → Option Out} (hi : mi δ = some ds) (hl : mForL gm bb ds δ = some (.nx δ')) (k : b δ' = o) : nSeq (nFor mi gm bb) b δ = o := by
  rw [nSeq_e, nFor_e, hi]
  show nx2 b (mForL gm bb ds δ) = o
  rw [hl]
  exact k
theorem frz_go (h : δ[i]? = some (some (.own ds))) (k : b (δ.set i (v (.list ds))) = o) : nFrz i b δ = o := by
  rw [nFrz_e, frz_e h]
  exact k
theorem ret_end (h : m δ = some d) : nRet m δ = some (.rt (.val d)) := by rw [nRet_e, h]; rfl
theorem retO_end (h : mo δ = some ds) : nRetO mo δ = some (.rt (.own ds)) := by rw [nRetO_e, h]; rfl
theorem retC_end {ms : DS → Option (List D)} {f : List D → Option DV} {r : DV} (h : ms δ = some ds) (hf : f ds = some r) : nRetC ms f δ = some (.rt r) := by
  rw [nRetC_e, h]
  show (f ds).map Out.rt = _
  rw [hf]
  rfl
theorem retX_end (h : δ[i]? = some (some (.own ds))) : nRetX i δ = some (.rt (.own ds)) := by rw [nRetX_e, h]; rfl
end
/-! comprehensions -/
section
variable {α : Type} {mi : DS → Option (List D)} {gm : D → DS → Option DS} {mt : DS → Option Bool} {me : DS → Option D} {vs : List Nat} {δ : DS} {ds : List D}
theorem lst_of {ms : DS → Option (List D)} (h : ms δ = some ds) : mLst ms δ = some (.list ds) := by rw [mLst_e, h]; rfl
/-- each item gives something -/
theorem lc_eq {as : List α} {F G : α → D} (hi : mi δ = some (as.map F)) (hc : as.length ≤ 1000000) (he : ∀ a ∈ as, mLcF gm mt me (wipeD δ vs) (F a) = some (some (G a))) : mLcI mi gm mt me vs δ = some (as.map G) := by
  have h : (as.map F).length ≤ cap := by rw [List.length_map]; unfold cap; omega
  rw [mLcI_e, hi]
  show (if (as.map F).length ≤ cap then _ else none) = _
  rw [if_pos h]
  exact colO_eq F G as he
theorem lc_fm {β : Type} {as : List α} {F : α → D} (g : α → Option β) {G : β → D} (hi : mi δ = some (as.map F)) (hc : as.length ≤ 1000000) (he : ∀ a ∈ as, mLcF gm mt me (wipeD δ vs) (F a) = some ((g a).map G)) : mLcI mi gm mt me vs δ = some ((as.filterMap g).map G) := by
  have h : (as.map F).length ≤ cap := by rw [List.length_map]; unfold cap; omega
  rw [mLcI_e, hi]
  show (if (as.map F).length ≤ cap then _ else none) = _
  rw [if_pos h]
  exact colO_fm F g G as he
/-- each item gives something with a property -/
theorem lc_ex {P : Nat → α → Prop} {enc : α → D} (hi : mi δ = some ds) (hc : ds.length ≤ 1000000) (he : ∀ i d, ds[i]? = some d → ∃ a, P i a ∧ mLcF gm mt me (wipeD δ vs) d = some (some (enc a))) :
    ∃ as : List α, as.length = ds.length ∧ (∀ i a, as[i]? = some a → P i a) ∧ mLcI mi gm mt me vs δ = some (as.map enc) := by
  obtain ⟨as, h1, h2, h3⟩ := colO_map (f := mLcF gm mt me (wipeD δ vs)) P enc ds 0 fun i d h => by rw [Nat.zero_add]; exact he i d h
  refine ⟨as, h1, fun i a h => ?_, ?_⟩
  · have q := h2 i a h
    rw [Nat.zero_add] at q
    exact q
  · have h : ds.length ≤ cap := by unfold cap; omega
    rw [mLcI_e, hi]
    show (if ds.length ≤ cap then _ else none) = _
    rw [if_pos h]
    exact h3
theorem rng_nat {n : Nat} {ms : DS → Option (List D)} (h : ms δ = some [.int (n : Int)]) (hn : n ≤ 1000000) : mRng1 ms δ = some ((List.range n).map fun k : Nat => PyData.int (k : Int)) := by
  rw [mRng1_e, h, gRng1_some (by omega) (by omega)]
  unfold rngD
  rw [Int.toNat_natCast]
  congr 1
  apply List.map_congr_left
  intro k _
  rw [Int.zero_add]
theorem items_of {d : List D} (h : me δ = some (.list d)) : mItems me δ = some d := by rw [mItems_e, h]; rfl
end
/-- a for over data that stand for things, each with its place -/
theorem mForL_all {gm : D → DS → Option DS} {b : DS → Option Out} {α : Type} (F : α → D) (P : DS → Prop) : ∀ (as : List α) (δ : DS), P δ →
    (∀ a ∈ as, ∀ δ, P δ → ∃ δ1, gm (F a) δ = some δ1 ∧ ∃ δ2, b δ1 = some (.nx δ2) ∧ P δ2) → ∃ δ', mForL gm b (as.map F) δ = some (.nx δ') ∧ P δ' := fun as δ h hs =>
  mForL_fold F (fun (s : Unit) _ => s) (fun _ δ => P δ) as () δ h fun a ha _ δ hp => hs a ha δ hp
def itr {β : Type} (f : β → β) : Nat → β → β
  | 0, s => s
  | n + 1, s => itr f n (f s)
/-- a state that is iterated -/
theorem mForL_iter {gm : D → DS → Option DS} {b : DS → Option Out} {α β : Type} (F : α → D) (step : β → β) (St : β → DS → Prop) (as : List α) (s : β) (δ : DS) (h : St s δ)
    (hs : ∀ a ∈ as, ∀ s δ, St s δ → ∃ δ1, gm (F a) δ = some δ1 ∧ ∃ δ2, b δ1 = some (.nx δ2) ∧ St (step s) δ2) : ∃ δ', mForL gm b (as.map F) δ = some (.nx δ') ∧ St (itr step as.length s) δ' := by
  have q := mForL_fold F (fun s _ => step s) St as s δ h hs
  have e : ∀ (as : List α) (s : β), as.foldl (fun s _ => step s) s = itr step as.length s := fun as => by
    induction as with
    | nil => intro s; rfl
    | cons a r ih => intro s; exact ih _
  rw [e] at q
  exact q
end Dl
namespace Dl
open PySem PySem.Spec PyProof.Rows L2
/-! ### a set of whole numbers by a comprehension -/
def tSi (w : World) (wi : TI) (g : TG) (tt : TT) (te : TE) (vs : List Nat) : TE := fun σ H Q => wi σ H fun J H1 => ∀ D, H1 D = none →
  ∃ W : Nat → Nat → Hp → Prop, (∃ m, W 0 m (upd H1 D (SetO w D (fun _ => false) 0))) ∧ ∀ i m H, W i m H → (J.stop i H ∧ Q (.ref D) H) ∨ (J.go i H ∧ ∃ Nx : Hp → Prop, (∀ H', Nx H' → ∃ m', m' < m ∧ W (i + 1) m' H') ∧
    ∀ x H', J.yld i H x H' → g x (wipe σ vs) H' fun σ2 H2 => wipe σ2 vs = wipe σ vs ∧ tt σ2 H2 fun b H3 => if b = true then te σ2 H3 fun y H4 => ∃ (c : Int) (S : Int → Bool) (n : Nat), y = .int c ∧ H4 D = some (SetO w D S n) ∧ n + 1 < scanBound ∧ Nx (upd H4 D (SetO w D (fun j => S j || decide (j = c)) (if S c = true then n else n + 1))) else Nx H3)
abbrev bX (X : Cx) (s3 : Shared) (H3 : Hp) (scope : Scope) (fp : List Addr) : Cx := X.blk s3 H3 scope (compEnvC scope (cellsFrom (s3.heap.objs.size + 1) scope.names (cloFrom X.env.cells scope.names [])) s3.heap.objs.size X.env) fp
theorem pe_si {X : Cx} {elt tg iter : PySem.Expr} {ifs : List PySem.Expr} {scope : Scope} {own : List (Str × Nat)} {pos : Pos} {wi : TI} {g : TG} {tt : TT} {te : TE}
    (hc : X.calm = true) (hN : X.N.Nodup) (hi : PI X tg iter wi) (ok : BlkOk X.N X.env.scope scope own)
    (hg : ∀ (s : Shared) (H : Hp) (C : Addr) (cl : List (Str × Addr)) (fp : List Addr), PG (X.blk s H scope (compEnvC scope cl C X.env) fp) tg g)
    (ht : ∀ (s : Shared) (H : Hp) (C : Addr) (cl : List (Str × Addr)) (fp : List Addr), PTs (X.blk s H scope (compEnvC scope cl C X.env) fp) ifs tt)
    (he : ∀ (s : Shared) (H : Hp) (C : Addr) (cl : List (Str × Addr)) (fp : List Addr), PE (X.blk s H scope (compEnvC scope cl C X.env) fp) elt te)
    (hs : ∀ x, foldedSetIterable iter X.env x = pure x) : PE X (.SetComp elt [⟨tg, iter, ifs, 0⟩] scope pos) (tSi X.w wi g tt te (own.map (·.2))) := ⟨fun pins s σ H Q I h => by
  have hfree : ∀ y ∈ scope.names, y.2 = NameKind.free → ∃ c, X.env.cells.lookup y.1 = some c := fun y hy e => by
    rcases ok.free y hy e with k | k
    · exact I.ok.has _ (.inl k)
    · exact I.ok.has _ (.inr k)
  rw [PpSet.eval_SetComp]
  refine wpAny_comprehension_free rfl hs (closure_ok hfree) ok.kind (fun y hy e => by rw [ok.uniq y hy, e]) ?_
  refine thn (hi.run pins s σ H _ I h) fun xv s1 hx => thn hx fun itv s2 h2 => ?_
  obtain ⟨it, fp, tn, J, H2, rfl, I2, T, st2, f2, q⟩ := h2
  refine PpSet.newSet_ok (newEnv_comp ?_)
  obtain ⟨W, ⟨m0, w0⟩, turn⟩ := q _ (I2.hok.fresh (Nat.le_refl _))
  have I3 := Inv.laid (t' := s2.toks) I2 (fun b o e => Heap.get?_push_of_some { cls := Value.type "set", data := Data.set #[] 0 (SetTable.fresh 0 0 !X.w.params.followText "set-order") } e) (Nat.le_refl _) (setO_new (setR_fresh X.w))
  generalize hDq : s2.heap.objs.size = Dq at w0 turn I3 ⊢
  have f3 : ∀ b ∈ fp, FpOk X pins (upd H2 Dq (SetO X.w Dq (fun _ => false) 0)) b ∧ b < (s2.heap.push { cls := Value.type "set", data := Data.set #[] 0 (SetTable.fresh 0 0 !X.w.params.followText "set-order") }).objs.size := fun b hb => by
    obtain ⟨o, e, _⟩ := T.obj 0 s2.heap st2 b hb
    have hlt := Heap.lt_size e
    refine ⟨⟨?_, (f2 b hb).2⟩, ?_⟩
    · rw [upd_ne (by rw [← hDq]; exact Nat.ne_of_lt hlt)]
      exact (f2 b hb).1
    · rw [Heap.size_push]
      exact Nat.lt_succ_of_lt hlt
  have st3 := T.keep 0 s2.heap (s2.heap.push { cls := Value.type "set", data := Data.set #[] 0 (SetTable.fresh 0 0 !X.w.params.followText "set-order") }) st2 fun b _ o e => Heap.get?_push_of_some _ e
  have I4 := block_start I3 ok hN f3
  have nfp : ∀ b ∈ fp, upd H2 Dq (SetO X.w Dq (fun _ => false) 0) b = none := fun b hb => (f3 b hb).1.1
  generalize hs3 : (⟨s2.heap.push { cls := Value.type "set", data := Data.set #[] 0 (SetTable.fresh 0 0 !X.w.params.followText "set-order") }, s2.gens, s2.drawn, s2.toks, s2.os⟩ : Shared) = s3 at I3 I4 ⊢
  have e3 : s2.heap.push { cls := Value.type "set", data := Data.set #[] 0 (SetTable.fresh 0 0 !X.w.params.followText "set-order") } = s3.heap := by rw [← hs3]
  rw [e3] at f3 st3
  generalize upd H2 Dq (SetO X.w Dq (fun _ => false) 0) = H3 at w0 I3 I4 f3 nfp
  have st4 := T.keep 0 s3.heap (pushCells (s3.heap.push { cls := Value.type "dict", data := Data.dict #[] }) scope.names) st3 fun b _ o e => pushCells_keeps _ _ _ _ (Heap.get?_push_of_some _ e)
  refine (fun k => PpSet.codeAny_compStart_set k (T.self _ 0 _ _ _ st4 k)) ?_
  show codeAny _ _ (Code.compLoop _ 0 (.ref it) (.ref Dq) (compEnvC scope (cellsFrom (s3.heap.objs.size + 1) scope.names (cloFrom X.env.cells scope.names [])) s3.heap.objs.size X.env)) _ _
  have pg := hg s3 H3 s3.heap.objs.size (cellsFrom (s3.heap.objs.size + 1) scope.names (cloFrom X.env.cells scope.names [])) fp
  have pt := ht s3 H3 s3.heap.objs.size (cellsFrom (s3.heap.objs.size + 1) scope.names (cloFrom X.env.cells scope.names [])) fp
  have pe := he s3 H3 s3.heap.objs.size (cellsFrom (s3.heap.objs.size + 1) scope.names (cloFrom X.env.cells scope.names [])) fp
  have stat : ∀ {H' : Hp} {s' : Shared} {pl : List (Addr × Obj)} {σ'}, Inv (bX X s3 H3 scope fp) [] σ' H' s' → (∀ b ∈ fp, H' b = none) → ∀ b ∈ fp, FpOk (bX X s3 H3 scope fp) [] H' b := fun I' n' b hb =>
    ⟨n' b hb, (I'.ok.exf b hb).1, I'.ok.exfs b hb, .inl hb, (I'.ok.exf b hb).2, fun p hp => by cases hp⟩
  refine PpSet.compLoopS_any (fun n s5 => ∃ i H5, Inv (bX X s3 H3 scope fp) [] (wipe σ (own.map (·.2))) H5 s5 ∧ tn i s5.heap ∧ (∀ b ∈ fp, H5 b = none) ∧ W i n H5) (fun n s5 h5 => ?_) m0 ⟨0, H3, I4, st4, nfp, w0⟩
  obtain ⟨i, H5, I5, st5, n5, w5⟩ := h5
  rcases turn i n H5 w5 with ⟨stop, qq⟩ | ⟨go, Nx, hNx, step⟩
  · refine thnF (T.done (bX X s3 H3 scope fp) rfl rfl rfl hc i [] s5 _ H5 (fun _ _ => False) I5 (stat (pl := []) I5 n5) st5 stop) fun r s6 h6 => ?_
    obtain ⟨rfl, I6⟩ := h6
    have I7 : Inv X pins σ H5 s6 := Inv.call' I3 I6.os I6.base I6.hok I6.bare fun b hb => ⟨(f3 b hb).1.2.2.2.1, (f3 b hb).1.2.1, (f3 b hb).1.2.2.2.2.1, (f3 b hb).1.2.2.2.2.2⟩
    obtain ⟨m, hn, _⟩ := I6.loc
    have nC : H5 s3.heap.objs.size = none := I6.free
    have f := Inv.fpOk I3 (Nat.le_refl _) nC
    exact ⟨m, hn, fun h' sb => ⟨.ref Dq, H5, Inv.turned I7 (fun b o hb e => (sb.2 b hb).trans e) f.1 f.2.1 f.2.2.2.1 f.2.2.2.2.1 f.2.2.2.2.2, rfl, qq⟩⟩
  · refine thnF (T.item (bX X s3 H3 scope fp) rfl rfl rfl hc i [] s5 _ H5 (fun _ _ => False) I5 (stat (pl := []) I5 n5) st5 go) fun r s6 h6 => ?_
    obtain ⟨u, rfl, h6⟩ := h6
    refine thnF h6 fun _ s7 h7 => ?_
    obtain ⟨x, H7, I7, rx, hy, st7, n7⟩ := h7
    have I7p := Inv.pinned I7 (stat (pl := []) I7 n7) (T.obj (i + 1) s7.heap st7)
    refine thnF (pg.run _ s7 _ H7 x u _ I7p rx (step x H7 hy)) fun _ s8 h8 => ?_
    obtain ⟨σ8, H8, I8, hw8, q8⟩ := h8
    refine thnF (pt.run _ s8 σ8 H8 _ I8 q8) fun b s9 h9 => ?_
    obtain ⟨H9, I9, q9⟩ := h9
    have fin : ∀ {s' : Shared} {H' : Hp}, Inv (bX X s3 H3 scope fp) ([] ++ pinsAt fp s7.heap) σ8 H' s' → Nx H' → ∃ m, m < n ∧ ∃ i H5, Inv (bX X s3 H3 scope fp) [] (wipe σ (own.map (·.2))) H5 s' ∧ tn i s'.heap ∧ (∀ b ∈ fp, H5 b = none) ∧ W i m H5 := fun {s'} {H'} I' nx => by
      obtain ⟨m', hm, w'⟩ := hNx H' nx
      have pin' : ∀ b ∈ fp, ∀ o, s7.heap.get? b = some o → s'.heap.get? b = some o ∧ H' b = none := fun b hb o e => by
        have z := I'.pin (b, o) (List.mem_append_right _ (List.mem_append_right _ (mem_pinsAt hb e)))
        exact ⟨z.1, z.2.1⟩
      refine ⟨m', hm, i + 1, H', Inv.weak (Inv.unpinned I') (by rw [← hw8, wipe_length]) (fun j v e => (wipe_some (by rw [hw8]; exact e)).1), T.keep (i + 1) s7.heap s'.heap st7 (fun b hb o e => (pin' b hb o e).1), fun b hb => ?_, w'⟩
      obtain ⟨o, e, _⟩ := T.obj (i + 1) s7.heap st7 b hb
      exact (pin' b hb o e).2
    cases b with
    | false =>
      rw [if_neg (by decide)] at q9
      exact fin I9 q9
    | true =>
      rw [if_pos rfl] at q9
      refine thnF (pe.run _ s9 σ8 H9 _ I9 q9) fun z s10 h10 => ?_
      obtain ⟨yv, H10, I10, rz, c, S, k, rfl, hD, hk, nx⟩ := h10
      refine thnF (mt_sadd _ s10 σ8 H10 (.ref Dq) [.int c] (.ref Dq) [z] (fun v H' => v = .non ∧ Nx H') I10 rfl (.cons rz .nil) ⟨Dq, c, S, k, rfl, rfl, hD, hk, rfl, nx⟩) fun _ s11 h11 => ?_
      obtain ⟨v, H11, I11, _, _, nx11⟩ := h11
      exact fin I11 nx11⟩
end Dl
namespace Dl
open PySem PySem.Spec PyProof.Rows L2
variable {K : PySem.W.Frag}
/-! ### ascending, each once -/
def insU (k : Int) : List Int → List Int
  | [] => [k]
  | n :: r => if k < n then k :: n :: r else if k = n then n :: r else n :: insU k r
def sortU (ns : List Int) : List Int := ns.foldr insU []
theorem insU_mem (k : Int) : ∀ (ns : List Int) (x : Int), x ∈ insU k ns ↔ x = k ∨ x ∈ ns
  | [], x => by simp [insU]
  | n :: r, x => by
    unfold insU
    split
    · exact List.mem_cons
    · split
      · rename_i h
        subst h
        constructor
        · exact .inr
        · rintro (rfl | h)
          · exact List.mem_cons_self
          · exact h
      · rw [List.mem_cons, insU_mem k r x, List.mem_cons]
        constructor
        · rintro (h | h | h)
          · exact .inr (.inl h)
          · exact .inl h
          · exact .inr (.inr h)
        · rintro (h | h | h)
          · exact .inr (.inl h)
          · exact .inl h
          · exact .inr (.inr h)
theorem insU_up (k : Int) : ∀ ns : List Int, ns.Pairwise (· < ·) → (insU k ns).Pairwise (· < ·)
  | [], _ => by simp [insU]
  | n :: r, h => by
    rw [List.pairwise_cons] at h
    unfold insU
    split
    · rename_i hk
      refine List.pairwise_cons.mpr ⟨fun x hx => ?_, List.pairwise_cons.mpr h⟩
      rcases List.mem_cons.mp hx with rfl | hx
      · exact hk
      · have := h.1 x hx
        omega
    · split
      · exact List.pairwise_cons.mpr h
      · refine List.pairwise_cons.mpr ⟨fun x hx => ?_, insU_up k r h.2⟩
        rcases (insU_mem k r x).mp hx with rfl | hx
        · omega
        · exact h.1 x hx
theorem sortU_mem : ∀ (ns : List Int) (x : Int), x ∈ sortU ns ↔ x ∈ ns
  | [], x => Iff.rfl
  | n :: r, x => by
    show x ∈ insU n (sortU r) ↔ _
    rw [insU_mem, sortU_mem r, List.mem_cons]
theorem sortU_up : ∀ ns : List Int, (sortU ns).Pairwise (· < ·)
  | [] => List.Pairwise.nil
  | n :: r => insU_up n _ (sortU_up r)
theorem up_unique : ∀ xs ys : List Int, xs.Pairwise (· < ·) → ys.Pairwise (· < ·) → (∀ k, k ∈ xs ↔ k ∈ ys) → xs = ys
  | [], [], _, _, _ => rfl
  | [], y :: ys, _, _, h => by
    have := (h y).mpr List.mem_cons_self
    cases this
  | x :: xs, [], _, _, h => by
    have := (h x).mp List.mem_cons_self
    cases this
  | x :: xs, y :: ys, hx, hy, h => by
    rw [List.pairwise_cons] at hx hy
    have e : x = y := by
      rcases List.mem_cons.mp ((h x).mp List.mem_cons_self) with e | e
      · exact e
      · have h1 := hy.1 x e
        rcases List.mem_cons.mp ((h y).mpr List.mem_cons_self) with e2 | e2
        · exact e2.symm
        · have := hx.1 y e2
          omega
    subst e
    rw [up_unique xs ys hx.2 hy.2 fun k => ?_]
    constructor
    · intro hk
      rcases List.mem_cons.mp ((h k).mp (List.mem_cons_of_mem _ hk)) with e | e
      · have := hx.1 k hk
        omega
      · exact e
    · intro hk
      rcases List.mem_cons.mp ((h k).mpr (List.mem_cons_of_mem _ hk)) with e | e
      · have := hy.1 k hk
        omega
      · exact e
/-- sorted({elt for target in iter if test}), whole numbers -/
def mSset (mi : DS → Option (List D)) (gm : D → DS → Option DS) (mt : DS → Option Bool) (me : DS → Option D) (vs : List Nat) : DS → Option (List D) :=
  fun δ => (mi δ).bind fun ds => if ds.length < 64 then (colO (mLcF gm mt me (wipeD δ vs)) ds).bind fun es => (asIs es).map fun ns => (sortU ns).map PyData.int else none
theorem asIs_cons {d : D} {ds : List D} {ns : List Int} (h : asIs (d :: ds) = some ns) : ∃ n r, d = .int n ∧ asIs ds = some r ∧ ns = n :: r := by
  cases d with
  | int n =>
    have h2 : (asIs ds).map (fun r => n :: r) = some ns := h
    obtain ⟨r, e1, e2⟩ := Option.map_eq_some_iff.mp h2
    exact ⟨n, r, rfl, e1, e2.symm⟩
  | _ => cases h
theorem eo_sset {w : World} {wi : TI} {g : TG} {tt : TT} {te : TE} {mi : DS → Option (List D)} {gm : D → DS → Option DS} {mt : DS → Option Bool} {me : DS → Option D} {js vs : List Nat} (hi : EvI K wi mi) (hg : EvG K g js gm) (ht : EvT K tt mt) (he : Ev K te me)
    (hj : ∀ j ∈ js, j ∈ vs := by decide) : EvO K (tCB (rSortedSet w) (tCons (tSi w wi g tt te vs) tNil)) (mSset mi gm mt me vs) := fun F H σ δ r ds e Q q => by
  obtain ⟨xs, hm, e⟩ := Option.bind_eq_some_iff.mp e
  by_cases hc : xs.length < 64
  case neg => rw [if_neg hc] at e; cases e
  rw [if_pos hc] at e
  obtain ⟨all, hall, e⟩ := Option.bind_eq_some_iff.mp e
  obtain ⟨ns, hns, rfl⟩ := Option.map_eq_some_iff.mp e
  refine hi F H σ δ r xs hm _ fun J F1 H1 mv wk => ?_
  intro Dd hD
  have r1 := r.mv mv
  have nF1 : F1 Dd = none := mv.fh.free hD
  have hsb : (63 : Nat) < scanBound := by decide
  refine ⟨fun i m H' => m = xs.length - i ∧ i ≤ xs.length ∧ ∃ (F' : Hp) (S : Int → Bool) (n : Nat) (es : List Int) (rest : List D) (nr : List Int), Mv F1 H1 F' H' ∧ F' Dd = none ∧ H' Dd = some (SetO w Dd S n) ∧ n ≤ i ∧ (∀ k : Int, S k = true ↔ k ∈ es) ∧ colO (mLcF gm mt me (wipeD δ vs)) (xs.drop i) = some rest ∧ asIs rest = some nr ∧ ∀ k : Int, k ∈ ns ↔ k ∈ es ∨ k ∈ nr,
    ⟨xs.length, by omega, Nat.zero_le _, F1, fun _ => false, 0, [], all, ns, Mv.newO mv.fh hD, nF1, upd_same, Nat.le_refl _, fun k => by simp, hall, hns, fun k => by simp⟩, ?_⟩
  rintro i m H' ⟨rfl, hle, F', S, n, es, rest, nr, mv', nF, hq, hn, hS, e', e2, hmem⟩
  obtain ⟨w1, w2⟩ := wk i F' H' mv'.f mv'.fh
  by_cases hlt : i < xs.length
  · have hd : xs.drop i = xs[i] :: xs.drop (i + 1) := List.drop_eq_getElem_cons hlt
    rw [hd] at e'
    unfold colO at e'
    obtain ⟨a, ha, e'⟩ := Option.bind_eq_some_iff.mp e'
    obtain ⟨rest', hr, e'⟩ := Option.bind_eq_some_iff.mp e'
    unfold mLcF at ha
    obtain ⟨δ1, hg1, ha⟩ := Option.bind_eq_some_iff.mp ha
    obtain ⟨b, hb, ha⟩ := Option.bind_eq_some_iff.mp ha
    obtain ⟨hgo, hyl⟩ := w1 _ (List.getElem?_eq_getElem hlt)
    refine .inr ⟨hgo, fun H2 => ∃ (F2 : Hp) (S : Int → Bool) (n : Nat) (es' nr' : List Int), Mv F1 H1 F2 H2 ∧ F2 Dd = none ∧ H2 Dd = some (SetO w Dd S n) ∧ n ≤ i + 1 ∧ (∀ k : Int, S k = true ↔ k ∈ es') ∧ asIs rest' = some nr' ∧ ∀ k : Int, k ∈ ns ↔ k ∈ es' ∨ k ∈ nr', fun H2 hN => ?_, fun x H2 hy => ?_⟩
    · obtain ⟨F2, S2, n2, es2, nr2, a1, a2, a3, a4, a5, a6, a7⟩ := hN
      exact ⟨xs.length - (i + 1), by omega, rfl, hlt, F2, S2, n2, es2, rest', nr2, a1, a2, a3, a4, a5, hr, a6, a7⟩
    · obtain ⟨F2, mv2, rx⟩ := hyl x H2 hy
      have nF2 : F2 Dd = none := mv2.sep Dd (by rw [hq]; exact fun z => nomatch z) nF
      have hq2 := mv2.h _ _ hq
      have mv3 := mv'.trans mv2
      have rw1 : Rel K F2 H2 (L2.wipe σ vs) (wipeD δ vs) := ((r1.mv mv3)).wipe vs
      refine hg F2 H2 _ _ x _ δ1 rx mv2.fh hg1 _ fun σ3 h1 h2 h4 => ?_
      have r3 := h2 rw1
      refine ⟨(h4 vs hj).trans (wipe_wipe σ vs vs fun _ h => h), ?_⟩
      refine ht F2 H2 σ3 δ1 r3 b hb _ fun H3 s3 => ?_
      have hq3 := s3 _ _ hq2
      cases b with
      | false =>
        cases ha
        have e3 : rest' = rest := Option.some.inj e'
        subst e3
        show ∃ (F2 : Hp) (S : Int → Bool) (n : Nat) (es' nr' : List Int), Mv F1 H1 F2 H3 ∧ F2 Dd = none ∧ H3 Dd = some (SetO w Dd S n) ∧ n ≤ i + 1 ∧ (∀ k : Int, S k = true ↔ k ∈ es') ∧ asIs rest' = some nr' ∧ ∀ k : Int, k ∈ ns ↔ k ∈ es' ∨ k ∈ nr'
        exact ⟨F2, S, n, es, nr, mv3.trans (.grow mv2.fh s3), nF2, hq3, by omega, hS, e2, hmem⟩
      | true =>
        obtain ⟨y, hy2, rfl⟩ := Option.map_eq_some_iff.mp ha
        have e3 : y :: rest' = rest := Option.some.inj e'
        subst e3
        obtain ⟨c, nr', rfl, e4, rfl⟩ := asIs_cons e2
        have mg : Mv F2 H2 F2 H3 := .grow mv2.fh s3
        show te σ3 H3 fun y H4 => ∃ (c : Int) (S : Int → Bool) (n : Nat), y = .int c ∧ _
        refine he F2 H3 σ3 δ1 (r3.mv mg) (.int c) hy2 _ fun F4 H4 v mv4 ry => ?_
        cases ry
        have nF4 : F4 Dd = none := mv4.sep Dd (by rw [hq3]; exact fun z => nomatch z) nF2
        have hq4 := mv4.h _ _ hq3
        have mv5 := (mv3.trans mg).trans mv4
        refine ⟨c, S, n, rfl, hq4, by omega, F4, _, _, es ++ [c], nr', ⟨mv5.f, fun z o hz => ?_, fun z o hz => ?_, mv5.sep⟩, nF4, upd_same, by split <;> omega, fun k => ?_, e4, fun k => ?_⟩
        · rw [upd_ne (ne_of_none hz hD)]
          exact mv5.h _ _ hz
        · rw [upd_ne (ne_of_none hz nF4)]
          exact mv5.fh _ _ hz
        · rw [Bool.or_eq_true, hS, decide_eq_true_iff, List.mem_append, List.mem_singleton]
        · rw [hmem, List.mem_cons, List.mem_append, List.mem_singleton, or_assoc]
  · have hz : xs.drop i = [] := List.drop_eq_nil_of_le (by omega)
    rw [hz] at e'
    cases e'
    cases e2
    refine .inl ⟨w2 (by omega), ?_⟩
    show rSortedSet w [.ref Dd] H' Q
    refine ⟨Dd, S, n, rfl, hq, by omega, fun out p up hk hlen hp => ?_⟩
    have eo : out = sortU ns := up_unique _ _ up (sortU_up ns) fun k => by
      rw [hk, hS, sortU_mem, hmem]
      simp
    subst eo
    have m2 := mv.trans mv'
    have m3 : Mv F H F' (upd H' p (.lst ((sortU ns).map V.int))) := m2.trans (Mv.newO mv'.fh hp)
    refine q F' _ p _ m3 (m2.h.free hp) (mv'.fh.free hp) upd_same ?_
    generalize sortU ns = zs
    induction zs with
    | nil => exact .nil
    | cons z zs ih => exact .cons (.int z) ih
end Dl
namespace Dl
open PySem PySem.Spec PyProof.Rows L2
variable {K : PySem.W.Frag}
/-- xs.extend(a new list) -/
def nExd (i : Nat) (m : DS → Option (List D)) : DS → Option Out := fun δ => match δ[i]?, m δ with
  | some (some (.own ds)), some es => if ds.length + es.length ≤ cap then some (.nx (δ.set i (some (.own (ds ++ es))))) else none
  | _, _ => none
theorem sd_ext {i : Nat} {te : TE} {m : DS → Option (List D)} (h : EvO K te m) : SD K (tDrop (tBM K "list" rExtend (tVar i) (tCons te tNil))) (nExd i m) := fun F0 H0 F H σ δ r o e E q => by
  unfold nExd at e
  split at e
  · rename_i ds d hi hm
    by_cases hc : ds.length + d.length ≤ cap
    · rw [if_pos hc] at e
      cases e
      obtain ⟨p, ws, hs, nf, hp, ra⟩ := r.rel.own i ds hi
      refine ⟨_, hs, .inl ⟨rfl, ws, .inl (.inl hp)⟩, h F H σ δ r.rel d hm _ fun F' H' y ys mv hy fy hy' ry => ?_⟩
      have r1 := r.mv mv
      have hp1 := mv.h _ _ hp
      refine ⟨p, y, ws, ys, rfl, rfl, hp1, hy', by rw [ra.len, ry.len]; exact Nat.le_of_lt (cap_lt hc), ?_⟩
      exact q F' _ σ mv.f (r1.mut hi hs ((ra.mono mv.f).app ry))
    · rw [if_neg hc] at e
      cases e
  · cases e
end Dl
namespace Dl
open PySem PySem.Spec PyProof.Rows L2
variable {K : PySem.W.Frag}
/-! ### expressions and statements that change what is owned (P: what is kept of the slots' own values) -/
structure RelM (K : PySem.W.Frag) (P : L2.St → Prop) (F0 H0 F H : Hp) (σ : L2.St) (δ : DS) : Prop where
  s : RelS K F0 H0 F H σ δ
  p : P σ
theorem RelM.mv {P : L2.St → Prop} {F0 H0 F H F' H' : Hp} {σ : L2.St} {δ : DS} (r : RelM K P F0 H0 F H σ δ) (m : Mv F H F' H') : RelM K P F0 H0 F' H' σ δ := ⟨r.s.mv m, r.p⟩
abbrev MS := DS → Option (D × DS)
abbrev MA := DS → Option (List D × DS)
abbrev MB := DS → Option (Bool × DS)
def EvS (K : PySem.W.Frag) (P : L2.St → Prop) (t : TE) (m : MS) : Prop := ∀ F0 H0 F H σ δ, RelM K P F0 H0 F H σ δ → ∀ d δ', m δ = some (d, δ') → ∀ Q : VK, (∀ F' H' v, Same F F' → RelM K P F0 H0 F' H' σ δ' → Rp K F' v d → Q v H') → t σ H Q
def EvAS (K : PySem.W.Frag) (P : L2.St → Prop) (n : Nat) (t : TA) (m : MA) : Prop := ∀ F0 H0 F H σ δ, RelM K P F0 H0 F H σ δ → ∀ ds δ', m δ = some (ds, δ') → ∀ Q : List V → Hp → Prop, (∀ F' H' vs, Same F F' → RelM K P F0 H0 F' H' σ δ' → RpA K F' vs ds → ds.length = n → Q vs H') → t σ H Q
def EvTS (K : PySem.W.Frag) (P : L2.St → Prop) (t : TT) (m : MB) : Prop := ∀ F0 H0 F H σ δ, RelM K P F0 H0 F H σ δ → ∀ b δ', m δ = some (b, δ') → ∀ Q : Bool → Hp → Prop, (∀ F' H', Same F F' → RelM K P F0 H0 F' H' σ δ' → Q b H') → t σ H Q
section
variable {P : L2.St → Prop}
def sPure {α : Type} (m : DS → Option α) : DS → Option (α × DS) := fun δ => (m δ).map fun d => (d, δ)
theorem es_of {t : TE} {m : DS → Option D} (h : Ev K t m) : EvS K P t (sPure m) := fun F0 H0 F H σ δ r d δ' e Q q => by
  obtain ⟨d', hm, e2⟩ := Option.map_eq_some_iff.mp e
  cases e2
  exact h F H σ δ r.s.rel d hm Q fun F' H' v mv rp => q F' H' v mv.f (r.mv mv) rp
theorem ets_of {t : TT} {m : DS → Option Bool} (h : EvT K t m) : EvTS K P t (sPure m) := fun F0 H0 F H σ δ r b δ' e Q q => by
  obtain ⟨d', hm, e2⟩ := Option.map_eq_some_iff.mp e
  cases e2
  exact h F H σ δ r.s.rel b hm Q fun H' s' => q F H' (Same.refl _) (r.mv (.grow r.s.rel.fh s'))
def sBind {α β : Type} (m : DS → Option (α × DS)) (k : α → DS → Option (β × DS)) : DS → Option (β × DS) := fun δ => (m δ).bind fun p => k p.1 p.2
theorem sBind_some {α β : Type} {m : DS → Option (α × DS)} {k : α → DS → Option (β × DS)} {δ δ' : DS} {b : β} (h : sBind m k δ = some (b, δ')) : ∃ a δ1, m δ = some (a, δ1) ∧ k a δ1 = some (b, δ') := by
  obtain ⟨p, h1, h2⟩ := Option.bind_eq_some_iff.mp h
  exact ⟨p.1, p.2, h1, h2⟩
def sRet {α : Type} (o : Option α) (δ : DS) : Option (α × DS) := o.map fun a => (a, δ)
theorem sRet_some {α : Type} {o : Option α} {a : α} {δ δ' : DS} (h : sRet o δ = some (a, δ')) : o = some a ∧ δ' = δ := by
  obtain ⟨b, h1, h2⟩ := Option.map_eq_some_iff.mp h
  cases h2
  exact ⟨h1, rfl⟩
def s2 (g : D → D → Option D) (ma mb : MS) : MS := sBind ma fun a => sBind mb fun b => sRet (g a b)
theorem es_op {r : R2} {g : D → D → Option D} {ta tb : TE} {ma mb : MS} (ha : EvS K P ta ma) (hb : EvS K P tb mb) (ho : OpD K r g) : EvS K P (tOp r ta tb) (s2 g ma mb) := fun F0 H0 F H σ δ rl d δ' e Q q => by
  obtain ⟨a, δ1, ea, e⟩ := sBind_some e
  obtain ⟨b, δ2, eb, e⟩ := sBind_some e
  obtain ⟨eg, rfl⟩ := sRet_some e
  refine ha F0 H0 F H σ δ rl a δ1 ea _ fun F1 H1 x s1 rl1 r1 => ?_
  refine hb F0 H0 F1 H1 σ δ1 rl1 b δ' eb _ fun F2 H2 y s2 rl2 r2 => ?_
  exact ho F2 H2 x y a b d rl2.s.rel.fh (r1.mono s2) r2 eg Q fun F3 H3 v m3 r3 => q F3 H3 v ((s1.trans s2).trans m3.f) (rl2.mv m3) r3
def sNil : MA := fun δ => some ([], δ)
def sCons (ma : MS) (mr : MA) : MA := sBind ma fun a => sBind mr fun r => sRet (some (a :: r))
theorem eas_nil : EvAS K P 0 tNil sNil := fun F0 H0 F H σ δ r ds δ' e Q q => by
  cases e
  exact q F H [] (Same.refl _) r .nil rfl
theorem eas_cons {n : Nat} {te : TE} {t : TA} {ma : MS} {mr : MA} (ha : EvS K P te ma) (hr : EvAS K P n t mr) : EvAS K P (n + 1) (tCons te t) (sCons ma mr) := fun F0 H0 F H σ δ rl ds δ' e Q q => by
  obtain ⟨a, δ1, ea, e⟩ := sBind_some e
  obtain ⟨b, δ2, eb, e⟩ := sBind_some e
  obtain ⟨eg, rfl⟩ := sRet_some e
  cases eg
  refine ha F0 H0 F H σ δ rl a δ1 ea _ fun F1 H1 x s1 rl1 r1 => ?_
  refine hr F0 H0 F1 H1 σ δ1 rl1 b _ eb _ fun F2 H2 vs s2 rl2 r2 hl => ?_
  exact q F2 H2 (x :: vs) (s1.trans s2) rl2 (.cons (r1.mono s2) r2) (by rw [List.length_cons, hl])
def sTup (ms : MA) : MS := sBind ms fun ds => sRet (some (.tuple ds))
theorem es_tup {n : Nat} {t : TA} {ms : MA} (h : EvAS K P n t ms) (hn : n ≤ 1000 := by decide) : EvS K P (tTup t) (sTup ms) := fun F0 H0 F H σ δ rl d δ' e Q q => by
  obtain ⟨ds, δ1, ed, e⟩ := sBind_some e
  obtain ⟨eg, rfl⟩ := sRet_some e
  cases eg
  refine h F0 H0 F H σ δ rl ds _ ed _ fun F1 H1 vs m1 rl1 r1 hl => ?_
  refine ⟨?_, fun p hp => ?_⟩
  · rw [r1.len, hl]; exact Nat.le_trans hn (by decide)
  · have mv := Mv.new (o := .tup vs) rl1.s.rel.fh hp
    exact q _ _ _ (m1.trans mv.f) (rl1.mv mv) (.tup (.inl (.inl upd_same)) (r1.mono mv.f))
def sLst (ms : MA) : MS := sBind ms fun ds => sRet (some (.list ds))
theorem es_lst {n : Nat} {t : TA} {ms : MA} (h : EvAS K P n t ms) (hn : n ≤ 1000 := by decide) : EvS K P (tLst t) (sLst ms) := fun F0 H0 F H σ δ rl d δ' e Q q => by
  obtain ⟨ds, δ1, ed, e⟩ := sBind_some e
  obtain ⟨eg, rfl⟩ := sRet_some e
  cases eg
  refine h F0 H0 F H σ δ rl ds _ ed _ fun F1 H1 vs m1 rl1 r1 hl => ?_
  refine ⟨?_, fun p hp => ?_⟩
  · rw [r1.len, hl]; exact Nat.le_trans hn (by decide)
  · have mv := Mv.new (o := .lst vs) rl1.s.rel.fh hp
    exact q _ _ _ (m1.trans mv.f) (rl1.mv mv) (.lst (.inl (.inl upd_same)) (r1.mono mv.f))
def sCall (ms : MA) (g : List D → Option D) : MS := sBind ms fun ds => sRet (g ds)
theorem es_cb {n : Nat} {r : List V → Hp → VK → Prop} {t : TA} {ms : MA} {g : List D → Option D} (ha : EvAS K P n t ms) (hc : CallD K r g) : EvS K P (tCB r t) (sCall ms g) := fun F0 H0 F H σ δ rl d δ' e Q q => by
  obtain ⟨ds, δ1, ed, e⟩ := sBind_some e
  obtain ⟨eg, rfl⟩ := sRet_some e
  refine ha F0 H0 F H σ δ rl ds _ ed _ fun F1 H1 vs m1 rl1 r1 hl => ?_
  exact hc F1 H1 vs ds d rl1.s.rel.fh r1 eg Q fun F2 H2 v m2 r2 => q F2 H2 v (m1.trans m2.f) (rl1.mv m2) r2
def sCallF (ms : MA) (f : List D → Option DV) : MS := sBind ms fun ds => sRet ((f ds).map DV.data)
/-- as a test: a bool -/
def sB (m : MS) : MB := sBind m fun d => sRet (match d with | .bool b => some b | _ => none)
/-! the promise of a def that changes the list that is its first argument -/
def spM (K : PySem.W.Frag) (f : List D → List D → Option (D × List D)) : Sp := fun vs H Q _ => ∃ F p ws0 ws ds es d ds', vs = .ref p :: ws ∧ Same F H ∧ F p = none ∧ H p = some (.lst ws0) ∧ RpA K F ws0 ds ∧ RpA K F ws es ∧ f ds es = some (d, ds') ∧
  ∀ F' H' v ws', Same F F' → (∀ a o, a ≠ p → H a = some o → H' a = some o) → Same F' H' → (∀ q, H q ≠ none → F q = none → F' q = none) → H' p = some (.lst ws') → RpA K F' ws' ds' → Rp K F' v d → Q v H'
def sDraw (i : Nat) (ms : DS → Option (List D)) (f : List D → List D → Option (D × List D)) : MS := fun δ => match δ[i]?, ms δ with
  | some (some (.own ds)), some es => (f ds es).map fun p => (p.1, δ.set i (some (.own p.2)))
  | _, _ => none
theorem es_draw {i n : Nat} {E : XK} {t : TA} {ms : DS → Option (List D)} {f : List D → List D → Option (D × List D)} (ha : EvA K n t ms) : EvS K P (tCall (spM K f) [] E (tCons (tVar i) t)) (sDraw i ms f) := fun F0 H0 F H σ δ rl d δ' e Q q => by
  unfold sDraw at e
  split at e
  · rename_i ds es hi hm
    obtain ⟨p2, hf, e2⟩ := Option.map_eq_some_iff.mp e
    cases e2
    obtain ⟨p, ws0, hs, nf, hp, ra⟩ := rl.s.rel.own i ds hi
    refine ⟨_, hs, ha F H σ δ rl.s.rel es hm _ fun F1 H1 ws m1 rw1 hl => ?_⟩
    have rl1 := rl.mv m1
    obtain ⟨p', ws1, hs', nf1, hp1, ra1⟩ := rl1.s.rel.own i ds hi
    rw [hs] at hs'
    cases hs'
    refine ⟨F1, p, ws1, ws, ds, es, p2.1, p2.2, by rw [List.append_nil], m1.fh, nf1, hp1, ra1, rw1, hf, fun F' H' v ws' sF hH sFH sep hp' ra' rv => ?_⟩
    have nf' : F' p = none := sep p (by rw [hp1]; exact fun z => nomatch z) nf1
    -- first the heap without the change, then the change
    have hmid : Mv F1 H1 F' (upd H' p (.lst ws1)) := by
      refine ⟨sF, fun a o h => ?_, fun a o h => ?_, sep⟩
      · by_cases ha : a = p
        · subst ha
          rw [upd_same, ← hp1]
          exact h
        · rw [upd_ne ha]
          exact hH a o ha h
      · rw [upd_ne (ne_of_none h nf')]
        exact sFH _ _ h
    have r2 := (rl1.mv hmid)
    have r3 := r2.s.mut hi hs ra'
    have e3 : upd (upd H' p (.lst ws1)) p (.lst ws') = H' := by
      funext a
      by_cases ha : a = p
      · subst ha
        rw [upd_same, hp']
      · rw [upd_ne ha, upd_ne ha]
    rw [e3] at r3
    exact q F' H' v (m1.f.trans sF) ⟨r3, rl.p⟩ rv
  · cases e
end
end Dl
namespace Dl
open PySem PySem.Spec PyProof.Rows L2
variable {K : PySem.W.Frag}
inductive OutM where
  | nx (δ : DS)
  | rt (d : D) (δ : DS)
  | bk (δ : DS)
  | ct (δ : DS)
def FinM (K : PySem.W.Frag) (P : L2.St → Prop) (F0 H0 F : Hp) (E : Ends) : OutM → Prop
  | .nx δ => ∀ F' H' σ, Same F F' → RelM K P F0 H0 F' H' σ δ → E.nx σ H'
  | .bk δ => ∀ F' H' σ, Same F F' → RelM K P F0 H0 F' H' σ δ → E.bk σ H'
  | .ct δ => ∀ F' H' σ, Same F F' → RelM K P F0 H0 F' H' σ δ → E.ct σ H'
  | .rt d δ => ∀ F' H' v σ, Same F F' → RelM K P F0 H0 F' H' σ δ → Rp K F' v d → E.rt v H'
theorem FinM.mono {P : L2.St → Prop} {F0 H0 F F1 : Hp} {E : Ends} {o : OutM} (s : Same F F1) (h : FinM K P F0 H0 F E o) : FinM K P F0 H0 F1 E o := by
  cases o with
  | nx δ => exact fun F' H' σ s' r => h F' H' σ (s.trans s') r
  | bk δ => exact fun F' H' σ s' r => h F' H' σ (s.trans s') r
  | ct δ => exact fun F' H' σ s' r => h F' H' σ (s.trans s') r
  | rt d δ => exact fun F' H' v σ s' r rv => h F' H' v σ (s.trans s') r rv
def SM (K : PySem.W.Frag) (P : L2.St → Prop) (t : TS) (m : DS → Option OutM) : Prop := ∀ F0 H0 F H σ δ, RelM K P F0 H0 F H σ δ → ∀ o, m δ = some o → ∀ E : Ends, FinM K P F0 H0 F E o → t E σ H
/-- the slot i may be set -/
def Keeps (P : L2.St → Prop) (i : Nat) : Prop := ∀ σ x, P σ → P (σ.set i x)
section
variable {P : L2.St → Prop}
def qNext : DS → Option OutM := fun δ => some (.nx δ)
def qSeq (a b : DS → Option OutM) : DS → Option OutM := fun δ => (a δ).bind fun o => match o with
  | .nx δ' => b δ'
  | o => some o
theorem sm_next : SM K P tNext qNext := fun F0 H0 F H σ δ r o e E q => by
  cases e
  exact q F H σ (Same.refl _) r
theorem sm_seq {t u : TS} {a b : DS → Option OutM} (ha : SM K P t a) (hb : SM K P u b) : SM K P (tSeq t u) (qSeq a b) := fun F0 H0 F H σ δ r o e E q => by
  obtain ⟨x, ea, e⟩ := Option.bind_eq_some_iff.mp e
  refine ha F0 H0 F H σ δ r x ea _ ?_
  cases x with
  | nx δ' => exact fun F' H' σ' s r' => hb F0 H0 F' H' σ' δ' r' o e E (q.mono s)
  | bk δ' => cases e; exact q
  | ct δ' => cases e; exact q
  | rt v δ' => cases e; exact q
def qBrk : DS → Option OutM := fun δ => some (.bk δ)
def qCnt : DS → Option OutM := fun δ => some (.ct δ)
theorem sm_brk : SM K P tBreak qBrk := fun F0 H0 F H σ δ r o e E q => by
  cases e
  exact q F H σ (Same.refl _) r
theorem sm_cnt : SM K P tCont qCnt := fun F0 H0 F H σ δ r o e E q => by
  cases e
  exact q F H σ (Same.refl _) r
/-- the slot i is read as frozen from here on -/
def qFrz (i : Nat) (a : DS → Option OutM) : DS → Option OutM := fun δ => a (frz i δ)
theorem sm_frz (i : Nat) {t : TS} {a : DS → Option OutM} (ha : SM K P t a) : SM K P t (qFrz i a) := fun F0 H0 F H σ δ r o e E q => by
  obtain ⟨F', s, r'⟩ := r.s.frz i
  exact ha F0 H0 F' H σ _ ⟨r', r.p⟩ o e E (q.mono s)
def qIf (mc : MB) (a b : DS → Option OutM) : DS → Option OutM := fun δ => (mc δ).bind fun p => if p.1 = true then a p.2 else b p.2
theorem sm_if {c : TT} {t u : TS} {mc : MB} {a b : DS → Option OutM} (hc : EvTS K P c mc) (ha : SM K P t a) (hb : SM K P u b) : SM K P (tIfS c t u) (qIf mc a b) := fun F0 H0 F H σ δ r o e E q => by
  obtain ⟨x, ea, e⟩ := Option.bind_eq_some_iff.mp e
  refine hc F0 H0 F H σ δ r x.1 x.2 ea _ fun F1 H1 s1 r1 => ?_
  obtain ⟨b', δ1⟩ := x
  cases b' with
  | true =>
    show t E σ H1
    exact ha F0 H0 F1 H1 σ δ1 r1 o e E (q.mono s1)
  | false =>
    show u E σ H1
    exact hb F0 H0 F1 H1 σ δ1 r1 o e E (q.mono s1)
def qAsg (i : Nat) (m : MS) : DS → Option OutM := fun δ => (m δ).map fun p => .nx (p.2.set i (some (.val p.1)))
theorem sm_asg {i : Nat} {te : TE} {m : MS} (hP : Keeps P i) (h : EvS K P te m) : SM K P (tAsg te (gName i)) (qAsg i m) := fun F0 H0 F H σ δ r o e E q => by
  obtain ⟨p, hm, rfl⟩ := Option.map_eq_some_iff.mp e
  refine h F0 H0 F H σ δ r p.1 p.2 hm _ fun F' H' v s r' rp => ?_
  exact q F' H' _ s ⟨r'.s.setV rp, hP _ _ r'.p⟩
def qAsgO (i : Nat) (m : DS → Option (List D)) : DS → Option OutM := fun δ => (m δ).map fun d => .nx (δ.set i (some (.own d)))
theorem sm_asgO {i : Nat} {te : TE} {m : DS → Option (List D)} (hP : Keeps P i) (h : EvO K te m) : SM K P (tAsg te (gName i)) (qAsgO i m) := fun F0 H0 F H σ δ r o e E q => by
  obtain ⟨d, hm, rfl⟩ := Option.map_eq_some_iff.mp e
  refine h F H σ δ r.s.rel d hm _ fun F' H' p vs mv hp hf hq ra => ?_
  exact q F' H' _ mv.f ⟨r.s.setO mv hp hf hq ra, hP _ _ r.p⟩
def qRet (m : MS) : DS → Option OutM := fun δ => (m δ).map fun p => .rt p.1 p.2
theorem sm_ret {te : TE} {m : MS} (h : EvS K P te m) : SM K P (tRet te) (qRet m) := fun F0 H0 F H σ δ r o e E q => by
  obtain ⟨p, hm, rfl⟩ := Option.map_eq_some_iff.mp e
  refine h F0 H0 F H σ δ r p.1 p.2 hm _ fun F' H' v s r' rp => ?_
  exact q F' H' v σ s r' rp
/-- a statement of the pure layer whose ends all go on, where no slot is set (an owned list changes) -/
def qOf (m : DS → Option Out) : DS → Option OutM := fun δ => (m δ).bind fun o => match o with
  | .nx δ' => some (.nx δ')
  | _ => none
/-- xs.append(e) where e changes what is owned -/
def qApp (i : Nat) (m : MS) : DS → Option OutM := fun δ => match δ[i]? with
  | some (some (.own _)) => (m δ).bind fun p => (match p.2[i]? with
    | some (some (.own ds)) => if ds.length ≤ cap then some (.nx (p.2.set i (some (.own (ds ++ [p.1]))))) else none
    | _ => none)
  | _ => none
theorem sm_app {i : Nat} {te : TE} {m : MS} (h : EvS K P te m) : SM K P (tDrop (tBM K "list" rAppend (tVar i) (tCons te tNil))) (qApp i m) := fun F0 H0 F H σ δ r o e E q => by
  unfold qApp at e
  split at e
  · rename_i ds0 hi
    obtain ⟨x, hm, e⟩ := Option.bind_eq_some_iff.mp e
    obtain ⟨d, δ1⟩ := x
    obtain ⟨p, ws, hs, nf, hp, ra⟩ := r.s.rel.own i ds0 hi
    refine ⟨_, hs, .inl ⟨rfl, ws, .inl (.inl hp)⟩, h F0 H0 F H σ δ r d δ1 hm _ fun F' H' y s1 r1 ry => ?_⟩
    split at e
    · rename_i ds hi1
      have hi1 : δ1[i]? = some (some (.own ds)) := hi1
      by_cases hc : ds.length ≤ cap
      · rw [if_pos hc] at e
        cases e
        obtain ⟨p', ws', hs', nf', hp', ra'⟩ := r1.s.rel.own i ds hi1
        rw [hs] at hs'
        cases hs'
        refine ⟨p, ws', y, rfl, rfl, hp', by rw [ra'.len]; exact cap_lt hc, ?_⟩
        exact q F' _ σ s1 ⟨r1.s.mut hi1 hs (ra'.app (.one ry)), r1.p⟩
      · rw [if_neg hc] at e
        cases e
    · cases e
  · cases e
/-- xs[k] = e -/
def qSetI (i : Nat) (mi m : DS → Option D) : DS → Option OutM := fun δ => match δ[i]?, mi δ, m δ with
  | some (some (.own ds)), some (.int k), some d => (ixN ds.length k).map fun j => .nx (δ.set i (some (.own (ds.set j d))))
  | _, _, _ => none
end
end Dl
namespace Dl
open PySem PySem.Spec PyProof.Rows L2
variable {K : PySem.W.Frag}
section
variable {P : L2.St → Prop}
theorem sm_setI {i : Nat} {te ti : TE} {m mi : DS → Option D} (h : Ev K te m) (hi' : Ev K ti mi) : SM K P (tAsg te (gSub (tVar i) ti rSetL)) (qSetI i mi m) := fun F0 H0 F H σ δ r o e E q => by
  unfold qSetI at e
  split at e
  · rename_i ds k d hi hk hm
    obtain ⟨j, hj, rfl⟩ := Option.map_eq_some_iff.mp e
    refine h F H σ δ r.s.rel d hm _ fun F' H' y mv ry => ?_
    obtain ⟨p, ws, hs, nf, hp, ra⟩ := r.s.rel.own i ds hi
    refine ⟨_, hs, ?_⟩
    have r1 := r.mv mv
    refine hi' F' H' σ δ r1.s.rel _ hk _ fun F2 H2 z mv2 rz => ?_
    cases rz
    have r2 := r1.mv mv2
    refine ⟨p, ws, k, j, rfl, rfl, mv2.h _ _ (mv.h _ _ hp), by rw [ra.len]; exact hj, ?_⟩
    exact q F2 _ σ (mv.f.trans mv2.f) ⟨r2.s.mut hi hs (((ra.mono mv.f).mono mv2.f).setAt (ry.mono mv2.f)), r.p⟩
  · cases e
/-- P looks at no slot of js -/
def Keep2 (P : L2.St → Prop) (js : List Nat) : Prop := ∀ σ σ' : L2.St, wipe σ' js = wipe σ js → P σ → P σ'
def qForL (gm : D → DS → Option DS) (b : DS → Option OutM) : List D → DS → Option OutM
  | [], δ => some (.nx δ)
  | d :: ds, δ => (gm d δ).bind fun δ1 => (b δ1).bind fun o => match o with
    | .nx δ2 => qForL gm b ds δ2
    | .ct δ2 => qForL gm b ds δ2
    | .bk δ2 => some (.nx δ2)
    | .rt v δ2 => some (.rt v δ2)
def qFor (mi : DS → Option (List D)) (gm : D → DS → Option DS) (b : DS → Option OutM) : DS → Option OutM := fun δ => (mi δ).bind fun ds => qForL gm b ds δ
theorem sm_for {wi : TI} {g : TG} {js : List Nat} {tb : TS} {mi : DS → Option (List D)} {gm : D → DS → Option DS} {b : DS → Option OutM} (hP : Keep2 P js) (hi : EvI K wi mi) (hg : EvG K g js gm) (hb : SM K P tb b) : SM K P (tFor wi g tb) (qFor mi gm b) := fun F0 H0 F H σ δ r o e E q => by
  obtain ⟨ds, hm, e⟩ := Option.bind_eq_some_iff.mp e
  refine hi F H σ δ r.s.rel ds hm _ fun J F1 H1 mv wk => ?_
  refine ⟨fun i m σ' H' => m = ds.length - i ∧ i ≤ ds.length ∧ ∃ F' δ', RelM K P F0 H0 F' H' σ' δ' ∧ Same F1 F' ∧ qForL gm b (ds.drop i) δ' = some o, ⟨ds.length, by omega, Nat.zero_le _, F1, δ, r.mv mv, Same.refl _, e⟩, ?_⟩
  rintro i m σ' H' ⟨rfl, hle, F', δ', r', s', e'⟩
  obtain ⟨w1, w2⟩ := wk i F' H' s' r'.s.rel.fh
  by_cases hlt : i < ds.length
  · have hd : ds.drop i = ds[i] :: ds.drop (i + 1) := List.drop_eq_getElem_cons hlt
    rw [hd] at e'
    unfold qForL at e'
    obtain ⟨δ1, hg1, e'⟩ := Option.bind_eq_some_iff.mp e'
    obtain ⟨o1, hb1, e'⟩ := Option.bind_eq_some_iff.mp e'
    obtain ⟨hgo, hyl⟩ := w1 _ (List.getElem?_eq_getElem hlt)
    refine .inr ⟨hgo, fun σ2 H2 => ∃ F2 δ2, RelM K P F0 H0 F2 H2 σ2 δ2 ∧ Same F1 F2 ∧ qForL gm b (ds.drop (i + 1)) δ2 = some o, fun σ2 H2 hN => ?_, fun x H2 hy => ?_⟩
    · obtain ⟨F2, δ2, r2, s2, e2⟩ := hN
      exact ⟨ds.length - (i + 1), by omega, rfl, hlt, F2, δ2, r2, s2, e2⟩
    · obtain ⟨F2, mv2, rx⟩ := hyl x H2 hy
      refine hg F2 H2 σ' δ' x _ δ1 rx mv2.fh hg1 _ fun σ3 h1 h2 h4 => ?_
      have r3 : RelM K P F0 H0 F2 H2 σ3 δ1 := ⟨h1 F0 H0 (r'.s.mv mv2), hP _ _ (h4 js fun _ h => h) r'.p⟩
      refine hb F0 H0 F2 H2 σ3 δ1 r3 o1 hb1 _ ?_
      cases o1 with
      | nx δ2 => exact fun F3 H3 σ4 s3 r4 => ⟨F3, δ2, r4, (s'.trans mv2.f).trans s3, e'⟩
      | ct δ2 => exact fun F3 H3 σ4 s3 r4 => ⟨F3, δ2, r4, (s'.trans mv2.f).trans s3, e'⟩
      | bk δ2 =>
        cases e'
        exact fun F3 H3 σ4 s3 r4 => q F3 H3 σ4 (((mv.f.trans s').trans mv2.f).trans s3) r4
      | rt v δ2 =>
        cases e'
        exact fun F3 H3 v σ4 s3 r4 rv => q F3 H3 v σ4 (((mv.f.trans s').trans mv2.f).trans s3) r4 rv
  · have hz : ds.drop i = [] := List.drop_eq_nil_of_le (by omega)
    rw [hz] at e'
    cases e'
    exact .inl ⟨w2 (by omega), q F' H' σ' (mv.f.trans s') r'⟩
end
/-! the two uses: in the law (nothing is kept), in a def that changes its first argument -/
def qSD (m : DS → Option OutM) : DS → Option Out := fun δ => (m δ).map fun o => match o with
  | .nx δ => .nx δ
  | .bk δ => .bk δ
  | .ct δ => .ct δ
  | .rt d _ => .rt (.val d)
theorem sd_of_sm {t : TS} {m : DS → Option OutM} (h : SM K (fun _ => True) t m) : SD K t (qSD m) := fun F0 H0 F H σ δ r o e E q => by
  obtain ⟨o', hm, rfl⟩ := Option.map_eq_some_iff.mp e
  refine h F0 H0 F H σ δ ⟨r, trivial⟩ o' hm E ?_
  cases o' with
  | nx δ' => exact fun F' H' σ' s r' => q F' H' σ' s r'.s
  | bk δ' => exact fun F' H' σ' s r' => q F' H' σ' s r'.s
  | ct δ' => exact fun F' H' σ' s r' => q F' H' σ' s r'.s
  | rt d δ' => exact fun F' H' v σ' s r' rv => q F' H' v r'.s.back rv
theorem keep_true (i : Nat) : Keeps (fun _ => True) i := fun _ _ _ => trivial
theorem keep2_true (js : List Nat) : Keep2 (fun _ => True) js := fun _ _ _ _ => trivial
def P0 (p : Addr) : L2.St → Prop := fun σ => σ[0]? = some (some (.ref p))
theorem keep_p0 {p : Addr} {i : Nat} (h : i ≠ 0 := by decide) : Keeps (P0 p) i := fun σ x hp => by
  unfold P0 at hp ⊢
  rw [List.getElem?_set_ne h]
  exact hp
theorem wipe_0 {σ : L2.St} : ∀ {js : List Nat}, 0 ∉ js → (wipe σ js)[0]? = σ[0]?
  | [], _ => rfl
  | j :: js, h => by
    show ((wipe σ js).set j none)[0]? = _
    rw [List.getElem?_set_ne (fun z => h (by rw [z]; exact List.mem_cons_self))]
    exact wipe_0 fun z => h (List.mem_cons_of_mem _ z)
theorem keep2_p0 {p : Addr} {js : List Nat} (h : 0 ∉ js := by decide) : Keep2 (P0 p) js := fun σ σ' e hp => by
  unfold P0 at hp ⊢
  rw [← wipe_0 (σ := σ') h, e, wipe_0 h]
  exact hp
def startM (n : Nat) (ds : List D) (es : List D) : DS := some (.own ds) :: (es.map fun d => some (.val d)) ++ List.replicate (n - (es.length + 1)) none
def own0 (δ : DS) : Option (List D) := match δ[0]? with
  | some (some (DV.own ds)) => some ds
  | _ => none
theorem own0_some {δ : DS} {ds : List D} (h : own0 δ = some ds) : δ[0]? = some (some (.own ds)) := by
  unfold own0 at h
  split at h
  · rename_i es e
    cases h
    exact e
  · cases h
def fnM (n k : Nat) (mm : DS → Option OutM) : List D → List D → Option (D × List D) := fun ds es => if es.length + 1 = k then
    match mm (startM n ds es) with
    | some (.nx δ) => (own0 δ).map fun ds' => (.none, ds')
    | some (.rt d δ) => (own0 δ).map fun ds' => (d, ds')
    | _ => none
  else none
def hole (H : Hp) (p : Addr) : Hp := fun a => if a = p then none else H a
theorem hole_same (H : Hp) (p : Addr) : hole H p p = none := if_pos rfl
theorem hole_ne {H : Hp} {p a : Addr} (h : a ≠ p) : hole H p a = H a := if_neg h
theorem rel_startM {F H : Hp} {N : List Str} {p : Addr} {ws0 ws : List V} {ds es : List D} (s : Same F H) (nf : F p = none) (hp : H p = some (.lst ws0)) (ra : RpA K F ws0 ds) (rb : RpA K F ws es) :
    RelM K (P0 p) F (hole H p) F H (L2.start N (.ref p :: ws)) (startM N.length ds es) := by
  have hl := rb.len
  have get : ∀ (i : Nat) r, (startM N.length ds es)[i]? = some (some r) → (i = 0 ∧ r = .own ds) ∨ ∃ j d, i = j + 1 ∧ r = .val d ∧ es[j]? = some d := fun i r h => by
    unfold startM at h
    cases i with
    | zero =>
      left
      cases h
      exact ⟨rfl, rfl⟩
    | succ j =>
      right
      rw [List.cons_append, List.getElem?_cons_succ] at h
      by_cases hj : j < es.length
      · rw [List.getElem?_append_left (by rw [List.length_map]; exact hj), List.getElem?_map] at h
        obtain ⟨d, h1, h2⟩ := Option.map_eq_some_iff.mp h
        exact ⟨j, d, rfl, (Option.some.inj h2).symm, h1⟩
      · rw [List.getElem?_append_right (by rw [List.length_map]; omega), List.getElem?_replicate] at h
        split at h <;> cases h
  have s0 : (L2.start N (.ref p :: ws))[0]? = some (some (V.ref p)) := rfl
  refine ⟨⟨⟨s, ?_, fun i d h => ?_, fun i es' h => ?_⟩, Same.refl _, fun a o h => ?_, fun q hq hf => hf, fun i es' q h hq => ?_, fun i j e1 e2 q hij h1 h2 _ _ => ?_⟩, s0⟩
  · unfold L2.start startM
    rw [List.length_append, List.length_append, List.length_map, List.length_replicate, List.length_replicate, List.length_cons, List.length_cons, List.length_map, hl]
  · rcases get i _ h with ⟨_, e⟩ | ⟨j, d', rfl, e, hd⟩
    · cases e
    · cases e
      obtain ⟨v, hv, rv⟩ := rb.get hd
      refine ⟨v, ?_, rv⟩
      unfold L2.start
      rw [List.map_cons, List.cons_append, List.getElem?_cons_succ, List.getElem?_append_left (by rw [List.length_map]; exact (List.getElem?_eq_some_iff.mp hv).1), List.getElem?_map, hv]
      rfl
  · rcases get i _ h with ⟨rfl, e⟩ | ⟨j, d', rfl, e, hd⟩
    · cases e
      exact ⟨p, ws0, s0, nf, hp, ra⟩
    · cases e
  · by_cases ha : a = p
    · rw [ha, hole_same] at h
      cases h
    · rw [hole_ne ha] at h
      exact h
  · rcases get i _ h with ⟨rfl, e⟩ | ⟨j, d', rfl, e, hd⟩
    · rw [s0] at hq
      cases hq
      exact hole_same H _
    · cases e
  · rcases get i _ h1 with ⟨rfl, _⟩ | ⟨_, _, _, e, _⟩
    · rcases get j _ h2 with ⟨rfl, _⟩ | ⟨_, _, _, e, _⟩
      · exact hij rfl
      · cases e
    · cases e
theorem fnM_end {F H F' H' : Hp} {p : Addr} {σ : L2.St} {δ : DS} {ds' : List D} {Q : VK} {d : D} (s : Same F F') (r : RelM K (P0 p) F (hole H p) F' H' σ δ) (ho : own0 δ = some ds') (v : V) (rv : Rp K F' v d)
    (q : ∀ F' H' v ws', Same F F' → (∀ a o, a ≠ p → H a = some o → H' a = some o) → Same F' H' → (∀ q, H q ≠ none → F q = none → F' q = none) → H' p = some (.lst ws') → RpA K F' ws' ds' → Rp K F' v d → Q v H') : Q v H' := by
  obtain ⟨p', ws', hs, nf, hp, ra⟩ := r.s.rel.own 0 ds' (own0_some ho)
  have hpp : σ[0]? = some (some (V.ref p)) := r.p
  rw [hpp] at hs
  cases hs
  refine q F' H' v ws' s (fun a o ha h => r.s.h0 a o (by rw [hole_ne ha]; exact h)) r.s.rel.fh (fun a ha hf => ?_) hp ra rv
  by_cases hap : a = p
  · rw [hap]; exact nf
  · exact r.s.sep a (by rw [hole_ne hap]; exact ha) hf
theorem fnM_go {t : TS} {mm : DS → Option OutM} (h : ∀ p, SM K (P0 p) t mm) {N : List Str} {k : Nat} {vs : List V} {H : Hp} {Q : VK} {E : XK} (sp : spM K (fnM N.length k mm) vs H Q E) : t { nx := fun _ H' => Q .non H', rt := Q } (L2.start N vs) H := by
  obtain ⟨F, p, ws0, ws, ds, es, d, ds', rfl, s, nf, hp, ra, rb, e, q⟩ := sp
  have rl := rel_startM (N := N) s nf hp ra rb
  unfold fnM at e
  by_cases hk : es.length + 1 = k
  · rw [if_pos hk] at e
    split at e
    · rename_i δ' hm
      obtain ⟨ds2, ho, e2⟩ := Option.map_eq_some_iff.mp e
      cases e2
      exact h p F (hole H p) F H _ _ rl _ hm _ fun F' H' σ s' r' => fnM_end s' r' ho .non .non q
    · rename_i r2 δ' hm
      obtain ⟨ds2, ho, e2⟩ := Option.map_eq_some_iff.mp e
      cases e2
      exact h p F (hole H p) F H _ _ rl _ hm _ fun F' H' v σ s' r' rv => fnM_end s' r' ho v rv q
    · cases e
  · rw [if_neg hk] at e
    cases e
theorem fnM_len {N : List Str} {k : Nat} {mm : DS → Option OutM} {vs : List V} {H : Hp} {Q : VK} {E : XK} (sp : spM K (fnM N.length k mm) vs H Q E) : vs.length = k := by
  obtain ⟨F, p, ws0, ws, ds, es, d, ds', rfl, s, nf, hp, ra, rb, e, q⟩ := sp
  unfold fnM at e
  by_cases hk : es.length + 1 = k
  · rw [List.length_cons, rb.len, hk]
  · rw [if_neg hk] at e
    cases e
section
variable {P : Program} {w : World} {K : PySem.W.Frag} {mg : Str → Option Value} {base : Heap}
theorem okM {x qual : Str} {st : Stmt} {f : Addr} {fd : FuncData} {N ps : List Str} {k : Nat} {mm : DS → Option OutM} (F : Fun K x qual st f fd) (S : FnScope N ps (defScope st))
    (hbody : ∀ (cdv : Value) (A : Around) (outer : List Env) (s : Shared) (H : Hp) (E : XK), Room k (A.deeper (envOfC qual (defScope st) s.heap.objs.size f cdv)) →
      ∃ t, PSs (cxOf CX0 P w K mg base N qual (defScope st) f cdv A outer s H E).nox (defBody st) t ∧ ∀ p, SM K (P0 p) t mm) : FnOk P w K mg base CX0 (k + 1) f fd ps (spM K (fnM N.length ps.length mm)) := by
  refine F.ok S (fun vs H Q E h => fnM_len h) (fun cdv A outer s H vs Q E hr h => ?_)
  obtain ⟨t, h1, h2⟩ := hbody cdv A outer s H E hr
  exact ⟨t, h1, fnM_go h2 h⟩
/-- a def that changes the list that is its first argument -/
structure Dm (P : Program) (w : World) (K : PySem.W.Frag) (mg : Str → Option Value) (base : Heap) (k : Nat) (x : Str) (ps : List Str) (fm : List D → List D → Option (D × List D)) : Prop where
  ex : ∃ (f : Addr) (fd : FuncData), mg x = some (.ref f) ∧ PySem.W.keepIn K (.ref f) = true ∧ Binds K fd ps [] ∧ FnOk P w K mg base CX0 k f fd ps (spM K fm)
theorem Dm.mono {j k : Nat} {x : Str} {ps : List Str} {fm : List D → List D → Option (D × List D)} (h : Dm P w K mg base j x ps fm) (hk : j ≤ k) : Dm P w K mg base k x ps fm := by
  obtain ⟨f, fd, h1, h2, h3, h4⟩ := h.ex
  exact ⟨f, fd, h1, h2, h3, h4.mono hk⟩
theorem Tx.dm {x : Str} {st : Stmt} {N ps : List Str} {k : Nat} {mm : DS → Option OutM} {f : Addr} {fd : FuncData} (T : Tx K mg x st ps f fd) (S : FnScope N ps (defScope st))
    (hbody : ∀ (cdv : Value) (A : Around) (outer : List Env) (s : Shared) (H : Hp) (E : XK), Room k (A.deeper (envOfC x (defScope st) s.heap.objs.size f cdv)) →
      ∃ t, PSs (cxOf CX0 P w K mg base N x (defScope st) f cdv A outer s H E).nox (defBody st) t ∧ ∀ p, SM K (P0 p) t mm) : Dm P w K mg base (k + 1) x ps (fnM N.length ps.length mm) :=
  ⟨f, fd, T.gl, T.fn.kp, T.bd, okM T.fn S hbody⟩
end
/-- a call of such a def -/
theorem pe_dm {X : Cx} {k : Nat} {x : Str} {ps : List Str} {fm : List D → List D → Option (D × List D)} {p pos : Pos} {e : Expr} {es : List Expr} {t : TA} (Dx : Dm X.prog X.w X.K X.mg X.base k x ps fm) (hr : Room k X.A) (hg : Gl X x) (ha : PA X (e :: es) t)
    (he : starEach (e :: es) X.env = (false, eval e X.env) :: starEach es X.env := by rfl) (hpl : (backTo pos (starEach es X.env)).any (·.1) = false := by rfl) (hdb : (x == ("__debug__" : Str)) = false := by decide) :
    PE X (.Call (.Name x p) (e :: es) [] pos) (tCall (spM X.K fm) [] E0 t) := by
  obtain ⟨f, fd, h1, h2, h3, h4⟩ := Dx.ex
  exact pe_call h4 hr hg h1 h2 h3 .nil pass0 ha hdb he hpl
end Dl
namespace Dl
open PySem PySem.Spec PyProof.Rows L2
variable {K : PySem.W.Frag}
section
variable {P : L2.St → Prop}
def sTest (m : MS) : MB := sBind m fun d => sRet (match d with | .bool b => some b | _ => none)
theorem sTest_some {m : MS} {δ δ' : DS} {b : Bool} (h : sTest m δ = some (b, δ')) : m δ = some (.bool b, δ') := by
  obtain ⟨d, δ1, h1, h2⟩ := sBind_some h
  obtain ⟨h3, rfl⟩ := sRet_some h2
  cases d <;> cases h3
  exact h1
theorem ets_test {t : TE} {m : MS} (h : EvS K P t m) : EvTS K P (tTest t) (sTest m) := fun F0 H0 F H σ δ r b δ' e Q q => by
  refine h F0 H0 F H σ δ r _ _ (sTest_some e) _ fun F' H' v s r' rp => ?_
  cases rp
  exact ⟨_, rfl, q F' H' s r'⟩
theorem ets_B {t : TE} {m : MS} (h : EvS K P t m) : EvTS K P (tB t) (sTest m) := fun F0 H0 F H σ δ r b δ' e Q q => by
  refine h F0 H0 F H σ δ r _ _ (sTest_some e) _ fun F' H' v s r' rp => ?_
  cases rp
  exact ⟨_, rfl, q F' H' s r'⟩
def sNotT (a : MB) : MB := sBind a fun b => sRet (some (!b))
theorem ets_not {t : TT} {a : MB} (ha : EvTS K P t a) : EvTS K P (tNot t) (sNotT a) := fun F0 H0 F H σ δ r c δ' e Q q => by
  obtain ⟨x, δ1, ea, e⟩ := sBind_some e
  obtain ⟨eg, rfl⟩ := sRet_some e
  cases eg
  exact ha F0 H0 F H σ δ r x _ ea _ fun F' H1 s1 r1 => q F' H1 s1 r1
def sAndT (a b : MB) : MB := sBind a fun x => if x = true then b else sRet (some false)
def sOrT (a b : MB) : MB := sBind a fun x => if x = true then sRet (some true) else b
theorem ets_and {t u : TT} {a b : MB} (ha : EvTS K P t a) (hb : EvTS K P u b) : EvTS K P (tAnd t u) (sAndT a b) := fun F0 H0 F H σ δ r c δ' e Q q => by
  obtain ⟨x, δ1, ea, e⟩ := sBind_some e
  refine ha F0 H0 F H σ δ r x δ1 ea _ fun F1 H1 s1 r1 => ?_
  cases x with
  | true =>
    show u σ H1 Q
    exact hb F0 H0 F1 H1 σ δ1 r1 c δ' e Q fun F2 H2 s2 r2 => q F2 H2 (s1.trans s2) r2
  | false =>
    obtain ⟨eg, rfl⟩ := sRet_some e
    cases eg
    show Q false H1
    exact q F1 H1 s1 r1
theorem ets_or {t u : TT} {a b : MB} (ha : EvTS K P t a) (hb : EvTS K P u b) : EvTS K P (tOr t u) (sOrT a b) := fun F0 H0 F H σ δ r c δ' e Q q => by
  obtain ⟨x, δ1, ea, e⟩ := sBind_some e
  refine ha F0 H0 F H σ δ r x δ1 ea _ fun F1 H1 s1 r1 => ?_
  cases x with
  | true =>
    obtain ⟨eg, rfl⟩ := sRet_some e
    cases eg
    show Q true H1
    exact q F1 H1 s1 r1
  | false =>
    show u σ H1 Q
    exact hb F0 H0 F1 H1 σ δ1 r1 c δ' e Q fun F2 H2 s2 r2 => q F2 H2 (s1.trans s2) r2
def sIf (c : MB) (a b : MS) : MS := sBind c fun x => if x = true then a else b
theorem es_if {t : TT} {ta tb : TE} {c : MB} {a b : MS} (hc : EvTS K P t c) (ha : EvS K P ta a) (hb : EvS K P tb b) : EvS K P (tIf t ta tb) (sIf c a b) := fun F0 H0 F H σ δ r d δ' e Q q => by
  obtain ⟨x, δ1, ea, e⟩ := sBind_some e
  refine hc F0 H0 F H σ δ r x δ1 ea _ fun F1 H1 s1 r1 => ?_
  cases x with
  | true =>
    show ta σ H1 Q
    exact ha F0 H0 F1 H1 σ δ1 r1 d δ' e Q fun F2 H2 v s2 r2 rp => q F2 H2 v (s1.trans s2) r2 rp
  | false =>
    show tb σ H1 Q
    exact hb F0 H0 F1 H1 σ δ1 r1 d δ' e Q fun F2 H2 v s2 r2 rp => q F2 H2 v (s1.trans s2) r2 rp
def s1 (g : D → Option D) (ma : MS) : MS := sBind ma fun a => sRet (g a)
theorem es_un {r : V → Hp → VK → Prop} {g : D → Option D} {ta : TE} {ma : MS} (ha : EvS K P ta ma) (ho : UnD K r g) : EvS K P (tUn r ta) (s1 g ma) := fun F0 H0 F H σ δ rl d δ' e Q q => by
  obtain ⟨a, δ1, ea, e⟩ := sBind_some e
  obtain ⟨eg, rfl⟩ := sRet_some e
  refine ha F0 H0 F H σ δ rl a _ ea _ fun F1 H1 x s1 rl1 r1 => ?_
  exact ho F1 H1 x a d rl1.s.rel.fh r1 eg Q fun F3 H3 v m3 r3 => q F3 H3 v (s1.trans m3.f) (rl1.mv m3) r3
/-- a call of a pure def with arguments that change what is owned -/
theorem es_call {n : Nat} {E : XK} {t : TA} {ms : MA} {f : List D → Option DV} (ha : EvAS K P n t ms) : EvS K P (tCall (spD K f) [] E t) (sCallF ms f) := fun F0 H0 F H σ δ rl d δ' e Q q => by
  obtain ⟨a, δ1, ea, e⟩ := sBind_some e
  obtain ⟨eg, rfl⟩ := sRet_some e
  obtain ⟨r, hf, rfl⟩ := Option.map_eq_some_iff.mp eg
  refine ha F0 H0 F H σ δ rl a _ ea _ fun F1 H1 vs s1 rl1 r1 hl => ?_
  refine ⟨F1, a, r, rl1.s.rel.fh, by rw [List.append_nil]; exact r1, hf, fun F2 H2 v m2 rk => ?_⟩
  cases r with
  | val d => exact q F2 H2 v (s1.trans m2.f) (rl1.mv m2) rk
  | own ds =>
    obtain ⟨p, us, rfl, h2, h3, h4, h5⟩ := rk
    have m3 := m2.freeze h2 h4 h3
    exact q _ H2 _ (s1.trans m3.f) (rl1.mv m3) (.lst (.inl (.inl upd_same)) (h5.mono (same_updF h3)))
/-! a comprehension whose elements change what is owned -/
def sMapL (gm : D → DS → Option DS) (me : MS) (vs : List Nat) : List D → MA
  | [], δ => some ([], δ)
  | d :: ds, δ => (gm d (wipeD δ vs)).bind fun δ1 => (me δ1).bind fun p => (sMapL gm me vs ds p.2).bind fun q => some (p.1 :: q.1, q.2)
end
end Dl
namespace Dl
open PySem PySem.Spec PyProof.Rows L2
variable {K : PySem.W.Frag}
/-! ### a list in the making beside what is owned -/
theorem RelS.put {F0 H0 F H : Hp} {σ : L2.St} {δ : DS} {a : Addr} {o : HO} (r : RelS K F0 H0 F H σ δ) (hd : H a = none) : RelS K F0 (upd H0 a o) F (upd H a o) σ δ := by
  have hF : F a = none := r.rel.fh.free hd
  have ne : ∀ (i : Nat) ds p, δ[i]? = some (some (.own ds)) → σ[i]? = some (some (.ref p)) → p ≠ a := fun i ds p h1 h2 z => by
    obtain ⟨p', vs, e1, _, e3, _⟩ := r.rel.own i ds h1
    rw [h2] at e1
    cases e1
    rw [z, hd] at e3
    cases e3
  refine ⟨⟨fun b u h => ?_, r.len, r.rel.val, fun i ds h => ?_⟩, r.f0, fun b u h => ?_, fun b h1 h2 => ?_, fun i ds p h1 h2 => ?_, r.apart⟩
  · rw [upd_ne (ne_of_none h hF)]
    exact r.rel.fh _ _ h
  · obtain ⟨p, vs, e1, e2, e3, e4⟩ := r.rel.own i ds h
    exact ⟨p, vs, e1, e2, by rw [upd_ne (ne i ds p h e1)]; exact e3, e4⟩
  · by_cases q : b = a
    · subst q
      rw [upd_same] at h ⊢
      exact h
    · rw [upd_ne q] at h ⊢
      exact r.h0 _ _ h
  · by_cases q : b = a
    · rw [q]; exact hF
    · rw [upd_ne q] at h1
      exact r.sep b h1 h2
  · rw [upd_ne (ne i ds p h1 h2)]
    exact r.own0 i ds p h1 h2
theorem RelS.reput {F0 H0 F H : Hp} {σ : L2.St} {δ : DS} {a : Addr} {o o' : HO} (r : RelS K F0 (upd H0 a o) F H σ δ) (hF : F a = none) : RelS K F0 (upd H0 a o') F (upd H a o') σ δ := by
  have ne : ∀ (i : Nat) ds p, δ[i]? = some (some (.own ds)) → σ[i]? = some (some (.ref p)) → p ≠ a := fun i ds p h1 h2 z => by
    have := r.own0 i ds p h1 h2
    rw [z, upd_same] at this
    cases this
  refine ⟨⟨fun b u h => ?_, r.len, r.rel.val, fun i ds h => ?_⟩, r.f0, fun b u h => ?_, fun b h1 h2 => ?_, fun i ds p h1 h2 => ?_, r.apart⟩
  · rw [upd_ne (ne_of_none h hF)]
    exact r.rel.fh _ _ h
  · obtain ⟨p, vs, e1, e2, e3, e4⟩ := r.rel.own i ds h
    exact ⟨p, vs, e1, e2, by rw [upd_ne (ne i ds p h e1)]; exact e3, e4⟩
  · by_cases q : b = a
    · subst q
      rw [upd_same] at h ⊢
      exact h
    · rw [upd_ne q] at h ⊢
      exact r.h0 _ _ (by rw [upd_ne q]; exact h)
  · by_cases q : b = a
    · rw [q]; exact hF
    · rw [upd_ne q] at h1
      exact r.sep b (by rw [upd_ne q]; exact h1) h2
  · have := r.own0 i ds p h1 h2
    rw [upd_ne (ne i ds p h1 h2)] at this ⊢
    exact this
theorem RelS.take {F0 H0 F H : Hp} {σ : L2.St} {δ : DS} {a : Addr} {o : HO} (r : RelS K F0 (upd H0 a o) F H σ δ) (hn : H0 a = none) : RelS K F0 H0 F H σ δ := by
  refine ⟨r.rel, r.f0, fun b u h => ?_, fun b h1 h2 => ?_, fun i ds p h1 h2 => ?_, r.apart⟩
  · exact r.h0 _ _ (by rw [upd_ne (ne_of_none h hn)]; exact h)
  · have q : b ≠ a := fun z => h1 (by rw [z]; exact hn)
    exact r.sep b (by rw [upd_ne q]; exact h1) h2
  · have e := r.own0 i ds p h1 h2
    by_cases q : p = a
    · rw [q]; exact hn
    · rw [upd_ne q] at e
      exact e
theorem RelS.unset {F0 H0 F H : Hp} {σ : L2.St} {δ : DS} {i : Nat} (r : RelS K F0 H0 F H σ δ) : RelS K F0 H0 F H (σ.set i none) (δ.set i none) := by
  refine ⟨r.rel.unset, r.f0, r.h0, r.sep, fun j ds p h1 h2 => ?_, fun j k ds es p hjk h1 h2 h3 h4 => ?_⟩
  · rcases set_get h1 with ⟨_, e2, _⟩ | ⟨e1, e2⟩
    · cases e2
    · rw [List.getElem?_set_ne (Ne.symm e1)] at h2
      exact r.own0 j ds p e2 h2
  · rcases set_get h1 with ⟨_, e2, _⟩ | ⟨e1, e2⟩
    · cases e2
    · rcases set_get h2 with ⟨_, e4, _⟩ | ⟨e3, e4⟩
      · cases e4
      · rw [List.getElem?_set_ne (Ne.symm e1)] at h3
        rw [List.getElem?_set_ne (Ne.symm e3)] at h4
        exact r.apart j k ds es p hjk e2 e4 h3 h4
theorem RelS.wipe {F0 H0 F H : Hp} {σ : L2.St} {δ : DS} (r : RelS K F0 H0 F H σ δ) : ∀ vs : List Nat, RelS K F0 H0 F H (L2.wipe σ vs) (wipeD δ vs)
  | [] => r
  | v :: vs => (RelS.wipe r vs).unset
theorem RelS.unwipe {F0 H0 F H : Hp} {σ : L2.St} {δ : DS} {vs : List Nat} (r : RelS K F0 H0 F H (L2.wipe σ vs) δ) : RelS K F0 H0 F H σ δ := by
  refine ⟨⟨r.rel.fh, by rw [← r.len, wipe_length], fun i d h => ?_, fun i ds h => ?_⟩, r.f0, r.h0, r.sep, fun i ds p h1 h2 => ?_, fun i j ds es p hij h1 h2 h3 h4 => ?_⟩
  · obtain ⟨v, e, q⟩ := r.rel.val i d h
    exact ⟨v, (wipe_some e).1, q⟩
  · obtain ⟨p, ws, e1, e2⟩ := r.rel.own i ds h
    exact ⟨p, ws, (wipe_some e1).1, e2⟩
  · obtain ⟨p', ws, e1, e2⟩ := r.rel.own i ds h1
    have e3 := (wipe_some e1).1
    rw [h2] at e3
    cases e3
    exact r.own0 i ds p h1 e1
  · obtain ⟨p', ws, e1, e2⟩ := r.rel.own i ds h1
    have e3 := (wipe_some e1).1
    rw [h3] at e3
    cases e3
    obtain ⟨p', ws', f1, f2⟩ := r.rel.own j es h2
    have f3 := (wipe_some f1).1
    rw [h4] at f3
    cases f3
    exact r.apart i j ds es p hij h1 h2 e1 f1
section
variable {P : L2.St → Prop}
/-- a new list by a comprehension whose elements change what is owned -/
def sLc (mi : DS → Option (List D)) (gm : D → DS → Option DS) (me : MS) (vs : List Nat) : MS := fun δ => (mi δ).bind fun ds => if ds.length ≤ cap then (sMapL gm (fun δ1 => (me δ1).map fun p => (p.1, wipeD p.2 vs)) vs ds (wipeD δ vs)).map fun q => (.list q.1, q.2) else none
theorem es_lc {wi : TI} {g : TG} {te : TE} {mi : DS → Option (List D)} {gm : D → DS → Option DS} {me : MS} {js vs : List Nat} (hP : Keep2 P vs) (hi : EvI K wi mi) (hg : EvG K g js gm) (he : EvS K P te me)
    (hj : ∀ j ∈ js, j ∈ vs := by decide) : EvS K P (tLc wi g tYes te vs) (sLc mi gm me vs) := fun F0 H0 F H σ δ r d δ' e Q q => by
  obtain ⟨xs, hm, e⟩ := Option.bind_eq_some_iff.mp e
  by_cases hc : xs.length ≤ cap
  case neg => rw [if_neg hc] at e; cases e
  rw [if_pos hc] at e
  obtain ⟨⟨all, δe⟩, eall, e2⟩ := Option.map_eq_some_iff.mp e
  cases e2
  refine hi F H σ δ r.s.rel xs hm _ fun J F1 H1 mv wk => ?_
  intro Dd hD
  have r1 := r.mv mv
  have hn0 : H0 Dd = none := by
    cases h : H0 Dd with
    | none => rfl
    | some o => rw [r1.s.h0 _ _ h] at hD; cases hD
  have nF1 : F1 Dd = none := r1.s.rel.fh.free hD
  have rw1 := (r1.s.wipe vs).unwipe
  have start : RelS K F0 (upd H0 Dd (.lst [])) F1 (upd H1 Dd (.lst [])) σ (wipeD δ vs) := rw1.put hD
  refine ⟨fun i m H' => m = xs.length - i ∧ i ≤ xs.length ∧ ∃ F' acc es rest δi, RelS K F0 (upd H0 Dd (.lst acc)) F' H' σ δi ∧ Same F1 F' ∧ F' Dd = none ∧ H' Dd = some (.lst acc) ∧ RpA K F' acc es ∧ es.length ≤ i ∧ sMapL gm (fun δ1 => (me δ1).map fun p => (p.1, wipeD p.2 vs)) vs (xs.drop i) δi = some (rest, δe) ∧ all = es ++ rest,
    ⟨xs.length, by omega, Nat.zero_le _, F1, [], [], all, wipeD δ vs, start, Same.refl _, nF1, upd_same, .nil, Nat.le_refl _, eall, rfl⟩, ?_⟩
  rintro i m H' ⟨rfl, hle, F', acc, es, rest, δi, ri, s', nF, hq, ra, hes, e', eq2⟩
  obtain ⟨w1, w2⟩ := wk i F' H' s' ri.rel.fh
  by_cases hlt : i < xs.length
  · have hd : xs.drop i = xs[i] :: xs.drop (i + 1) := List.drop_eq_getElem_cons hlt
    rw [hd] at e'
    unfold sMapL at e'
    obtain ⟨δ1, hg1, e'⟩ := Option.bind_eq_some_iff.mp e'
    obtain ⟨p3, hp3, e'⟩ := Option.bind_eq_some_iff.mp e'
    obtain ⟨⟨rest3, δ3⟩, hr, e'⟩ := Option.bind_eq_some_iff.mp e'
    obtain ⟨p4, hp4, rfl⟩ := Option.map_eq_some_iff.mp hp3
    cases e'
    obtain ⟨hgo, hyl⟩ := w1 _ (List.getElem?_eq_getElem hlt)
    refine .inr ⟨hgo, fun H2 => ∃ F2 acc es' δ2, RelS K F0 (upd H0 Dd (.lst acc)) F2 H2 σ δ2 ∧ Same F1 F2 ∧ F2 Dd = none ∧ H2 Dd = some (.lst acc) ∧ RpA K F2 acc es' ∧ es'.length ≤ i + 1 ∧ sMapL gm (fun δ1 => (me δ1).map fun p => (p.1, wipeD p.2 vs)) vs (xs.drop (i + 1)) δ2 = some (rest3, δ3) ∧ all = es' ++ rest3, fun H2 hN => ?_, fun x H2 hy => ?_⟩
    · obtain ⟨F2, acc2, es2, δ2, a1, a2, a3, a4, a5, a6, a7, a8⟩ := hN
      exact ⟨xs.length - (i + 1), by omega, rfl, hlt, F2, acc2, es2, rest3, δ2, a1, a2, a3, a4, a5, a6, a7, a8⟩
    · obtain ⟨F2, mv2, rx⟩ := hyl x H2 hy
      have ri2 := ri.mv mv2
      have rw2 := ri2.wipe vs
      refine hg F2 H2 _ _ x _ δ1 rx mv2.fh hg1 _ fun σ3 h1 h2 h4 => ?_
      have r3 : RelM K P F0 (upd H0 Dd (.lst acc)) F2 H2 σ3 δ1 := ⟨h1 _ _ rw2, hP σ σ3 ((h4 vs hj).trans (wipe_wipe σ vs vs fun _ h => h)) r.p⟩
      refine ⟨(h4 vs hj).trans (wipe_wipe σ vs vs fun _ h => h), ?_⟩
      show te σ3 H2 fun y H4 => ∃ acc, H4 Dd = some (.lst acc) ∧ acc.length < sizeLine ∧ _
      refine he F0 _ F2 H2 σ3 δ1 r3 p4.1 p4.2 hp4 _ fun F4 H4 v s4 r4 ry => ?_
      have hq4 : H4 Dd = some (.lst acc) := r4.s.h0 _ _ upd_same
      have nF2 : F2 Dd = none := mv2.sep Dd (by rw [hq]; exact fun z => nomatch z) nF
      have nF4 : F4 Dd = none := r4.s.sep Dd (by rw [upd_same]; exact fun z => nomatch z) (by
        cases h : F0 Dd with
        | none => rfl
        | some o => rw [r1.s.f0 _ _ h] at nF1; cases nF1)
      have sF := (s'.trans mv2.f).trans s4
      have r5 : RelS K F0 (upd H0 Dd (.lst acc)) F4 H4 σ (wipeD p4.2 vs) := by
        have z := r4.s.wipe vs
        rw [(h4 vs hj).trans (wipe_wipe σ vs vs fun _ h => h)] at z
        exact z.unwipe
      refine ⟨acc, hq4, by rw [ra.len]; exact cap_lt (by omega), F4, acc ++ [v], es ++ [p4.1], wipeD p4.2 vs, r5.reput nF4, sF, nF4, upd_same, (ra.mono (mv2.f.trans s4)).app (.one ry), by rw [List.length_append]; show es.length + 1 ≤ i + 1; omega, hr, by rw [eq2, List.append_assoc]; rfl⟩
  · have hz : xs.drop i = [] := List.drop_eq_nil_of_le (by omega)
    rw [hz] at e'
    cases e'
    rw [List.append_nil] at eq2
    refine .inl ⟨w2 (by omega), ?_⟩
    have rt := ri.take hn0
    -- the list is frozen
    have mfz : Mv (upd F' Dd (.lst acc)) H' (upd F' Dd (.lst acc)) H' := .rfl' (fun a o h => by
      by_cases q : a = Dd
      · subst q; rw [upd_same] at h; cases h; exact hq
      · rw [upd_ne q] at h; exact rt.rel.fh _ _ h)
    have sfz : Same F' (upd F' Dd (.lst acc)) := same_updF nF
    have rz : RelS K F0 H0 (upd F' Dd (.lst acc)) H' σ δe := by
      refine ⟨⟨mfz.fh, rt.len, fun i d h => ?_, fun i ds h => ?_⟩, rt.f0.trans sfz, rt.h0, fun b h1 h2 => ?_, rt.own0, rt.apart⟩
      · obtain ⟨u, eu, qq⟩ := rt.rel.val i d h
        exact ⟨u, eu, qq.mono sfz⟩
      · obtain ⟨p, ws, e1, e3, e4, e5⟩ := rt.rel.own i ds h
        have hne : p ≠ Dd := fun z => by
          have := ri.own0 i ds p h e1
          rw [z, upd_same] at this
          cases this
        exact ⟨p, ws, e1, by rw [upd_ne hne]; exact e3, e4, e5.mono sfz⟩
      · rw [upd_ne (fun z => h1 (by rw [z]; exact hn0))]
        exact rt.sep b h1 h2
    subst eq2
    exact q _ H' (.ref Dd) ((mv.f.trans s').trans sfz) ⟨rz, r.p⟩ (.lst (.inl (.inl upd_same)) (ra.mono sfz))
end
end Dl
namespace Dl
open PySem PySem.Spec PyProof.Rows L2
variable {K : PySem.W.Frag}
theorem fold_max : ∀ (r : List Int) (n : Int), n ≤ r.foldl max n ∧ (∀ x ∈ r, x ≤ r.foldl max n) ∧ (r.foldl max n = n ∨ r.foldl max n ∈ r)
  | [], n => ⟨Int.le_refl n, (fun x h => by cases h), .inl rfl⟩
  | a :: r, n => by
    obtain ⟨h1, h2, h3⟩ := fold_max r (max n a)
    rw [List.foldl_cons]
    refine ⟨by omega, fun x hx => ?_, ?_⟩
    · rcases List.mem_cons.mp hx with rfl | hx
      · omega
      · exact h2 x hx
    · rcases h3 with h3 | h3
      · rcases Int.le_total n a with q | q
        · right
          rw [h3, Int.max_eq_right q]
          exact List.mem_cons_self
        · left
          rw [h3, Int.max_eq_left q]
      · exact .inr (List.mem_cons_of_mem _ h3)
theorem fold_min : ∀ (r : List Int) (n : Int), r.foldl min n ≤ n ∧ (∀ x ∈ r, r.foldl min n ≤ x) ∧ (r.foldl min n = n ∨ r.foldl min n ∈ r)
  | [], n => ⟨Int.le_refl n, (fun x h => by cases h), .inl rfl⟩
  | a :: r, n => by
    obtain ⟨h1, h2, h3⟩ := fold_min r (min n a)
    rw [List.foldl_cons]
    refine ⟨by omega, fun x hx => ?_, ?_⟩
    · rcases List.mem_cons.mp hx with rfl | hx
      · omega
      · exact h2 x hx
    · rcases h3 with h3 | h3
      · rcases Int.le_total n a with q | q
        · left
          rw [h3, Int.min_eq_left q]
        · right
          rw [h3, Int.min_eq_right q]
          exact List.mem_cons_self
      · exact .inr (List.mem_cons_of_mem _ h3)
/-- max(xs), min(xs) of a list of whole numbers that is not empty -/
def dPick1 (pick : Int → Int → Int) : List D → Option D
  | [.list ds] => match asIs ds with
    | some (n :: r) => some (.int (r.foldl pick n))
    | _ => none
  | _ => none
theorem cd_maxL : CallD K (rMax K) (dPick1 max) := .one fun F H vs ds z s ra hg => by
  unfold dPick1 at hg
  split at hg
  · split at hg
    · rename_i n r hb
      cases hg
      have e := asIs_some hb
      subst e
      cases ra with
      | cons r1 r2 =>
        cases r2
        cases r1 with
        | @lst a ws _ rd ra =>
          have e := RpA.ints (ns := n :: r) ra
          subst e
          refine ⟨.int (r.foldl max n), fun G => .int _, fun Q q => ⟨a, n :: r, rfl, sqS s rd, Nat.succ_pos _, fun m hm hall => ?_⟩⟩
          have e : m = r.foldl max n := by
            obtain ⟨h1, h2, h3⟩ := fold_max r n
            have up : r.foldl max n ≤ m := by
              rcases h3 with h3 | h3
              · rw [h3]; exact hall n List.mem_cons_self
              · exact hall _ (List.mem_cons_of_mem _ h3)
            rcases List.mem_cons.mp hm with rfl | hm
            · omega
            · have := h2 m hm
              omega
          rw [e]
          exact q
    · cases hg
  · cases hg
theorem cd_minL : CallD K (rMin K) (dPick1 min) := .one fun F H vs ds z s ra hg => by
  unfold dPick1 at hg
  split at hg
  · split at hg
    · rename_i n r hb
      cases hg
      have e := asIs_some hb
      subst e
      cases ra with
      | cons r1 r2 =>
        cases r2
        cases r1 with
        | @lst a ws _ rd ra =>
          have e := RpA.ints (ns := n :: r) ra
          subst e
          refine ⟨.int (r.foldl min n), fun G => .int _, fun Q q => ⟨a, n :: r, rfl, sqS s rd, Nat.succ_pos _, fun m hm hall => ?_⟩⟩
          have e : m = r.foldl min n := by
            obtain ⟨h1, h2, h3⟩ := fold_min r n
            have up : m ≤ r.foldl min n := by
              rcases h3 with h3 | h3
              · rw [h3]; exact hall n List.mem_cons_self
              · exact hall _ (List.mem_cons_of_mem _ h3)
            rcases List.mem_cons.mp hm with rfl | hm
            · omega
            · have := h2 m hm
              omega
          rw [e]
          exact q
    · cases hg
  · cases hg
/-- sorted(xs) of a list of whole numbers -/
def insD (k : Int) : List Int → List Int
  | [] => [k]
  | n :: r => if k ≤ n then k :: n :: r else n :: insD k r
def sortN (ns : List Int) : List Int := ns.foldr insD []
theorem insD_perm (k : Int) : ∀ ns : List Int, (insD k ns).Perm (k :: ns)
  | [] => List.Perm.refl _
  | n :: r => by
    unfold insD
    split
    · exact List.Perm.refl _
    · exact ((insD_perm k r).cons n).trans (List.Perm.swap k n r)
theorem insD_up (k : Int) : ∀ ns : List Int, ns.Pairwise (· ≤ ·) → (insD k ns).Pairwise (· ≤ ·)
  | [], _ => by simp [insD]
  | n :: r, h => by
    rw [List.pairwise_cons] at h
    unfold insD
    split
    · rename_i hk
      refine List.pairwise_cons.mpr ⟨fun x hx => ?_, List.pairwise_cons.mpr h⟩
      rcases List.mem_cons.mp hx with rfl | hx
      · exact hk
      · have := h.1 x hx
        omega
    · refine List.pairwise_cons.mpr ⟨fun x hx => ?_, insD_up k r h.2⟩
      rcases List.mem_cons.mp ((insD_perm k r).mem_iff.mp hx) with rfl | hx
      · omega
      · exact h.1 x hx
theorem sortN_perm : ∀ ns : List Int, (sortN ns).Perm ns
  | [] => List.Perm.refl _
  | n :: r => (insD_perm n _).trans ((sortN_perm r).cons n)
theorem sortN_up : ∀ ns : List Int, (sortN ns).Pairwise (· ≤ ·)
  | [] => List.Pairwise.nil
  | n :: r => insD_up n _ (sortN_up r)
def dSortN : List D → Option (List D)
  | [.list ds] => (asIs ds).map fun ns => (sortN ns).map PyData.int
  | _ => none
theorem co_sortI : CallO K (rSortedI K) dSortN := fun F H vs ds z s ra hg Q q => by
  unfold dSortN at hg
  split at hg
  · obtain ⟨ns, hb, rfl⟩ := Option.map_eq_some_iff.mp hg
    have e := asIs_some hb
    subst e
    cases ra with
    | cons r1 r2 =>
      cases r2
      cases r1 with
      | @lst a ws _ rd ra =>
        have e := ra.ints
        subst e
        refine ⟨a, ns, rfl, sqS s rd, fun ns' p hp hu hn => ?_⟩
        have e : ns' = sortN ns := (hp.trans (sortN_perm ns).symm).eq_of_pairwise (fun x y _ _ h1 h2 => Int.le_antisymm h1 h2) hu (sortN_up ns)
        subst e
        refine q F _ p _ (Mv.newO s hn) hn (s.free hn) upd_same ?_
        generalize sortN ns = zs
        induction zs with
        | nil => exact .nil
        | cons z zs ih => exact .cons (.int z) ih
  · cases hg
end Dl
namespace Dl
open PySem PySem.Spec PyProof.Rows L2
variable {K : PySem.W.Frag}
section
variable {P : L2.St → Prop}
/-- what is walked, where its reckoning changes what is owned -/
def EvIS (K : PySem.W.Frag) (P : L2.St → Prop) (wi : TI) (m : MA) : Prop := ∀ F0 H0 F H σ δ, RelM K P F0 H0 F H σ δ → ∀ ds δ', m δ = some (ds, δ') → ∀ R : It → Hp → Prop, (∀ J F' H', Same F F' → RelM K P F0 H0 F' H' σ δ' → Walks K J F' ds → R J H') → wi σ H R
theorem eis_of {wi : TI} {m : DS → Option (List D)} (h : EvI K wi m) : EvIS K P wi (sPure m) := fun F0 H0 F H σ δ r ds δ' e R q => by
  obtain ⟨d', hm, e2⟩ := Option.map_eq_some_iff.mp e
  cases e2
  exact h F H σ δ r.s.rel ds hm R fun J F' H' mv wk => q J F' H' mv.f (r.mv mv) wk
def sRng1 (ms : MA) : MA := sBind ms fun ds => sRet (match ds with | [.int n] => if okRng n = true then some (rngD 0 n.toNat) else none | _ => none)
theorem eis_rng1 {n : Nat} {ta : TA} {ms : MA} (h : EvAS K P n ta ms) : EvIS K P (iRng1 ta) (sRng1 ms) := fun F0 H0 F H σ δ r ds δ' e R q => by
  obtain ⟨as, δ1, ea, e⟩ := sBind_some e
  obtain ⟨eg, rfl⟩ := sRet_some e
  split at eg
  · rename_i k
    by_cases hk : okRng k = true
    · rw [if_pos hk] at eg
      cases eg
      have hk2 := of_decide_eq_true hk
      refine h F0 H0 F H σ δ r _ _ ea _ fun F1 H1 vs s1 r1 ra hl => ?_
      cases ra with
      | cons ra1 ra2 =>
        cases ra1
        cases ra2
        exact ⟨k, rfl, by omega, by omega, q _ F1 H1 s1 r1 (walks_rng 0 _ F1)⟩
    · rw [if_neg hk] at eg
      cases eg
  · cases eg
def qForS (mi : MA) (gm : D → DS → Option DS) (b : DS → Option OutM) : DS → Option OutM := fun δ => (mi δ).bind fun p => qForL gm b p.1 p.2
theorem sm_forS {wi : TI} {g : TG} {js : List Nat} {tb : TS} {mi : MA} {gm : D → DS → Option DS} {b : DS → Option OutM} (hP : Keep2 P js) (hi : EvIS K P wi mi) (hg : EvG K g js gm) (hb : SM K P tb b) : SM K P (tFor wi g tb) (qForS mi gm b) := fun F0 H0 F H σ δ r o e E q => by
  obtain ⟨⟨ds, δ1⟩, hm, e⟩ := Option.bind_eq_some_iff.mp e
  refine hi F0 H0 F H σ δ r ds δ1 hm _ fun J F1 H1 sf r1 wk => ?_
  refine ⟨fun i m σ' H' => m = ds.length - i ∧ i ≤ ds.length ∧ ∃ F' δ', RelM K P F0 H0 F' H' σ' δ' ∧ Same F1 F' ∧ qForL gm b (ds.drop i) δ' = some o, ⟨ds.length, by omega, Nat.zero_le _, F1, δ1, r1, Same.refl _, e⟩, ?_⟩
  rintro i m σ' H' ⟨rfl, hle, F', δ', r', s', e'⟩
  obtain ⟨w1, w2⟩ := wk i F' H' s' r'.s.rel.fh
  by_cases hlt : i < ds.length
  · have hd : ds.drop i = ds[i] :: ds.drop (i + 1) := List.drop_eq_getElem_cons hlt
    rw [hd] at e'
    unfold qForL at e'
    obtain ⟨δ2, hg1, e'⟩ := Option.bind_eq_some_iff.mp e'
    obtain ⟨o1, hb1, e'⟩ := Option.bind_eq_some_iff.mp e'
    obtain ⟨hgo, hyl⟩ := w1 _ (List.getElem?_eq_getElem hlt)
    refine .inr ⟨hgo, fun σ2 H2 => ∃ F2 δ2, RelM K P F0 H0 F2 H2 σ2 δ2 ∧ Same F1 F2 ∧ qForL gm b (ds.drop (i + 1)) δ2 = some o, fun σ2 H2 hN => ?_, fun x H2 hy => ?_⟩
    · obtain ⟨F2, δ2, r2, s2, e2⟩ := hN
      exact ⟨ds.length - (i + 1), by omega, rfl, hlt, F2, δ2, r2, s2, e2⟩
    · obtain ⟨F2, mv2, rx⟩ := hyl x H2 hy
      refine hg F2 H2 σ' δ' x _ δ2 rx mv2.fh hg1 _ fun σ3 h1 h2 h4 => ?_
      have r3 : RelM K P F0 H0 F2 H2 σ3 δ2 := ⟨h1 F0 H0 (r'.s.mv mv2), hP _ _ (h4 js fun _ h => h) r'.p⟩
      refine hb F0 H0 F2 H2 σ3 δ2 r3 o1 hb1 _ ?_
      cases o1 with
      | nx δ2 => exact fun F3 H3 σ4 s3 r4 => ⟨F3, δ2, r4, (s'.trans mv2.f).trans s3, e'⟩
      | ct δ2 => exact fun F3 H3 σ4 s3 r4 => ⟨F3, δ2, r4, (s'.trans mv2.f).trans s3, e'⟩
      | bk δ2 =>
        cases e'
        exact fun F3 H3 σ4 s3 r4 => q F3 H3 σ4 (((sf.trans s').trans mv2.f).trans s3) r4
      | rt v δ2 =>
        cases e'
        exact fun F3 H3 v σ4 s3 r4 rv => q F3 H3 v σ4 (((sf.trans s').trans mv2.f).trans s3) r4 rv
  · have hz : ds.drop i = [] := List.drop_eq_nil_of_le (by omega)
    rw [hz] at e'
    cases e'
    exact .inl ⟨w2 (by omega), q F' H' σ' (sf.trans s') r'⟩
/-- a, b = e -/
def qAsgG (gm : D → DS → Option DS) (m : MS) : DS → Option OutM := fun δ => (m δ).bind fun p => (gm p.1 p.2).map .nx
theorem sm_asgG {te : TE} {g : TG} {js : List Nat} {gm : D → DS → Option DS} {m : MS} (hP : Keep2 P js) (h : EvS K P te m) (hg : EvG K g js gm) : SM K P (tAsg te g) (qAsgG gm m) := fun F0 H0 F H σ δ r o e E q => by
  obtain ⟨⟨d, δ1⟩, hm, e⟩ := Option.bind_eq_some_iff.mp e
  obtain ⟨δ2, hg1, rfl⟩ := Option.map_eq_some_iff.mp e
  refine h F0 H0 F H σ δ r d δ1 hm _ fun F' H' v s r' rp => ?_
  refine hg F' H' σ δ1 v _ δ2 rp r'.s.rel.fh hg1 _ fun σ3 h1 h2 h4 => ?_
  exact q F' H' σ3 s ⟨h1 F0 H0 r'.s, hP _ _ (h4 js fun _ h => h) r'.p⟩
end
end Dl
namespace Dl
open PySem PySem.Spec PyProof.Rows L2
/-! calls with keywords, in the def's order -/
section
variable {K : PySem.W.Frag}
def gKw {α : Type} (a b : Nat) (us ws : List α) : List α := if us.length = a ∧ ws.length = b then us ++ ws else []
theorem ev_callK {a b : Nat} {E : XK} {t tk : TA} {ms mk : DS → Option (List D)} {f : List D → Option DV} (ha : EvA K a t ms) (hk : EvA K b tk mk) : Ev K (tCallK (spD K f) (gKw a b) E t tk) (mCallF (fun δ => (ms δ).bind fun x => (mk δ).bind fun y => some (x ++ y)) f) := fun F H σ δ rl d e Q q => by
  obtain ⟨z, ez, e⟩ := Option.bind_eq_some_iff.mp e
  obtain ⟨r, er, rfl⟩ := Option.map_eq_some_iff.mp e
  obtain ⟨x, ex, ez⟩ := Option.bind_eq_some_iff.mp ez
  obtain ⟨y, ey, ez⟩ := Option.bind_eq_some_iff.mp ez
  cases ez
  refine ha F H σ δ rl x ex _ fun F1 H1 vs m1 r1 hl => ?_
  refine hk F1 H1 σ δ (rl.mv m1) y ey _ fun F2 H2 zs m2 r2 hl2 => ?_
  have hg : gKw a b vs zs = vs ++ zs := if_pos ⟨by rw [r1.len, hl], by rw [r2.len, hl2]⟩
  rw [hg]
  refine ⟨F2, x ++ y, r, m2.fh, (r1.mono m2.f).app r2, er, fun F3 H3 v m3 rk => ?_⟩
  have m12 := m1.trans m2
  cases r with
  | val d => exact q F3 H3 v (m12.trans m3) rk
  | own ds =>
    obtain ⟨p, ws, rfl, h1, h2, h3, ra⟩ := rk
    exact q _ H3 _ (m12.trans (m3.freeze h1 h3 h2)) (.lst (.inl (.inl upd_same)) (ra.mono (same_updF h2)))
theorem eo_callK {a b : Nat} {E : XK} {t tk : TA} {ms mk : DS → Option (List D)} {f : List D → Option DV} (ha : EvA K a t ms) (hk : EvA K b tk mk) : EvO K (tCallK (spD K f) (gKw a b) E t tk) (mCallFO (fun δ => (ms δ).bind fun x => (mk δ).bind fun y => some (x ++ y)) f) := fun F H σ δ rl d e Q q => by
  obtain ⟨z, ez, e⟩ := Option.bind_eq_some_iff.mp e
  obtain ⟨r, er, eo⟩ := Option.bind_eq_some_iff.mp e
  obtain ⟨x, ex, ez⟩ := Option.bind_eq_some_iff.mp ez
  obtain ⟨y, ey, ez⟩ := Option.bind_eq_some_iff.mp ez
  cases ez
  refine ha F H σ δ rl x ex _ fun F1 H1 vs m1 r1 hl => ?_
  refine hk F1 H1 σ δ (rl.mv m1) y ey _ fun F2 H2 zs m2 r2 hl2 => ?_
  have hg : gKw a b vs zs = vs ++ zs := if_pos ⟨by rw [r1.len, hl], by rw [r2.len, hl2]⟩
  rw [hg]
  refine ⟨F2, x ++ y, r, m2.fh, (r1.mono m2.f).app r2, er, fun F3 H3 v m3 rk => ?_⟩
  have m12 := m1.trans m2
  cases r with
  | val d => cases eo
  | own ds =>
    cases eo
    obtain ⟨p, ws, rfl, h1, h2, h3, ra⟩ := rk
    exact q F3 H3 p ws (m12.trans m3) (m12.h.free h1) h2 h3 ra
def mApp (ms mk : DS → Option (List D)) : DS → Option (List D) := fun δ => (ms δ).bind fun x => (mk δ).bind fun y => some (x ++ y)
end
section
variable {P : Program} {w : World} {K : PySem.W.Frag} {mg : Str → Option Value} {base : Heap}
/-- a def that is called with keywords -/
structure Dk (P : Program) (w : World) (K : PySem.W.Frag) (mg : Str → Option Value) (base : Heap) (k : Nat) (x : Str) (ps ks : List Str) (a : Nat) (fm : List D → Option DV) : Prop where
  ex : ∃ (f : Addr) (fd : FuncData), mg x = some (.ref f) ∧ PySem.W.keepIn K (.ref f) = true ∧ KBinds K fd ps ks (gKw a ks.length) (gKw a ks.length) ∧ FnOk P w K mg base CX0 k f fd ps (spD K fm)
theorem Dk.mono {j k a : Nat} {x : Str} {ps ks : List Str} {fm : List D → Option DV} (h : Dk P w K mg base j x ps ks a fm) (hk : j ≤ k) : Dk P w K mg base k x ps ks a fm := by
  obtain ⟨f, fd, h1, h2, h3, h4⟩ := h.ex
  exact ⟨f, fd, h1, h2, h3, h4.mono hk⟩
structure Txk (K : PySem.W.Frag) (mg : Str → Option Value) (x : Str) (st : Stmt) (ps ks : List Str) (a : Nat) (f : Addr) (fd : FuncData) : Prop where
  fn : Fun K x x st f fd
  gl : mg x = some (.ref f)
  bd : KBinds K fd ps ks (gKw a ks.length) (gKw a ks.length)
theorem kb_mk {fd : FuncData} {ps ks : List Str} {a : Nat} (h0 : ps ≠ []) (h : ∀ us ws : List Value, us.length = a → ws.length = ks.length → bindArgs fd ⟨us, ks.zip ws⟩ = pure (ps.zip (us ++ ws))) : KBinds K fd ps ks (gKw a ks.length) (gKw a ks.length) where
  to := fun s us ws _ hl => by
    by_cases hc : us.length = a ∧ ws.length = ks.length
    · have e : gKw a ks.length us ws = us ++ ws := if_pos hc
      rw [e]
      exact .of_eq (h us ws hc.1 hc.2)
    · have e : gKw a ks.length us ws = [] := if_neg hc
      rw [e] at hl
      exact absurd (List.eq_nil_of_length_eq_zero hl.symm) h0
  rel := fun {vs us zs ws} r1 r2 => by
    have l1 := r1.length
    have l2 := r2.length
    by_cases hc : us.length = a ∧ ws.length = ks.length
    · have e : gKw a ks.length us ws = us ++ ws := if_pos hc
      have e2 : gKw a ks.length vs zs = vs ++ zs := if_pos ⟨by rw [l1]; exact hc.1, by rw [l2]; exact hc.2⟩
      rw [e, e2]
      exact r1.append r2
    · have e : gKw a ks.length us ws = [] := if_neg hc
      have e2 : gKw a ks.length vs zs = [] := if_neg fun z => hc ⟨by rw [← l1]; exact z.1, by rw [← l2]; exact z.2⟩
      rw [e, e2]
      exact .nil
theorem Txk.df {x : Str} {st : Stmt} {N ps ks : List Str} {a k : Nat} {mm : DS → Option Out} {f : Addr} {fd : FuncData} (T : Txk K mg x st ps ks a f fd) (S : FnScope N ps (defScope st))
    (hbody : ∀ (cdv : Value) (A : Around) (outer : List Env) (s : Shared) (H : Hp) (E : XK), Room k (A.deeper (envOfC x (defScope st) s.heap.objs.size f cdv)) →
      ∃ t, PSs (cxOf CX0 P w K mg base N x (defScope st) f cdv A outer s H E).nox (defBody st) t ∧ SD K t mm) : Dk P w K mg base (k + 1) x ps ks a (fnD N.length ps.length mm) :=
  ⟨f, fd, T.gl, T.fn.kp, T.bd, okD T.fn S hbody⟩
theorem pe_dk {X : Cx} {k a : Nat} {x : Str} {ps ks : List Str} {fm : List D → Option DV} {p pos : Pos} {e : Expr} {es : List Expr} {kws : List Keyword} {t tk : TA} (Dx : Dk X.prog X.w X.K X.mg X.base k x ps ks a fm) (hr : Room k X.A) (hg : Gl X x) (ha : PA X (e :: es) t) (hkw : PK X kws tk)
    (hall : (backToKw pos (keywordEach kws X.env)).all (·.1.isSome) = true := by rfl) (hks : (backToKw pos (keywordEach kws X.env)).filterMap (·.1) = ks := by rfl)
    (hdb : (x == ("__debug__" : Str)) = false := by decide) (he : starEach (e :: es) X.env = (false, eval e X.env) :: starEach es X.env := by rfl)
    (hpl : ((backTo pos (starEach (e :: es) X.env)).any (·.1) || (backToKw pos (keywordEach kws X.env)).any (·.1.isNone)) = false := by rfl) :
    PE X (.Call (.Name x p) (e :: es) kws pos) (tCallK (spD X.K fm) (gKw a ks.length) E0 t tk) := by
  obtain ⟨f, fd, h1, h2, h3, h4⟩ := Dx.ex
  exact pe_callK h4 hr hg h1 h2 h3 pass0 ha hkw hall hks hdb he hpl
end
end Dl
namespace Dl
open PySem PySem.Spec PyProof.Rows L2
variable {K : PySem.W.Frag}
/-- a statement of the pure layer among those that change what is owned, where nothing is kept -/
def qOfT (m : DS → Option Out) : DS → Option OutM := fun δ => (m δ).map fun o => match o with
  | .nx δ => .nx δ
  | .bk δ => .bk δ
  | .ct δ => .ct δ
  | .rt r => .rt r.data δ
theorem sm_ofT {t : TS} {m : DS → Option Out} (h : SD K t m) (hr : ∀ δ r, m δ ≠ some (.rt r)) : SM K (fun _ => True) t (qOfT m) := fun F0 H0 F H σ δ r o e E q => by
  obtain ⟨o', hm, rfl⟩ := Option.map_eq_some_iff.mp e
  refine h F0 H0 F H σ δ r.s o' hm E ?_
  cases o' with
  | nx δ' => exact fun F' H' σ' s r' => q F' H' σ' s ⟨r', trivial⟩
  | bk δ' => exact fun F' H' σ' s r' => q F' H' σ' s ⟨r', trivial⟩
  | ct δ' => exact fun F' H' σ' s r' => q F' H' σ' s ⟨r', trivial⟩
  | rt d => exact absurd hm (hr δ d)
/-- if with a test that changes what is owned -/
def nIfS (mc : MB) (a b : DS → Option Out) : DS → Option Out := fun δ => (mc δ).bind fun p => if p.1 = true then a p.2 else b p.2
theorem Fin.same {F0 H0 F F1 : Hp} {E : Ends} {o : Out} (s : Same F F1) (h : Fin K F0 H0 F E o) : Fin K F0 H0 F1 E o := by
  cases o with
  | nx δ => exact fun F' H' σ s' r => h F' H' σ (s.trans s') r
  | bk δ => exact fun F' H' σ s' r => h F' H' σ (s.trans s') r
  | ct δ => exact fun F' H' σ s' r => h F' H' σ (s.trans s') r
  | rt d => exact h
theorem sd_ifS {c : TT} {t u : TS} {mc : MB} {a b : DS → Option Out} (hc : EvTS K (fun _ => True) c mc) (ha : SD K t a) (hb : SD K u b) : SD K (tIfS c t u) (nIfS mc a b) := fun F0 H0 F H σ δ r o e E q => by
  obtain ⟨x, ea, e⟩ := Option.bind_eq_some_iff.mp e
  refine hc F0 H0 F H σ δ ⟨r, trivial⟩ x.1 x.2 ea _ fun F1 H1 s1 r1 => ?_
  obtain ⟨b', δ1⟩ := x
  cases b' with
  | true =>
    show t E σ H1
    exact ha F0 H0 F1 H1 σ δ1 r1.s o e E (q.same s1)
  | false =>
    show u E σ H1
    exact hb F0 H0 F1 H1 σ δ1 r1.s o e E (q.same s1)
/-- for over what is reckoned with a change -/
def nForS (mi : MA) (gm : D → DS → Option DS) (b : DS → Option Out) : DS → Option Out := fun δ => (mi δ).bind fun p => mForL gm b p.1 p.2
theorem sd_forS {wi : TI} {g : TG} {js : List Nat} {tb : TS} {mi : MA} {gm : D → DS → Option DS} {b : DS → Option Out} (hi : EvIS K (fun _ => True) wi mi) (hg : EvG K g js gm) (hb : SD K tb b) : SD K (tFor wi g tb) (nForS mi gm b) := fun F0 H0 F H σ δ r o e E q => by
  obtain ⟨⟨ds, δ1⟩, hm, e⟩ := Option.bind_eq_some_iff.mp e
  refine hi F0 H0 F H σ δ ⟨r, trivial⟩ ds δ1 hm _ fun J F1 H1 sf r1 wk => ?_
  refine ⟨fun i m σ' H' => m = ds.length - i ∧ i ≤ ds.length ∧ ∃ F' δ', RelS K F0 H0 F' H' σ' δ' ∧ Same F1 F' ∧ mForL gm b (ds.drop i) δ' = some o, ⟨ds.length, by omega, Nat.zero_le _, F1, δ1, r1.s, Same.refl _, e⟩, ?_⟩
  rintro i m σ' H' ⟨rfl, hle, F', δ', r', s', e'⟩
  obtain ⟨w1, w2⟩ := wk i F' H' s' r'.rel.fh
  by_cases hlt : i < ds.length
  · have hd : ds.drop i = ds[i] :: ds.drop (i + 1) := List.drop_eq_getElem_cons hlt
    rw [hd] at e'
    unfold mForL at e'
    obtain ⟨δ2, hg1, e'⟩ := Option.bind_eq_some_iff.mp e'
    obtain ⟨hgo, hyl⟩ := w1 _ (List.getElem?_eq_getElem hlt)
    refine .inr ⟨hgo, fun σ2 H2 => ∃ F2 δ2, RelS K F0 H0 F2 H2 σ2 δ2 ∧ Same F1 F2 ∧ mForL gm b (ds.drop (i + 1)) δ2 = some o, fun σ2 H2 hN => ?_, fun x H2 hy => ?_⟩
    · obtain ⟨F2, δ2, r2, s2, e2⟩ := hN
      exact ⟨ds.length - (i + 1), by omega, rfl, hlt, F2, δ2, r2, s2, e2⟩
    · obtain ⟨F2, mv2, rx⟩ := hyl x H2 hy
      refine hg F2 H2 σ' δ' x _ δ2 rx mv2.fh hg1 _ fun σ3 h1 h2 h4 => ?_
      have r3 : RelS K F0 H0 F2 H2 σ3 δ2 := h1 F0 H0 (r'.mv mv2)
      obtain ⟨o1, hb1, e'⟩ : ∃ o1, b δ2 = some o1 ∧ (match o1 with
          | .nx δ3 => mForL gm b (ds.drop (i + 1)) δ3
          | .ct δ3 => mForL gm b (ds.drop (i + 1)) δ3
          | .bk δ3 => some (.nx δ3)
          | .rt v => some (.rt v)) = some o := by
        obtain ⟨o1, hb1, e'⟩ := Option.bind_eq_some_iff.mp e'
        refine ⟨o1, hb1, ?_⟩
        cases o1 <;> exact e'
      refine hb F0 H0 F2 H2 σ3 δ2 r3 o1 hb1 _ ?_
      cases o1 with
      | nx δ2 => exact fun F3 H3 σ4 s3 r4 => ⟨F3, δ2, r4, (s'.trans mv2.f).trans s3, e'⟩
      | ct δ2 => exact fun F3 H3 σ4 s3 r4 => ⟨F3, δ2, r4, (s'.trans mv2.f).trans s3, e'⟩
      | bk δ2 =>
        cases e'
        exact fun F3 H3 σ4 s3 r4 => q F3 H3 σ4 (((sf.trans s').trans mv2.f).trans s3) r4
      | rt v =>
        cases e'
        exact q
  · have hz : ds.drop i = [] := List.drop_eq_nil_of_le (by omega)
    rw [hz] at e'
    cases e'
    exact .inl ⟨w2 (by omega), q F' H' σ' (sf.trans s') r'⟩
/-- a, b = e1, e2 -/
def nPar (i j : Nat) (ms : DS → Option (List D)) : DS → Option Out := fun δ => (ms δ).bind fun ds => match ds with
  | [a, b] => some (.nx ((δ.set i (some (.val a))).set j (some (.val b))))
  | _ => none
theorem sd_par {i j n : Nat} {t : TA} {ms : DS → Option (List D)} (h : EvA K n t ms) : SD K (tPar i j t) (nPar i j ms) := fun F0 H0 F H σ δ r o e E q => by
  obtain ⟨ds, hm, e⟩ := Option.bind_eq_some_iff.mp e
  refine h F H σ δ r.rel ds hm _ fun F' H' vs mv ra hl => ?_
  split at e
  · cases e
    cases ra with
    | cons r1 r2 =>
      cases r2 with
      | cons r3 r4 =>
        cases r4
        exact ⟨_, _, rfl, q F' H' _ mv.f (((r.mv mv).setV r1).setV r3)⟩
  · cases e
/-- xs.clear() -/
def nClr (i : Nat) : DS → Option Out := fun δ => match δ[i]? with
  | some (some (.own _)) => some (.nx (δ.set i (some (.own []))))
  | _ => none
theorem sd_clr {i : Nat} : SD K (tDrop (tBM0 K "list" rClear (tVar i))) (nClr i) := fun F0 H0 F H σ δ r o e E q => by
  unfold nClr at e
  split at e
  · rename_i ds hi
    cases e
    obtain ⟨p, ws, hs, nf, hp, ra⟩ := r.rel.own i ds hi
    refine ⟨_, hs, .inl ⟨rfl, ws, .inl (.inl hp)⟩, p, ws, rfl, rfl, hp, ?_⟩
    exact q F _ σ (Same.refl _) (r.mut hi hs .nil)
  · cases e
/-- f(..).append(e): a new list that nobody keeps -/
def nAppN (mo : DS → Option (List D)) (m : DS → Option D) : DS → Option Out := fun δ => (mo δ).bind fun ds => (m δ).bind fun _ => if ds.length ≤ cap then some (.nx δ) else none
theorem sd_appN {to te : TE} {mo : DS → Option (List D)} {m : DS → Option D} (ho : EvO K to mo) (h : Ev K te m) : SD K (tDrop (tBM K "list" rAppend to (tCons te tNil))) (nAppN mo m) := fun F0 H0 F H σ δ r o e E q => by
  obtain ⟨ds, hm, e⟩ := Option.bind_eq_some_iff.mp e
  obtain ⟨d, hd, e⟩ := Option.bind_eq_some_iff.mp e
  by_cases hc : ds.length ≤ cap
  · rw [if_pos hc] at e
    cases e
    refine ho F H σ δ r.rel ds hm _ fun F1 H1 p vs m1 hp hf hq ra => ?_
    refine ⟨.inl ⟨rfl, vs, .inl (.inl hq)⟩, ?_⟩
    refine h F1 H1 σ δ (r.rel.mv m1) d hd _ fun F2 H2 y m2 ry => ?_
    have hp2 := m2.h _ _ hq
    refine ⟨p, vs, y, rfl, rfl, hp2, by rw [ra.len]; exact cap_lt hc, ?_⟩
    have m12 := m1.trans m2
    have f2 : F2 p = none := m2.sep p (by rw [hq]; exact fun z => nomatch z) hf
    have m3 : Mv F H F2 (upd H2 p (.lst (vs ++ [y]))) := by
      refine ⟨m12.f, fun a u hh => ?_, fun a u hh => ?_, m12.sep⟩
      · rw [upd_ne (ne_of_none hh hp)]
        exact m12.h _ _ hh
      · rw [upd_ne (ne_of_none hh f2)]
        exact m2.fh _ _ hh
    exact q F2 _ σ m3.f (r.mv m3)
  · rw [if_neg hc] at e
    cases e
end Dl
namespace Dl
open PySem PySem.Spec PyProof.Rows L2
/-! evaluation of mirrors that change what is owned -/
@[simp] theorem sPure_e {α : Type} {m : DS → Option α} {δ : DS} : sPure m δ = (m δ).map fun d => (d, δ) := rfl
def qx2 (b : DS → Option OutM) : Option OutM → Option OutM
  | some (.nx δ) => b δ
  | o => o
@[simp] theorem qx2_nx {b : DS → Option OutM} {δ : DS} : qx2 b (some (.nx δ)) = b δ := rfl
@[simp] theorem qx2_rt {b : DS → Option OutM} {d : D} {δ : DS} : qx2 b (some (.rt d δ)) = some (.rt d δ) := rfl
theorem qSeq_e {a b : DS → Option OutM} {δ : DS} : qSeq a b δ = qx2 b (a δ) := by
  unfold qSeq qx2
  cases h : a δ with
  | none => rfl
  | some o => cases o <;> rfl
theorem qNext_e {δ : DS} : qNext δ = some (.nx δ) := rfl
section
variable {a b e : DS → Option OutM} {m : MS} {mc : MB} {δ δ' : DS} {d : D} {o : Option OutM} {i : Nat} {x : Bool} {mi mv' : DS → Option D} {mo : DS → Option (List D)} {ds : List D}
theorem qasg_q (h : m δ = some (d, δ')) (k : b (δ'.set i (v d)) = o) : qSeq (qAsg i m) b δ = o := by
  rw [qSeq_e]
  unfold qAsg
  rw [h]
  exact k
theorem qasg_n (h : m δ = some (d, δ')) : qAsg i m δ = some (.nx (δ'.set i (v d))) := by
  unfold qAsg
  rw [h]
  rfl
theorem qasgO_q (h : mo δ = some ds) (k : b (δ.set i (some (.own ds))) = o) : qSeq (qAsgO i mo) b δ = o := by
  rw [qSeq_e]
  unfold qAsgO
  rw [h]
  exact k
theorem qset_n {ds : List D} {k : Int} {j : Nat} (hs : δ[i]? = some (some (.own ds))) (hi : mi δ = some (.int k)) (hv : mv' δ = some d) (hj : ixN ds.length k = some j) : qSetI i mi mv' δ = some (.nx (δ.set i (some (.own (ds.set j d))))) := by
  unfold qSetI
  rw [hs, hi, hv]
  show (ixN ds.length k).map _ = _
  rw [hj]
  rfl
theorem qset_q {ds : List D} {k : Int} {j : Nat} (hs : δ[i]? = some (some (.own ds))) (hi : mi δ = some (.int k)) (hv : mv' δ = some d) (hj : ixN ds.length k = some j) (kk : b (δ.set i (some (.own (ds.set j d)))) = o) : qSeq (qSetI i mi mv') b δ = o := by
  rw [qSeq_e, qset_n hs hi hv hj]
  exact kk
theorem qifT_q (h : mc δ = some (true, δ')) (k : qSeq a b δ' = o) : qSeq (qIf mc a e) b δ = o := by
  rw [qSeq_e]
  unfold qIf
  rw [h]
  rw [qSeq_e] at k
  exact k
theorem qifF_q (h : mc δ = some (false, δ')) (k : qSeq e b δ' = o) : qSeq (qIf mc a e) b δ = o := by
  rw [qSeq_e]
  unfold qIf
  rw [h]
  rw [qSeq_e] at k
  exact k
theorem qifT_n (h : mc δ = some (true, δ')) (k : a δ' = o) : qIf mc a e δ = o := by
  unfold qIf
  rw [h]
  exact k
theorem qifF_n (h : mc δ = some (false, δ')) (k : e δ' = o) : qIf mc a e δ = o := by
  unfold qIf
  rw [h]
  exact k
theorem qnext_q (k : b δ = o) : qSeq qNext b δ = o := by rw [qSeq_e, qNext_e]; exact k
theorem qassoc_q {a1 a2 : DS → Option OutM} (k : qSeq a1 (qSeq a2 b) δ = o) : qSeq (qSeq a1 a2) b δ = o := by
  rw [qSeq_e, qSeq_e]
  rw [qSeq_e] at k
  rw [← k]
  cases a1 δ with
  | none => rfl
  | some x =>
    cases x with
    | nx δ1 =>
      show qx2 b (a2 δ1) = qSeq a2 b δ1
      rw [qSeq_e]
    | _ => rfl
theorem qstep_q (h : a δ = some (.nx δ')) (k : b δ' = o) : qSeq a b δ = o := by
  rw [qSeq_e, h]
  exact k
theorem qret_n (h : m δ = some (d, δ')) : qRet m δ = some (.rt d δ') := by
  unfold qRet
  rw [h]
  rfl
theorem pure_n {α : Type} {m : DS → Option α} {a : α} (h : m δ = some a) : sPure m δ = some (a, δ) := by rw [sPure_e, h]; rfl
theorem fnM_rt {n k : Nat} {mm : DS → Option OutM} {es : List D} {st' : List D} (hk : es.length + 1 = k) (h : mm (startM n ds es) = some (.rt d δ)) (ho : own0 δ = some st') : fnM n k mm ds es = some (d, st') := by
  unfold fnM
  rw [if_pos hk, h]
  show (own0 δ).map _ = _
  rw [ho]
  rfl
end
/-! what is drawn: I holds of the stream, P of the value -/
abbrev SL := List D
def Dr (I : SL → Prop) (f : List D → List D → Option (D × List D)) (es : List D) (P : D → Prop) : Prop := ∀ st, I st → ∃ d st', f st es = some (d, st') ∧ I st' ∧ P d
def Tr {α : Type} (I : SL → Prop) (Γ : SL → DS) (m : DS → Option (α × DS)) (P : α → Prop) : Prop := ∀ st, I st → ∃ a st', m (Γ st) = some (a, Γ st') ∧ I st' ∧ P a
def TrQ (I : SL → Prop) (Γ : SL → DS) (q : DS → Option OutM) (P : D → Prop) : Prop := ∀ st, I st → ∃ d st' δ', q (Γ st) = some (.rt d δ') ∧ own0 δ' = some st' ∧ I st' ∧ P d
def TrN (I : SL → Prop) (Γ : SL → DS) (q : DS → Option OutM) (N : (SL → DS) → Prop) : Prop := ∀ st, I st → ∃ Γ' st', q (Γ st) = some (.nx (Γ' st')) ∧ I st' ∧ N Γ'
section
variable {I : SL → Prop} {Γ : SL → DS} {α : Type}
theorem Tr.mono {m : DS → Option (α × DS)} {P Q : α → Prop} (h : Tr I Γ m P) (hq : ∀ a, P a → Q a) : Tr I Γ m Q := fun st hs => by
  obtain ⟨a, st', h1, h2, h3⟩ := h st hs
  exact ⟨a, st', h1, h2, hq a h3⟩
theorem tr_pure {m : DS → Option α} {P : α → Prop} {a : α} (h : ∀ st, m (Γ st) = some a) (hp : P a) : Tr I Γ (sPure m) P := fun st hs => ⟨a, st, pure_n (h st), hs, hp⟩
theorem tr_draw {i : Nat} {ms : DS → Option (List D)} {f : List D → List D → Option (D × List D)} {es : List D} {P : D → Prop} (hf : Dr I f es P) (hm : ∀ st, ms (Γ st) = some es) (hg : ∀ st, (Γ st)[i]? = some (some (.own st)) := by intro _; rfl)
    (hs : ∀ st st', (Γ st).set i (some (.own st')) = Γ st' := by intro _ _; rfl) : Tr I Γ (sDraw i ms f) P := fun st hi => by
  obtain ⟨d, st', h1, h2, h3⟩ := hf st hi
  refine ⟨d, st', ?_, h2, h3⟩
  unfold sDraw
  rw [hg, hm]
  show (f st es).map _ = _
  rw [h1, ← hs st st']
  rfl
theorem tr_bind {β : Type} {m : DS → Option (α × DS)} {k : α → DS → Option (β × DS)} {A : α → Prop} {P : β → Prop} (h : Tr I Γ m A) (hk : ∀ a, A a → Tr I Γ (k a) P) : Tr I Γ (sBind m k) P := fun st hs => by
  obtain ⟨a, st1, h1, h2, h3⟩ := h st hs
  obtain ⟨b, st2, g1, g2, g3⟩ := hk a h3 st1 h2
  refine ⟨b, st2, ?_, g2, g3⟩
  unfold sBind
  rw [h1]
  exact g1
theorem tr_sret {o : Option α} {P : α → Prop} {a : α} (h : o = some a) (hp : P a) : Tr I Γ (sRet o) P := fun st hs => ⟨a, st, by rw [h]; rfl, hs, hp⟩
theorem tr_2 {g : D → D → Option D} {ma mb : MS} {A P : D → Prop} (ha : Tr I Γ ma A) (hb : ∀ a, A a → Tr I Γ mb fun b => ∃ c, g a b = some c ∧ P c) : Tr I Γ (s2 g ma mb) P :=
  tr_bind ha fun a h => tr_bind (hb a h) fun b ⟨c, h1, h2⟩ => tr_sret h1 h2
theorem tr_1 {g : D → Option D} {ma : MS} {P : D → Prop} (ha : Tr I Γ ma fun a => ∃ c, g a = some c ∧ P c) : Tr I Γ (s1 g ma) P := tr_bind ha fun a ⟨c, h1, h2⟩ => tr_sret h1 h2
theorem tr_nil {P : List D → Prop} (h : P []) : Tr I Γ sNil P := fun st hs => ⟨[], st, rfl, hs, h⟩
theorem tr_cons {ma : MS} {mr : MA} {A : D → Prop} {P : List D → Prop} (ha : Tr I Γ ma A) (hr : ∀ a, A a → Tr I Γ mr fun r => P (a :: r)) : Tr I Γ (sCons ma mr) P :=
  tr_bind ha fun a h => tr_bind (hr a h) fun r h => tr_sret rfl h
theorem tr_tup {ms : MA} {P : D → Prop} (h : Tr I Γ ms fun ds => P (.tuple ds)) : Tr I Γ (sTup ms) P := tr_bind h fun ds h => tr_sret rfl h
theorem tr_lst {ms : MA} {P : D → Prop} (h : Tr I Γ ms fun ds => P (.list ds)) : Tr I Γ (sLst ms) P := tr_bind h fun ds h => tr_sret rfl h
theorem tr_call {ms : MA} {g : List D → Option D} {P : D → Prop} (h : Tr I Γ ms fun ds => ∃ d, g ds = some d ∧ P d) : Tr I Γ (sCall ms g) P := tr_bind h fun ds ⟨d, h1, h2⟩ => tr_sret h1 h2
theorem tr_callF {ms : MA} {f : List D → Option DV} {P : D → Prop} (h : Tr I Γ ms fun ds => ∃ r, f ds = some r ∧ P r.data) : Tr I Γ (sCallF ms f) P := tr_bind h fun ds ⟨r, h1, h2⟩ => tr_sret (by rw [h1]; rfl) h2
theorem tr_test {m : MS} {P : Bool → Prop} (h : Tr I Γ m fun d => ∃ b, d = .bool b ∧ P b) : Tr I Γ (sTest m) P := tr_bind h fun d ⟨b, h1, h2⟩ => tr_sret (by rw [h1]) h2
theorem tr_rng1 {ms : MA} {P : List D → Prop} (h : Tr I Γ ms fun ds => ∃ n : Nat, ds = [.int (n : Int)] ∧ n ≤ 1000000 ∧ P (rngD 0 n)) : Tr I Γ (sRng1 ms) P := tr_bind h fun ds ⟨n, h1, h2, h3⟩ => tr_sret (by
  rw [h1]
  have e : okRng (n : Int) = true := decide_eq_true ⟨by omega, by omega⟩
  show (if okRng (n : Int) = true then _ else none) = _
  rw [if_pos e, Int.toNat_natCast]) h3
/-! statements -/
variable {a b e : DS → Option OutM} {m : MS} {mc : MB} {i : Nat} {P : D → Prop}
theorem trq_asg {A : D → Prop} (h : Tr I Γ m A) (k : ∀ d, A d → TrQ I (fun st => (Γ st).set i (v d)) b P) : TrQ I Γ (qSeq (qAsg i m) b) P := fun st hs => by
  obtain ⟨d, st1, h1, h2, h3⟩ := h st hs
  obtain ⟨r, st2, δ2, g1, g2, g3, g4⟩ := k d h3 st1 h2
  exact ⟨r, st2, δ2, qasg_q h1 g1, g2, g3, g4⟩
theorem trq_asgO {mo : DS → Option (List D)} {ds : List D} (h : ∀ st, mo (Γ st) = some ds) (k : TrQ I (fun st => (Γ st).set i (some (.own ds))) b P) : TrQ I Γ (qSeq (qAsgO i mo) b) P := fun st hs => by
  obtain ⟨r, st2, δ2, g1, g2, g3, g4⟩ := k st hs
  exact ⟨r, st2, δ2, qasgO_q (h st) g1, g2, g3, g4⟩
theorem trq_if {B : Bool → Prop} (h : Tr I Γ mc B) (k : ∀ x, B x → TrQ I Γ (qSeq (if x = true then a else e) b) P) : TrQ I Γ (qSeq (qIf mc a e) b) P := fun st hs => by
  obtain ⟨x, st1, h1, h2, h3⟩ := h st hs
  obtain ⟨r, st2, δ2, g1, g2, g3, g4⟩ := k x h3 st1 h2
  refine ⟨r, st2, δ2, ?_, g2, g3, g4⟩
  cases x with
  | true => exact qifT_q h1 g1
  | false => exact qifF_q h1 g1
theorem trq_next (k : TrQ I Γ b P) : TrQ I Γ (qSeq qNext b) P := fun st hs => by
  obtain ⟨r, st2, δ2, g1, g2, g3, g4⟩ := k st hs
  exact ⟨r, st2, δ2, qnext_q g1, g2, g3, g4⟩
theorem trq_ret (h : Tr I Γ m P) (ho : ∀ st, own0 (Γ st) = some st := by intro _; rfl) : TrQ I Γ (qRet m) P := fun st hs => by
  obtain ⟨d, st1, h1, h2, h3⟩ := h st hs
  exact ⟨d, st1, Γ st1, qret_n h1, ho st1, h2, h3⟩
theorem trq_rets (h : Tr I Γ m P) (ho : ∀ st, own0 (Γ st) = some st := by intro _; rfl) : TrQ I Γ (qSeq (qRet m) b) P := fun st hs => by
  obtain ⟨d, st1, h1, h2, h3⟩ := h st hs
  refine ⟨d, st1, Γ st1, ?_, ho st1, h2, h3⟩
  rw [qSeq_e, qret_n h1]
  rfl
theorem trq_frz {ds : List D} (h : ∀ st, (Γ st)[i]? = some (some (.own ds))) (k : TrQ I (fun st => (Γ st).set i (v (.list ds))) b P) : TrQ I Γ (qFrz i b) P := fun st hs => by
  obtain ⟨r, st2, δ2, g1, g2, g3, g4⟩ := k st hs
  refine ⟨r, st2, δ2, ?_, g2, g3, g4⟩
  unfold qFrz
  rw [frz_e (h st)]
  exact g1
theorem trq_seqN {N : (SL → DS) → Prop} (h : TrN I Γ a N) (k : ∀ Γ', N Γ' → TrQ I Γ' b P) : TrQ I Γ (qSeq a b) P := fun st hs => by
  obtain ⟨Γ', st1, h1, h2, h3⟩ := h st hs
  obtain ⟨r, st2, δ2, g1, g2, g3, g4⟩ := k Γ' h3 st1 h2
  refine ⟨r, st2, δ2, ?_, g2, g3, g4⟩
  rw [qSeq_e, h1]
  exact g1
theorem trn_app {A : D → Prop} {ds : List D} (h : Tr I Γ m A) (hc : ds.length ≤ cap) (hg : ∀ st, (Γ st)[i]? = some (some (.own ds))) : TrN I Γ (qApp i m) fun Γ' => ∃ d, A d ∧ Γ' = fun st => (Γ st).set i (some (.own (ds ++ [d]))) := fun st hs => by
  obtain ⟨d, st1, h1, h2, h3⟩ := h st hs
  refine ⟨fun st => (Γ st).set i (some (.own (ds ++ [d]))), st1, ?_, h2, d, h3, rfl⟩
  unfold qApp
  rw [hg]
  show (m (Γ st)).bind _ = _
  rw [h1]
  show (match (Γ st1)[i]? with | some (some (DV.own ds)) => _ | _ => none) = _
  rw [hg]
  show (if ds.length ≤ cap then _ else none) = _
  rw [if_pos hc]
theorem trn_asg {A : D → Prop} (h : Tr I Γ m A) : TrN I Γ (qAsg i m) fun Γ' => ∃ d, A d ∧ Γ' = fun st => (Γ st).set i (v d) := fun st hs => by
  obtain ⟨d, st1, h1, h2, h3⟩ := h st hs
  exact ⟨fun st => (Γ st).set i (v d), st1, qasg_n h1, h2, d, h3, rfl⟩
theorem trn_next : TrN I Γ qNext fun Γ' => Γ' = Γ := fun st hs => ⟨Γ, st, rfl, hs, rfl⟩
theorem trn_if {B : Bool → Prop} {N : (SL → DS) → Prop} (h : Tr I Γ mc B) (k : ∀ x, B x → TrN I Γ (if x = true then a else e) N) : TrN I Γ (qIf mc a e) N := fun st hs => by
  obtain ⟨x, st1, h1, h2, h3⟩ := h st hs
  obtain ⟨Γ', st2, g1, g2, g3⟩ := k x h3 st1 h2
  refine ⟨Γ', st2, ?_, g2, g3⟩
  cases x with
  | true => exact qifT_n h1 g1
  | false => exact qifF_n h1 g1
theorem trn_seq {N1 N : (SL → DS) → Prop} (h : TrN I Γ a N1) (k : ∀ Γ', N1 Γ' → TrN I Γ' b N) : TrN I Γ (qSeq a b) N := fun st hs => by
  obtain ⟨Γ', st1, h1, h2, h3⟩ := h st hs
  obtain ⟨Γ2, st2, g1, g2, g3⟩ := k Γ' h3 st1 h2
  refine ⟨Γ2, st2, ?_, g2, g3⟩
  rw [qSeq_e, h1]
  exact g1
theorem TrN.mono {N M : (SL → DS) → Prop} (h : TrN I Γ a N) (k : ∀ Γ', N Γ' → M Γ') : TrN I Γ a M := fun st hs => by
  obtain ⟨Γ', st1, h1, h2, h3⟩ := h st hs
  exact ⟨Γ', st1, h1, h2, k Γ' h3⟩
theorem trn_forL {gm : D → DS → Option DS} (J : Nat → (SL → DS) → Prop) : ∀ (ds : List D) (k : Nat) (Γ : SL → DS), J k Γ → (∀ i d Γ, ds[i]? = some d → J (k + i) Γ → ∃ Γ1, (∀ st, gm d (Γ st) = some (Γ1 st)) ∧ TrN I Γ1 b (J (k + i + 1))) → TrN I Γ (qForL gm b ds) (J (k + ds.length))
  | [], k, Γ, h, _ => fun st hs => ⟨Γ, st, rfl, hs, h⟩
  | d :: ds, k, Γ, h, hb => fun st hs => by
    obtain ⟨Γ1, h1, h2⟩ := hb 0 d Γ rfl h
    obtain ⟨Γ2, st2, g1, g2, g3⟩ := h2 st hs
    obtain ⟨Γ3, st3, f1, f2, f3⟩ := trn_forL J ds (k + 1) Γ2 g3 (fun i d' Γ hd hj => by
      have z : k + 1 + i = k + (i + 1) := by omega
      rw [z] at hj ⊢
      exact hb (i + 1) d' Γ (by rw [List.getElem?_cons_succ]; exact hd) hj) st2 g2
    refine ⟨Γ3, st3, ?_, f2, ?_⟩
    · unfold qForL
      rw [h1]
      show (b (Γ1 st)).bind _ = _
      rw [g1]
      exact f1
    · rw [List.length_cons]
      have z : k + (ds.length + 1) = k + 1 + ds.length := by omega
      rw [z]
      exact f3
theorem trn_forS {mi : MA} {gm : D → DS → Option DS} {A : List D → Prop} (J : List D → Nat → (SL → DS) → Prop) (h : Tr I Γ mi A) (h0 : ∀ ds, A ds → J ds 0 Γ)
    (hb : ∀ ds, A ds → ∀ i d Γ, ds[i]? = some d → J ds i Γ → ∃ Γ1, (∀ st, gm d (Γ st) = some (Γ1 st)) ∧ TrN I Γ1 b (J ds (i + 1))) : TrN I Γ (qForS mi gm b) fun Γ' => ∃ ds, A ds ∧ J ds ds.length Γ' := fun st hs => by
  obtain ⟨ds, st1, h1, h2, h3⟩ := h st hs
  obtain ⟨Γ2, st2, g1, g2, g3⟩ := trn_forL (J ds) ds 0 Γ (h0 ds h3) (fun i d Γ hd hj => by
    rw [Nat.zero_add] at hj ⊢
    exact hb ds h3 i d Γ hd hj) st1 h2
  refine ⟨Γ2, st2, ?_, g2, ds, h3, by rw [Nat.zero_add] at g3; exact g3⟩
  unfold qForS
  rw [h1]
  exact g1
theorem trn_for {mi : DS → Option (List D)} {gm : D → DS → Option DS} {ds : List D} (J : Nat → (SL → DS) → Prop) (h : ∀ st, mi (Γ st) = some ds) (h0 : J 0 Γ)
    (hb : ∀ i d Γ, ds[i]? = some d → J i Γ → ∃ Γ1, (∀ st, gm d (Γ st) = some (Γ1 st)) ∧ TrN I Γ1 b (J (i + 1))) : TrN I Γ (qFor mi gm b) (J ds.length) := fun st hs => by
  obtain ⟨Γ2, st2, g1, g2, g3⟩ := trn_forL J ds 0 Γ h0 (fun i d Γ hd hj => by
    rw [Nat.zero_add] at hj ⊢
    exact hb i d Γ hd hj) st hs
  refine ⟨Γ2, st2, ?_, g2, by rw [Nat.zero_add] at g3; exact g3⟩
  unfold qFor
  rw [h]
  exact g1
/-- a comprehension that draws -/
theorem tr_mapL {gm : D → DS → Option DS} {me : MS} {vs : List Nat} {R : Nat → D → Prop} (hw : ∀ st, wipeD (Γ st) vs = Γ st) : ∀ (ds : List D) (k : Nat), (∀ i d, ds[i]? = some d → ∃ Γ1, (∀ st, gm d (Γ st) = some (Γ1 st)) ∧ (∀ st, wipeD (Γ1 st) vs = Γ st) ∧ Tr I Γ1 me (R (k + i))) →
    Tr I Γ (sMapL gm (fun δ1 => (me δ1).map fun p => (p.1, wipeD p.2 vs)) vs ds) fun rs => rs.length = ds.length ∧ ∀ i r, rs[i]? = some r → R (k + i) r
  | [], k, _ => fun st hs => ⟨[], st, rfl, hs, rfl, fun i r h => by simp at h⟩
  | d :: ds, k, hb => fun st hs => by
    obtain ⟨Γ1, h1, h2, h3⟩ := hb 0 d rfl
    obtain ⟨r, st1, g1, g2, g3⟩ := h3 st hs
    obtain ⟨rs, st2, f1, f2, f3, f4⟩ := tr_mapL hw ds (k + 1) (fun i d' hd => by
      have z : k + 1 + i = k + (i + 1) := by omega
      rw [z]
      exact hb (i + 1) d' (by rw [List.getElem?_cons_succ]; exact hd)) st1 g2
    refine ⟨r :: rs, st2, ?_, f2, by rw [List.length_cons, List.length_cons, f3], fun i x hx => ?_⟩
    · unfold sMapL
      rw [hw, h1]
      show ((me (Γ1 st)).map _).bind _ = _
      rw [g1]
      show (sMapL gm _ vs ds (wipeD (Γ1 st1) vs)).bind _ = _
      rw [h2, f1]
      rfl
    · cases i with
      | zero =>
        rw [List.getElem?_cons_zero] at hx
        cases hx
        exact g3
      | succ i =>
        rw [List.getElem?_cons_succ] at hx
        have q := f4 i x hx
        have z : k + 1 + i = k + (i + 1) := by omega
        rw [z] at q
        exact q
theorem tr_lc {mi : DS → Option (List D)} {gm : D → DS → Option DS} {me : MS} {vs : List Nat} {ds : List D} {R : Nat → D → Prop} (hi : ∀ st, mi (Γ st) = some ds) (hc : ds.length ≤ 1000000)
    (hb : ∀ i d, ds[i]? = some d → ∃ Γ1, (∀ st, gm d (Γ st) = some (Γ1 st)) ∧ (∀ st, wipeD (Γ1 st) vs = Γ st) ∧ Tr I Γ1 me (R i)) (hw : ∀ st, wipeD (Γ st) vs = Γ st := by intro _; rfl) :
    Tr I Γ (sLc mi gm me vs) fun d => ∃ rs, d = .list rs ∧ rs.length = ds.length ∧ ∀ i r, rs[i]? = some r → R i r := fun st hs => by
  obtain ⟨rs, st1, h1, h2, h3, h4⟩ := tr_mapL hw ds 0 (fun i d hd => by
    rw [Nat.zero_add]
    exact hb i d hd) st hs
  refine ⟨.list rs, st1, ?_, h2, rs, rfl, h3, fun i r h => by
    have q := h4 i r h
    rw [Nat.zero_add] at q
    exact q⟩
  have hcap : ds.length ≤ cap := by unfold cap; omega
  unfold sLc
  rw [hi]
  show (if ds.length ≤ cap then _ else none) = _
  rw [if_pos hcap, hw, h1]
  rfl
/-- a def -/
theorem dr_of {n k : Nat} {mm : DS → Option OutM} {es : List D} (hk : es.length + 1 = k) (h : TrQ I (fun st => startM n st es) mm P) : Dr I (fnM n k mm) es P := fun st hs => by
  obtain ⟨d, st', δ', h1, h2, h3, h4⟩ := h st hs
  exact ⟨d, st', fnM_rt hk h1 h2, h3, h4⟩
end
theorem startM_0 {n : Nat} {st : SL} : startM (n + 1) st [] = some (.own st) :: List.replicate n none := by
  unfold startM
  simp
theorem startM_1 {n : Nat} {st : SL} {a : D} : startM (n + 2) st [a] = some (.own st) :: v a :: List.replicate n none := by
  unfold startM
  simp
theorem startM_2 {n : Nat} {st : SL} {a b : D} : startM (n + 3) st [a, b] = some (.own st) :: v a :: v b :: List.replicate n none := by
  unfold startM
  simp
/-! in the law -/
section
variable {i : Nat} {m : MS} {mc : MB} {mi : MA} {a e b : DS → Option Out} {δ δ' δ2 : DS} {d : D} {o : Option Out} {ds : List D} {gm : D → DS → Option DS}
theorem dasg_go (h : m δ = some (d, δ')) (k : b (δ'.set i (v d)) = o) : nSeq (qSD (qAsg i m)) b δ = o := by
  rw [nSeq_e]
  unfold qSD
  rw [qasg_n h]
  exact k
theorem difT_go (h : mc δ = some (true, δ')) (k : nSeq a b δ' = o) : nSeq (nIfS mc a e) b δ = o := by
  rw [nSeq_e]
  unfold nIfS
  rw [h]
  rw [nSeq_e] at k
  exact k
theorem difF_go (h : mc δ = some (false, δ')) (k : nSeq e b δ' = o) : nSeq (nIfS mc a e) b δ = o := by
  rw [nSeq_e]
  unfold nIfS
  rw [h]
  rw [nSeq_e] at k
  exact k
theorem dfor_go (h : mi δ = some (ds, δ')) (hl : mForL gm e ds δ' = some (.nx δ2)) (k : b δ2 = o) : nSeq (nForS mi gm e) b δ = o := by
  rw [nSeq_e]
  unfold nForS
  rw [h]
  show nx2 b (mForL gm e ds δ') = o
  rw [hl]
  exact k
theorem par_go {i j : Nat} {ms : DS → Option (List D)} {x y : D} (h : ms δ = some [x, y]) (k : b ((δ.set i (v x)).set j (v y)) = o) : nSeq (nPar i j ms) b δ = o := by
  rw [nSeq_e]
  unfold nPar
  rw [h]
  exact k
theorem clr_go {i : Nat} (h : δ[i]? = some (some (.own ds))) (k : b (δ.set i (some (.own []))) = o) : nSeq (nClr i) b δ = o := by
  rw [nSeq_e]
  unfold nClr
  rw [h]
  exact k
theorem appN_go {mo : DS → Option (List D)} {mx : DS → Option D} (h : mo δ = some ds) (hx : mx δ = some d) (hc : ds.length ≤ 1000000) (k : b δ = o) : nSeq (nAppN mo mx) b δ = o := by
  have hcap : ds.length ≤ cap := by unfold cap; omega
  rw [nSeq_e]
  unfold nAppN
  rw [h]
  show nx2 b ((mx δ).bind _) = o
  rw [hx]
  show nx2 b (if ds.length ≤ cap then _ else none) = o
  rw [if_pos hcap]
  exact k
@[simp] theorem mApp_e {ms mk : DS → Option (List D)} {δ : DS} : mApp ms mk δ = (ms δ).bind fun x => (mk δ).bind fun y => some (x ++ y) := rfl
end
end Dl
namespace Dl
open PySem PySem.Spec PyProof.Rows L2
variable {K : PySem.W.Frag}
/-! a def that is handed a new list, as its argument a -/
/-- all arguments but a are data -/
structure ArgX (K : PySem.W.Frag) (a : Nat) (F H : Hp) (vs : List V) (ds : List D) (p : Addr) (ws : List V) (xs : List D) : Prop where
  nf : F p = none
  hp : H p = some (.lst ws)
  ra : RpA K F ws xs
  at_ : ds[a]? = some (.list xs)
  vat : vs[a]? = some (.ref p)
  len : vs.length = ds.length
  oth : ∀ (j : Nat) d, j ≠ a → ds[j]? = some d → ∃ v, vs[j]? = some v ∧ Rp K F v d
def startO (n a : Nat) (ds : List D) (xs : List D) : DS := (startD n ds).set a (some (.own xs))
theorem startD_get {n : Nat} {ds : List D} {i : Nat} {r : DV} (h : (startD n ds)[i]? = some (some r)) : ∃ d, r = .val d ∧ ds[i]? = some d := by
  unfold startD at h
  by_cases hi : i < ds.length
  · rw [List.getElem?_append_left (by rw [List.length_map]; exact hi), List.getElem?_map] at h
    obtain ⟨d, h1, h2⟩ := Option.map_eq_some_iff.mp h
    exact ⟨d, (Option.some.inj h2).symm, h1⟩
  · rw [List.getElem?_append_right (by rw [List.length_map]; omega), List.getElem?_replicate] at h
    split at h <;> cases h
theorem rel_startO {F H : Hp} {N : List Str} {a : Nat} {vs : List V} {ds : List D} {p : Addr} {ws : List V} {xs : List D} (s : Same F H) (X : ArgX K a F H vs ds p ws xs) :
    RelS K F (hole H p) F H (L2.start N vs) (startO N.length a ds xs) := by
  have hl := X.len
  have sv : ∀ {j : Nat} {v : V}, vs[j]? = some v → (L2.start N vs)[j]? = some (some v) := fun {j v} h => by
    rw [start_get, if_pos (List.getElem?_eq_some_iff.mp h).1, h]
    rfl
  have s0 := sv X.vat
  have get : ∀ (i : Nat) r, (startO N.length a ds xs)[i]? = some (some r) → (i = a ∧ r = .own xs) ∨ (i ≠ a ∧ ∃ d, r = .val d ∧ ds[i]? = some d) := fun i r h => by
    rcases set_get h with ⟨h1, h2, _⟩ | ⟨h1, h2⟩
    · exact .inl ⟨h1, Option.some.inj h2⟩
    · exact .inr ⟨h1, startD_get h2⟩
  have hs : Same (hole H p) H := fun q o h => by
    by_cases hq : q = p
    · rw [hq, hole_same] at h
      cases h
    · rw [hole_ne hq] at h
      exact h
  refine ⟨⟨s, ?_, fun i d h => ?_, fun i es' h => ?_⟩, Same.refl _, hs, fun q hq hf => hf, fun i es' q h hq => ?_, fun i j e1 e2 q hij h1 h2 _ _ => ?_⟩
  · unfold L2.start startO startD
    rw [List.length_set, List.length_append, List.length_append, List.length_map, List.length_map, List.length_replicate, List.length_replicate, hl]
  · rcases get i _ h with ⟨_, e⟩ | ⟨h1, d', e, hd⟩
    · cases e
    · cases e
      obtain ⟨v, hv, rv⟩ := X.oth i d h1 hd
      exact ⟨v, sv hv, rv⟩
  · rcases get i _ h with ⟨h1, e⟩ | ⟨h1, d', e, hd⟩
    · cases e
      subst h1
      exact ⟨p, ws, s0, X.nf, X.hp, X.ra⟩
    · cases e
  · rcases get i _ h with ⟨h1, e⟩ | ⟨h1, d', e, hd⟩
    · subst h1
      rw [s0] at hq
      cases hq
      exact hole_same H _
    · cases e
  · rcases get i _ h1 with ⟨ha, _⟩ | ⟨_, _, e, _⟩
    · rcases get j _ h2 with ⟨hb, _⟩ | ⟨_, _, e, _⟩
      · exact hij (ha.trans hb.symm)
      · cases e
    · cases e
def spO (K : PySem.W.Frag) (a : Nat) (f : List D → Option DV) : Sp := fun vs H Q _ => ∃ F p ws xs ds r, Same F H ∧ ArgX K a F H vs ds p ws xs ∧ f ds = some r ∧
  ∀ F' H' v, Mv F (hole H p) F' H' → RetOk K (hole H p) F' H' v r → Q v H'
def fnO (n k a : Nat) (mm : DS → Option Out) : List D → Option DV := fun ds => if ds.length = k then
    match ds[a]? with
    | some (.list xs) => (match mm (startO n a ds xs) with
      | some (.nx _) => some (.val .none)
      | some (.rt r) => some r
      | _ => none)
    | _ => none
  else none
theorem fnO_go {t : TS} {mm : DS → Option Out} (h : SD K t mm) {N : List Str} {k a : Nat} {vs : List V} {H : Hp} {Q : VK} {E : XK} (sp : spO K a (fnO N.length k a mm) vs H Q E) : t { nx := fun _ H' => Q .non H', rt := Q } (L2.start N vs) H := by
  obtain ⟨F, p, ws, xs, ds, r, s, X, e, q⟩ := sp
  unfold fnO at e
  by_cases hk : ds.length = k
  · rw [if_pos hk, X.at_] at e
    have e : (match mm (startO N.length a ds xs) with
      | some (.nx _) => some (.val .none)
      | some (.rt r) => some r
      | _ => none) = some r := e
    have rl := rel_startO (N := N) s X
    split at e
    · rename_i δ' hm
      cases e
      refine h F _ F H _ _ rl _ hm _ fun F' H' σ s' r' => ?_
      exact q F' H' _ r'.back .non
    · rename_i r' hm
      cases e
      refine h F _ F H _ _ rl _ hm _ fun F' H' v mv rk => ?_
      exact q F' H' v mv rk
    · cases e
  · rw [if_neg hk] at e
    cases e
theorem fnO_len {n k a : Nat} {mm : DS → Option Out} {vs : List V} {H : Hp} {Q : VK} {E : XK} (sp : spO K a (fnO n k a mm) vs H Q E) : vs.length = k := by
  obtain ⟨F, p, ws, xs, ds, r, s, X, e, q⟩ := sp
  unfold fnO at e
  by_cases hk : ds.length = k
  · rw [X.len, hk]
  · rw [if_neg hk] at e
    cases e
section
variable {P : Program} {w : World} {K : PySem.W.Frag} {mg : Str → Option Value} {base : Heap}
structure DO (P : Program) (w : World) (K : PySem.W.Frag) (mg : Str → Option Value) (base : Heap) (k : Nat) (x : Str) (ps : List Str) (a : Nat) (fm : List D → Option DV) : Prop where
  ex : ∃ (f : Addr) (fd : FuncData), mg x = some (.ref f) ∧ PySem.W.keepIn K (.ref f) = true ∧ Binds K fd ps [] ∧ FnOk P w K mg base CX0 k f fd ps (spO K a fm)
theorem DO.mono {j k a : Nat} {x : Str} {ps : List Str} {fm : List D → Option DV} (h : DO P w K mg base j x ps a fm) (hk : j ≤ k) : DO P w K mg base k x ps a fm := by
  obtain ⟨f, fd, h1, h2, h3, h4⟩ := h.ex
  exact ⟨f, fd, h1, h2, h3, h4.mono hk⟩
theorem Tx.do {x : Str} {st : Stmt} {N ps : List Str} {a k : Nat} {mm : DS → Option Out} {f : Addr} {fd : FuncData} (T : Tx K mg x st ps f fd) (S : FnScope N ps (defScope st))
    (hbody : ∀ (cdv : Value) (A : Around) (outer : List Env) (s : Shared) (H : Hp) (E : XK), Room k (A.deeper (envOfC x (defScope st) s.heap.objs.size f cdv)) →
      ∃ t, PSs (cxOf CX0 P w K mg base N x (defScope st) f cdv A outer s H E).nox (defBody st) t ∧ SD K t mm) : DO P w K mg base (k + 1) x ps a (fnO N.length ps.length a mm) :=
  ⟨f, fd, T.gl, T.fn.kp, T.bd, by
    refine T.fn.ok S (fun vs H Q E h => fnO_len h) (fun cdv A outer s H vs Q E hr h => ?_)
    obtain ⟨t, h1, h2⟩ := hbody cdv A outer s H E hr
    exact ⟨t, h1, fnO_go h2 h⟩⟩
theorem pe_do {X : Cx} {k a : Nat} {x : Str} {ps : List Str} {fm : List D → Option DV} {p pos : Pos} {e : Expr} {es : List Expr} {t : TA} (Dx : DO X.prog X.w X.K X.mg X.base k x ps a fm) (hr : Room k X.A) (hg : Gl X x) (ha : PA X (e :: es) t)
    (he : starEach (e :: es) X.env = (false, eval e X.env) :: starEach es X.env := by rfl) (hpl : (backTo pos (starEach es X.env)).any (·.1) = false := by rfl) (hdb : (x == ("__debug__" : Str)) = false := by decide) :
    PE X (.Call (.Name x p) (e :: es) [] pos) (tCall (spO X.K a fm) [] E0 t) := by
  obtain ⟨f, fd, h1, h2, h3, h4⟩ := Dx.ex
  exact pe_call h4 hr hg h1 h2 h3 .nil pass0 ha hdb he hpl
end
/-! arguments, the a-th a new list -/
def EvX (K : PySem.W.Frag) (n a : Nat) (t : TA) (m : DS → Option (List D)) : Prop := ∀ F H σ δ, Rel K F H σ δ → ∀ ds, m δ = some ds → ∀ Q : List V → Hp → Prop,
  (∀ F' H' vs p ws xs, Mv F H F' H' → H p = none → ArgX K a F' H' vs ds p ws xs → ds.length = n → Q vs H') → t σ H Q
theorem ArgX.more {a : Nat} {F H F' H' : Hp} {vs : List V} {ds : List D} {p : Addr} {ws : List V} {xs : List D} {v : V} {d : D} (X : ArgX K a F' H' vs ds p ws xs) (rv : Rp K F' v d) : ArgX K (a + 1) F' H' (v :: vs) (d :: ds) p ws xs :=
  ⟨X.nf, X.hp, X.ra, by rw [List.getElem?_cons_succ]; exact X.at_, by rw [List.getElem?_cons_succ]; exact X.vat, by rw [List.length_cons, List.length_cons, X.len], fun j e hj hd => by
    cases j with
    | zero =>
      rw [List.getElem?_cons_zero] at hd
      cases hd
      exact ⟨v, rfl, rv⟩
    | succ j =>
      rw [List.getElem?_cons_succ] at hd ⊢
      exact X.oth j e (by omega) hd⟩
theorem ex_here {n : Nat} {te : TE} {t : TA} {mo ms : DS → Option (List D)} (ho : EvO K te mo) (ha : EvA K n t ms) : EvX K (n + 1) 0 (tCons te t) (mCons (mLst mo) ms) := fun F H σ δ rl ds e Q q => by
  rw [show mCons (mLst mo) ms δ = ((mo δ).map PyData.list).bind fun a => (ms δ).bind fun r => some (a :: r) from rfl] at e
  obtain ⟨x, ex, e⟩ := Option.bind_eq_some_iff.mp e
  obtain ⟨xs, ex2, rfl⟩ := Option.map_eq_some_iff.mp ex
  obtain ⟨r, er, e⟩ := Option.bind_eq_some_iff.mp e
  cases e
  refine ho F H σ δ rl xs ex2 _ fun F1 H1 p ws m1 hp hf hq ra => ?_
  refine ha F1 H1 σ δ (rl.mv m1) r er _ fun F2 H2 vs m2 r2 hl => ?_
  refine q F2 H2 (.ref p :: vs) p ws xs (m1.trans m2) hp ⟨m2.sep p (by rw [hq]; exact fun z => nomatch z) hf, m2.h _ _ hq, ra.mono m2.f, rfl, rfl, by rw [List.length_cons, List.length_cons, r2.len], fun j d hj hd => ?_⟩ (by rw [List.length_cons, hl])
  cases j with
  | zero => exact absurd rfl hj
  | succ j =>
    rw [List.getElem?_cons_succ] at hd ⊢
    exact r2.get hd
theorem ex_there {n a : Nat} {te : TE} {t : TA} {m : DS → Option D} {ms : DS → Option (List D)} (h : Ev K te m) (hx : EvX K n a t ms) : EvX K (n + 1) (a + 1) (tCons te t) (mCons m ms) := fun F H σ δ rl ds e Q q => by
  rw [show mCons m ms δ = (m δ).bind fun a => (ms δ).bind fun r => some (a :: r) from rfl] at e
  obtain ⟨x, ex, e⟩ := Option.bind_eq_some_iff.mp e
  obtain ⟨r, er, e⟩ := Option.bind_eq_some_iff.mp e
  cases e
  refine h F H σ δ rl x ex _ fun F1 H1 y m1 ry => ?_
  refine hx F1 H1 σ δ (rl.mv m1) r er _ fun F2 H2 vs p ws xs m2 hp X hl => ?_
  have h0 : H p = none := by
    cases z : H p with
    | none => rfl
    | some o =>
      have := m1.h _ _ z
      rw [hp] at this
      cases this
  exact q F2 H2 (y :: vs) p ws xs (m1.trans m2) h0 (X.more (H := H) (F := F) (ry.mono m2.f)) (by rw [List.length_cons, hl])
/-- return f(..) -/
theorem sd_retCO {n a : Nat} {E : XK} {t : TA} {ms : DS → Option (List D)} {f : List D → Option DV} (ha : EvX K n a t ms) : SD K (tRet (tCall (spO K a f) [] E t)) (nRetC ms f) := fun F0 H0 F H σ δ r o e EE q => by
  obtain ⟨ds, ea, e⟩ := Option.bind_eq_some_iff.mp e
  obtain ⟨d, ed, rfl⟩ := Option.map_eq_some_iff.mp e
  refine ha F H σ δ r.rel ds ea _ fun F1 H1 vs p ws xs m1 hp X hl => ?_
  refine ⟨F1, p, ws, xs, ds, d, m1.fh, by rw [List.append_nil]; exact X, ed, fun F2 H2 v m2 rk => ?_⟩
  have hm : Mv F H F1 (hole H1 p) := ⟨m1.f, fun b u hb => by
    rw [hole_ne (ne_of_none hb hp)]
    exact m1.h _ _ hb, fun b u hb => by
    rw [hole_ne (ne_of_none hb X.nf)]
    exact m1.fh _ _ hb, m1.sep⟩
  have hb := r.back.trans hm
  refine q F2 H2 v (hb.trans m2) ?_
  cases d with
  | val d => exact rk
  | own ds =>
    obtain ⟨q', us, h1, h2, h3, h4, h5⟩ := rk
    exact ⟨q', us, h1, hb.h.free h2, h3, h4, h5⟩
end Dl
namespace Dl
open PySem PySem.Spec PyProof.Rows L2
variable {K : PySem.W.Frag}
/-! truth of data -/
def truD : D → Option Bool
  | .none => some false
  | .bool b => some b
  | .int i => some (i != 0)
  | .str y => if y.length ≤ 1000000 then some ((y.length : Int) != 0) else none
  | .list ds => some (!ds.isEmpty)
  | .tuple ds => some (!ds.isEmpty)
  | _ => none
theorem RpA.emp {F : Hp} {vs : List V} {ds : List D} (r : RpA K F vs ds) : vs.isEmpty = ds.isEmpty := by cases r <;> rfl
theorem tru_rp {F H : Hp} {x : V} {d : D} {k : Bool} (s : Same F H) (r : Rp K F x d) (h : truD d = some k) : TruV K x H k := by
  cases r with
  | non => exact (Option.some.inj h).symm
  | bl b => exact (Option.some.inj h).symm
  | int i => exact (Option.some.inj h).symm
  | str y =>
    have h' : (if y.length ≤ 1000000 then some ((y.length : Int) != 0) else none) = some k := h
    by_cases hl : y.length ≤ 1000000
    · rw [if_pos hl] at h'
      have e := sizeLine_eq
      exact ⟨by rw [e]; exact Nat.le_trans hl (by decide), (Option.some.inj h').symm⟩
    · rw [if_neg hl] at h'
      cases h'
  | lst h1 h2 => exact .inl ⟨_, sqS s h1, by rw [h2.emp]; exact (Option.some.inj h).symm⟩
  | tup h1 h2 => exact .inr (.inl ⟨_, tqS s h1, by rw [h2.emp]; exact (Option.some.inj h).symm⟩)
  | dic _ => cases h
  | dii _ => cases h
def mTru (m : DS → Option D) : DS → Option Bool := fun δ => (m δ).bind truD
def mOrD (a b : DS → Option D) : DS → Option D := fun δ => (a δ).bind fun d => (truD d).bind fun k => if k = true then some d else b δ
def mAndD (a b : DS → Option D) : DS → Option D := fun δ => (a δ).bind fun d => (truD d).bind fun k => if k = true then b δ else some d
def mNotD (a : DS → Option D) : DS → Option D := fun δ => (mTru a δ).map fun k => .bool (!k)
theorem et_tru {t : TE} {m : DS → Option D} (h : Ev K t m) : EvT K (fun σ H Q => t σ H fun x H' => ∃ k, TruV K x H' k ∧ Q k H') (mTru m) := fun F H σ δ r b e Q q => by
  obtain ⟨d, hd, hb⟩ := Option.bind_eq_some_iff.mp e
  refine h F H σ δ r d hd _ fun F1 H1 v m1 rp => ?_
  exact ⟨b, tru_rp m1.fh rp hb, q H1 m1.h⟩
theorem ev_orT {t u : TE} {a b : DS → Option D} (ha : Ev K t a) (hb : Ev K u b) : Ev K (tOrT K t u) (mOrD a b) := fun F H σ δ r c e Q q => by
  obtain ⟨d, hd, e⟩ := Option.bind_eq_some_iff.mp e
  obtain ⟨k, hk, e⟩ := Option.bind_eq_some_iff.mp e
  refine ha F H σ δ r d hd _ fun F1 H1 v m1 rp => ?_
  refine ⟨k, tru_rp m1.fh rp hk, ?_⟩
  cases k with
  | true =>
    cases e
    exact q F1 H1 _ m1 rp
  | false => exact hb F1 H1 σ δ (r.mv m1) c e Q fun F2 H2 v m2 rp => q F2 H2 v (m1.trans m2) rp
theorem ev_andT {t u : TE} {a b : DS → Option D} (ha : Ev K t a) (hb : Ev K u b) : Ev K (tAndT K t u) (mAndD a b) := fun F H σ δ r c e Q q => by
  obtain ⟨d, hd, e⟩ := Option.bind_eq_some_iff.mp e
  obtain ⟨k, hk, e⟩ := Option.bind_eq_some_iff.mp e
  refine ha F H σ δ r d hd _ fun F1 H1 v m1 rp => ?_
  refine ⟨k, tru_rp m1.fh rp hk, ?_⟩
  cases k with
  | false =>
    cases e
    exact q F1 H1 _ m1 rp
  | true => exact hb F1 H1 σ δ (r.mv m1) c e Q fun F2 H2 v m2 rp => q F2 H2 v (m1.trans m2) rp
theorem ev_notT {t : TE} {a : DS → Option D} (ha : Ev K t a) : Ev K (tNotT K t) (mNotD a) := fun F H σ δ r c e Q q => by
  obtain ⟨k, hk, rfl⟩ := Option.map_eq_some_iff.mp e
  obtain ⟨d, hd, hb⟩ := Option.bind_eq_some_iff.mp hk
  refine ha F H σ δ r d hd _ fun F1 H1 v m1 rp => ?_
  exact ⟨k, tru_rp m1.fh rp hb, q F1 H1 _ m1 (.bl (!k))⟩
/-- a new list of flat things, made of what is owned -/
def mBorO (m : DS → Option (List D)) : DS → Option (List D) := fun δ => (m (thaw δ)).bind fun ds => if ds.all flatD = true then some ds else none
theorem RpA.flat {F F' : Hp} : ∀ {ds : List D} {vs : List V}, RpA K F vs ds → ds.all flatD = true → RpA K F' vs ds
  | _, _, .nil, _ => .nil
  | _, _, .cons h r, e => by
    rw [List.all_cons, Bool.and_eq_true] at e
    exact .cons (h.flat e.1) (RpA.flat r e.2)
theorem EvO.bor {t : TE} {m : DS → Option (List D)} (h : EvO K t m) : EvO K t (mBorO m) := fun F H σ δ r ds e Q q => by
  obtain ⟨ds', hm, e⟩ := Option.bind_eq_some_iff.mp e
  by_cases hf : ds'.all flatD = true
  · rw [if_pos hf] at e
    cases e
    refine h H H σ _ r.thaw ds hm Q fun F' H' p vs mv h1 h2 h3 ra => ?_
    exact q F H' p vs (.grow r.fh mv.h) h1 (r.fh.free h1) h3 (ra.flat hf)
  · rw [if_neg hf] at e
    cases e
def fltO (o : Option (List D)) : Option (List D) := o.bind fun ds => if ds.all flatD = true then some ds else none
@[simp] theorem mBorO_e {m : DS → Option (List D)} {δ : DS} : mBorO m δ = fltO (m (thaw δ)) := rfl
theorem fltO_of {ds : List D} (h : ds.all flatD = true) : fltO (some ds) = some ds := by
  show (if ds.all flatD = true then some ds else none) = _
  rw [if_pos h]
/-- list + list as data -/
def dCatV (a b : D) : Option D := (dCat a b).map PyData.list
theorem od_catV : OpD K (rCatS K) dCatV := fun F H x y d e z s r1 r2 hg Q q => by
  obtain ⟨zs, hg2, rfl⟩ := Option.map_eq_some_iff.mp hg
  refine od_cat F H x y d e zs s r1 r2 hg2 Q fun F' H' p ws mv hp hn hq ra => ?_
  exact q _ H' _ (mv.freeze hp hq hn) (.lst (.inl (.inl upd_same)) (ra.mono (same_updF hn)))
def toTru : Option D → Option Bool := fun o => o.bind truD
@[simp] theorem mTru_e {m : DS → Option D} {δ : DS} : mTru m δ = toTru (m δ) := rfl
@[simp] theorem toTru_none : toTru (some .none) = some false := rfl
@[simp] theorem toTru_bool {b : Bool} : toTru (some (.bool b)) = some b := rfl
@[simp] theorem toTru_int {i : Int} : toTru (some (.int i)) = some (i != 0) := rfl
@[simp] theorem toTru_nil : toTru (some (.list [])) = some false := rfl
@[simp] theorem toTru_cons {d : D} {ds : List D} : toTru (some (.list (d :: ds))) = some true := rfl
@[simp] theorem mOrD_e {a b : DS → Option D} {δ : DS} : mOrD a b δ = (a δ).bind fun d => (truD d).bind fun k => if k = true then some d else b δ := rfl
@[simp] theorem mAndD_e {a b : DS → Option D} {δ : DS} : mAndD a b δ = (a δ).bind fun d => (truD d).bind fun k => if k = true then b δ else some d := rfl
@[simp] theorem mNotD_e {a : DS → Option D} {δ : DS} : mNotD a δ = (toTru (a δ)).map fun k => .bool (!k) := rfl
@[simp] theorem truD_none : truD .none = some false := rfl
@[simp] theorem truD_bool {b : Bool} : truD (.bool b) = some b := rfl
@[simp] theorem truD_int {i : Int} : truD (.int i) = some (i != 0) := rfl
end Dl
namespace Dl
open PySem PySem.Spec PyProof.Rows L2
variable {K : PySem.W.Frag}
theorem units65 {k : Nat} {A : Around} (r : Room k A) : A.units + 65 < cLine := by
  have := r.un
  omega
/-! x in l, with things of any depth -/
def dInD : D → D → Option D
  | d, .list ds => if (SeqAt.shaped d && SeqAt.shaped (.list ds)) = true then some (.bool (ds.any fun z => PyData.eqv z d)) else none
  | _, _ => none
theorem od_inD : OpD K (rInD K) dInD := fun F H x y d e z s r1 r2 hg Q q => by
  unfold dInD at hg
  split at hg
  · rename_i ds
    by_cases h : (SeqAt.shaped d && SeqAt.shaped (.list ds)) = true
    · rw [if_pos h] at hg
      cases hg
      rw [Bool.and_eq_true] at h
      exact ⟨d, ds, (r1.mono s).dp (nd_shaped h.1), (r2.mono s).dp (nd_shaped h.2), h.1, h.2, q F H _ (.rfl' s) (.bl _)⟩
    · rw [if_neg h] at hg
      cases hg
  · cases hg
/-- bool(xs) -/
def dBoolL : List D → Option D
  | [.list ds] => some (.bool (!ds.isEmpty))
  | _ => none
theorem cd_boolL : CallD K (fun xs H Q => ∃ (a : Addr) (zs : List V), xs = [.ref a] ∧ SqL K H a zs ∧ Q (.bl (!zs.isEmpty)) H) dBoolL := .one fun F H vs ds z s ra hg => by
  unfold dBoolL at hg
  split at hg
  · cases hg
    cases ra with
    | cons r1 r2 =>
      cases r2
      cases r1 with
      | @lst a ws _ rd ra =>
        exact ⟨_, fun G => .bl _, fun Q q => ⟨a, ws, rfl, sqS s rd, by rw [ra.emp]; exact q⟩⟩
  · cases hg
@[simp] theorem dBoolL_e {ds : List D} : dBoolL [.list ds] = some (.bool (!ds.isEmpty)) := rfl
end Dl
namespace Dl
open PySem PySem.Spec PyProof.Rows L2
variable {K : PySem.W.Frag}
/-! xs[::-1]; targets of four, and one in the other -/
def mRev (m : DS → Option D) : DS → Option (List D) := fun δ => match m δ with
  | some (.list ds) => some ds.reverse
  | _ => none
theorem RpA.rev {F : Hp} : ∀ {vs : List V} {ds : List D}, RpA K F vs ds → RpA K F vs.reverse ds.reverse
  | _, _, .nil => .nil
  | _, _, .cons h r => by
    rw [List.reverse_cons, List.reverse_cons]
    exact (RpA.rev r).app (.one h)
theorem eo_rev {t : TE} {m : DS → Option D} (h : Ev K t m) : EvO K (tRevL K t) (mRev m) := fun F H σ δ r ds e Q q => by
  unfold mRev at e
  split at e
  · rename_i es hm
    cases e
    refine h F H σ δ r _ hm _ fun F1 H1 v m1 rp => ?_
    cases rp with
    | @lst a vs _ rd ra =>
      refine ⟨a, vs, rfl, sqS m1.fh rd, fun p hp => ?_⟩
      exact q F1 _ p _ (m1.trans (Mv.newO m1.fh hp)) (m1.h.free hp) (m1.fh.free hp) upd_same ra.rev
  · cases e
@[simp] theorem mRev_e {m : DS → Option D} {δ : DS} {ds : List D} (h : m δ = some (.list ds)) : mRev m δ = some ds.reverse := by
  unfold mRev
  rw [h]
def gmQuad (i j k l : Nat) : D → DS → Option DS := fun d δ => match d with
  | .tuple [a, b, c, e] => some ((((δ.set i (some (.val a))).set j (some (.val b))).set k (some (.val c))).set l (some (.val e)))
  | _ => none
theorem eg_quad {i j k l : Nat} : EvG K (gTup K 4 (gCons (gName i) (gCons (gName j) (gCons (gName k) (gCons (gName l) gNil))))) [i, j, k, l] (gmQuad i j k l) := fun F H σ δ x d δ' rp s e Q q => by
  unfold gmQuad at e
  split at e
  · rename_i a b c d
    cases e
    cases rp with
    | @tup p vs _ rd ra =>
      cases ra with
      | cons r1 ra =>
        cases ra with
        | cons r2 ra =>
          cases ra with
          | cons r3 ra =>
            cases ra with
            | cons r4 ra =>
              cases ra
              refine ⟨p, _, rfl, (tqS s rd), rfl, _, _, rfl, _, _, rfl, _, _, rfl, _, _, rfl, rfl, ?_⟩
              refine q _ (fun F0 H0 r => (((r.setV r1).setV r2).setV r3).setV r4) (fun r => (((r.setV r1).setV r2).setV r3).setV r4) (fun vs hv => ?_)
              rw [wipe_set (hv l (by simp)), wipe_set (hv k (by simp)), wipe_set (hv j (by simp)), wipe_set (hv i (by simp))]
  · cases e
def gmNest (i : Nat) (gm : D → DS → Option DS) : D → DS → Option DS := fun d δ => match d with
  | .tuple [a, b] => gm b (δ.set i (some (.val a)))
  | _ => none
theorem eg_nest {i : Nat} {g : TG} {js : List Nat} {gm : D → DS → Option DS} (hg : EvG K g js gm) : EvG K (gTup K 2 (gCons (gName i) (gCons g gNil))) (i :: js) (gmNest i gm) := fun F H σ δ x d δ' rp s e Q q => by
  unfold gmNest at e
  split at e
  · rename_i a b
    cases rp with
    | @tup p vs _ rd ra =>
      cases ra with
      | cons r1 ra =>
        cases ra with
        | cons r2 ra =>
          cases ra
          refine ⟨p, _, rfl, (tqS s rd), rfl, _, _, rfl, _, _, rfl, ?_⟩
          refine hg F H _ _ _ b δ' r2 s e _ fun σ2 h1 h2 h3 => ?_
          refine ⟨rfl, ?_⟩
          refine q σ2 (fun F0 H0 r => h1 F0 H0 (r.setV r1)) (fun r => h2 (r.setV r1)) (fun vs hv => ?_)
          rw [h3 vs (fun j hj => hv j (List.mem_cons_of_mem _ hj)), wipe_set (hv i List.mem_cons_self)]
  · cases e
theorem units1 {k : Nat} {A : Around} (r : Room k A) : A.units + 1 < cLine := by
  have := r.un
  omega
/-! {k: True for ..}: a dict as a set of whole numbers -/
def kvT (k : Int) : Key × V := (Sum.inl k, V.bl true)
def prT (k : Int) : PyData × PyData := (PyData.int k, PyData.bool true)
def putI (ks : List Int) (k : Int) : List Int := if k ∈ ks then ks else ks ++ [k]
def setI (ks : List Int) : List Int := ks.foldl putI []
theorem putI_len (ks : List Int) (k : Int) : (putI ks k).length ≤ ks.length + 1 := by
  unfold putI
  split
  · omega
  · rw [List.length_append]; exact Nat.le_refl _
theorem putI_mem (ks : List Int) (k j : Int) : j ∈ putI ks k ↔ j ∈ ks ∨ j = k := by
  unfold putI
  split
  · rename_i h
    constructor
    · exact .inl
    · rintro (h2 | rfl)
      · exact h2
      · exact h
  · rw [List.mem_append, List.mem_singleton]
theorem foldI_mem (j : Int) : ∀ (ks a : List Int), j ∈ ks.foldl putI a ↔ j ∈ a ∨ j ∈ ks
  | [], a => by simp
  | k :: r, a => by
    show j ∈ r.foldl putI (putI a k) ↔ _
    rw [foldI_mem j r, putI_mem, List.mem_cons]
    exact ⟨fun h => h.elim (fun h => h.elim .inl fun h => .inr (.inl h)) fun h => .inr (.inr h), fun h => h.elim (fun h => .inl (.inl h)) fun h => h.elim (fun h => .inl (.inr h)) .inr⟩
theorem setI_mem (j : Int) (ks : List Int) : j ∈ setI ks ↔ j ∈ ks := by
  unfold setI
  rw [foldI_mem]
  simp
theorem any_kvT (ks : List Int) (k : Int) : ((ks.map kvT).any fun kv => decide (kv.1 = Sum.inl k)) = decide (k ∈ ks) := by
  induction ks with
  | nil => rfl
  | cons a r ih =>
    rw [List.map_cons, List.any_cons, ih]
    by_cases h : a = k
    · subst h; simp [kvT]
    · have h' : ¬ (kvT a).1 = Sum.inl k := fun z => h (Sum.inl.inj z)
      have h2 : ¬ k = a := fun z => h z.symm
      simp [h', h2]
theorem putK_kvT (ks : List Int) (k : Int) : putK (ks.map kvT) (Sum.inl k) (V.bl true) = (putI ks k).map kvT := by
  unfold putK putI
  rw [any_kvT]
  by_cases h : k ∈ ks
  · rw [if_pos (decide_eq_true h), if_pos h, List.map_map]
    apply List.map_congr_left
    intro a _
    show (if (kvT a).1 = Sum.inl k then ((kvT a).1, V.bl true) else kvT a) = kvT a
    split <;> rfl
  · rw [if_neg (by simpa using h), if_neg h, List.map_append]
    rfl
def mDs (mi : DS → Option (List D)) (gm : D → DS → Option DS) (mt : DS → Option Bool) (mk : DS → Option D) (vs : List Nat) : DS → Option D :=
  fun δ => (mi δ).bind fun ds => if ds.length ≤ cap then (colO (mLcF gm mt mk (wipeD δ vs)) ds).bind fun es => (asIs es).map fun ks => .dict ((setI ks).map prT) else none
theorem ev_dset {wi : TI} {g : TG} {tt : TT} {tk : TE} {mi : DS → Option (List D)} {gm : D → DS → Option DS} {mt : DS → Option Bool} {mk : DS → Option D} {js vs : List Nat} (hi : EvI K wi mi) (hg : EvG K g js gm) (ht : EvT K tt mt) (he : Ev K tk mk)
    (hj : ∀ j ∈ js, j ∈ vs := by decide) : Ev K (tDc wi g tt tk (tC (.bl true)) vs) (mDs mi gm mt mk vs) := fun F H σ δ r d e Q q => by
  obtain ⟨xs, hm, e⟩ := Option.bind_eq_some_iff.mp e
  by_cases hc : xs.length ≤ cap
  case neg => rw [if_neg hc] at e; cases e
  rw [if_pos hc] at e
  obtain ⟨es, e0, e2⟩ := Option.bind_eq_some_iff.mp e
  obtain ⟨ks, e3, e4⟩ := Option.map_eq_some_iff.mp e2
  subst e4
  have e5 := asIs_some e3
  subst e5
  clear e e2 e3
  refine hi F H σ δ r xs hm _ fun J F1 H1 mv wk => ?_
  intro Dd hD
  have r1 := r.mv mv
  have nF1 : F1 Dd = none := mv.fh.free hD
  refine ⟨fun i m H' => m = xs.length - i ∧ i ≤ xs.length ∧ ∃ (F' : Hp) (acc rest : List Int), Mv F1 H1 F' H' ∧ F' Dd = none ∧ H' Dd = some (.dK (acc.map kvT)) ∧ acc.length ≤ i ∧ colO (mLcF gm mt mk (wipeD δ vs)) (xs.drop i) = some (rest.map PyData.int) ∧ setI ks = rest.foldl putI acc,
    ⟨xs.length, by omega, Nat.zero_le _, F1, [], ks, Mv.newO mv.fh hD, nF1, upd_same, Nat.le_refl _, e0, rfl⟩, ?_⟩
  rintro i m H' ⟨rfl, hle, F', acc, rest, mv', nF, hq, hes, e', ek⟩
  obtain ⟨w1, w2⟩ := wk i F' H' mv'.f mv'.fh
  by_cases hlt : i < xs.length
  · have hd : xs.drop i = xs[i] :: xs.drop (i + 1) := List.drop_eq_getElem_cons hlt
    rw [hd] at e'
    unfold colO at e'
    obtain ⟨a, ha, e'⟩ := Option.bind_eq_some_iff.mp e'
    obtain ⟨rest', hr, e'⟩ := Option.bind_eq_some_iff.mp e'
    unfold mLcF at ha
    obtain ⟨δ1, hg1, ha⟩ := Option.bind_eq_some_iff.mp ha
    obtain ⟨b, hb, ha⟩ := Option.bind_eq_some_iff.mp ha
    obtain ⟨hgo, hyl⟩ := w1 _ (List.getElem?_eq_getElem hlt)
    refine .inr ⟨hgo, fun H2 => ∃ (F2 : Hp) (acc rest : List Int), Mv F1 H1 F2 H2 ∧ F2 Dd = none ∧ H2 Dd = some (.dK (acc.map kvT)) ∧ acc.length ≤ i + 1 ∧ rest' = rest.map PyData.int ∧ setI ks = rest.foldl putI acc, fun H2 hN => ?_, fun x H2 hy => ?_⟩
    · obtain ⟨F2, acc2, rest2, a1, a2, a3, a4, a5, a6⟩ := hN
      exact ⟨xs.length - (i + 1), by omega, rfl, hlt, F2, acc2, rest2, a1, a2, a3, a4, by rw [hr, a5], a6⟩
    · obtain ⟨F2, mv2, rx⟩ := hyl x H2 hy
      have nF2 : F2 Dd = none := mv2.sep Dd (by rw [hq]; exact fun z => nomatch z) nF
      have hq2 := mv2.h _ _ hq
      have mv3 := mv'.trans mv2
      have rw1 : Rel K F2 H2 (L2.wipe σ vs) (wipeD δ vs) := ((r1.mv mv3)).wipe vs
      refine hg F2 H2 _ _ x _ δ1 rx mv2.fh hg1 _ fun σ3 h1 h2 h4 => ?_
      have r3 := h2 rw1
      refine ⟨(h4 vs hj).trans (wipe_wipe σ vs vs fun _ h => h), ?_⟩
      refine ht F2 H2 σ3 δ1 r3 b hb _ fun H3 s3 => ?_
      have hq3 := s3 _ _ hq2
      cases b with
      | false =>
        cases ha
        have e2 : rest' = rest.map PyData.int := Option.some.inj e'
        show ∃ (F2 : Hp) (acc rest : List Int), Mv F1 H1 F2 H3 ∧ F2 Dd = none ∧ H3 Dd = some (.dK (acc.map kvT)) ∧ acc.length ≤ i + 1 ∧ rest' = rest.map PyData.int ∧ setI ks = rest.foldl putI acc
        exact ⟨F2, acc, rest, mv3.trans (.grow mv2.fh s3), nF2, hq3, by omega, e2, ek⟩
      | true =>
        obtain ⟨y, hy2, rfl⟩ := Option.map_eq_some_iff.mp ha
        have e2 : y :: rest' = rest.map PyData.int := Option.some.inj e'
        cases rest with
        | nil => cases e2
        | cons k kr =>
          rw [List.map_cons] at e2
          obtain ⟨rfl, e3⟩ := List.cons.inj e2
          have mg : Mv F2 H2 F2 H3 := .grow mv2.fh s3
          show tk σ3 H3 fun y H4 => tC (V.bl true) σ3 H4 fun z H5 => ∃ kvs k, y = kV k ∧ H5 Dd = some (.dK kvs) ∧ kvs.length < sizeLine ∧ _
          refine he F2 H3 σ3 δ1 (r3.mv mg) _ hy2 _ fun F4 H4 v mv4 ry => ?_
          have nF4 : F4 Dd = none := mv4.sep Dd (by rw [hq3]; exact fun z => nomatch z) nF2
          have hq4 := mv4.h _ _ hq3
          cases ry
          refine ⟨acc.map kvT, Sum.inl k, rfl, hq4, by rw [List.length_map]; exact cap_lt (by omega), F4, putI acc k, kr, ?_, nF4, ?_, ?_, e3, ek⟩
          · have mv5 := (mv3.trans mg).trans mv4
            refine ⟨mv5.f, fun z o hz => ?_, fun z o hz => ?_, mv5.sep⟩
            · rw [upd_ne (ne_of_none hz hD)]
              exact mv5.h _ _ hz
            · rw [upd_ne (ne_of_none hz nF4)]
              exact mv5.fh _ _ hz
          · rw [upd_same, putK_kvT]
          · have := putI_len acc k
            omega
  · have hz : xs.drop i = [] := List.drop_eq_nil_of_le (by omega)
    rw [hz] at e'
    have hr : rest = [] := by
      cases rest with
      | nil => rfl
      | cons _ _ => cases e'
    subst hr
    refine .inl ⟨w2 (by omega), ?_⟩
    have ek : setI ks = acc := ek
    rw [ek] at q
    exact q _ H' _ ((mv.trans mv').freeze (mv.h.free hD) hq nF) (.dic upd_same)
/-- k in d -/
def dInK : D → D → Option D
  | .int k, .dict kvs => some (.bool (kvs.any fun p => match p.1 with
    | .int j => decide (j = k)
    | _ => false))
  | _, _ => none
def dNInK (a b : D) : Option D := (dInK a b).bind fun d => match d with
  | .bool b => some (.bool (!b))
  | _ => none
theorem dInK_set (k : Int) (ks : List Int) : dInK (.int k) (.dict (ks.map prT)) = some (.bool (decide (k ∈ ks))) := by
  show some (PyData.bool ((ks.map prT).any _)) = _
  congr 2
  induction ks with
  | nil => rfl
  | cons a r ih =>
    rw [List.map_cons, List.any_cons, ih]
    show (decide (a = k) || decide (k ∈ r)) = _
    by_cases h : a = k
    · subst h; simp
    · have h2 : ¬ k = a := fun z => h z.symm
      simp [h, h2]
theorem get_kvT {H : Hp} {a : Addr} {ks : List Int} (h : H a = some (.dK (ks.map kvT))) (k : Int) : ∃ o, DGet H a (.int k) o ∧ o.isSome = decide (k ∈ ks) :=
  ⟨_, DGet.k (k := Sum.inl k) h, by rw [← valV_any, any_kvT]⟩
/-! {k: n for ..}: whole numbers to whole numbers -/
def kvI (p : Int × Int) : Key × V := (Sum.inl p.1, V.int p.2)
def prI (p : Int × Int) : PyData × PyData := (PyData.int p.1, PyData.int p.2)
theorem any_kvI (ks : List (Int × Int)) (k : Int) : ((ks.map kvI).any fun kv => decide (kv.1 = Sum.inl k)) = ks.any fun p => decide (p.1 = k) := by
  induction ks with
  | nil => rfl
  | cons a r ih =>
    rw [List.map_cons, List.any_cons, List.any_cons, ih]
    by_cases h : a.1 = k
    · subst h; simp [kvI]
    · have h' : ¬ (kvI a).1 = Sum.inl k := fun z => h (Sum.inl.inj z)
      simp [h', h]
theorem dInK_ii (k : Int) (ks : List (Int × Int)) : dInK (.int k) (.dict (ks.map prI)) = some (.bool (ks.any fun p => decide (p.1 = k))) := by
  show some (PyData.bool ((ks.map prI).any _)) = _
  congr 2
  induction ks with
  | nil => rfl
  | cons a r ih =>
    rw [List.map_cons, List.any_cons, List.any_cons, ih]
    rfl
theorem get_kvI {H : Hp} {a : Addr} {ks : List (Int × Int)} (h : H a = some (.dK (ks.map kvI))) (k : Int) : ∃ o, DGet H a (.int k) o ∧ o.isSome = ks.any fun p => decide (p.1 = k) :=
  ⟨_, DGet.k (k := Sum.inl k) h, by rw [← valV_any, any_kvI]⟩
theorem ev_din {ty td : TE} {mk md : DS → Option D} (hk : Ev K ty mk) (hd : Ev K td md) : Ev K (tDIn ty td) (m2 dInK mk md) := fun F H σ δ r d e Q q => by
  obtain ⟨x, ex, e⟩ := Option.bind_eq_some_iff.mp e
  obtain ⟨y, ey, e⟩ := Option.bind_eq_some_iff.mp e
  refine hk F H σ δ r x ex _ fun F1 H1 v m1 r1 => ?_
  refine hd F1 H1 σ δ (r.mv m1) y ey _ fun F2 H2 w m2 r2 => ?_
  unfold dInK at e
  split at e
  · rename_i k kvs _
    obtain rfl : v = V.int k := by cases r1; rfl
    cases r2 with
    | @dic a ks hF =>
      obtain ⟨o, g, ho⟩ := get_kvT (m2.fh _ _ hF) k
      refine ⟨a, o, rfl, g, ?_⟩
      rw [ho]
      have e' : dInK (.int k) (.dict (ks.map prT)) = some d := e
      rw [dInK_set] at e'
      cases e'
      exact q F2 H2 _ (m1.trans m2) (.bl _)
    | @dii a ks hF =>
      obtain ⟨o, g, ho⟩ := get_kvI (m2.fh _ _ hF) k
      refine ⟨a, o, rfl, g, ?_⟩
      rw [ho]
      have e' : dInK (.int k) (.dict (ks.map prI)) = some d := e
      rw [dInK_ii] at e'
      cases e'
      exact q F2 H2 _ (m1.trans m2) (.bl _)
  · cases e
theorem ev_dnin {ty td : TE} {mk md : DS → Option D} (hk : Ev K ty mk) (hd : Ev K td md) : Ev K (tDNotIn ty td) (m2 dNInK mk md) := fun F H σ δ r d e Q q => by
  obtain ⟨x, ex, e⟩ := Option.bind_eq_some_iff.mp e
  obtain ⟨y, ey, e⟩ := Option.bind_eq_some_iff.mp e
  refine hk F H σ δ r x ex _ fun F1 H1 v m1 r1 => ?_
  refine hd F1 H1 σ δ (r.mv m1) y ey _ fun F2 H2 w m2 r2 => ?_
  unfold dNInK at e
  obtain ⟨b0, e0, e⟩ := Option.bind_eq_some_iff.mp e
  unfold dInK at e0
  split at e0
  · rename_i k kvs _
    obtain rfl : v = V.int k := by cases r1; rfl
    cases r2 with
    | @dic a ks hF =>
      obtain ⟨o, g, ho⟩ := get_kvT (m2.fh _ _ hF) k
      refine ⟨a, o, rfl, g, ?_⟩
      rw [ho]
      have e' : dInK (.int k) (.dict (ks.map prT)) = some b0 := e0
      rw [dInK_set] at e'
      cases e'
      cases e
      exact q F2 H2 _ (m1.trans m2) (.bl _)
    | @dii a ks hF =>
      obtain ⟨o, g, ho⟩ := get_kvI (m2.fh _ _ hF) k
      refine ⟨a, o, rfl, g, ?_⟩
      rw [ho]
      have e' : dInK (.int k) (.dict (ks.map prI)) = some b0 := e0
      rw [dInK_ii] at e'
      cases e'
      cases e
      exact q F2 H2 _ (m1.trans m2) (.bl _)
  · cases e0
/-- d[k] -/
def dGetK : List (PyData × PyData) → Int → Option D
  | [], _ => none
  | (.int j, d) :: r, k => if j = k then some d else dGetK r k
  | _ :: r, k => dGetK r k
def dIxK : D → D → Option D
  | .dict kvs, .int k => dGetK kvs k
  | _, _ => none
def lkI : List (Int × Int) → Int → Option Int
  | [], _ => none
  | p :: r, k => if p.1 = k then some p.2 else lkI r k
theorem dGetK_ii (k : Int) : ∀ ks : List (Int × Int), dGetK (ks.map prI) k = (lkI ks k).map PyData.int
  | [] => rfl
  | a :: r => by
    show (if a.1 = k then some (PyData.int a.2) else dGetK (r.map prI) k) = (if a.1 = k then some a.2 else lkI r k).map PyData.int
    by_cases h : a.1 = k
    · rw [if_pos h, if_pos h]; rfl
    · rw [if_neg h, if_neg h]; exact dGetK_ii k r
theorem valV_kvI (k : Int) : ∀ ks : List (Int × Int), valV (ks.map kvI) (Sum.inl k) = (lkI ks k).map V.int
  | [] => rfl
  | a :: r => by
    show valV (kvI a :: r.map kvI) _ = (if a.1 = k then some a.2 else lkI r k).map V.int
    by_cases h : a.1 = k
    · rw [if_pos h, valV_pos (p := kvI a) (congrArg Sum.inl h)]; rfl
    · rw [if_neg h, valV_neg (p := kvI a) (fun z => h (Sum.inl.inj z))]; exact valV_kvI k r
theorem dGetK_dd (k : Int) {d : D} : ∀ ks : List Int, dGetK (ks.map prT) k = some d → d = .bool true ∧ valV (ks.map kvT) (Sum.inl k) = some (V.bl true)
  | [], h => by cases h
  | a :: r, z => by
    have z' : (if a = k then some (PyData.bool true) else dGetK (r.map prT) k) = some d := z
    show _ ∧ valV (kvT a :: r.map kvT) _ = _
    by_cases h : a = k
    · rw [if_pos h] at z'
      exact ⟨(Option.some.inj z').symm, valV_pos (p := kvT a) (congrArg Sum.inl h)⟩
    · rw [if_neg h] at z'
      obtain ⟨i1, i2⟩ := dGetK_dd k r z'
      exact ⟨i1, by rw [valV_neg (p := kvT a) (fun z => h (Sum.inl.inj z))]; exact i2⟩
theorem ev_dget {td ty : TE} {md mk : DS → Option D} (hd : Ev K td md) (hk : Ev K ty mk) : Ev K (tDGet td ty) (m2 dIxK md mk) := fun F H σ δ r d e Q q => by
  obtain ⟨x, ex, e⟩ := Option.bind_eq_some_iff.mp e
  obtain ⟨y, ey, e⟩ := Option.bind_eq_some_iff.mp e
  refine hd F H σ δ r x ex _ fun F1 H1 v m1 r1 => ?_
  refine hk F1 H1 σ δ (r.mv m1) y ey _ fun F2 H2 w m2 r2 => ?_
  cases x with
  | dict kvs =>
    cases y with
    | int k =>
      obtain rfl : w = V.int k := by cases r2; rfl
      have e' : dGetK kvs k = some d := e
      cases r1 with
      | @dic a ks hF =>
        have h2 := m2.fh _ _ (m2.f _ _ hF)
        obtain ⟨rfl, hv⟩ := dGetK_dd k ks e'
        refine ⟨a, .bl true, rfl, ?_, q F2 H2 _ (m1.trans m2) (.bl _)⟩
        rw [← hv]
        exact DGet.k (k := Sum.inl k) h2
      | @dii a ks hF =>
        have h2 := m2.fh _ _ (m2.f _ _ hF)
        have e2 := dGetK_ii k ks
        have e3 : dGetK (ks.map prI) k = some d := e'
        rw [e2] at e3
        obtain ⟨n, hn, rfl⟩ := Option.map_eq_some_iff.mp e3
        refine ⟨a, .int n, rfl, ?_, q F2 H2 _ (m1.trans m2) (.int _)⟩
        have hv := valV_kvI k ks
        rw [hn] at hv
        have hv' : valV (ks.map kvI) (Sum.inl k) = some (V.int n) := hv
        rw [← hv']
        exact DGet.k (k := Sum.inl k) h2
    | _ => cases e
  | _ => cases e
/-- {k: n for ..} -/
def putP (ks : List (Int × Int)) (p : Int × Int) : List (Int × Int) := if (ks.any fun q => decide (q.1 = p.1)) = true then ks.map fun q => if q.1 = p.1 then (q.1, p.2) else q else ks ++ [p]
def setP (ks : List (Int × Int)) : List (Int × Int) := ks.foldl putP []
theorem putP_len (ks : List (Int × Int)) (p : Int × Int) : (putP ks p).length ≤ ks.length + 1 := by
  unfold putP
  split
  · rw [List.length_map]; omega
  · rw [List.length_append]; exact Nat.le_refl _
theorem putK_kvI (ks : List (Int × Int)) (p : Int × Int) : putK (ks.map kvI) (Sum.inl p.1) (V.int p.2) = (putP ks p).map kvI := by
  unfold putK putP
  rw [any_kvI]
  by_cases h : (ks.any fun q => decide (q.1 = p.1)) = true
  · rw [if_pos h, if_pos h, List.map_map, List.map_map]
    apply List.map_congr_left
    intro a _
    show (if (kvI a).1 = Sum.inl p.1 then ((kvI a).1, V.int p.2) else kvI a) = kvI (if a.1 = p.1 then (a.1, p.2) else a)
    by_cases h2 : a.1 = p.1
    · have h3 : (kvI a).1 = Sum.inl p.1 := congrArg Sum.inl h2
      rw [if_pos h3, if_pos h2]; rfl
    · have h3 : ¬ (kvI a).1 = Sum.inl p.1 := fun z => h2 (Sum.inl.inj z)
      rw [if_neg h3, if_neg h2]
  · rw [if_neg h, if_neg h, List.map_append]
    rfl
theorem setP_nodup (ks : List (Int × Int)) (h : (ks.map (·.1)).Nodup) : setP ks = ks := by
  have : ∀ (ks acc : List (Int × Int)), ((acc ++ ks).map (·.1)).Nodup → ks.foldl putP acc = acc ++ ks := fun ks => by
    induction ks with
    | nil => intro acc _; rw [List.append_nil]; rfl
    | cons p r ih =>
      intro acc hn
      rw [List.foldl_cons]
      have hp : putP acc p = acc ++ [p] := by
        unfold putP
        rw [if_neg]
        intro z
        rw [List.any_eq_true] at z
        obtain ⟨q, hq, e⟩ := z
        have e := of_decide_eq_true e
        rw [List.map_append, List.nodup_append] at hn
        exact hn.2.2 q.1 (List.mem_map.mpr ⟨q, hq, rfl⟩) p.1 (List.mem_map.mpr ⟨p, List.mem_cons_self, rfl⟩) e
      rw [hp, ih (acc ++ [p]) (by rw [List.append_assoc]; exact hn), List.append_assoc]
      rfl
  exact this ks [] h
def mKV (mk mv : DS → Option D) : DS → Option D := fun δ => (mk δ).bind fun k => (mv δ).bind fun v => some (.tuple [k, v])
def asPs : List D → Option (List (Int × Int))
  | [] => some []
  | .tuple [.int k, .int n] :: r => (asPs r).map ((k, n) :: ·)
  | _ :: _ => none
def encP (p : Int × Int) : D := .tuple [.int p.1, .int p.2]
theorem asPs_some : ∀ {ds : List D} {ks : List (Int × Int)}, asPs ds = some ks → ds = ks.map encP
  | [], _, h => by cases h; rfl
  | d :: r, ks, h => by
    unfold asPs at h
    split at h
    · cases ‹_ = []›
    · rename_i k n r' e
      obtain ⟨ks', h1, rfl⟩ := Option.map_eq_some_iff.mp h
      cases e
      rw [asPs_some h1]
      rfl
    · cases h
theorem asPs_map : ∀ ks : List (Int × Int), asPs (ks.map encP) = some ks
  | [] => rfl
  | p :: r => by
    show (asPs (r.map encP)).map _ = _
    rw [asPs_map r]
    rfl
def mDm (mi : DS → Option (List D)) (gm : D → DS → Option DS) (mt : DS → Option Bool) (mk mv : DS → Option D) (vs : List Nat) : DS → Option D :=
  fun δ => (mi δ).bind fun ds => if ds.length ≤ cap then (colO (mLcF gm mt (mKV mk mv) (wipeD δ vs)) ds).bind fun es => (asPs es).map fun ks => .dict ((setP ks).map prI) else none
theorem ev_dmap {wi : TI} {g : TG} {tt : TT} {tk tv : TE} {mi : DS → Option (List D)} {gm : D → DS → Option DS} {mt : DS → Option Bool} {mk mv : DS → Option D} {js vs : List Nat} (hi : EvI K wi mi) (hg : EvG K g js gm) (ht : EvT K tt mt) (he : Ev K tk mk) (hv : Ev K tv mv)
    (hj : ∀ j ∈ js, j ∈ vs := by decide) : Ev K (tDc wi g tt tk tv vs) (mDm mi gm mt mk mv vs) := fun F H σ δ r d e Q q => by
  obtain ⟨xs, hm, e⟩ := Option.bind_eq_some_iff.mp e
  by_cases hc : xs.length ≤ cap
  case neg => rw [if_neg hc] at e; cases e
  rw [if_pos hc] at e
  obtain ⟨es, e0, e2⟩ := Option.bind_eq_some_iff.mp e
  obtain ⟨ks, e3, e4⟩ := Option.map_eq_some_iff.mp e2
  subst e4
  have e5 := asPs_some e3
  subst e5
  clear e e2 e3
  refine hi F H σ δ r xs hm _ fun J F1 H1 mv0 wk => ?_
  intro Dd hD
  have r1 := r.mv mv0
  have nF1 : F1 Dd = none := mv0.fh.free hD
  refine ⟨fun i m H' => m = xs.length - i ∧ i ≤ xs.length ∧ ∃ (F' : Hp) (acc rest : List (Int × Int)), Mv F1 H1 F' H' ∧ F' Dd = none ∧ H' Dd = some (.dK (acc.map kvI)) ∧ acc.length ≤ i ∧ colO (mLcF gm mt (mKV mk mv) (wipeD δ vs)) (xs.drop i) = some (rest.map encP) ∧ setP ks = rest.foldl putP acc,
    ⟨xs.length, by omega, Nat.zero_le _, F1, [], ks, Mv.newO mv0.fh hD, nF1, upd_same, Nat.le_refl _, e0, rfl⟩, ?_⟩
  rintro i m H' ⟨rfl, hle, F', acc, rest, mv', nF, hq, hes, e', ek⟩
  obtain ⟨w1, w2⟩ := wk i F' H' mv'.f mv'.fh
  by_cases hlt : i < xs.length
  · have hd : xs.drop i = xs[i] :: xs.drop (i + 1) := List.drop_eq_getElem_cons hlt
    rw [hd] at e'
    unfold colO at e'
    obtain ⟨a, ha, e'⟩ := Option.bind_eq_some_iff.mp e'
    obtain ⟨rest', hr, e'⟩ := Option.bind_eq_some_iff.mp e'
    unfold mLcF at ha
    obtain ⟨δ1, hg1, ha⟩ := Option.bind_eq_some_iff.mp ha
    obtain ⟨b, hb, ha⟩ := Option.bind_eq_some_iff.mp ha
    obtain ⟨hgo, hyl⟩ := w1 _ (List.getElem?_eq_getElem hlt)
    refine .inr ⟨hgo, fun H2 => ∃ (F2 : Hp) (acc rest : List (Int × Int)), Mv F1 H1 F2 H2 ∧ F2 Dd = none ∧ H2 Dd = some (.dK (acc.map kvI)) ∧ acc.length ≤ i + 1 ∧ rest' = rest.map encP ∧ setP ks = rest.foldl putP acc, fun H2 hN => ?_, fun x H2 hy => ?_⟩
    · obtain ⟨F2, acc2, rest2, a1, a2, a3, a4, a5, a6⟩ := hN
      exact ⟨xs.length - (i + 1), by omega, rfl, hlt, F2, acc2, rest2, a1, a2, a3, a4, by rw [hr, a5], a6⟩
    · obtain ⟨F2, mv2, rx⟩ := hyl x H2 hy
      have nF2 : F2 Dd = none := mv2.sep Dd (by rw [hq]; exact fun z => nomatch z) nF
      have hq2 := mv2.h _ _ hq
      have mv3 := mv'.trans mv2
      have rw1 : Rel K F2 H2 (L2.wipe σ vs) (wipeD δ vs) := ((r1.mv mv3)).wipe vs
      refine hg F2 H2 _ _ x _ δ1 rx mv2.fh hg1 _ fun σ3 h1 h2 h4 => ?_
      have r3 := h2 rw1
      refine ⟨(h4 vs hj).trans (wipe_wipe σ vs vs fun _ h => h), ?_⟩
      refine ht F2 H2 σ3 δ1 r3 b hb _ fun H3 s3 => ?_
      have hq3 := s3 _ _ hq2
      cases b with
      | false =>
        cases ha
        have e2 : rest' = rest.map encP := Option.some.inj e'
        show ∃ (F2 : Hp) (acc rest : List (Int × Int)), Mv F1 H1 F2 H3 ∧ F2 Dd = none ∧ H3 Dd = some (.dK (acc.map kvI)) ∧ acc.length ≤ i + 1 ∧ rest' = rest.map encP ∧ setP ks = rest.foldl putP acc
        exact ⟨F2, acc, rest, mv3.trans (.grow mv2.fh s3), nF2, hq3, by omega, e2, ek⟩
      | true =>
        obtain ⟨y, hy2, rfl⟩ := Option.map_eq_some_iff.mp ha
        have e2 : y :: rest' = rest.map encP := Option.some.inj e'
        cases rest with
        | nil => cases e2
        | cons k kr =>
          rw [List.map_cons] at e2
          obtain ⟨rfl, e3⟩ := List.cons.inj e2
          obtain ⟨yk, hyk, hy3⟩ := Option.bind_eq_some_iff.mp hy2
          obtain ⟨yv, hyv, hy4⟩ := Option.bind_eq_some_iff.mp hy3
          have hy5 : PyData.tuple [yk, yv] = PyData.tuple [.int k.1, .int k.2] := Option.some.inj hy4
          obtain ⟨rfl, rfl⟩ : yk = .int k.1 ∧ yv = .int k.2 := by
            injection hy5 with hy5
            injection hy5 with z1 z2
            injection z2 with z2 z3
            exact ⟨z1, z2⟩
          have mg : Mv F2 H2 F2 H3 := .grow mv2.fh s3
          show tk σ3 H3 fun y H4 => tv σ3 H4 fun z H5 => ∃ kvs k, y = kV k ∧ H5 Dd = some (.dK kvs) ∧ kvs.length < sizeLine ∧ _
          refine he F2 H3 σ3 δ1 (r3.mv mg) _ hyk _ fun F4 H4 v mv4 ry => ?_
          have nF4 : F4 Dd = none := mv4.sep Dd (by rw [hq3]; exact fun z => nomatch z) nF2
          have hq4 := mv4.h _ _ hq3
          refine hv F4 H4 σ3 δ1 ((r3.mv mg).mv mv4) _ hyv _ fun F5 H5 w mv5 rz => ?_
          have nF5 : F5 Dd = none := mv5.sep Dd (by rw [hq4]; exact fun z => nomatch z) nF4
          have hq5 := mv5.h _ _ hq4
          obtain rfl : v = V.int k.1 := by cases ry; rfl
          obtain rfl : w = V.int k.2 := by cases rz; rfl
          refine ⟨acc.map kvI, Sum.inl k.1, rfl, hq5, by rw [List.length_map]; exact cap_lt (by omega), F5, putP acc k, kr, ?_, nF5, ?_, ?_, e3, ek⟩
          · have mv6 := ((mv3.trans mg).trans mv4).trans mv5
            refine ⟨mv6.f, fun z o hz => ?_, fun z o hz => ?_, mv6.sep⟩
            · rw [upd_ne (ne_of_none hz hD)]
              exact mv6.h _ _ hz
            · rw [upd_ne (ne_of_none hz nF5)]
              exact mv6.fh _ _ hz
          · rw [upd_same, putK_kvI]
          · have := putP_len acc k
            omega
  · have hz : xs.drop i = [] := List.drop_eq_nil_of_le (by omega)
    rw [hz] at e'
    have hr : rest = [] := by
      cases rest with
      | nil => rfl
      | cons _ _ => cases e'
    subst hr
    refine .inl ⟨w2 (by omega), ?_⟩
    have ek : setP ks = acc := ek
    rw [ek] at q
    exact q _ H' _ ((mv0.trans mv').freeze (mv0.h.free hD) hq nF) (.dii upd_same)
theorem mDm_of {mi : DS → Option (List D)} {gm : D → DS → Option DS} {mt : DS → Option Bool} {mk mv : DS → Option D} {vs : List Nat} {δ : DS} {ks : List (Int × Int)} (h : mLcI mi gm mt (mKV mk mv) vs δ = some (ks.map encP)) : mDm mi gm mt mk mv vs δ = some (.dict ((setP ks).map prI)) := by
  obtain ⟨ds, h1, h2⟩ := Option.bind_eq_some_iff.mp h
  unfold mDm
  rw [h1]
  show (if ds.length ≤ cap then _ else none) = _
  by_cases hc : ds.length ≤ cap
  · rw [if_pos hc] at h2 ⊢
    rw [h2]
    show (asPs (ks.map encP)).map _ = _
    rw [asPs_map]
    rfl
  · rw [if_neg hc] at h2
    cases h2
theorem mDs_of {mi : DS → Option (List D)} {gm : D → DS → Option DS} {mt : DS → Option Bool} {mk : DS → Option D} {vs : List Nat} {δ : DS} {ks : List Int} (h : mLcI mi gm mt mk vs δ = some (ks.map PyData.int)) : mDs mi gm mt mk vs δ = some (.dict ((setI ks).map prT)) := by
  obtain ⟨ds, h1, h2⟩ := Option.bind_eq_some_iff.mp h
  unfold mDs
  rw [h1]
  show (if ds.length ≤ cap then _ else none) = _
  by_cases hc : ds.length ≤ cap
  · rw [if_pos hc] at h2 ⊢
    rw [h2]
    show (asIs (ks.map PyData.int)).map _ = _
    rw [asIs_map]
    rfl
  · rw [if_neg hc] at h2
    cases h2
theorem dInK_setI (k : Int) (ks : List Int) : dInK (.int k) (.dict ((setI ks).map prT)) = some (.bool (decide (k ∈ ks))) := by
  rw [dInK_set]
  congr 2
  simp [setI_mem]
theorem dNInK_setI (k : Int) (ks : List Int) : dNInK (.int k) (.dict ((setI ks).map prT)) = some (.bool (!decide (k ∈ ks))) := by
  unfold dNInK
  rw [dInK_setI]
  rfl
/-! name = {k: n for ..}, the name a local -/
theorem sw_trueD {ek ev : Expr} {cs : List Comprehension} {sc : Scope} {p1 pn : Pos} {nm : Str} {ln : Nat} {en : Env} (hk : en.scope.kind = .function) (loc : en.scope.names.lookup nm = some .local) (hl : (pn.line == p1.line) = true)
    (hno : (sc.names.any fun (n, k) => n == nm && (k == .local || k == .cell)) = false) : swapsWith (.DictComp ek ev cs sc p1) (some (.Name nm pn)) ln en = pure true := by
  have e1 : en.kindOf nm = some .local := loc
  have e2 : en.blockKind = .function := by
    unfold Env.blockKind
    rw [hk]
    rfl
  unfold swapsWith
  simp only [e2, e1, hno, Expr.pos, hl]
  rfl
theorem ps_setDc {X : Cx} {i : Nat} {nm : Str} {pn : Pos} {ek ev ta it : Expr} {cs : List Expr} {sc : Scope} {ow : List (Str × Nat)} {p1 p2 : Pos} {wi : TI} {g : TG} {tt : TT} {tk tv : TE} (calm : X.calm = true) (nod : X.N.Nodup) (at_i : X.N[i]? = some nm)
    (loc : X.env.scope.names.lookup nm = some .local) (swp : swapsWith (.DictComp ek ev [⟨ta, it, cs, 0⟩] sc p1) (some (.Name nm pn)) p2.line X.env = pure true) (hit : PI X ta it wi) (bo : BlkOk X.N X.env.scope sc ow)
    (hg : ∀ (s1 : Shared) (H1 : Hp) (C1 : Addr) (cl1 : List (Str × Addr)) (fp1 : List Addr), PG (X.blk s1 H1 sc (compEnvC sc cl1 C1 X.env) fp1) ta g)
    (ht : ∀ (s1 : Shared) (H1 : Hp) (C1 : Addr) (cl1 : List (Str × Addr)) (fp1 : List Addr), PTs (X.blk s1 H1 sc (compEnvC sc cl1 C1 X.env) fp1) cs tt)
    (hk : ∀ (s1 : Shared) (H1 : Hp) (C1 : Addr) (cl1 : List (Str × Addr)) (fp1 : List Addr), PE (X.blk s1 H1 sc (compEnvC sc cl1 C1 X.env) fp1) ek tk)
    (he : ∀ (s1 : Shared) (H1 : Hp) (C1 : Addr) (cl1 : List (Str × Addr)) (fp1 : List Addr), PE (X.blk s1 H1 sc (compEnvC sc cl1 C1 X.env) fp1) ev tv)
    (hs : ∀ z, foldedSetIterable it X.env z = pure z := by intro _; rfl) : PS X (.Assign [.Name nm pn] (.DictComp ek ev [⟨ta, it, cs, 0⟩] sc p1) p2) (tAsg (tDc wi g tt tk tv (ow.map (·.2))) (gName i)) := by
  refine ⟨fun pp s0 σ0 G0 D0 I0 h0 => ?_⟩
  rw [exec_Assign_Name_used _ _ _ _ swp]
  refine wpAny_bind (wpAny_standAt (wpAny_bind ?_))
  have h1 : tDc wi g tt tk tv (ow.map (·.2)) σ0 G0 (fun z G1 => gName i z σ0 G1 D0.nx) := h0
  refine wpAny_bind (thn (dc_core (Qf := fun _ s9 => SP X pp D0 .next s9) calm nod I0 hit bo hg ht hk he hs h1 fun L C s9 m9 G9 I9 q9 n9 f9 => ?_) fun _ s9 z9 => wpAny_pure (wpAny_pure z9))
  show wpAny _ _ (assign (.Name nm pn) X.env (.ref L)) _ _ _
  refine wpAny_assign_Name (store_ok2 (v := V.ref L) I9 nod at_i (.inl loc) rfl (fun s2 I2 ⟨a, sb, ha⟩ => ?_) (.inr loc))
  obtain ⟨g0, g1, g2, g3, g4, g5⟩ := f9
  have apart : C ≠ a := by
    rcases ha with z | z
    · rw [z]
      exact g1
    · exact fun e => g4 nm a z e.symm
  exact ⟨m9, n9.sameBut sb apart, fun h3 sb3 => ⟨_, G9, I2.turned (t' := s2.toks) (fun b o hb e => (sb3.2 b hb).trans e) g0 g1 g3 g4 g5, q9⟩⟩
end Dl
namespace Law
open PySem PySem.Spec PyProof.Rows L2 Dl
def c__law_draws_1 : DS → Option D :=
    (mVar 8)
def b__law_draws_1 : DS → Option Out :=
    (nSeq (nAsg 5 (mC (.int 0)))
      (nSeq (nIf (mBorT (mB (m2 dGt (mCall (mCons (mVar 2) mNil) dLen) (mC (.int 0))))) (nSeq (nAsg 6 (mBor (m2 dMod (mCall (mCons (mVar 4) mNil) dInt) (mCall (mCons (mVar 2) mNil) dLen))))
      (nIf (mBorT (mB (m2 dGe (m2 dIx (mVar 2) (mVar 6)) (m2 dPow (mC (.int 10)) (mC (.int 18)))))) (nSeq (nAsg 5 (mBor (m2 dMod (mCall (mCons (m2 dIx (mVar 2) (mVar 6)) mNil) dInt) (mC (.int 1000)))))
      (nSetI 2 (mVar 6) (mBor (m2 dDiv (m2 dIx (mVar 2) (mVar 6)) (mC (.int 1000)))))) (nSeq (nAsg 7 (mBor (m2 dMod (mCall (mCons (m2 dAdd (m2 dAdd (m2 dMul (m2 dIx (mVar 2) (mVar 6)) (mC (.int 48271))) (m2 dMul (mVar 4) (mC (.int 69621)))) (mC (.int 11))) mNil) dInt) (mC (.int 2147483647)))))
      (nSeq (nAsg 7 (m2 dMod (mCall (mCons (m2 dAdd (m2 dMul (mVar 7) (mC (.int 16807))) (mVar 6)) mNil) dInt) (mC (.int 2147483629))))
      (nAsg 5 (m2 dMod (mCall (mCons (m2 dDiv (mVar 7) (mC (.int 7))) mNil) dInt) (mC (.int 1000)))))))) nNext)
      (nApp 3 (mVar 5))))
def m__law_draws : DS → Option Out :=
    (nSeq (nAsgO 2 (mLcI (mItems (mVar 0)) (gmName 8) mYes c__law_draws_1 [8]))
      (nSeq (nAsgO 3 mNil)
      (nSeq (nFor (mRng1 (mCons (mVar 1) mNil)) (gmName 4) b__law_draws_1)
      (nRetX 3))))
abbrev N__law_draws : List Str := ["script", "count", "rests", "draws", "k", "value", "at", "mixed", "cell"]
def f__law_draws : List D → Option DV := fnD N__law_draws.length (["script", "count"] : List Str).length m__law_draws
def c__law_arcs_1 : DS → Option D :=
    (mTup (mCons (m2 dMod (mCall (mCons (m2 dIx (mVar 0) (m2 dAdd (mC (.int 1)) (m2 dMul (mC (.int 2)) (mVar 2)))) mNil) dInt) (mVar 1)) (mCons (m2 dSub (m2 dMod (mCall (mCons (m2 dIx (mVar 0) (m2 dAdd (mC (.int 2)) (m2 dMul (mC (.int 2)) (mVar 2)))) mNil) dInt) (mC (.int 9))) (mC (.int 4))) mNil)))
def m__law_arcs : DS → Option Out :=
    (nRetO (mLcI (mRng1 (mCons (m2 dIx (mLst (mCons (mC (.int 1)) (mCons (mC (.int 2)) (mCons (mC (.int 1)) (mCons (mC (.int 2)) (mCons (mC (.int 3)) (mCons (mC (.int 6)) mNil))))))) (m2 dMod (mCall (mCons (m2 dIx (mVar 0) (mC (.int 0))) mNil) dInt) (mC (.int 6)))) mNil)) (gmName 2) mYes c__law_arcs_1 [2]))
abbrev N__law_arcs : List Str := ["draws", "many", "k"]
def f__law_arcs : List D → Option DV := fnD N__law_arcs.length (["draws", "many"] : List Str).length m__law_arcs
def b__law_flat_1 : DS → Option Out :=
    (nSeq (nAsg 6 (mLst (mSlL (mVar 0) (mP (m2 dAdd (mC (.int 1)) (m2 dMul (mC (.int 15)) (mVar 5)))) (mP (m2 dAdd (mC (.int 16)) (m2 dMul (mC (.int 15)) (mVar 5)))))))
      (nSeq (nAsg 7 (m2 dMod (mCall (mCons (m2 dIx (mVar 6) (mC (.int 0))) mNil) dInt) (mC (.int 9))))
      (nIf (mB (m2 dLt (mVar 7) (mC (.int 2)))) (nApp 4 (mTup (mCons (mC (.str "amount")) (mCons (m2 dIx (mLst (mCons (m2 dMod (mCall (mCons (m2 dIx (mVar 6) (mC (.int 1))) mNil) dInt) (mC (.int 12))) (mCons (mC .none) mNil))) (mCall (mCons (m2 dEq (m2 dMod (mCall (mCons (m2 dIx (mVar 6) (mC (.int 2))) mNil) dInt) (mC (.int 7))) (mC (.int 6))) mNil) dInt)) mNil)))) (nIf (mAndT (mB (m2 dEq (mVar 7) (mC (.int 8)))) (mNotT (mTru (mVar 2)))) (nApp 4 (mTup (mCons (mC (.str "when")) (mCons (m2 dMod (mCall (mCons (m2 dIx (mVar 6) (mC (.int 1))) mNil) dInt) (mVar 3)) (mCons (m2 dAdd (mC (.int 1)) (m2 dMod (mCall (mCons (m2 dIx (mVar 6) (mC (.int 2))) mNil) dInt) (mC (.int 9)))) (mCons (m2 dMod (mCall (mCons (m2 dIx (mVar 6) (mC (.int 3))) mNil) dInt) (mVar 3)) mNil)))))) (nApp 4 (mTup (mCons (m2 dIx (mLst (mCons (mC (.str "least")) (mCons (mC (.str "greatest")) mNil))) (m2 dMod (mCall (mCons (mVar 7) mNil) dInt) (mC (.int 2)))) (mCons (mCallF (mCons (mLst (mSlL (mVar 6) (mP (mC (.int 1))) (mP (mC (.int 14))))) (mCons (mVar 3) mNil)) f__law_arcs) mNil))))))))
def m__law_flat : DS → Option Out :=
    (nSeq (nAsg 3 (m2 dAdd (mC (.int 1)) (m2 dMod (mCall (mCons (m2 dIx (mVar 0) (mC (.int 0))) mNil) dInt) (mVar 1))))
      (nSeq (nAsgO 4 mNil)
      (nSeq (nFor (mRng1 (mCons (mVar 3) mNil)) (gmName 5) b__law_flat_1)
      (nRetX 4))))
abbrev N__law_flat : List Str := ["draws", "most", "plain", "many", "flat", "k", "part", "kind"]
def f__law_flat : List D → Option DV := fnD N__law_flat.length (["draws", "most", "plain"] : List Str).length m__law_flat
def b__law_opened_1 : DS → Option Out :=
    (nIf (mB (m2 dEq (m2 dIx (m2 dIx (mVar 0) (mVar 3)) (mC (.int 0))) (mC (.str "when")))) (nApp 2 (m2 dIx (mLst (mCons (mTup (mCons (mC (.str "amount")) (mCons (mC (.int 0)) mNil))) (mCons (mTup (mCons (mC (.str "greatest")) (mCons (mLst (mCons (mTup (mCons (m2 dIx (m2 dIx (mVar 0) (mVar 3)) (mC (.int 3))) (mCons (mC (.int 0)) mNil))) mNil)) mNil))) mNil))) (mCall (mCons (m2 dIn (mVar 3) (mVar 1)) mNil) dInt))) (nApp 2 (m2 dIx (mVar 0) (mVar 3))))
def m__law_opened : DS → Option Out :=
    (nSeq (nAsgO 2 mNil)
      (nSeq (nFor (mRng1 (mCons (mCall (mCons (mVar 0) mNil) dLen) mNil)) (gmName 3) b__law_opened_1)
      (nRetX 2)))
abbrev N__law_opened : List Str := ["flat", "places", "found", "k"]
def f__law_opened : List D → Option DV := fnD N__law_opened.length (["flat", "places"] : List Str).length m__law_opened
def m__law_at_most : DS → Option Out :=
    (nRet (mOrV (m2 dIs (mVar 1) (mC .none)) (mAndV (m2 dIsNot (mVar 0) (mC .none)) (m2 dLe (mVar 0) (mVar 1)))))
abbrev N__law_at_most : List Str := ["a", "b"]
def f__law_at_most : List D → Option DV := fnD N__law_at_most.length (["a", "b"] : List Str).length m__law_at_most
def b__law_one_of_1 : DS → Option Out :=
    (nIf (mAndT (mB (m2 dEq (mCallF (mCons (mVar 3) (mCons (mVar 2) mNil)) f__law_at_most) (mVar 1))) (mB (m2 dNe (mVar 3) (mVar 2)))) (nAsg 2 (mVar 3)) nNext)
def m__law_one_of : DS → Option Out :=
    (nSeq (nAsg 2 (m2 dIx (mVar 0) (mC (.int 0))))
      (nSeq (nFor (mItems (mVar 0)) (gmName 3) b__law_one_of_1)
      (nRet (mVar 2))))
abbrev N__law_one_of : List Str := ["amounts", "least", "found", "one"]
def f__law_one_of : List D → Option DV := fnD N__law_one_of.length (["amounts", "least"] : List Str).length m__law_one_of
def m__law_shifted : DS → Option Out :=
    (nSeq (nIf (mB (m2 dIs (mVar 0) (mC .none))) (nRet (mC .none)) nNext)
      (nRet (mCall (mCons (mC (.int 0)) (mCons (m2 dAdd (mVar 0) (mVar 1)) mNil)) dMax2)))
abbrev N__law_shifted : List Str := ["a", "c"]
def f__law_shifted : List D → Option DV := fnD N__law_shifted.length (["a", "c"] : List Str).length m__law_shifted
def c__law_flat_value_1 : DS → Option D :=
    (mCallF (mCons (m2 dIx (mVar 1) (mVar 2)) (mCons (mVar 3) mNil)) f__law_shifted)
def m__law_flat_value : DS → Option Out :=
    (nSeq (nIf (mB (m2 dEq (m2 dIx (mVar 0) (mC (.int 0))) (mC (.str "amount")))) (nRet (m2 dIx (mVar 0) (mC (.int 1)))) nNext)
      (nSeq (nIf (mB (m2 dEq (m2 dIx (mVar 0) (mC (.int 0))) (mC (.str "when")))) (nSeq (nIf (mB (mCallF (mCons (m2 dIx (mVar 0) (mC (.int 2))) (mCons (m2 dIx (mVar 1) (m2 dIx (mVar 0) (mC (.int 1)))) mNil)) f__law_at_most)) (nRet (m2 dIx (mVar 1) (m2 dIx (mVar 0) (mC (.int 3))))) nNext)
      (nRet (mC (.int 0)))) nNext)
      (nRetC (mCons (mLst (mLcI (mItems (m2 dIx (mVar 0) (mC (.int 1)))) (gmPair 2 3) mYes c__law_flat_value_1 [2, 3])) (mCons (m2 dEq (m2 dIx (mVar 0) (mC (.int 0))) (mC (.str "least"))) mNil)) f__law_one_of)))
abbrev N__law_flat_value : List Str := ["formula", "x", "j", "c"]
def f__law_flat_value : List D → Option DV := fnD N__law_flat_value.length (["formula", "x"] : List Str).length m__law_flat_value
def c__law_flat_values_1 : DS → Option D :=
    (mCallF (mCons (mVar 2) (mCons (mVar 1) mNil)) f__law_flat_value)
def m__law_flat_values : DS → Option Out :=
    (nRetO (mLcI (mItems (mVar 0)) (gmName 2) mYes c__law_flat_values_1 [2]))
abbrev N__law_flat_values : List Str := ["flat", "x", "formula"]
def f__law_flat_values : List D → Option DV := fnD N__law_flat_values.length (["flat", "x"] : List Str).length m__law_flat_values
def c__law_flat_least_1 : DS → Option D :=
    (mOrD (m2 dIx (mVar 3) (mC (.int 1))) (mC (.int 0)))
def c__law_flat_least_2 : DS → Option D :=
    (mVar 9)
def b__law_flat_least_1 : DS → Option Out :=
    (nIf (mOrT (mB (m2 dEq (m2 dIx (mVar 3) (mC (.int 0))) (mC (.str "least")))) (mB (m2 dEq (m2 dIx (mVar 3) (mC (.int 0))) (mC (.str "greatest"))))) (nAsg 2 (m2 dAdd (mVar 2) (mCall (mCons (mLst (m2O dCat (mLst (mCons (mC (.int 0)) mNil)) (mLst (mLcI (mItems (m2 dIx (mVar 3) (mC (.int 1)))) (gmPair 8 9) mYes c__law_flat_least_2 [8, 9])))) mNil) (dPick1 max)))) nNext)
def c__law_flat_least_3 : DS → Option D :=
    (mC (.int 0))
def b__law_flat_least_2 : DS → Option Out :=
    (nSeq (nIf (mAndT (mB (m2 dIsNot (mVar 7) (mC .none))) (mB (m2 dGt (mVar 7) (mVar 2)))) (nAsg 7 (mC .none)) nNext)
      (nApp 6 (mVar 7)))
def b__law_flat_least_3 : DS → Option Out :=
    (nSeq (nAsgO 6 mNil)
      (nSeq (nFor (mItems (mCallF (mCons (mVar 0) (mCons (mVar 4) mNil)) f__law_flat_values)) (gmName 7) b__law_flat_least_2)
      (nSeq (nIf (mBorT (mB (m2 dEq (mVar 6) (mVar 4)))) nBrk nNext)
      (nFrz 6 (nAsg 4 (mVar 6))))))
def m__law_flat_least : DS → Option Out :=
    (nSeq (nAsg 1 (mLst (mLcI (mItems (mVar 0)) (gmName 3) (mB (m2 dEq (m2 dIx (mVar 3) (mC (.int 0))) (mC (.str "amount")))) c__law_flat_least_1 [3])))
      (nSeq (nAsg 2 (m2 dAdd (mC (.int 1)) (mCall (mCons (mLst (m2O dCat (mLst (mCons (mC (.int 0)) mNil)) (mVar 1))) mNil) (dPick1 max))))
      (nSeq (nFor (mItems (mVar 0)) (gmName 3) b__law_flat_least_1)
      (nSeq (nAsg 4 (mLst (mLcI (mItems (mVar 0)) (gmName 3) mYes c__law_flat_least_3 [3])))
      (nSeq (nFor (mRng1 (mCons (mC (.int 20000)) mNil)) (gmName 5) b__law_flat_least_3)
      (nRet (mVar 4)))))))
abbrev N__law_flat_least : List Str := ["flat", "amounts", "bound", "formula", "x", "turn", "later", "one", "j", "c"]
def f__law_flat_least : List D → Option DV := fnD N__law_flat_least.length (["flat"] : List Str).length m__law_flat_least
def c__law_flat_greatest_1 : DS → Option D :=
    (mC .none)
def b__law_flat_greatest_1 : DS → Option Out :=
    (nSeq (nAsg 3 (mCallF (mCons (mVar 0) (mCons (mVar 1) mNil)) f__law_flat_values))
      (nSeq (nIf (mB (m2 dEq (mVar 3) (mVar 1))) nBrk nNext)
      (nAsg 1 (mVar 3))))
def m__law_flat_greatest : DS → Option Out :=
    (nSeq (nAsg 1 (mLst (mLcI (mItems (mVar 0)) (gmName 4) mYes c__law_flat_greatest_1 [4])))
      (nSeq (nFor (mRng1 (mCons (mC (.int 20000)) mNil)) (gmName 2) b__law_flat_greatest_1)
      (nRet (mVar 1))))
abbrev N__law_flat_greatest : List Str := ["flat", "x", "turn", "later", "formula"]
def f__law_flat_greatest : List D → Option DV := fnD N__law_flat_greatest.length (["flat"] : List Str).length m__law_flat_greatest
def c__law_row_1 : DS → Option D :=
    (mTup (mCons (mC (.str "when")) (mCons (mVar 5) (mCons (mVar 2) (mCons (m2 dAdd (mVar 1) (mC (.int 1))) mNil)))))
def b__law_row_1 : DS → Option Out :=
    (nApp 4 (mTup (mCons (mC (.str "when")) (mCons (mVar 5) (mCons (m2 dMul (m2 dAdd (mC (.int 1)) (m2 dMod (mCall (mCons (m2 dAdd (m2 dIx (mVar 0) (mC (.int 2))) (m2 dMul (mC (.int 5)) (mVar 5))) mNil) dInt) (mC (.int 3)))) (mVar 2)) (mCons (m2 dIx (mLst (mCons (mC (.int 0)) (mCons (mVar 5) mNil))) (m2 dMod (mCall (mCons (m2 dIx (mVar 0) (mC (.int 3))) mNil) dInt) (mC (.int 2)))) mNil))))))
def m__law_row : DS → Option Out :=
    (nSeq (nAsg 1 (m2 dAdd (mC (.int 1)) (m2 dMod (mCall (mCons (m2 dIx (mVar 0) (mC (.int 0))) mNil) dInt) (mC (.int 12)))))
      (nSeq (nAsg 2 (m2 dIx (mLst (mCons (mC (.int 1)) (mCons (mC (.int 299)) (mCons (mC (.int 13)) mNil)))) (m2 dMod (mCall (mCons (m2 dIx (mVar 0) (mC (.int 4))) mNil) dInt) (mC (.int 3)))))
      (nSeq (nIf (mB (m2 dGt (m2 dMod (mCall (mCons (m2 dIx (mVar 0) (mC (.int 3))) mNil) dInt) (mC (.int 4))) (mC (.int 1)))) (nSeq (nAsg 3 (mLst (mLcI (mRng1 (mCons (mVar 1) mNil)) (gmName 5) mYes c__law_row_1 [5])))
      (nRetO (m2O dCat (mLst (m2O dCat (mLst (mCons (mTup (mCons (mC (.str "amount")) (mCons (mC (.int 0)) mNil))) mNil)) (mVar 3))) (mLst (mCons (mTup (mCons (mC (.str "amount")) (mCons (m2 dIx (mLst (mCons (m2 dMul (mC (.int 2)) (mVar 2)) (mCons (mC .none) mNil))) (m2 dMod (mCall (mCons (m2 dIx (mVar 0) (mC (.int 1))) mNil) dInt) (mC (.int 2)))) mNil))) mNil))))) nNext)
      (nSeq (nAsgO 4 (mCons (mTup (mCons (mC (.str "amount")) (mCons (m2 dMul (m2 dMod (mCall (mCons (m2 dIx (mVar 0) (mC (.int 1))) mNil) dInt) (mC (.int 4))) (mVar 2)) mNil))) mNil))
      (nSeq (nFor (mRng1 (mCons (mVar 1) mNil)) (gmName 5) b__law_row_1)
      (nRetX 4))))))
abbrev N__law_row : List Str := ["draws", "many", "by", "row", "flat", "k"]
def f__law_row : List D → Option DV := fnD N__law_row.length (["draws"] : List Str).length m__law_row
def c__law_held_1 : DS → Option D :=
    (mC .none)
def b__law_held_1 : DS → Option Out :=
    (nIf (mAndT (mB (m2 dEq (m2 dIx (m2 dIx (mVar 0) (mVar 2)) (mC (.int 0))) (mC (.str "amount")))) (mB (m2 dIsNot (m2 dIx (m2 dIx (mVar 0) (mVar 2)) (mC (.int 1))) (mC .none)))) (nSetI 1 (mVar 2) (mC (.int 0))) nNext)
def c__law_held_2 : DS → Option D :=
    (mVar 7)
def b__law_held_2 : DS → Option Out :=
    (nIf (mAndT (mB (m2 dIs (m2 dIx (mVar 4) (mVar 2)) (mC .none))) (mB (m2 dNe (m2 dIx (m2 dIx (mVar 0) (mVar 2)) (mC (.int 0))) (mC (.str "amount"))))) (nSeq (nAsg 5 (mLst (mLcI (mItems (m2 dIx (m2 dIx (mVar 0) (mVar 2)) (mC (.int 1)))) (gmPair 7 8) (mB (m2 dIsNot (m2 dIx (mVar 4) (mVar 7)) (mC .none))) c__law_held_2 [7, 8])))
      (nIf (mOrT (mB (m2 dEq (mCall (mCons (mVar 5) mNil) dLen) (mCall (mCons (m2 dIx (m2 dIx (mVar 0) (mVar 2)) (mC (.int 1))) mNil) dLen))) (mAndT (mB (m2 dEq (m2 dIx (m2 dIx (mVar 0) (mVar 2)) (mC (.int 0))) (mC (.str "least")))) (mB (m2 dGt (mCall (mCons (mVar 5) mNil) dLen) (mC (.int 0)))))) (nSetI 1 (mVar 2) (mVar 3)) nNext)) nNext)
def b__law_held_3 : DS → Option Out :=
    (nSeq (nAsg 4 (mLst (mBorO (mCallO (mCons (mVar 1) mNil) dListOf))))
      (nFor (mRng1 (mCons (mCall (mCons (mVar 0) mNil) dLen) mNil)) (gmName 2) b__law_held_2))
def m__law_held : DS → Option Out :=
    (nSeq (nAsgO 1 (mLcI (mItems (mVar 0)) (gmName 6) mYes c__law_held_1 [6]))
      (nSeq (nFor (mRng1 (mCons (mCall (mCons (mVar 0) mNil) dLen) mNil)) (gmName 2) b__law_held_1)
      (nSeq (nFor (mRng2 (mCons (mC (.int 1)) (mCons (m2 dAdd (mCall (mCons (mVar 0) mNil) dLen) (mC (.int 1))) mNil))) (gmName 3) b__law_held_3)
      (nRetX 1))))
abbrev N__law_held : List Str := ["plain", "ranks", "k", "turn", "before", "held", "formula", "j", "c"]
def f__law_held : List D → Option DV := fnD N__law_held.length (["plain"] : List Str).length m__law_held
def b__law_can_be_1 : DS → Option Out :=
    (nIf (mAndT (mB (m2 dIsNot (m2 dIx (mVar 1) (mVar 10)) (mC .none))) (mB (m2 dEq (m2 dAdd (m2 dIx (mVar 1) (mVar 10)) (mVar 11)) (m2 dIx (mVar 1) (mVar 2))))) (nIf (mAndT (mB (m2 dIsNot (m2 dIx (mVar 3) (mVar 10)) (mC .none))) (mB (m2 dLt (m2 dIx (mVar 3) (mVar 10)) (mVar 4)))) (nApp 7 (mVar 10)) (nApp 9 (mVar 10))) (nIf (mAndT (mB (m2 dIsNot (m2 dIx (mVar 1) (mVar 10)) (mC .none))) (mAndT (mB (m2 dLt (m2 dAdd (m2 dIx (mVar 1) (mVar 10)) (mVar 11)) (mC (.int 0)))) (mB (m2 dEq (m2 dIx (mVar 1) (mVar 2)) (mC (.int 0)))))) (nApp 8 (mVar 10)) nNext))
def m__law_can_be : DS → Option Out :=
    (nSeq (nAsgG (gmPair 5 6) (m2 dIx (mVar 0) (mVar 2)))
      (nSeq (nIf (mB (m2 dEq (mVar 5) (mC (.str "amount")))) (nRet (mC (.bool true))) nNext)
      (nSeq (nAsgO 7 mNil)
      (nSeq (nAsgO 8 mNil)
      (nSeq (nAsgO 9 mNil)
      (nSeq (nFor (mItems (mVar 6)) (gmPair 10 11) b__law_can_be_1)
      (nFrz 7 (nFrz 8 (nFrz 9 (nSeq (nIf (mB (m2 dEq (mVar 5) (mC (.str "least")))) (nRet (m2 dGt (m2 dAdd (mCall (mCons (mVar 7) mNil) dLen) (mCall (mCons (mVar 8) mNil) dLen)) (mC (.int 0)))) nNext)
      (nRet (m2 dEq (mCall (mCons (mVar 9) mNil) dLen) (mC (.int 0))))))))))))))
abbrev N__law_can_be : List Str := ["plain", "x", "k", "ranks", "rank", "kind", "arcs", "lower", "floors", "higher", "j", "c"]
def f__law_can_be : List D → Option DV := fnD N__law_can_be.length (["plain", "x", "k", "ranks", "rank"] : List Str).length m__law_can_be
def c__law_tight_1 : DS → Option D :=
    (mC .none)
def b__law_tight_1 : DS → Option Out :=
    (nIf (mAndT (mB (m2 dEq (m2 dIx (m2 dIx (mVar 0) (mVar 3)) (mC (.int 0))) (mC (.str "amount")))) (mB (m2 dIsNot (m2 dIx (mVar 1) (mVar 3)) (mC .none)))) (nSetI 2 (mVar 3) (mC (.int 0))) nNext)
def b__law_tight_2 : DS → Option Out :=
    (nIf (mAndT (mB (m2 dIs (m2 dIx (mVar 5) (mVar 3)) (mC .none))) (mAndT (mB (m2 dIsNot (m2 dIx (mVar 1) (mVar 3)) (mC .none))) (mB (mCallF (mCons (mVar 0) (mCons (mVar 1) (mCons (mVar 3) (mCons (mVar 5) (mCons (mVar 4) mNil))))) f__law_can_be)))) (nSetI 2 (mVar 3) (mVar 4)) nNext)
def b__law_tight_3 : DS → Option Out :=
    (nSeq (nAsg 5 (mLst (mBorO (mCallO (mCons (mVar 2) mNil) dListOf))))
      (nFor (mRng1 (mCons (mCall (mCons (mVar 0) mNil) dLen) mNil)) (gmName 3) b__law_tight_2))
def m__law_tight : DS → Option Out :=
    (nSeq (nAsgO 2 (mLcI (mItems (mVar 0)) (gmName 6) mYes c__law_tight_1 [6]))
      (nSeq (nFor (mRng1 (mCons (mCall (mCons (mVar 0) mNil) dLen) mNil)) (gmName 3) b__law_tight_1)
      (nSeq (nFor (mRng2 (mCons (mC (.int 1)) (mCons (m2 dAdd (mCall (mCons (mVar 0) mNil) dLen) (mC (.int 1))) mNil))) (gmName 4) b__law_tight_3)
      (nRetX 2))))
abbrev N__law_tight : List Str := ["plain", "x", "ranks", "k", "turn", "before", "formula"]
def f__law_tight : List D → Option DV := fnD N__law_tight.length (["plain", "x"] : List Str).length m__law_tight
def m__law_stage : DS → Option Out :=
    (nSeq (nAsg 2 (mCallF (mCons (mVar 0) (mCons (mVar 1) mNil)) f__law_opened))
      (nSeq (nAsg 3 (mCallF (mCons (mVar 2) mNil) f__law_flat_greatest))
      (nRet (mTup (mCons (mVar 1) (mCons (mVar 3) (mCons (mCallF (mCons (mVar 2) mNil) f__law_held) (mCons (mCallF (mCons (mVar 2) (mCons (mVar 3) mNil)) f__law_tight) mNil))))))))
abbrev N__law_stage : List Str := ["flat", "places", "plain", "x"]
def f__law_stage : List D → Option DV := fnD N__law_stage.length (["flat", "places"] : List Str).length m__law_stage
def c__law_conditions_1 : DS → Option D :=
    (mVar 1)
def m__law_conditions : DS → Option Out :=
    (nRetO (mLcI (mRng1 (mCons (mCall (mCons (mVar 0) mNil) dLen) mNil)) (gmName 1) (mB (m2 dEq (m2 dIx (m2 dIx (mVar 0) (mVar 1)) (mC (.int 0))) (mC (.str "when")))) c__law_conditions_1 [1]))
abbrev N__law_conditions : List Str := ["flat", "k"]
def f__law_conditions : List D → Option DV := fnD N__law_conditions.length (["flat"] : List Str).length m__law_conditions
def c__law_one_by_one_1 : DS → Option D :=
    (mVar 6)
def b__law_one_by_one_1 : DS → Option Out :=
    (nSeq (nAsg 4 (mCallF (mCons (mVar 0) (mCons (mVar 1) mNil)) f__law_stage))
      (nSeq (nApp 2 (mVar 4))
      (nSeq (nAsg 5 (mLst (mLcI (mItems (mVar 1)) (gmName 6) (mNotT (mB (mCallF (mCons (m2 dIx (m2 dIx (mVar 0) (mVar 6)) (mC (.int 2))) (mCons (m2 dIx (m2 dIx (mVar 4) (mC (.int 1))) (m2 dIx (m2 dIx (mVar 0) (mVar 6)) (mC (.int 1)))) mNil)) f__law_at_most))) c__law_one_by_one_1 [6])))
      (nSeq (nIf (mB (m2 dEq (mCall (mCons (mVar 5) mNil) dLen) (mC (.int 0)))) nBrk nNext)
      (nAsg 1 (mLst (mLcI (mItems (mVar 1)) (gmName 6) (mB (m2 dNe (mVar 6) (m2 dIx (mVar 5) (m1 dNeg (mC (.int 1)))))) c__law_one_by_one_1 [6])))))))
def m__law_one_by_one : DS → Option Out :=
    (nSeq (nAsg 1 (mCallF (mCons (mVar 0) mNil) f__law_conditions))
      (nSeq (nAsgO 2 mNil)
      (nSeq (nFor (mRng1 (mCons (m2 dAdd (mCall (mCons (mVar 0) mNil) dLen) (mC (.int 2))) mNil)) (gmName 3) b__law_one_by_one_1)
      (nRetX 2))))
abbrev N__law_one_by_one : List Str := ["flat", "places", "found", "turn", "stage", "gone", "k"]
def f__law_one_by_one : List D → Option DV := fnD N__law_one_by_one.length (["flat"] : List Str).length m__law_one_by_one
def b__law_others_1 : DS → Option Out :=
    (nApp 7 (mLst (m2O dCat (mLst (m2O dCat (mLst (mSlL (mVar 0) mNoP (mP (mVar 2)))) (mLst (mCons (mVar 10) mNil)))) (mLst (mSlL (mVar 0) (mP (m2 dAdd (mVar 2) (mC (.int 1)))) mNoP)))))
def m__law_others : DS → Option Out :=
    (nSeq (nAsg 2 (m2 dMod (mCall (mCons (m2 dIx (mVar 1) (mC (.int 0))) mNil) dInt) (mCall (mCons (mVar 0) mNil) dLen)))
      (nSeq (nAsgG (gmQuad 3 4 5 6) (m2 dIx (mVar 0) (mVar 2)))
      (nSeq (nAsgO 7 (mCons (mVar 0) (mCons (mLst (mSlL (mVar 0) (mP (mC (.int 1))) mNoP)) (mCons (mLst (mSlL (mVar 0) mNoP (mP (m1 dNeg (mC (.int 1)))))) (mCons (mLst (m2O dCat (mLst (mSlL (mVar 0) mNoP (mP (mVar 2)))) (mLst (mSlL (mVar 0) (mP (m2 dAdd (mVar 2) (mC (.int 1)))) mNoP)))) (mCons (mLst (m2O dCat (mLst (mSlL (mVar 0) mNoP (mP (m2 dAdd (mVar 2) (mC (.int 1)))))) (mLst (mSlL (mVar 0) (mP (mVar 2)) mNoP)))) (mCons (mLst (mRev (mVar 0))) mNil)))))))
      (nSeq (nAsg 8 (m2 dMod (mCall (mCons (m2 dIx (mVar 1) (mC (.int 1))) mNil) dInt) (mCall (mCons (mVar 4) mNil) dLen)))
      (nSeq (nAsg 9 (m2 dIx (mLst (mCons (mC .none) (mCons (mC (.int 0)) (mCons (mC (.int 2)) (mCons (mC (.int 40)) mNil))))) (m2 dMod (mCall (mCons (m2 dIx (mVar 1) (mC (.int 2))) mNil) dInt) (mC (.int 4)))))
      (nSeq (nFor (mItems (mLst (mCons (mTup (mCons (mLst (m2O dCat (mVar 3) (mLst (mCons (mVar 8) mNil)))) (mCons (mVar 4) (mCons (mVar 5) (mCons (mVar 6) mNil))))) (mCons (mTup (mCons (mLst (mSlL (mVar 3) (mP (mC (.int 1))) mNoP)) (mCons (mVar 4) (mCons (mVar 5) (mCons (mVar 6) mNil))))) (mCons (mTup (mCons (mLst (mRev (mVar 3))) (mCons (mVar 4) (mCons (mVar 5) (mCons (mVar 6) mNil))))) mNil))))) (gmName 10) b__law_others_1)
      (nSeq (nFor (mItems (mLst (mCons (mTup (mCons (mVar 3) (mCons (mLst (m2O dCat (mLst (m2O dCat (mLst (mSlL (mVar 4) mNoP (mP (mVar 8)))) (mLst (mCons (mVar 9) mNil)))) (mLst (mSlL (mVar 4) (mP (m2 dAdd (mVar 8) (mC (.int 1)))) mNoP)))) (mCons (mVar 5) (mCons (mVar 6) mNil))))) (mCons (mTup (mCons (mVar 3) (mCons (mVar 4) (mCons (mLst (m2O dCat (mLst (m2O dCat (mLst (mSlL (mVar 5) mNoP (mP (mVar 8)))) (mLst (mCons (mVar 9) mNil)))) (mLst (mSlL (mVar 5) (mP (m2 dAdd (mVar 8) (mC (.int 1)))) mNoP)))) (mCons (mVar 6) mNil))))) mNil)))) (gmName 10) b__law_others_1)
      (nSeq (nFor (mItems (mLst (mCons (mTup (mCons (mVar 3) (mCons (mVar 4) (mCons (mVar 5) (mCons (mLst (m2O dCat (mLst (m2O dCat (mLst (mSlL (mVar 6) mNoP (mP (mVar 8)))) (mLst (mCons (mVar 9) mNil)))) (mLst (mSlL (mVar 6) (mP (m2 dAdd (mVar 8) (mC (.int 1)))) mNoP)))) mNil))))) (mCons (mTup (mCons (mVar 3) (mCons (mLst (mSlL (mVar 4) mNoP (mP (m1 dNeg (mC (.int 1)))))) (mCons (mVar 5) (mCons (mVar 6) mNil))))) mNil)))) (gmName 10) b__law_others_1)
      (nSeq (nFor (mItems (mLst (mCons (mTup (mCons (mVar 3) (mCons (mVar 4) (mCons (mLst (m2O dCat (mVar 5) (mLst (mCons (mC (.int 0)) mNil)))) (mCons (mVar 6) mNil))))) (mCons (mTup (mCons (mVar 3) (mCons (mVar 4) (mCons (mVar 5) (mCons (mLst (mSlL (mVar 6) (mP (mC (.int 1))) mNoP)) mNil))))) (mCons (mTup (mCons (mVar 3) (mCons (mVar 4) (mCons (mVar 6) (mCons (mVar 5) mNil))))) mNil))))) (gmName 10) b__law_others_1)
      (nRetX 7))))))))))
abbrev N__law_others : List Str := ["paper", "draws", "at", "places", "x", "held", "tight", "found", "k", "more", "stage"]
def f__law_others : List D → Option DV := fnD N__law_others.length (["paper", "draws"] : List Str).length m__law_others
def m_shifted : DS → Option Out :=
    (nSeq (nIf (mB (m2 dIs (mVar 0) (mC .none))) (nRet (mC .none)) nNext)
      (nRet (mCall (mCons (m2 dAdd (mVar 0) (mVar 1)) (mCons (mC (.int 0)) mNil)) dMax2)))
abbrev N_shifted : List Str := ["a", "c"]
def f_shifted : List D → Option DV := fnD N_shifted.length (["a", "c"] : List Str).length m_shifted
def c_least_of_1 : DS → Option D :=
    (mVar 2)
def m_least_of : DS → Option Out :=
    (nSeq (nAsg 1 (mLst (mLcI (mItems (mVar 0)) (gmName 2) (mB (m2 dIsNot (mVar 2) (mC .none))) c_least_of_1 [2])))
      (nRet (mCallK (mCons (mVar 1) mNil) (mCons (mC .none) mNil) (dPick min))))
abbrev N_least_of : List Str := ["amounts", "numbers", "amount"]
def f_least_of : List D → Option DV := fnD N_least_of.length (["amounts"] : List Str).length m_least_of
def m_greatest_of : DS → Option Out :=
    (nSeq (nIf (mB (m2 dIn (mC .none) (mVar 0))) (nRet (mC .none)) nNext)
      (nRet (mCallK (mCons (mVar 0) mNil) (mCons (mC (.int 0)) mNil) (dPick max))))
abbrev N_greatest_of : List Str := ["amounts"]
def f_greatest_of : List D → Option DV := fnD N_greatest_of.length (["amounts"] : List Str).length m_greatest_of
def m_at_most : DS → Option Out :=
    (nSeq (nIf (mB (m2 dIs (mVar 1) (mC .none))) (nRet (mC (.bool true))) nNext)
      (nRet (mAndV (m2 dIsNot (mVar 0) (mC .none)) (m2 dLe (mVar 0) (mVar 1)))))
abbrev N_at_most : List Str := ["a", "b"]
def f_at_most : List D → Option DV := fnD N_at_most.length (["a", "b"] : List Str).length m_at_most
def c_flat_value_1 : DS → Option D :=
    (mCallF (mCons (m2 dIx (mVar 1) (mVar 4)) (mCons (mVar 5) mNil)) f_shifted)
def m_flat_value : DS → Option Out :=
    (nSeq (nAsg 2 (m2 dIx (mVar 0) (mC (.int 0))))
      (nSeq (nIf (mB (m2 dEq (mVar 2) (mC (.str "amount")))) (nRet (m2 dIx (mVar 0) (mC (.int 1)))) nNext)
      (nSeq (nIf (mB (m2 dEq (mVar 2) (mC (.str "when")))) (nRet (mIf (mB (mCallF (mCons (m2 dIx (mVar 0) (mC (.int 2))) (mCons (m2 dIx (mVar 1) (m2 dIx (mVar 0) (mC (.int 1)))) mNil)) f_at_most)) (m2 dIx (mVar 1) (m2 dIx (mVar 0) (mC (.int 3)))) (mC (.int 0)))) nNext)
      (nSeq (nAsg 3 (mLst (mLcI (mItems (m2 dIx (mVar 0) (mC (.int 1)))) (gmPair 4 5) mYes c_flat_value_1 [4, 5])))
      (nRet (mIf (mB (m2 dEq (mVar 2) (mC (.str "least")))) (mCallF (mCons (mVar 3) mNil) f_least_of) (mCallF (mCons (mVar 3) mNil) f_greatest_of)))))))
abbrev N_flat_value : List Str := ["formula", "x", "word", "values", "cell", "shift"]
def f_flat_value : List D → Option DV := fnD N_flat_value.length (["formula", "x"] : List Str).length m_flat_value
def c_flat_values_1 : DS → Option D :=
    (mCallF (mCons (mVar 2) (mCons (mVar 1) mNil)) f_flat_value)
def m_flat_values : DS → Option Out :=
    (nRetO (mLcI (mItems (mVar 0)) (gmName 2) mYes c_flat_values_1 [2]))
abbrev N_flat_values : List Str := ["flat", "x", "formula"]
def f_flat_values : List D → Option DV := fnD N_flat_values.length (["flat", "x"] : List Str).length m_flat_values
def m_is_flat_solution : DS → Option Out :=
    (nRet (m2 dEq (mCallF (mCons (mVar 0) (mCons (mVar 1) mNil)) f_flat_values) (mVar 1)))
abbrev N_is_flat_solution : List Str := ["flat", "x"]
def f_is_flat_solution : List D → Option DV := fnD N_is_flat_solution.length (["flat", "x"] : List Str).length m_is_flat_solution
def c_conditions_of_1 : DS → Option D :=
    (mVar 1)
def m_conditions_of : DS → Option Out :=
    (nRetO (mLcI (mEnum (mCons (mVar 0) mNil)) (gmPair 1 2) (mB (m2 dEq (m2 dIx (mVar 2) (mC (.int 0))) (mC (.str "when")))) c_conditions_of_1 [1, 2]))
abbrev N_conditions_of : List Str := ["flat", "cell", "formula"]
def f_conditions_of : List D → Option DV := fnD N_conditions_of.length (["flat"] : List Str).length m_conditions_of
def c_is_held_1 : DS → Option D :=
    (mAndV (m2 dIsNot (m2 dIx (mVar 1) (mVar 5)) (mC .none)) (m2 dLt (m2 dIx (mVar 3) (mVar 5)) (m2 dIx (mVar 3) (mVar 2))))
def m_is_held : DS → Option Out :=
    (nSeq (nIf (mB (m2 dEq (m2 dIx (mVar 0) (mC (.int 0))) (mC (.str "amount")))) (nRet (mC (.bool true))) nNext)
      (nSeq (nAsg 4 (mLst (mLcI (mItems (m2 dIx (mVar 0) (mC (.int 1)))) (gmPair 5 6) mYes c_is_held_1 [5, 6])))
      (nRet (mIf (mB (m2 dEq (m2 dIx (mVar 0) (mC (.int 0))) (mC (.str "least")))) (mCall (mCons (mVar 4) mNil) dAny) (mCall (mCons (mVar 4) mNil) dAll)))))
abbrev N_is_held : List Str := ["formula", "x", "cell", "held", "lesser", "target", "_"]
def f_is_held : List D → Option DV := fnD N_is_held.length (["formula", "x", "cell", "held"] : List Str).length m_is_held
def c_is_on_floor_1 : DS → Option D :=
    (mAndV (m2 dIsNot (m2 dIx (mVar 1) (mVar 3)) (mC .none)) (m2 dLt (m2 dAdd (m2 dIx (mVar 1) (mVar 3)) (mVar 4)) (mC (.int 0))))
def m_is_on_floor : DS → Option Out :=
    (nRet (mAndV (m2 dEq (m2 dIx (mVar 1) (mVar 2)) (mC (.int 0))) (mCall (mCons (mLst (mLcI (mItems (m2 dIx (mVar 0) (mC (.int 1)))) (gmPair 3 4) mYes c_is_on_floor_1 [3, 4])) mNil) dAny)))
abbrev N_is_on_floor : List Str := ["formula", "x", "cell", "target", "shift"]
def f_is_on_floor : List D → Option DV := fnD N_is_on_floor.length (["formula", "x", "cell"] : List Str).length m_is_on_floor
def c_free_targets_1 : DS → Option D :=
    (mVar 3)
def m_free_targets : DS → Option Out :=
    (nRetO (mLcI (mItems (m2 dIx (mVar 0) (mC (.int 1)))) (gmPair 3 4) (mAndT (mB (m2 dIsNot (m2 dIx (mVar 1) (mVar 3)) (mC .none))) (mB (m2 dEq (m2 dAdd (m2 dIx (mVar 1) (mVar 3)) (mVar 4)) (m2 dIx (mVar 1) (mVar 2))))) c_free_targets_1 [3, 4]))
abbrev N_free_targets : List Str := ["formula", "x", "cell", "target", "shift"]
def f_free_targets : List D → Option DV := fnD N_free_targets.length (["formula", "x", "cell"] : List Str).length m_free_targets
def c_is_tight_1 : DS → Option D :=
    (m2 dLt (m2 dIx (mVar 3) (mVar 5)) (m2 dIx (mVar 3) (mVar 2)))
def m_is_tight : DS → Option Out :=
    (nSeq (nIf (mB (m2 dEq (m2 dIx (mVar 0) (mC (.int 0))) (mC (.str "amount")))) (nRet (mC (.bool true))) nNext)
      (nSeq (nAsg 4 (mLst (mLcI (mItems (mCallF (mCons (mVar 0) (mCons (mVar 1) (mCons (mVar 2) mNil))) f_free_targets)) (gmName 5) mYes c_is_tight_1 [5])))
      (nSeq (nIf (mB (m2 dEq (m2 dIx (mVar 0) (mC (.int 0))) (mC (.str "greatest")))) (nRet (mCall (mCons (mVar 4) mNil) dAll)) nNext)
      (nRet (mOrV (mCallF (mCons (mVar 0) (mCons (mVar 1) (mCons (mVar 2) mNil))) f_is_on_floor) (mCall (mCons (mVar 4) mNil) dAny))))))
abbrev N_is_tight : List Str := ["formula", "x", "cell", "tight", "lesser", "target"]
def f_is_tight : List D → Option DV := fnD N_is_tight.length (["formula", "x", "cell", "tight"] : List Str).length m_is_tight
def c_shows_greatest_1 : DS → Option D :=
    (mVar 5)
def c_shows_greatest_2 : DS → Option D :=
    (m2 dIx (mVar 2) (mVar 5))
def c_shows_greatest_3 : DS → Option D :=
    (m2 dIx (mVar 3) (mVar 5))
def c_shows_greatest_4 : DS → Option D :=
    (mAndV (mCallF (mCons (m2 dIx (mVar 0) (mVar 5)) (mCons (mVar 1) (mCons (mVar 5) (mCons (mVar 2) mNil)))) f_is_held) (mCallF (mCons (m2 dIx (mVar 0) (mVar 5)) (mCons (mVar 1) (mCons (mVar 5) (mCons (mVar 3) mNil)))) f_is_tight))
def m_shows_greatest : DS → Option Out :=
    (nSeq (nIf (mOrT (mB (m2 dNe (mCall (mCons (mVar 1) mNil) dLen) (mCall (mCons (mVar 0) mNil) dLen))) (mOrT (mB (m2 dNe (mCall (mCons (mVar 2) mNil) dLen) (mCall (mCons (mVar 0) mNil) dLen))) (mB (m2 dNe (mCall (mCons (mVar 3) mNil) dLen) (mCall (mCons (mVar 0) mNil) dLen))))) (nRet (mC (.bool false))) nNext)
      (nSeq (nIf (mNotT (mB (mCallF (mCons (mVar 0) (mCons (mVar 1) mNil)) f_is_flat_solution))) (nRet (mC (.bool false))) nNext)
      (nSeq (nAsg 4 (mLst (mLcI (mEnum (mCons (mVar 1) mNil)) (gmPair 5 6) (mB (m2 dIsNot (mVar 6) (mC .none))) c_shows_greatest_1 [5, 6])))
      (nSeq (nIf (mOrT (mB (m2 dIn (mC .none) (mLst (mLcI (mItems (mVar 4)) (gmName 5) mYes c_shows_greatest_2 [5])))) (mB (m2 dIn (mC .none) (mLst (mLcI (mItems (mVar 4)) (gmName 5) mYes c_shows_greatest_3 [5]))))) (nRet (mC (.bool false))) nNext)
      (nRet (mCall (mCons (mLst (mLcI (mItems (mVar 4)) (gmName 5) mYes c_shows_greatest_4 [5])) mNil) dAll))))))
abbrev N_shows_greatest : List Str := ["plain", "x", "held", "tight", "cells", "cell", "amount"]
def f_shows_greatest : List D → Option DV := fnD N_shows_greatest.length (["plain", "x", "held", "tight"] : List Str).length m_shows_greatest
def c_missed_conditions_1 : DS → Option D :=
    (mVar 3)
def m_missed_conditions : DS → Option Out :=
    (nRetO (mLcI (mItems (mVar 1)) (gmName 3) (mNotT (mB (mCallF (mCons (m2 dIx (m2 dIx (mVar 0) (mVar 3)) (mC (.int 2))) (mCons (m2 dIx (mVar 2) (m2 dIx (m2 dIx (mVar 0) (mVar 3)) (mC (.int 1)))) mNil)) f_at_most))) c_missed_conditions_1 [3]))
abbrev N_missed_conditions : List Str := ["flat", "cells", "x", "cell"]
def f_missed_conditions : List D → Option DV := fnD N_missed_conditions.length (["flat", "cells", "x"] : List Str).length m_missed_conditions
def c_closes_more_1 : DS → Option D :=
    (mVar 5)
def m_closes_more : DS → Option Out :=
    (nSeq (nAsg 3 (mDs (mItems (mVar 2)) (gmName 5) mYes c_closes_more_1 [5]))
      (nSeq (nIf (mOrT (mB (m2 dNe (mVar 2) (mLst (mLcI (mItems (m2 dIx (mVar 1) (mC (.int 0)))) (gmName 5) (mB (m2 dInK (mVar 5) (mVar 3))) c_closes_more_1 [5])))) (mB (m2 dEq (mCall (mCons (mVar 2) mNil) dLen) (mCall (mCons (m2 dIx (mVar 1) (mC (.int 0))) mNil) dLen)))) (nRet (mC (.bool false))) nNext)
      (nSeq (nAsg 4 (mLst (mLcI (mItems (m2 dIx (mVar 1) (mC (.int 0)))) (gmName 5) (mB (m2 dNInK (mVar 5) (mVar 3))) c_closes_more_1 [5])))
      (nRet (m2 dEq (mCallF (mCons (mVar 0) (mCons (mVar 4) (mCons (m2 dIx (mVar 1) (mC (.int 1))) mNil))) f_missed_conditions) (mVar 4))))))
abbrev N_closes_more : List Str := ["flat", "before", "places", "is_place", "lacking", "cell"]
def f_closes_more : List D → Option DV := fnD N_closes_more.length (["flat", "before", "places"] : List Str).length m_closes_more
def m_copied : DS → Option Out :=
    (nSeq (nIf (mB (m2 dIn (m2 dIx (mVar 0) (mC (.int 0))) (mTup (mCons (mC (.str "least")) (mCons (mC (.str "greatest")) mNil))))) (nRet (mTup (mCons (m2 dIx (mVar 0) (mC (.int 0))) (mCons (mLst (mCallO (mCons (m2 dIx (mVar 0) (mC (.int 1))) mNil) dListOf)) mNil)))) nNext)
      (nRet (mVar 0)))
abbrev N_copied : List Str := ["formula"]
def f_copied : List D → Option DV := fnD N_copied.length (["formula"] : List Str).length m_copied
def m_opened_formula : DS → Option Out :=
    (nSeq (nIf (mB (m2 dEq (m2 dIx (mVar 0) (mC (.int 0))) (mC (.str "when")))) (nRet (mIf (mTru (mVar 1)) (mTup (mCons (mC (.str "greatest")) (mCons (mLst (mCons (mTup (mCons (m2 dIx (mVar 0) (mC (.int 3))) (mCons (mC (.int 0)) mNil))) mNil)) mNil))) (mTup (mCons (mC (.str "amount")) (mCons (mC (.int 0)) mNil))))) nNext)
      (nRetC (mCons (mVar 0) mNil) f_copied))
abbrev N_opened_formula : List Str := ["formula", "is_open"]
def f_opened_formula : List D → Option DV := fnD N_opened_formula.length (["formula", "is_open"] : List Str).length m_opened_formula
def c_opened_1 : DS → Option D :=
    (mVar 3)
def c_opened_2 : DS → Option D :=
    (mCallF (mCons (mVar 5) (mCons (m2 dInK (mVar 4) (mVar 2)) mNil)) f_opened_formula)
def m_opened : DS → Option Out :=
    (nSeq (nAsg 2 (mDs (mItems (mVar 1)) (gmName 3) mYes c_opened_1 [3]))
      (nRetO (mLcI (mEnum (mCons (mVar 0) mNil)) (gmPair 4 5) mYes c_opened_2 [4, 5])))
abbrev N_opened : List Str := ["flat", "places", "are_open", "place", "cell", "formula"]
def f_opened : List D → Option DV := fnD N_opened.length (["flat", "places"] : List Str).length m_opened
def b_is_greatest_paper_1 : DS → Option Out :=
    (nSeq (nIf (mAndT (mB (m2 dGt (mVar 2) (mC (.int 0)))) (mNotT (mB (mCallF (mCons (mVar 0) (mCons (m2 dIx (mVar 1) (m2 dSub (mVar 2) (mC (.int 1)))) (mCons (mVar 3) mNil))) f_closes_more)))) (nRet (mC (.bool false))) nNext)
      (nIf (mNotT (mB (mCallF (mCons (mCallF (mCons (mVar 0) (mCons (mVar 3) mNil)) f_opened) (mCons (mVar 4) (mCons (mVar 5) (mCons (mVar 6) mNil)))) f_shows_greatest))) (nRet (mC (.bool false))) nNext))
def m_is_greatest_paper : DS → Option Out :=
    (nSeq (nIf (mOrT (mNotT (mTru (mVar 1))) (mB (m2 dNe (m2 dIx (m2 dIx (mVar 1) (mC (.int 0))) (mC (.int 0))) (mCallF (mCons (mVar 0) mNil) f_conditions_of)))) (nRet (mC (.bool false))) nNext)
      (nSeq (nFor (mEnum (mCons (mVar 1) mNil)) (gmNest 2 (gmQuad 3 4 5 6)) b_is_greatest_paper_1)
      (nRetC (mCons (mVar 0) (mCons (m2 dIx (m2 dIx (mVar 1) (m1 dNeg (mC (.int 1)))) (mC (.int 1))) mNil)) f_is_flat_solution)))
abbrev N_is_greatest_paper : List Str := ["flat", "paper", "at", "places", "x", "held", "tight"]
def f_is_greatest_paper : List D → Option DV := fnD N_is_greatest_paper.length (["flat", "paper"] : List Str).length m_is_greatest_paper
def c__law_shows_1 : DS → Option D :=
    (mVar 6)
def b__law_shows_1 : DS → Option Out :=
    (nIf (mB (m2 dIsNot (m2 dIx (mVar 1) (mVar 4)) (mC .none))) (nSeq (nIf (mOrT (mB (m2 dIs (m2 dIx (mVar 2) (mVar 4)) (mC .none))) (mB (m2 dIs (m2 dIx (mVar 3) (mVar 4)) (mC .none)))) (nRet (mC (.bool false))) nNext)
      (nSeq (nIf (mB (m2 dNe (m2 dIx (m2 dIx (mVar 0) (mVar 4)) (mC (.int 0))) (mC (.str "amount")))) (nSeq (nAsg 5 (mLst (mLcI (mItems (m2 dIx (m2 dIx (mVar 0) (mVar 4)) (mC (.int 1)))) (gmPair 6 7) (mAndT (mB (m2 dIsNot (m2 dIx (mVar 1) (mVar 6)) (mC .none))) (mAndT (mB (m2 dIsNot (m2 dIx (mVar 2) (mVar 6)) (mC .none))) (mB (m2 dLt (m2 dIx (mVar 2) (mVar 6)) (m2 dIx (mVar 2) (mVar 4)))))) c__law_shows_1 [6, 7])))
      (nIf (mOrT (mB (m2 dEq (mCall (mCons (mVar 5) mNil) dLen) (mC (.int 0)))) (mAndT (mB (m2 dEq (m2 dIx (m2 dIx (mVar 0) (mVar 4)) (mC (.int 0))) (mC (.str "greatest")))) (mB (m2 dLt (mCall (mCons (mVar 5) mNil) dLen) (mCall (mCons (m2 dIx (m2 dIx (mVar 0) (mVar 4)) (mC (.int 1))) mNil) dLen))))) (nRet (mC (.bool false))) nNext)) nNext)
      (nIf (mNotT (mB (mCallF (mCons (mVar 0) (mCons (mVar 1) (mCons (mVar 4) (mCons (mVar 3) (mCons (m2 dIx (mVar 3) (mVar 4)) mNil))))) f__law_can_be))) (nRet (mC (.bool false))) nNext))) nNext)
def m__law_shows : DS → Option Out :=
    (nSeq (nIf (mB (m2 dNe (mVar 1) (mCallF (mCons (mVar 0) (mCons (mVar 1) mNil)) f__law_flat_values))) (nRet (mC (.bool false))) nNext)
      (nSeq (nFor (mRng1 (mCons (mCall (mCons (mVar 0) mNil) dLen) mNil)) (gmName 4) b__law_shows_1)
      (nRet (mC (.bool true)))))
abbrev N__law_shows : List Str := ["plain", "x", "held", "tight", "k", "less", "j", "c"]
def f__law_shows : List D → Option DV := fnD N__law_shows.length (["plain", "x", "held", "tight"] : List Str).length m__law_shows
def c__law_right_1 : DS → Option D :=
    (mCall (mCons (mVar 10) mNil) dLen)
def c__law_right_2 : DS → Option D :=
    (mVar 9)
def b__law_right_1 : DS → Option Out :=
    (nIf (mAndT (mB (m2 dNotIn (mVar 9) (mVar 3))) (mB (mCallF (mCons (m2 dIx (m2 dIx (mVar 0) (mVar 9)) (mC (.int 2))) (mCons (m2 dIx (mVar 8) (m2 dIx (m2 dIx (mVar 0) (mVar 9)) (mC (.int 1)))) mNil)) f__law_at_most))) (nRet (mC (.bool false))) nNext)
def b__law_right_2 : DS → Option Out :=
    (nSeq (nAsgG (gmQuad 3 4 5 6) (m2 dIx (mVar 1) (mVar 2)))
      (nSeq (nIf (mB (m2 dNe (mLst (mLcI (mItems (mLst (mCons (mVar 4) (mCons (mVar 5) (mCons (mVar 6) mNil))))) (gmName 10) mYes c__law_right_1 [10])) (mLst (mCons (mCall (mCons (mVar 0) mNil) dLen) (mCons (mCall (mCons (mVar 0) mNil) dLen) (mCons (mCall (mCons (mVar 0) mNil) dLen) mNil)))))) (nRet (mC (.bool false))) nNext)
      (nSeq (nIf (mB (m2 dGt (mVar 2) (mC (.int 0)))) (nSeq (nPar 7 8 (mCons (m2 dIx (m2 dIx (mVar 1) (m2 dSub (mVar 2) (mC (.int 1)))) (mC (.int 0))) (mCons (m2 dIx (m2 dIx (mVar 1) (m2 dSub (mVar 2) (mC (.int 1)))) (mC (.int 1))) mNil)))
      (nSeq (nIf (mOrT (mB (m2 dGe (mCall (mCons (mVar 3) mNil) dLen) (mCall (mCons (mVar 7) mNil) dLen))) (mB (m2 dNe (mVar 3) (mLst (mLcI (mItems (mVar 7)) (gmName 9) (mB (m2 dIn (mVar 9) (mVar 3))) c__law_right_2 [9]))))) (nRet (mC (.bool false))) nNext)
      (nFor (mItems (mVar 7)) (gmName 9) b__law_right_1))) nNext)
      (nIf (mNotT (mB (mCallF (mCons (mCallF (mCons (mVar 0) (mCons (mVar 3) mNil)) f__law_opened) (mCons (mVar 4) (mCons (mVar 5) (mCons (mVar 6) mNil)))) f__law_shows))) (nRet (mC (.bool false))) nNext))))
def m__law_right : DS → Option Out :=
    (nSeq (nIf (mOrT (mB (m2 dEq (mCall (mCons (mVar 1) mNil) dLen) (mC (.int 0)))) (mB (m2 dNe (m2 dIx (m2 dIx (mVar 1) (mC (.int 0))) (mC (.int 0))) (mCallF (mCons (mVar 0) mNil) f__law_conditions)))) (nRet (mC (.bool false))) nNext)
      (nSeq (nFor (mRng1 (mCons (mCall (mCons (mVar 1) mNil) dLen) mNil)) (gmName 2) b__law_right_2)
      (nRet (m2 dEq (m2 dIx (m2 dIx (mVar 1) (m1 dNeg (mC (.int 1)))) (mC (.int 1))) (mCallF (mCons (mVar 0) (mCons (m2 dIx (m2 dIx (mVar 1) (m1 dNeg (mC (.int 1)))) (mC (.int 1))) mNil)) f__law_flat_values)))))
abbrev N__law_right : List Str := ["flat", "paper", "n", "places", "x", "held", "tight", "before", "y", "k", "one"]
def f__law_right : List D → Option DV := fnD N__law_right.length (["flat", "paper"] : List Str).length m__law_right
def c__law_stages_1 : DS → Option D :=
    (mVar 6)
def b__law_stages_1 : DS → Option Out :=
    (nSeq (nAsg 4 (mCallF (mCons (mCallF (mCons (mVar 0) (mCons (mVar 1) mNil)) f__law_opened) mNil) f__law_flat_greatest))
      (nSeq (nApp 2 (mTup (mCons (mVar 1) (mCons (mVar 4) mNil))))
      (nSeq (nAsg 5 (mLst (mLcI (mItems (mVar 1)) (gmName 6) (mB (mCallF (mCons (m2 dIx (m2 dIx (mVar 0) (mVar 6)) (mC (.int 2))) (mCons (m2 dIx (mVar 4) (m2 dIx (m2 dIx (mVar 0) (mVar 6)) (mC (.int 1)))) mNil)) f__law_at_most)) c__law_stages_1 [6])))
      (nSeq (nIf (mB (m2 dEq (mVar 5) (mVar 1))) nBrk nNext)
      (nAsg 1 (mVar 5))))))
def m__law_stages : DS → Option Out :=
    (nSeq (nAsg 1 (mCallF (mCons (mVar 0) mNil) f__law_conditions))
      (nSeq (nAsgO 2 mNil)
      (nSeq (nFor (mRng1 (mCons (m2 dAdd (mCall (mCons (mVar 0) mNil) dLen) (mC (.int 2))) mNil)) (gmName 3) b__law_stages_1)
      (nRetX 2))))
abbrev N__law_stages : List Str := ["flat", "places", "found", "turn", "x", "left", "k"]
def f__law_stages : List D → Option DV := fnD N__law_stages.length (["flat"] : List Str).length m__law_stages
def c_law_1 : DS → Option D :=
    (mCallF (mCons (mVar 2) (mCons (mVar 13) mNil)) f__law_stage)
def c_law_2 : DS → Option D :=
    (m2 dAdd (mCall (mCons (m2 dIsNot (mVar 10) (mC .none)) mNil) dInt) (m2 dMul (m2 dMod (mCall (mCons (m2 dIx (mVar 1) (mC (.int 147))) mNil) dInt) (mC (.int 2))) (mVar 15)))
def b_law_1 : DS → Option Out :=
    (nSeq (nAsg 11 (mCallF (mCons (mVar 2) (mCons (mVar 10) mNil)) f_is_greatest_paper))
      (nSeq (nAsg 12 (mCallF (mCons (mVar 2) (mCons (mVar 10) mNil)) f__law_right))
      (nIf (mOrT (mNotT (mB (mIsi "bool" (mVar 11)))) (mOrT (mB (m2 dNe (mVar 11) (mVar 12))) (mAndT (mTru (mVar 12)) (mB (m2 dNe (m2 dIx (m2 dIx (mVar 10) (m1 dNeg (mC (.int 1)))) (mC (.int 1))) (mVar 8)))))) (nRet (mC (.bool false))) nNext)))
def m_law : DS → Option Out :=
    (nSeq (nAsg 1 (mCallF (mCons (mVar 0) (mCons (mC (.int 160)) mNil)) f__law_draws))
      (nSeq (nAsg 2 (mCallF (mCons (mVar 1) (mCons (mC (.int 7)) (mCons (mC (.bool false)) mNil))) f__law_flat))
      (nSeq (nIf (mB (m2 dEq (m2 dMod (mCall (mCons (m2 dIx (mVar 1) (mC (.int 140))) mNil) dInt) (mC (.int 4))) (mC (.int 0)))) (nAsg 2 (mCallF (mCons (mLst (m2O dCat (mLst (mCons (m2 dMod (mCall (mCons (m2 dIx (mVar 1) (mC (.int 141))) mNil) dInt) (mC (.int 5))) mNil)) (mLst (mSlL (mVar 1) (mP (mC (.int 142))) (mP (mC (.int 146))))))) mNil) f__law_row)) nNext)
      (nSeq (nAsg 3 (mLst (mLcI (mItems (mCallF (mCons (mVar 2) mNil) f__law_stages)) (gmPair 13 14) mYes c_law_1 [13, 14])))
      (nSeq (nAsgO 4 (mCons (mLst mNil) (mCons (mLst (mCons (mCallF (mCons (mVar 2) (mCons (mCallF (mCons (mVar 2) mNil) f__law_conditions) mNil)) f__law_stage) mNil)) (mCons (mLst (mCons (mCallF (mCons (mVar 2) (mCons (mLst mNil) mNil)) f__law_stage) mNil)) (mCons (mCallF (mCons (mVar 2) mNil) f__law_one_by_one) mNil)))))
      (nSeq (nFrz 4 (nAsgO 4 (m2O dCat (mLst (m2O dCat (mVar 4) (mCallF (mCons (mVar 3) (mCons (mLst (mSlL (mVar 1) (mP (mC (.int 150))) (mP (mC (.int 153))))) mNil)) f__law_others))) (mCallF (mCons (mCallF (mCons (mVar 2) mNil) f__law_one_by_one) (mCons (mLst (mSlL (mVar 1) (mP (mC (.int 153))) (mP (mC (.int 156))))) mNil)) f__law_others))))
      (nSeq (nAsg 5 (mCallF (mCons (mVar 2) (mCons (mCallF (mCons (mVar 2) mNil) f__law_conditions) mNil)) f__law_opened))
      (nSeq (nAsg 6 (mCallF (mCons (mVar 5) mNil) f__law_flat_least))
      (nSeq (nAsg 7 (mLst (mLcI (mEnum (mCons (mVar 6) mNil)) (gmPair 15 10) mYes c_law_2 [15, 10])))
      (nSeq (nApp 4 (mLst (mCons (mTup (mCons (mCallF (mCons (mVar 2) mNil) f__law_conditions) (mCons (mVar 6) (mCons (mVar 7) (mCons (mCallF (mCons (mVar 5) (mCons (mVar 6) mNil)) f__law_tight) mNil))))) mNil)))
      (nFrz 4 (nSeq (nAsg 8 (mCallF (mCons (mVar 2) mNil) f__law_flat_greatest))
      (nSeq (nAsg 9 (mCall (mCons (mTup (mCons (mVar 2) (mCons (mVar 4) mNil))) mNil) dRepr))
      (nSeq (nFor (mItems (mVar 4)) (gmName 10) b_law_1)
      (nRet (m2 dEq (mCall (mCons (mTup (mCons (mVar 2) (mCons (mVar 4) mNil))) mNil) dRepr) (mVar 9)))))))))))))))))
abbrev N_law : List Str := ["script", "draws", "flat", "paper", "tried", "plain", "low", "filled", "due", "kept", "one", "actual", "right", "places", "x", "k"]
def f_law : List D → Option DV := fnD N_law.length (["script"] : List Str).length m_law
end Law
namespace Law
open PySem PySem.Spec PyProof.Rows L2 Dl
def topS (i : Nat) : Stmt := PySem.Challenge.pw_circlesettle_k52_are_papers_right.main.body.getD i (.Pass ⟨0, 0, 0, 0⟩)
section
variable {Pg : Program} {w : World} {K : PySem.W.Frag} {mg : Str → Option Value} {base : Heap}
abbrev s__law_draws : Stmt := topS 24
theorem sc__law_draws : FnScope N__law_draws ["script", "count"] (defScope s__law_draws) := ⟨rfl, rfl, rfl, by decide +kernel, rfl, by decide +kernel, by decide +kernel⟩
theorem ok__law_draws {f : Addr} {fd : FuncData} (T : Tx K mg "_law_draws" s__law_draws ["script", "count"] f fd) (b_int : mg "int" = none) (b_len : mg "len" = none) (b_range : mg "range" = none) : Df Pg w K mg base 1 "_law_draws" ["script", "count"] f__law_draws :=
  Tx.df (P := Pg) (w := w) (base := base) (k := 0) (mm := m__law_draws) T sc__law_draws fun cdv A outer s H E hr => ⟨_, (pss_cons (ps_setLc (i := 2) rfl sc__law_draws.nd rfl rfl (sw_true rfl rfl rfl (by decide +kernel)) (own := [("cell", 8)]) (pi_list (pv 0)) (blkOk_by (own := [("cell", 8)]) (N := N__law_draws) (sc := defScope s__law_draws) (by decide +kernel)) (fun _ _ _ _ _ => (pg_name (i := 8) sc__law_draws.nd rfl (Or.inl rfl))) (fun _ _ _ _ _ => pts_nil) (fun _ _ _ _ _ => (pv 8)))
      (pss_cons (ps_set (i := 3) sc__law_draws.nd rfl (Or.inl rfl) (pe_lst pa_nil))
      (pss_cons (ps_for PassesOwn.never rfl (pi_range1 rfl b_range (pa_cons (pv 1) pa_nil)) (pg_name (i := 4) sc__law_draws.nd rfl (Or.inl rfl)) (pss_cons (ps_set (i := 5) sc__law_draws.nd rfl (Or.inl rfl) pe_int)
      (pss_cons (ps_if (pt_cmpR op_gt (pe_callB call_len (by rfl) b_len (by decide +kernel) (pa_cons (pv 2) pa_nil)) pe_int (nomark _)) (pss_cons (ps_set (i := 6) sc__law_draws.nd rfl (Or.inl rfl) (pe_op op_mod (pe_callTy call_int1 (by rfl) b_int (by decide +kernel) (pa_cons (pv 4) pa_nil)) (pe_callB call_len (by rfl) b_len (by decide +kernel) (pa_cons (pv 2) pa_nil))))
      (pss_one (ps_if (pt_cmpR op_ge (pe_ix ix_seq (pv 2) (pv 6) (fun _ _ => rfl)) (pe_op op_pow pe_int pe_int) (nomark _)) (pss_cons (ps_set (i := 5) sc__law_draws.nd rfl (Or.inl rfl) (pe_op op_mod (pe_callTy call_int1 (by rfl) b_int (by decide +kernel) (pa_cons (pe_ix ix_seq (pv 2) (pv 6) (fun _ _ => rfl)) pa_nil)) pe_int))
      (pss_one (ps_asg (pe_op op_fdiv (pe_ix ix_seq (pv 2) (pv 6) (fun _ _ => rfl)) pe_int) (pg_sub (pv 2) (pv 6) set_list)))) (pss_cons (ps_set (i := 7) sc__law_draws.nd rfl (Or.inl rfl) (pe_op op_mod (pe_callTy call_int1 (by rfl) b_int (by decide +kernel) (pa_cons (pe_op op_addU (pe_op op_addU (pe_op op_mul (pe_ix ix_seq (pv 2) (pv 6) (fun _ _ => rfl)) pe_int) (pe_op op_mul (pv 4) pe_int)) pe_int) pa_nil)) pe_int))
      (pss_cons (ps_set (i := 7) sc__law_draws.nd rfl (Or.inl rfl) (pe_op op_mod (pe_callTy call_int1 (by rfl) b_int (by decide +kernel) (pa_cons (pe_op op_addU (pe_op op_mul (pv 7) pe_int) (pv 6)) pa_nil)) pe_int))
      (pss_one (ps_set (i := 5) sc__law_draws.nd rfl (Or.inl rfl) (pe_op op_mod (pe_callTy call_int1 (by rfl) b_int (by decide +kernel) (pa_cons (pe_op op_fdiv (pv 7) pe_int) pa_nil)) pe_int)))))))) pss_nil)
      (pss_one (ps_expr (pe_bm PySem.F.plainAttrs_list PySem.F.slot_list_append PySem.F.type_list_append mt_append (pv 3) (pa_cons (pv 5) pa_nil)))))))
      (pss_one (ps_ret (pv 3)))))),
    (sd_seq (sd_asgO (eo_lcI (vs := [8]) (ei_list ev_var) eg_name et_yes ev_var))
      (sd_seq (sd_asgO (eo_lst ea_nil))
      (sd_seq (sd_for (ei_rng1 (ea_cons ev_var ea_nil)) eg_name (sd_seq (sd_asg ev_int)
      (sd_seq (sd_if (EvT.bor (et_test (ev_op (ev_cb (ea_cons ev_var ea_nil) cd_len) ev_int od_gt))) (sd_seq (sd_asg (Ev.bor (ev_op (ev_cb (ea_cons ev_var ea_nil) cd_int) (ev_cb (ea_cons ev_var ea_nil) cd_len) od_mod)))
      (sd_if (EvT.bor (et_test (ev_op (ev_op ev_var ev_var od_ix) (ev_op ev_int ev_int od_pow) od_ge))) (sd_seq (sd_asg (Ev.bor (ev_op (ev_cb (ea_cons (ev_op ev_var ev_var od_ix) ea_nil) cd_int) ev_int od_mod)))
      (sd_setI (Ev.bor (ev_op (ev_op ev_var ev_var od_ix) ev_int od_div)) ev_var)) (sd_seq (sd_asg (Ev.bor (ev_op (ev_cb (ea_cons (ev_op (ev_op (ev_op (ev_op ev_var ev_var od_ix) ev_int od_mul) (ev_op ev_var ev_int od_mul) od_add) ev_int od_add) ea_nil) cd_int) ev_int od_mod)))
      (sd_seq (sd_asg (ev_op (ev_cb (ea_cons (ev_op (ev_op ev_var ev_int od_mul) ev_var od_add) ea_nil) cd_int) ev_int od_mod))
      (sd_asg (ev_op (ev_cb (ea_cons (ev_op ev_var ev_int od_div) ea_nil) cd_int) ev_int od_mod)))))) sd_next)
      (sd_app ev_var))))
      sd_retX)))⟩
abbrev s__law_arcs : Stmt := topS 28
theorem sc__law_arcs : FnScope N__law_arcs ["draws", "many"] (defScope s__law_arcs) := ⟨rfl, rfl, rfl, by decide +kernel, rfl, by decide +kernel, by decide +kernel⟩
theorem ok__law_arcs {f : Addr} {fd : FuncData} (T : Tx K mg "_law_arcs" s__law_arcs ["draws", "many"] f fd) (b_int : mg "int" = none) (b_range : mg "range" = none) : Df Pg w K mg base 1 "_law_arcs" ["draws", "many"] f__law_arcs :=
  Tx.df (P := Pg) (w := w) (base := base) (k := 0) (mm := m__law_arcs) T sc__law_arcs fun cdv A outer s H E hr => ⟨_, (pss_one (ps_ret (pe_lc (own := [("k", 2)]) rfl sc__law_arcs.nd (pi_range1 rfl b_range (pa_cons (pe_ix ix_seq (pe_lst (pa_cons pe_int (pa_cons pe_int (pa_cons pe_int (pa_cons pe_int (pa_cons pe_int (pa_cons pe_int pa_nil))))))) (pe_op op_mod (pe_callTy call_int1 (by rfl) b_int (by decide +kernel) (pa_cons (pe_ix ix_seq (pv 0) pe_int (fun _ _ => rfl)) pa_nil)) pe_int) (fun _ _ => rfl)) pa_nil)) (blkOk_by (own := [("k", 2)]) (N := N__law_arcs) (sc := defScope s__law_arcs) (by decide +kernel)) (fun _ _ _ _ _ => (pg_name (i := 2) sc__law_arcs.nd rfl (Or.inl rfl))) (fun _ _ _ _ _ => pts_nil) (fun _ _ _ _ _ => (pe_tup (pa_cons (pe_op op_mod (pe_callTy call_int1 (by rfl) b_int (by decide +kernel) (pa_cons (pe_ix ix_seq (pv 0) (pe_op op_addU pe_int (pe_op op_mul pe_int (pv 2))) (fun _ _ => rfl)) pa_nil)) (pv 1)) (pa_cons (pe_op op_sub (pe_op op_mod (pe_callTy call_int1 (by rfl) b_int (by decide +kernel) (pa_cons (pe_ix ix_seq (pv 0) (pe_op op_addU pe_int (pe_op op_mul pe_int (pv 2))) (fun _ _ => rfl)) pa_nil)) pe_int) pe_int) pa_nil))))))),
    (sd_retO (eo_lcI (vs := [2]) (ei_rng1 (ea_cons (ev_op (EvO.ev (eo_lst (ea_cons ev_int (ea_cons ev_int (ea_cons ev_int (ea_cons ev_int (ea_cons ev_int (ea_cons ev_int ea_nil)))))))) (ev_op (ev_cb (ea_cons (ev_op ev_var ev_int od_ix) ea_nil) cd_int) ev_int od_mod) od_ix) ea_nil)) eg_name et_yes (ev_tup (ea_cons (ev_op (ev_cb (ea_cons (ev_op ev_var (ev_op ev_int (ev_op ev_int ev_var od_mul) od_add) od_ix) ea_nil) cd_int) ev_var od_mod) (ea_cons (ev_op (ev_op (ev_cb (ea_cons (ev_op ev_var (ev_op ev_int (ev_op ev_int ev_var od_mul) od_add) od_ix) ea_nil) cd_int) ev_int od_mod) ev_int od_sub) ea_nil)))))⟩
abbrev s__law_flat : Stmt := topS 29
theorem sc__law_flat : FnScope N__law_flat ["draws", "most", "plain"] (defScope s__law_flat) := ⟨rfl, rfl, rfl, by decide +kernel, rfl, by decide +kernel, by decide +kernel⟩
theorem ok__law_flat {f : Addr} {fd : FuncData} (T : Tx K mg "_law_flat" s__law_flat ["draws", "most", "plain"] f fd) (D__law_arcs : Df Pg w K mg base 1 "_law_arcs" ["draws", "many"] f__law_arcs) (b_int : mg "int" = none) (b_range : mg "range" = none) : Df Pg w K mg base 2 "_law_flat" ["draws", "most", "plain"] f__law_flat :=
  Tx.df (P := Pg) (w := w) (base := base) (k := 1) (mm := m__law_flat) T sc__law_flat fun cdv A outer s H E hr => ⟨_, (pss_cons (ps_set (i := 3) sc__law_flat.nd rfl (Or.inl rfl) (pe_op op_addU pe_int (pe_op op_mod (pe_callTy call_int1 (by rfl) b_int (by decide +kernel) (pa_cons (pe_ix ix_seq (pv 0) pe_int (fun _ _ => rfl)) pa_nil)) (pv 1))))
      (pss_cons (ps_set (i := 4) sc__law_flat.nd rfl (Or.inl rfl) (pe_lst pa_nil))
      (pss_cons (ps_for PassesOwn.never rfl (pi_range1 rfl b_range (pa_cons (pv 3) pa_nil)) (pg_name (i := 5) sc__law_flat.nd rfl (Or.inl rfl)) (pss_cons (ps_set (i := 6) sc__law_flat.nd rfl (Or.inl rfl) (pe_slice sl_list (pv 0) (po_some (pe_op op_addU pe_int (pe_op op_mul pe_int (pv 5)))) (po_some (pe_op op_addU pe_int (pe_op op_mul pe_int (pv 5))))))
      (pss_cons (ps_set (i := 7) sc__law_flat.nd rfl (Or.inl rfl) (pe_op op_mod (pe_callTy call_int1 (by rfl) b_int (by decide +kernel) (pa_cons (pe_ix ix_seq (pv 6) pe_int (fun _ _ => rfl)) pa_nil)) pe_int))
      (pss_one (ps_if (pt_cmpR op_lt (pv 7) pe_int (nomark _)) (pss_one (ps_expr (pe_bm PySem.F.plainAttrs_list PySem.F.slot_list_append PySem.F.type_list_append mt_append (pv 4) (pa_cons (pe_tup (pa_cons pe_str (pa_cons (pe_ix ix_seq (pe_lst (pa_cons (pe_op op_mod (pe_callTy call_int1 (by rfl) b_int (by decide +kernel) (pa_cons (pe_ix ix_seq (pv 6) pe_int (fun _ _ => rfl)) pa_nil)) pe_int) (pa_cons pe_non pa_nil))) (pe_callTy call_int1 (by rfl) b_int (by decide +kernel) (pa_cons (pe_cmpR (op_eqU hr.units) (pe_op op_mod (pe_callTy call_int1 (by rfl) b_int (by decide +kernel) (pa_cons (pe_ix ix_seq (pv 6) pe_int (fun _ _ => rfl)) pa_nil)) pe_int) pe_int (nomark _)) pa_nil)) (fun _ _ => rfl)) pa_nil))) pa_nil)))) (pss_one (ps_if (PW.pt (pw_and (pt_cmpR (op_eqU hr.units) (pv 7) pe_int (nomark _)) (pw_and1 (pt_not (pt_truth (pv 2) (by intro _; rfl)))))) (pss_one (ps_expr (pe_bm PySem.F.plainAttrs_list PySem.F.slot_list_append PySem.F.type_list_append mt_append (pv 4) (pa_cons (pe_tup (pa_cons pe_str (pa_cons (pe_op op_mod (pe_callTy call_int1 (by rfl) b_int (by decide +kernel) (pa_cons (pe_ix ix_seq (pv 6) pe_int (fun _ _ => rfl)) pa_nil)) (pv 3)) (pa_cons (pe_op op_addU pe_int (pe_op op_mod (pe_callTy call_int1 (by rfl) b_int (by decide +kernel) (pa_cons (pe_ix ix_seq (pv 6) pe_int (fun _ _ => rfl)) pa_nil)) pe_int)) (pa_cons (pe_op op_mod (pe_callTy call_int1 (by rfl) b_int (by decide +kernel) (pa_cons (pe_ix ix_seq (pv 6) pe_int (fun _ _ => rfl)) pa_nil)) (pv 3)) pa_nil))))) pa_nil)))) (pss_one (ps_expr (pe_bm PySem.F.plainAttrs_list PySem.F.slot_list_append PySem.F.type_list_append mt_append (pv 4) (pa_cons (pe_tup (pa_cons (pe_ix ix_seq (pe_lst (pa_cons pe_str (pa_cons pe_str pa_nil))) (pe_op op_mod (pe_callTy call_int1 (by rfl) b_int (by decide +kernel) (pa_cons (pv 7) pa_nil)) pe_int) (fun _ _ => rfl)) (pa_cons (pe_d D__law_arcs (hr.mono (by omega)) (by rfl) (pa_cons (pe_slice sl_list (pv 6) (po_some pe_int) (po_some pe_int)) (pa_cons (pv 3) pa_nil))) pa_nil))) pa_nil)))))))))))
      (pss_one (ps_ret (pv 4)))))),
    (sd_seq (sd_asg (ev_op ev_int (ev_op (ev_cb (ea_cons (ev_op ev_var ev_int od_ix) ea_nil) cd_int) ev_var od_mod) od_add))
      (sd_seq (sd_asgO (eo_lst ea_nil))
      (sd_seq (sd_for (ei_rng1 (ea_cons ev_var ea_nil)) eg_name (sd_seq (sd_asg (EvO.ev (eo_slL ev_var (ep_some (ev_op ev_int (ev_op ev_int ev_var od_mul) od_add)) (ep_some (ev_op ev_int (ev_op ev_int ev_var od_mul) od_add)))))
      (sd_seq (sd_asg (ev_op (ev_cb (ea_cons (ev_op ev_var ev_int od_ix) ea_nil) cd_int) ev_int od_mod))
      (sd_if (et_test (ev_op ev_var ev_int od_lt)) (sd_app (ev_tup (ea_cons ev_str (ea_cons (ev_op (EvO.ev (eo_lst (ea_cons (ev_op (ev_cb (ea_cons (ev_op ev_var ev_int od_ix) ea_nil) cd_int) ev_int od_mod) (ea_cons ev_non ea_nil)))) (ev_cb (ea_cons (ev_op (ev_op (ev_cb (ea_cons (ev_op ev_var ev_int od_ix) ea_nil) cd_int) ev_int od_mod) ev_int od_eq) ea_nil) cd_int) od_ix) ea_nil)))) (sd_if (et_and (et_test (ev_op ev_var ev_int od_eq)) (et_not (et_tru ev_var))) (sd_app (ev_tup (ea_cons ev_str (ea_cons (ev_op (ev_cb (ea_cons (ev_op ev_var ev_int od_ix) ea_nil) cd_int) ev_var od_mod) (ea_cons (ev_op ev_int (ev_op (ev_cb (ea_cons (ev_op ev_var ev_int od_ix) ea_nil) cd_int) ev_int od_mod) od_add) (ea_cons (ev_op (ev_cb (ea_cons (ev_op ev_var ev_int od_ix) ea_nil) cd_int) ev_var od_mod) ea_nil)))))) (sd_app (ev_tup (ea_cons (ev_op (EvO.ev (eo_lst (ea_cons ev_str (ea_cons ev_str ea_nil)))) (ev_op (ev_cb (ea_cons ev_var ea_nil) cd_int) ev_int od_mod) od_ix) (ea_cons (ev_call (ea_cons (EvO.ev (eo_slL ev_var (ep_some ev_int) (ep_some ev_int))) (ea_cons ev_var ea_nil))) ea_nil)))))))))
      sd_retX)))⟩
abbrev s__law_opened : Stmt := topS 35
theorem sc__law_opened : FnScope N__law_opened ["flat", "places"] (defScope s__law_opened) := ⟨rfl, rfl, rfl, by decide +kernel, rfl, by decide +kernel, by decide +kernel⟩
theorem ok__law_opened {f : Addr} {fd : FuncData} (T : Tx K mg "_law_opened" s__law_opened ["flat", "places"] f fd) (b_int : mg "int" = none) (b_len : mg "len" = none) (b_range : mg "range" = none) : Df Pg w K mg base 1 "_law_opened" ["flat", "places"] f__law_opened :=
  Tx.df (P := Pg) (w := w) (base := base) (k := 0) (mm := m__law_opened) T sc__law_opened fun cdv A outer s H E hr => ⟨_, (pss_cons (ps_set (i := 2) sc__law_opened.nd rfl (Or.inl rfl) (pe_lst pa_nil))
      (pss_cons (ps_for PassesOwn.never rfl (pi_range1 rfl b_range (pa_cons (pe_callB call_len (by rfl) b_len (by decide +kernel) (pa_cons (pv 0) pa_nil)) pa_nil)) (pg_name (i := 3) sc__law_opened.nd rfl (Or.inl rfl)) (pss_one (ps_if (pt_cmpR (op_eqU hr.units) (pe_ix ix_seq (pe_ix ix_seq (pv 0) (pv 3) (fun _ _ => rfl)) pe_int (fun _ _ => rfl)) pe_str (nomark _)) (pss_one (ps_expr (pe_bm PySem.F.plainAttrs_list PySem.F.slot_list_append PySem.F.type_list_append mt_append (pv 2) (pa_cons (pe_ix ix_seq (pe_lst (pa_cons (pe_tup (pa_cons pe_str (pa_cons pe_int pa_nil))) (pa_cons (pe_tup (pa_cons pe_str (pa_cons (pe_lst (pa_cons (pe_tup (pa_cons (pe_ix ix_seq (pe_ix ix_seq (pv 0) (pv 3) (fun _ _ => rfl)) pe_int (fun _ _ => rfl)) (pa_cons pe_int pa_nil))) pa_nil)) pa_nil))) pa_nil))) (pe_callTy call_int1 (by rfl) b_int (by decide +kernel) (pa_cons (pe_cmpR op_in_seq (pv 3) (pv 1) (by rfl)) pa_nil)) (fun _ _ => rfl)) pa_nil)))) (pss_one (ps_expr (pe_bm PySem.F.plainAttrs_list PySem.F.slot_list_append PySem.F.type_list_append mt_append (pv 2) (pa_cons (pe_ix ix_seq (pv 0) (pv 3) (fun _ _ => rfl)) pa_nil)))))))
      (pss_one (ps_ret (pv 2))))),
    (sd_seq (sd_asgO (eo_lst ea_nil))
      (sd_seq (sd_for (ei_rng1 (ea_cons (ev_cb (ea_cons ev_var ea_nil) cd_len) ea_nil)) eg_name (sd_if (et_test (ev_op (ev_op (ev_op ev_var ev_var od_ix) ev_int od_ix) ev_str od_eq)) (sd_app (ev_op (EvO.ev (eo_lst (ea_cons (ev_tup (ea_cons ev_str (ea_cons ev_int ea_nil))) (ea_cons (ev_tup (ea_cons ev_str (ea_cons (EvO.ev (eo_lst (ea_cons (ev_tup (ea_cons (ev_op (ev_op ev_var ev_var od_ix) ev_int od_ix) (ea_cons ev_int ea_nil))) ea_nil))) ea_nil))) ea_nil)))) (ev_cb (ea_cons (ev_op ev_var ev_var od_in) ea_nil) cd_int) od_ix)) (sd_app (ev_op ev_var ev_var od_ix))))
      sd_retX))⟩
abbrev s__law_at_most : Stmt := topS 25
theorem sc__law_at_most : FnScope N__law_at_most ["a", "b"] (defScope s__law_at_most) := ⟨rfl, rfl, rfl, by decide +kernel, rfl, by decide +kernel, by decide +kernel⟩
theorem ok__law_at_most {f : Addr} {fd : FuncData} (T : Tx K mg "_law_at_most" s__law_at_most ["a", "b"] f fd) : Df Pg w K mg base 1 "_law_at_most" ["a", "b"] f__law_at_most :=
  Tx.df (P := Pg) (w := w) (base := base) (k := 0) (mm := m__law_at_most) T sc__law_at_most fun cdv A outer s H E hr => ⟨_, (pss_one (ps_ret (pe_or (pe_cmpR op_isU (pv 1) pe_non (nomark _)) (pe_one (pe_and (pe_cmpR op_notU (pv 0) pe_non (nomark _)) (pe_one (pe_cmpR op_le (pv 0) (pv 1) (nomark _)))))))),
    (sd_ret (ev_or (ev_op ev_var ev_non od_is) (ev_and (ev_op ev_var ev_non od_isNot) (ev_op ev_var ev_var od_le))))⟩
abbrev s__law_one_of : Stmt := topS 27
theorem sc__law_one_of : FnScope N__law_one_of ["amounts", "least"] (defScope s__law_one_of) := ⟨rfl, rfl, rfl, by decide +kernel, rfl, by decide +kernel, by decide +kernel⟩
theorem ok__law_one_of {f : Addr} {fd : FuncData} (T : Tx K mg "_law_one_of" s__law_one_of ["amounts", "least"] f fd) (D__law_at_most : Df Pg w K mg base 1 "_law_at_most" ["a", "b"] f__law_at_most) : Df Pg w K mg base 2 "_law_one_of" ["amounts", "least"] f__law_one_of :=
  Tx.df (P := Pg) (w := w) (base := base) (k := 1) (mm := m__law_one_of) T sc__law_one_of fun cdv A outer s H E hr => ⟨_, (pss_cons (ps_set (i := 2) sc__law_one_of.nd rfl (Or.inl rfl) (pe_ix ix_seq (pv 0) pe_int (fun _ _ => rfl)))
      (pss_cons (ps_for PassesOwn.never rfl (pi_list (pv 0)) (pg_name (i := 3) sc__law_one_of.nd rfl (Or.inl rfl)) (pss_one (ps_if (PW.pt (pw_and (pt_cmpR (op_eqU hr.units) (pe_d D__law_at_most (hr.mono (by omega)) (by rfl) (pa_cons (pv 3) (pa_cons (pv 2) pa_nil))) (pv 1) (nomark _)) (pw_and1 (pt_cmpR (op_neU hr.units) (pv 3) (pv 2) (nomark _))))) (pss_one (ps_set (i := 2) sc__law_one_of.nd rfl (Or.inl rfl) (pv 3))) pss_nil)))
      (pss_one (ps_ret (pv 2))))),
    (sd_seq (sd_asg (ev_op ev_var ev_int od_ix))
      (sd_seq (sd_for (ei_list ev_var) eg_name (sd_if (et_and (et_test (ev_op (ev_call (ea_cons ev_var (ea_cons ev_var ea_nil))) ev_var od_eq)) (et_test (ev_op ev_var ev_var od_ne))) (sd_asg ev_var) sd_next))
      (sd_ret ev_var)))⟩
abbrev s__law_shifted : Stmt := topS 26
theorem sc__law_shifted : FnScope N__law_shifted ["a", "c"] (defScope s__law_shifted) := ⟨rfl, rfl, rfl, by decide +kernel, rfl, by decide +kernel, by decide +kernel⟩
theorem ok__law_shifted {f : Addr} {fd : FuncData} (T : Tx K mg "_law_shifted" s__law_shifted ["a", "c"] f fd) (b_max : mg "max" = none) : Df Pg w K mg base 1 "_law_shifted" ["a", "c"] f__law_shifted :=
  Tx.df (P := Pg) (w := w) (base := base) (k := 0) (mm := m__law_shifted) T sc__law_shifted fun cdv A outer s H E hr => ⟨_, (pss_cons (ps_if (pt_cmpR op_isU (pv 0) pe_non (nomark _)) (pss_one (ps_ret pe_non)) pss_nil)
      (pss_one (ps_ret (pe_callB (call_max2 rfl) (by rfl) b_max (by decide +kernel) (pa_cons pe_int (pa_cons (pe_op op_addU (pv 0) (pv 1)) pa_nil)))))),
    (sd_seq (sd_if (et_test (ev_op ev_var ev_non od_is)) (sd_ret ev_non) sd_next)
      (sd_ret (ev_cb (ea_cons ev_int (ea_cons (ev_op ev_var ev_var od_add) ea_nil)) cd_max2)))⟩
abbrev s__law_flat_value : Stmt := topS 30
theorem sc__law_flat_value : FnScope N__law_flat_value ["formula", "x"] (defScope s__law_flat_value) := ⟨rfl, rfl, rfl, by decide +kernel, rfl, by decide +kernel, by decide +kernel⟩
theorem ok__law_flat_value {f : Addr} {fd : FuncData} (T : Tx K mg "_law_flat_value" s__law_flat_value ["formula", "x"] f fd) (D__law_at_most : Df Pg w K mg base 1 "_law_at_most" ["a", "b"] f__law_at_most) (D__law_one_of : Df Pg w K mg base 2 "_law_one_of" ["amounts", "least"] f__law_one_of) (D__law_shifted : Df Pg w K mg base 1 "_law_shifted" ["a", "c"] f__law_shifted) : Df Pg w K mg base 3 "_law_flat_value" ["formula", "x"] f__law_flat_value :=
  Tx.df (P := Pg) (w := w) (base := base) (k := 2) (mm := m__law_flat_value) T sc__law_flat_value fun cdv A outer s H E hr => ⟨_, (pss_cons (ps_if (pt_cmpR (op_eqU hr.units) (pe_ix ix_seq (pv 0) pe_int (fun _ _ => rfl)) pe_str (nomark _)) (pss_one (ps_ret (pe_ix ix_seq (pv 0) pe_int (fun _ _ => rfl)))) pss_nil)
      (pss_cons (ps_if (pt_cmpR (op_eqU hr.units) (pe_ix ix_seq (pv 0) pe_int (fun _ _ => rfl)) pe_str (nomark _)) (pss_cons (ps_if (pt_val (pe_d D__law_at_most (hr.mono (by omega)) (by rfl) (pa_cons (pe_ix ix_seq (pv 0) pe_int (fun _ _ => rfl)) (pa_cons (pe_ix ix_seq (pv 1) (pe_ix ix_seq (pv 0) pe_int (fun _ _ => rfl)) (fun _ _ => rfl)) pa_nil)))) (pss_one (ps_ret (pe_ix ix_seq (pv 1) (pe_ix ix_seq (pv 0) pe_int (fun _ _ => rfl)) (fun _ _ => rfl)))) pss_nil)
      (pss_one (ps_ret pe_int))) pss_nil)
      (pss_one (ps_ret (pe_d D__law_one_of (hr.mono (by omega)) (by rfl) (pa_cons (pe_lc (own := [("j", 2), ("c", 3)]) rfl sc__law_flat_value.nd (pi_list (pe_ix ix_seq (pv 0) pe_int (fun _ _ => rfl))) (blkOk_by (own := [("j", 2), ("c", 3)]) (N := N__law_flat_value) (sc := defScope s__law_flat_value) (by decide +kernel)) (fun _ _ _ _ _ => (pg_tup rfl (pgs_cons (pg_name (i := 2) sc__law_flat_value.nd rfl (Or.inl rfl)) (pgs_cons (pg_name (i := 3) sc__law_flat_value.nd rfl (Or.inl rfl)) pgs_nil)))) (fun _ _ _ _ _ => pts_nil) (fun _ _ _ _ _ => (pe_d D__law_shifted (hr.mono (by omega)) (by rfl) (pa_cons (pe_ix ix_seq (pv 1) (pv 2) (fun _ _ => rfl)) (pa_cons (pv 3) pa_nil))))) (pa_cons (pe_cmpR (op_eqU hr.units) (pe_ix ix_seq (pv 0) pe_int (fun _ _ => rfl)) pe_str (nomark _)) pa_nil))))))),
    (sd_seq (sd_if (et_test (ev_op (ev_op ev_var ev_int od_ix) ev_str od_eq)) (sd_ret (ev_op ev_var ev_int od_ix)) sd_next)
      (sd_seq (sd_if (et_test (ev_op (ev_op ev_var ev_int od_ix) ev_str od_eq)) (sd_seq (sd_if (et_B (ev_call (ea_cons (ev_op ev_var ev_int od_ix) (ea_cons (ev_op ev_var (ev_op ev_var ev_int od_ix) od_ix) ea_nil)))) (sd_ret (ev_op ev_var (ev_op ev_var ev_int od_ix) od_ix)) sd_next)
      (sd_ret ev_int)) sd_next)
      (sd_retC (ea_cons (EvO.ev (eo_lcI (vs := [2, 3]) (ei_list (ev_op ev_var ev_int od_ix)) eg_pair et_yes (ev_call (ea_cons (ev_op ev_var ev_var od_ix) (ea_cons ev_var ea_nil))))) (ea_cons (ev_op (ev_op ev_var ev_int od_ix) ev_str od_eq) ea_nil)))))⟩
abbrev s__law_flat_values : Stmt := topS 31
theorem sc__law_flat_values : FnScope N__law_flat_values ["flat", "x"] (defScope s__law_flat_values) := ⟨rfl, rfl, rfl, by decide +kernel, rfl, by decide +kernel, by decide +kernel⟩
theorem ok__law_flat_values {f : Addr} {fd : FuncData} (T : Tx K mg "_law_flat_values" s__law_flat_values ["flat", "x"] f fd) (D__law_flat_value : Df Pg w K mg base 3 "_law_flat_value" ["formula", "x"] f__law_flat_value) : Df Pg w K mg base 4 "_law_flat_values" ["flat", "x"] f__law_flat_values :=
  Tx.df (P := Pg) (w := w) (base := base) (k := 3) (mm := m__law_flat_values) T sc__law_flat_values fun cdv A outer s H E hr => ⟨_, (pss_one (ps_ret (pe_lc (own := [("formula", 2)]) rfl sc__law_flat_values.nd (pi_list (pv 0)) (blkOk_by (own := [("formula", 2)]) (N := N__law_flat_values) (sc := defScope s__law_flat_values) (by decide +kernel)) (fun _ _ _ _ _ => (pg_name (i := 2) sc__law_flat_values.nd rfl (Or.inl rfl))) (fun _ _ _ _ _ => pts_nil) (fun _ _ _ _ _ => (pe_d D__law_flat_value (hr.mono (by omega)) (by rfl) (pa_cons (pv 2) (pa_cons (pv 1) pa_nil))))))),
    (sd_retO (eo_lcI (vs := [2]) (ei_list ev_var) eg_name et_yes (ev_call (ea_cons ev_var (ea_cons ev_var ea_nil)))))⟩
abbrev s__law_flat_least : Stmt := topS 32
theorem sc__law_flat_least : FnScope N__law_flat_least ["flat"] (defScope s__law_flat_least) := ⟨rfl, rfl, rfl, by decide +kernel, rfl, by decide +kernel, by decide +kernel⟩
theorem ok__law_flat_least {f : Addr} {fd : FuncData} (T : Tx K mg "_law_flat_least" s__law_flat_least ["flat"] f fd) (D__law_flat_values : Df Pg w K mg base 4 "_law_flat_values" ["flat", "x"] f__law_flat_values) (b_max : mg "max" = none) (b_range : mg "range" = none) : Df Pg w K mg base 5 "_law_flat_least" ["flat"] f__law_flat_least :=
  Tx.df (P := Pg) (w := w) (base := base) (k := 4) (mm := m__law_flat_least) T sc__law_flat_least fun cdv A outer s H E hr => ⟨_, (pss_cons (ps_setLc (i := 1) rfl sc__law_flat_least.nd rfl rfl (sw_true rfl rfl rfl (by decide +kernel)) (own := [("formula", 3)]) (pi_list (pv 0)) (blkOk_by (own := [("formula", 3)]) (N := N__law_flat_least) (sc := defScope s__law_flat_least) (by decide +kernel)) (fun _ _ _ _ _ => (pg_name (i := 3) sc__law_flat_least.nd rfl (Or.inl rfl))) (fun _ _ _ _ _ => pts_one (pt_cmpR (op_eqU hr.units) (pe_ix ix_seq (pv 3) pe_int (fun _ _ => rfl)) pe_str (nomark _))) (fun _ _ _ _ _ => (pe_orT (pe_ix ix_seq (pv 3) pe_int (fun _ _ => rfl)) (pe_one pe_int))))
      (pss_cons (ps_set (i := 2) sc__law_flat_least.nd rfl (Or.inl rfl) (pe_op op_addU pe_int (pe_callB (cr_max rfl) (by rfl) b_max (by decide +kernel) (pa_cons (pe_op op_catS (pe_lst (pa_cons pe_int pa_nil)) (pv 1)) pa_nil))))
      (pss_cons (ps_for PassesOwn.never rfl (pi_list (pv 0)) (pg_name (i := 3) sc__law_flat_least.nd rfl (Or.inl rfl)) (pss_one (ps_if (PW.pt (pw_or (pt_cmpR (op_eqU hr.units) (pe_ix ix_seq (pv 3) pe_int (fun _ _ => rfl)) pe_str (nomark _)) (pw_or1 (pt_cmpR (op_eqU hr.units) (pe_ix ix_seq (pv 3) pe_int (fun _ _ => rfl)) pe_str (nomark _))))) (pss_one (ps_set (i := 2) sc__law_flat_least.nd rfl (Or.inl rfl) (pe_op op_addU (pv 2) (pe_callB (cr_max rfl) (by rfl) b_max (by decide +kernel) (pa_cons (pe_op op_catS (pe_lst (pa_cons pe_int pa_nil)) (pe_lc (own := [("j", 8), ("c", 9)]) rfl sc__law_flat_least.nd (pi_list (pe_ix ix_seq (pv 3) pe_int (fun _ _ => rfl))) (blkOk_by (own := [("j", 8), ("c", 9)]) (N := N__law_flat_least) (sc := defScope s__law_flat_least) (by decide +kernel)) (fun _ _ _ _ _ => (pg_tup rfl (pgs_cons (pg_name (i := 8) sc__law_flat_least.nd rfl (Or.inl rfl)) (pgs_cons (pg_name (i := 9) sc__law_flat_least.nd rfl (Or.inl rfl)) pgs_nil)))) (fun _ _ _ _ _ => pts_nil) (fun _ _ _ _ _ => (pv 9)))) pa_nil))))) pss_nil)))
      (pss_cons (ps_setLc (i := 4) rfl sc__law_flat_least.nd rfl rfl (sw_true rfl rfl rfl (by decide +kernel)) (own := [("formula", 3)]) (pi_list (pv 0)) (blkOk_by (own := [("formula", 3)]) (N := N__law_flat_least) (sc := defScope s__law_flat_least) (by decide +kernel)) (fun _ _ _ _ _ => (pg_name (i := 3) sc__law_flat_least.nd rfl (Or.inl rfl))) (fun _ _ _ _ _ => pts_nil) (fun _ _ _ _ _ => pe_int))
      (pss_cons (ps_for PassesOwn.never rfl (pi_range1 rfl b_range (pa_cons pe_int pa_nil)) (pg_name (i := 5) sc__law_flat_least.nd rfl (Or.inl rfl)) (pss_cons (ps_set (i := 6) sc__law_flat_least.nd rfl (Or.inl rfl) (pe_lst pa_nil))
      (pss_cons (ps_for PassesOwn.never rfl (pi_list (pe_d D__law_flat_values (hr.mono (by omega)) (by rfl) (pa_cons (pv 0) (pa_cons (pv 4) pa_nil)))) (pg_name (i := 7) sc__law_flat_least.nd rfl (Or.inl rfl)) (pss_cons (ps_if (PW.pt (pw_and (pt_cmpR op_notU (pv 7) pe_non (nomark _)) (pw_and1 (pt_cmpR op_gt (pv 7) (pv 2) (nomark _))))) (pss_one (ps_set (i := 7) sc__law_flat_least.nd rfl (Or.inl rfl) pe_non)) pss_nil)
      (pss_one (ps_expr (pe_bm PySem.F.plainAttrs_list PySem.F.slot_list_append PySem.F.type_list_append mt_append (pv 6) (pa_cons (pv 7) pa_nil))))))
      (pss_cons (ps_if (pt_cmpR (op_eqU hr.units) (pv 6) (pv 4) (nomark _)) (pss_one ps_break) pss_nil)
      (pss_one (ps_set (i := 4) sc__law_flat_least.nd rfl (Or.inl rfl) (pv 6)))))))
      (pss_one (ps_ret (pv 4)))))))),
    (sd_seq (sd_asg (EvO.ev (eo_lcI (vs := [3]) (ei_list ev_var) eg_name (et_test (ev_op (ev_op ev_var ev_int od_ix) ev_str od_eq)) (ev_orT (ev_op ev_var ev_int od_ix) ev_int))))
      (sd_seq (sd_asg (ev_op ev_int (ev_cb (ea_cons (EvO.ev (eo_op (EvO.ev (eo_lst (ea_cons ev_int ea_nil))) ev_var od_cat)) ea_nil) cd_maxL) od_add))
      (sd_seq (sd_for (ei_list ev_var) eg_name (sd_if (et_or (et_test (ev_op (ev_op ev_var ev_int od_ix) ev_str od_eq)) (et_test (ev_op (ev_op ev_var ev_int od_ix) ev_str od_eq))) (sd_asg (ev_op ev_var (ev_cb (ea_cons (EvO.ev (eo_op (EvO.ev (eo_lst (ea_cons ev_int ea_nil))) (EvO.ev (eo_lcI (vs := [8, 9]) (ei_list (ev_op ev_var ev_int od_ix)) eg_pair et_yes ev_var)) od_cat)) ea_nil) cd_maxL) od_add)) sd_next))
      (sd_seq (sd_asg (EvO.ev (eo_lcI (vs := [3]) (ei_list ev_var) eg_name et_yes ev_int)))
      (sd_seq (sd_for (ei_rng1 (ea_cons ev_int ea_nil)) eg_name (sd_seq (sd_asgO (eo_lst ea_nil))
      (sd_seq (sd_for (ei_list (ev_call (ea_cons ev_var (ea_cons ev_var ea_nil)))) eg_name (sd_seq (sd_if (et_and (et_test (ev_op ev_var ev_non od_isNot)) (et_test (ev_op ev_var ev_var od_gt))) (sd_asg ev_non) sd_next)
      (sd_app ev_var)))
      (sd_seq (sd_if (EvT.bor (et_test (ev_op ev_var ev_var od_eq))) sd_brk sd_next)
      (sd_frz 6 (sd_asg ev_var))))))
      (sd_ret ev_var))))))⟩
abbrev s__law_flat_greatest : Stmt := topS 33
theorem sc__law_flat_greatest : FnScope N__law_flat_greatest ["flat"] (defScope s__law_flat_greatest) := ⟨rfl, rfl, rfl, by decide +kernel, rfl, by decide +kernel, by decide +kernel⟩
theorem ok__law_flat_greatest {f : Addr} {fd : FuncData} (T : Tx K mg "_law_flat_greatest" s__law_flat_greatest ["flat"] f fd) (D__law_flat_values : Df Pg w K mg base 4 "_law_flat_values" ["flat", "x"] f__law_flat_values) (b_range : mg "range" = none) : Df Pg w K mg base 5 "_law_flat_greatest" ["flat"] f__law_flat_greatest :=
  Tx.df (P := Pg) (w := w) (base := base) (k := 4) (mm := m__law_flat_greatest) T sc__law_flat_greatest fun cdv A outer s H E hr => ⟨_, (pss_cons (ps_setLc (i := 1) rfl sc__law_flat_greatest.nd rfl rfl (sw_true rfl rfl rfl (by decide +kernel)) (own := [("formula", 4)]) (pi_list (pv 0)) (blkOk_by (own := [("formula", 4)]) (N := N__law_flat_greatest) (sc := defScope s__law_flat_greatest) (by decide +kernel)) (fun _ _ _ _ _ => (pg_name (i := 4) sc__law_flat_greatest.nd rfl (Or.inl rfl))) (fun _ _ _ _ _ => pts_nil) (fun _ _ _ _ _ => pe_non))
      (pss_cons (ps_for PassesOwn.never rfl (pi_range1 rfl b_range (pa_cons pe_int pa_nil)) (pg_name (i := 2) sc__law_flat_greatest.nd rfl (Or.inl rfl)) (pss_cons (ps_set (i := 3) sc__law_flat_greatest.nd rfl (Or.inl rfl) (pe_d D__law_flat_values (hr.mono (by omega)) (by rfl) (pa_cons (pv 0) (pa_cons (pv 1) pa_nil))))
      (pss_cons (ps_if (pt_cmpR (op_eqU hr.units) (pv 3) (pv 1) (nomark _)) (pss_one ps_break) pss_nil)
      (pss_one (ps_set (i := 1) sc__law_flat_greatest.nd rfl (Or.inl rfl) (pv 3))))))
      (pss_one (ps_ret (pv 1))))),
    (sd_seq (sd_asg (EvO.ev (eo_lcI (vs := [4]) (ei_list ev_var) eg_name et_yes ev_non)))
      (sd_seq (sd_for (ei_rng1 (ea_cons ev_int ea_nil)) eg_name (sd_seq (sd_asg (ev_call (ea_cons ev_var (ea_cons ev_var ea_nil))))
      (sd_seq (sd_if (et_test (ev_op ev_var ev_var od_eq)) sd_brk sd_next)
      (sd_asg ev_var))))
      (sd_ret ev_var)))⟩
abbrev s__law_row : Stmt := topS 42
theorem sc__law_row : FnScope N__law_row ["draws"] (defScope s__law_row) := ⟨rfl, rfl, rfl, by decide +kernel, rfl, by decide +kernel, by decide +kernel⟩
theorem ok__law_row {f : Addr} {fd : FuncData} (T : Tx K mg "_law_row" s__law_row ["draws"] f fd) (b_int : mg "int" = none) (b_range : mg "range" = none) : Df Pg w K mg base 1 "_law_row" ["draws"] f__law_row :=
  Tx.df (P := Pg) (w := w) (base := base) (k := 0) (mm := m__law_row) T sc__law_row fun cdv A outer s H E hr => ⟨_, (pss_cons (ps_set (i := 1) sc__law_row.nd rfl (Or.inr rfl) (pe_op op_addU pe_int (pe_op op_mod (pe_callTy call_int1 (by rfl) b_int (by decide +kernel) (pa_cons (pe_ix ix_seq (pv 0) pe_int (fun _ _ => rfl)) pa_nil)) pe_int)))
      (pss_cons (ps_set (i := 2) sc__law_row.nd rfl (Or.inr rfl) (pe_ix ix_seq (pe_lst (pa_cons pe_int (pa_cons pe_int (pa_cons pe_int pa_nil)))) (pe_op op_mod (pe_callTy call_int1 (by rfl) b_int (by decide +kernel) (pa_cons (pe_ix ix_seq (pv 0) pe_int (fun _ _ => rfl)) pa_nil)) pe_int) (fun _ _ => rfl)))
      (pss_cons (ps_if (pt_cmpR op_gt (pe_op op_mod (pe_callTy call_int1 (by rfl) b_int (by decide +kernel) (pa_cons (pe_ix ix_seq (pv 0) pe_int (fun _ _ => rfl)) pa_nil)) pe_int) pe_int (nomark _)) (pss_cons (ps_setLc (i := 3) rfl sc__law_row.nd rfl rfl (sw_true rfl rfl rfl (by decide +kernel)) (own := [("k", 5)]) (pi_range1 rfl b_range (pa_cons (pv 1) pa_nil)) (blkOk_by (own := [("k", 5)]) (N := N__law_row) (sc := defScope s__law_row) (by decide +kernel)) (fun _ _ _ _ _ => (pg_name (i := 5) sc__law_row.nd rfl (Or.inl rfl))) (fun _ _ _ _ _ => pts_nil) (fun _ _ _ _ _ => (pe_tup (pa_cons pe_str (pa_cons (pv 5) (pa_cons (pv 2) (pa_cons (pe_op op_addU (pv 1) pe_int) pa_nil)))))))
      (pss_one (ps_ret (pe_op op_catS (pe_op op_catS (pe_lst (pa_cons (pe_tup (pa_cons pe_str (pa_cons pe_int pa_nil))) pa_nil)) (pv 3)) (pe_lst (pa_cons (pe_tup (pa_cons pe_str (pa_cons (pe_ix ix_seq (pe_lst (pa_cons (pe_op op_mul pe_int (pv 2)) (pa_cons pe_non pa_nil))) (pe_op op_mod (pe_callTy call_int1 (by rfl) b_int (by decide +kernel) (pa_cons (pe_ix ix_seq (pv 0) pe_int (fun _ _ => rfl)) pa_nil)) pe_int) (fun _ _ => rfl)) pa_nil))) pa_nil)))))) pss_nil)
      (pss_cons (ps_set (i := 4) sc__law_row.nd rfl (Or.inl rfl) (pe_lst (pa_cons (pe_tup (pa_cons pe_str (pa_cons (pe_op op_mul (pe_op op_mod (pe_callTy call_int1 (by rfl) b_int (by decide +kernel) (pa_cons (pe_ix ix_seq (pv 0) pe_int (fun _ _ => rfl)) pa_nil)) pe_int) (pv 2)) pa_nil))) pa_nil)))
      (pss_cons (ps_for PassesOwn.never rfl (pi_range1 rfl b_range (pa_cons (pv 1) pa_nil)) (pg_name (i := 5) sc__law_row.nd rfl (Or.inl rfl)) (pss_one (ps_expr (pe_bm PySem.F.plainAttrs_list PySem.F.slot_list_append PySem.F.type_list_append mt_append (pv 4) (pa_cons (pe_tup (pa_cons pe_str (pa_cons (pv 5) (pa_cons (pe_op op_mul (pe_op op_addU pe_int (pe_op op_mod (pe_callTy call_int1 (by rfl) b_int (by decide +kernel) (pa_cons (pe_op op_addU (pe_ix ix_seq (pv 0) pe_int (fun _ _ => rfl)) (pe_op op_mul pe_int (pv 5))) pa_nil)) pe_int)) (pv 2)) (pa_cons (pe_ix ix_seq (pe_lst (pa_cons pe_int (pa_cons (pv 5) pa_nil))) (pe_op op_mod (pe_callTy call_int1 (by rfl) b_int (by decide +kernel) (pa_cons (pe_ix ix_seq (pv 0) pe_int (fun _ _ => rfl)) pa_nil)) pe_int) (fun _ _ => rfl)) pa_nil))))) pa_nil)))))
      (pss_one (ps_ret (pv 4)))))))),
    (sd_seq (sd_asg (ev_op ev_int (ev_op (ev_cb (ea_cons (ev_op ev_var ev_int od_ix) ea_nil) cd_int) ev_int od_mod) od_add))
      (sd_seq (sd_asg (ev_op (EvO.ev (eo_lst (ea_cons ev_int (ea_cons ev_int (ea_cons ev_int ea_nil))))) (ev_op (ev_cb (ea_cons (ev_op ev_var ev_int od_ix) ea_nil) cd_int) ev_int od_mod) od_ix))
      (sd_seq (sd_if (et_test (ev_op (ev_op (ev_cb (ea_cons (ev_op ev_var ev_int od_ix) ea_nil) cd_int) ev_int od_mod) ev_int od_gt)) (sd_seq (sd_asg (EvO.ev (eo_lcI (vs := [5]) (ei_rng1 (ea_cons ev_var ea_nil)) eg_name et_yes (ev_tup (ea_cons ev_str (ea_cons ev_var (ea_cons ev_var (ea_cons (ev_op ev_var ev_int od_add) ea_nil))))))))
      (sd_retO (eo_op (EvO.ev (eo_op (EvO.ev (eo_lst (ea_cons (ev_tup (ea_cons ev_str (ea_cons ev_int ea_nil))) ea_nil))) ev_var od_cat)) (EvO.ev (eo_lst (ea_cons (ev_tup (ea_cons ev_str (ea_cons (ev_op (EvO.ev (eo_lst (ea_cons (ev_op ev_int ev_var od_mul) (ea_cons ev_non ea_nil)))) (ev_op (ev_cb (ea_cons (ev_op ev_var ev_int od_ix) ea_nil) cd_int) ev_int od_mod) od_ix) ea_nil))) ea_nil))) od_cat))) sd_next)
      (sd_seq (sd_asgO (eo_lst (ea_cons (ev_tup (ea_cons ev_str (ea_cons (ev_op (ev_op (ev_cb (ea_cons (ev_op ev_var ev_int od_ix) ea_nil) cd_int) ev_int od_mod) ev_var od_mul) ea_nil))) ea_nil)))
      (sd_seq (sd_for (ei_rng1 (ea_cons ev_var ea_nil)) eg_name (sd_app (ev_tup (ea_cons ev_str (ea_cons ev_var (ea_cons (ev_op (ev_op ev_int (ev_op (ev_cb (ea_cons (ev_op (ev_op ev_var ev_int od_ix) (ev_op ev_int ev_var od_mul) od_add) ea_nil) cd_int) ev_int od_mod) od_add) ev_var od_mul) (ea_cons (ev_op (EvO.ev (eo_lst (ea_cons ev_int (ea_cons ev_var ea_nil)))) (ev_op (ev_cb (ea_cons (ev_op ev_var ev_int od_ix) ea_nil) cd_int) ev_int od_mod) od_ix) ea_nil)))))))
      sd_retX)))))⟩
abbrev s__law_held : Stmt := topS 36
theorem sc__law_held : FnScope N__law_held ["plain"] (defScope s__law_held) := ⟨rfl, rfl, rfl, by decide +kernel, rfl, by decide +kernel, by decide +kernel⟩
theorem ok__law_held {f : Addr} {fd : FuncData} (T : Tx K mg "_law_held" s__law_held ["plain"] f fd) (b_len : mg "len" = none) (b_list : mg "list" = none) (b_range : mg "range" = none) : Df Pg w K mg base 1 "_law_held" ["plain"] f__law_held :=
  Tx.df (P := Pg) (w := w) (base := base) (k := 0) (mm := m__law_held) T sc__law_held fun cdv A outer s H E hr => ⟨_, (pss_cons (ps_setLc (i := 1) rfl sc__law_held.nd rfl rfl (sw_true rfl rfl rfl (by decide +kernel)) (own := [("formula", 6)]) (pi_list (pv 0)) (blkOk_by (own := [("formula", 6)]) (N := N__law_held) (sc := defScope s__law_held) (by decide +kernel)) (fun _ _ _ _ _ => (pg_name (i := 6) sc__law_held.nd rfl (Or.inl rfl))) (fun _ _ _ _ _ => pts_nil) (fun _ _ _ _ _ => pe_non))
      (pss_cons (ps_for PassesOwn.never rfl (pi_range1 rfl b_range (pa_cons (pe_callB call_len (by rfl) b_len (by decide +kernel) (pa_cons (pv 0) pa_nil)) pa_nil)) (pg_name (i := 2) sc__law_held.nd rfl (Or.inl rfl)) (pss_one (ps_if (PW.pt (pw_and (pt_cmpR (op_eqU hr.units) (pe_ix ix_seq (pe_ix ix_seq (pv 0) (pv 2) (fun _ _ => rfl)) pe_int (fun _ _ => rfl)) pe_str (nomark _)) (pw_and1 (pt_cmpR op_notU (pe_ix ix_seq (pe_ix ix_seq (pv 0) (pv 2) (fun _ _ => rfl)) pe_int (fun _ _ => rfl)) pe_non (nomark _))))) (pss_one (ps_asg pe_int (pg_sub (pv 1) (pv 2) set_list))) pss_nil)))
      (pss_cons (ps_for PassesOwn.never rfl (pi_range2 rfl b_range (pa_cons pe_int (pa_cons (pe_op op_addU (pe_callB call_len (by rfl) b_len (by decide +kernel) (pa_cons (pv 0) pa_nil)) pe_int) pa_nil))) (pg_name (i := 3) sc__law_held.nd rfl (Or.inl rfl)) (pss_cons (ps_set (i := 4) sc__law_held.nd rfl (Or.inr rfl) (pe_callTy call_list_of (by rfl) b_list (by decide +kernel) (pa_cons (pv 1) pa_nil)))
      (pss_one (ps_for PassesOwn.never rfl (pi_range1 rfl b_range (pa_cons (pe_callB call_len (by rfl) b_len (by decide +kernel) (pa_cons (pv 0) pa_nil)) pa_nil)) (pg_name (i := 2) sc__law_held.nd rfl (Or.inl rfl)) (pss_one (ps_if (PW.pt (pw_and (pt_cmpR op_isU (pe_ix ix_seq (pv 4) (pv 2) (fun _ _ => rfl)) pe_non (nomark _)) (pw_and1 (pt_cmpR (op_neU hr.units) (pe_ix ix_seq (pe_ix ix_seq (pv 0) (pv 2) (fun _ _ => rfl)) pe_int (fun _ _ => rfl)) pe_str (nomark _))))) (pss_cons (ps_setLc (i := 5) rfl sc__law_held.nd rfl rfl (sw_true rfl rfl rfl (by decide +kernel)) (own := [("j", 7), ("c", 8)]) (pi_list (pe_ix ix_seq (pe_ix ix_seq (pv 0) (pv 2) (fun _ _ => rfl)) pe_int (fun _ _ => rfl))) (blkOk_by (own := [("j", 7), ("c", 8)]) (N := N__law_held) (sc := defScope s__law_held) (by decide +kernel)) (fun _ _ _ _ _ => (pg_tup rfl (pgs_cons (pg_name (i := 7) sc__law_held.nd rfl (Or.inl rfl)) (pgs_cons (pg_name (i := 8) sc__law_held.nd rfl (Or.inl rfl)) pgs_nil)))) (fun _ _ _ _ _ => pts_one (pt_cmpR op_notU (pe_ix ix_seq (pv 4) (pv 7) (fun _ _ => rfl)) pe_non (nomark _))) (fun _ _ _ _ _ => (pv 7)))
      (pss_one (ps_if (PW.pt (pw_or (pt_cmpR (op_eqU hr.units) (pe_callB call_len (by rfl) b_len (by decide +kernel) (pa_cons (pv 5) pa_nil)) (pe_callB call_len (by rfl) b_len (by decide +kernel) (pa_cons (pe_ix ix_seq (pe_ix ix_seq (pv 0) (pv 2) (fun _ _ => rfl)) pe_int (fun _ _ => rfl)) pa_nil)) (nomark _)) (pw_or1 (PW.pt (pw_and (pt_cmpR (op_eqU hr.units) (pe_ix ix_seq (pe_ix ix_seq (pv 0) (pv 2) (fun _ _ => rfl)) pe_int (fun _ _ => rfl)) pe_str (nomark _)) (pw_and1 (pt_cmpR op_gt (pe_callB call_len (by rfl) b_len (by decide +kernel) (pa_cons (pv 5) pa_nil)) pe_int (nomark _)))))))) (pss_one (ps_asg (pv 3) (pg_sub (pv 1) (pv 2) set_list))) pss_nil))) pss_nil))))))
      (pss_one (ps_ret (pv 1)))))),
    (sd_seq (sd_asgO (eo_lcI (vs := [6]) (ei_list ev_var) eg_name et_yes ev_non))
      (sd_seq (sd_for (ei_rng1 (ea_cons (ev_cb (ea_cons ev_var ea_nil) cd_len) ea_nil)) eg_name (sd_if (et_and (et_test (ev_op (ev_op (ev_op ev_var ev_var od_ix) ev_int od_ix) ev_str od_eq)) (et_test (ev_op (ev_op (ev_op ev_var ev_var od_ix) ev_int od_ix) ev_non od_isNot))) (sd_setI ev_int ev_var) sd_next))
      (sd_seq (sd_for (ei_rng2 (ea_cons ev_int (ea_cons (ev_op (ev_cb (ea_cons ev_var ea_nil) cd_len) ev_int od_add) ea_nil))) eg_name (sd_seq (sd_asg (EvO.ev (EvO.bor (eo_cb (ea_cons ev_var ea_nil) co_list))))
      (sd_for (ei_rng1 (ea_cons (ev_cb (ea_cons ev_var ea_nil) cd_len) ea_nil)) eg_name (sd_if (et_and (et_test (ev_op (ev_op ev_var ev_var od_ix) ev_non od_is)) (et_test (ev_op (ev_op (ev_op ev_var ev_var od_ix) ev_int od_ix) ev_str od_ne))) (sd_seq (sd_asg (EvO.ev (eo_lcI (vs := [7, 8]) (ei_list (ev_op (ev_op ev_var ev_var od_ix) ev_int od_ix)) eg_pair (et_test (ev_op (ev_op ev_var ev_var od_ix) ev_non od_isNot)) ev_var)))
      (sd_if (et_or (et_test (ev_op (ev_cb (ea_cons ev_var ea_nil) cd_len) (ev_cb (ea_cons (ev_op (ev_op ev_var ev_var od_ix) ev_int od_ix) ea_nil) cd_len) od_eq)) (et_and (et_test (ev_op (ev_op (ev_op ev_var ev_var od_ix) ev_int od_ix) ev_str od_eq)) (et_test (ev_op (ev_cb (ea_cons ev_var ea_nil) cd_len) ev_int od_gt)))) (sd_setI ev_var ev_var) sd_next)) sd_next))))
      sd_retX)))⟩
abbrev s__law_can_be : Stmt := topS 37
theorem sc__law_can_be : FnScope N__law_can_be ["plain", "x", "k", "ranks", "rank"] (defScope s__law_can_be) := ⟨rfl, rfl, rfl, by decide +kernel, rfl, by decide +kernel, by decide +kernel⟩
theorem ok__law_can_be {f : Addr} {fd : FuncData} (T : Tx K mg "_law_can_be" s__law_can_be ["plain", "x", "k", "ranks", "rank"] f fd) (b_len : mg "len" = none) : Df Pg w K mg base 1 "_law_can_be" ["plain", "x", "k", "ranks", "rank"] f__law_can_be :=
  Tx.df (P := Pg) (w := w) (base := base) (k := 0) (mm := m__law_can_be) T sc__law_can_be fun cdv A outer s H E hr => ⟨_, (pss_cons (ps_asg (pe_ix ix_seq (pv 0) (pv 2) (fun _ _ => rfl)) (pg_tup rfl (pgs_cons (pg_name (i := 5) sc__law_can_be.nd rfl (Or.inl rfl)) (pgs_cons (pg_name (i := 6) sc__law_can_be.nd rfl (Or.inl rfl)) pgs_nil))))
      (pss_cons (ps_if (pt_cmpR (op_eqU hr.units) (pv 5) pe_str (nomark _)) (pss_one (ps_ret pe_bl)) pss_nil)
      (pss_cons (ps_set (i := 7) sc__law_can_be.nd rfl (Or.inl rfl) (pe_lst pa_nil))
      (pss_cons (ps_set (i := 8) sc__law_can_be.nd rfl (Or.inl rfl) (pe_lst pa_nil))
      (pss_cons (ps_set (i := 9) sc__law_can_be.nd rfl (Or.inl rfl) (pe_lst pa_nil))
      (pss_cons (ps_for PassesOwn.never rfl (pi_list (pv 6)) (pg_tup rfl (pgs_cons (pg_name (i := 10) sc__law_can_be.nd rfl (Or.inl rfl)) (pgs_cons (pg_name (i := 11) sc__law_can_be.nd rfl (Or.inl rfl)) pgs_nil))) (pss_one (ps_if (PW.pt (pw_and (pt_cmpR op_notU (pe_ix ix_seq (pv 1) (pv 10) (fun _ _ => rfl)) pe_non (nomark _)) (pw_and1 (pt_cmpR (op_eqU hr.units) (pe_op op_addU (pe_ix ix_seq (pv 1) (pv 10) (fun _ _ => rfl)) (pv 11)) (pe_ix ix_seq (pv 1) (pv 2) (fun _ _ => rfl)) (nomark _))))) (pss_one (ps_if (PW.pt (pw_and (pt_cmpR op_notU (pe_ix ix_seq (pv 3) (pv 10) (fun _ _ => rfl)) pe_non (nomark _)) (pw_and1 (pt_cmpR op_lt (pe_ix ix_seq (pv 3) (pv 10) (fun _ _ => rfl)) (pv 4) (nomark _))))) (pss_one (ps_expr (pe_bm PySem.F.plainAttrs_list PySem.F.slot_list_append PySem.F.type_list_append mt_append (pv 7) (pa_cons (pv 10) pa_nil)))) (pss_one (ps_expr (pe_bm PySem.F.plainAttrs_list PySem.F.slot_list_append PySem.F.type_list_append mt_append (pv 9) (pa_cons (pv 10) pa_nil)))))) (pss_one (ps_if (PW.pt (pw_and (pt_cmpR op_notU (pe_ix ix_seq (pv 1) (pv 10) (fun _ _ => rfl)) pe_non (nomark _)) (pw_and (pt_cmpR op_lt (pe_op op_addU (pe_ix ix_seq (pv 1) (pv 10) (fun _ _ => rfl)) (pv 11)) pe_int (nomark _)) (pw_and1 (pt_cmpR (op_eqU hr.units) (pe_ix ix_seq (pv 1) (pv 2) (fun _ _ => rfl)) pe_int (nomark _)))))) (pss_one (ps_expr (pe_bm PySem.F.plainAttrs_list PySem.F.slot_list_append PySem.F.type_list_append mt_append (pv 8) (pa_cons (pv 10) pa_nil)))) pss_nil)))))
      (pss_cons (ps_if (pt_cmpR (op_eqU hr.units) (pv 5) pe_str (nomark _)) (pss_one (ps_ret (pe_cmpR op_gt (pe_op op_addU (pe_callB call_len (by rfl) b_len (by decide +kernel) (pa_cons (pv 7) pa_nil)) (pe_callB call_len (by rfl) b_len (by decide +kernel) (pa_cons (pv 8) pa_nil))) pe_int (nomark _)))) pss_nil)
      (pss_one (ps_ret (pe_cmpR (op_eqU hr.units) (pe_callB call_len (by rfl) b_len (by decide +kernel) (pa_cons (pv 9) pa_nil)) pe_int (nomark _))))))))))),
    (sd_seq (sd_asgG (ev_op ev_var ev_var od_ix) eg_pair)
      (sd_seq (sd_if (et_test (ev_op ev_var ev_str od_eq)) (sd_ret ev_bl) sd_next)
      (sd_seq (sd_asgO (eo_lst ea_nil))
      (sd_seq (sd_asgO (eo_lst ea_nil))
      (sd_seq (sd_asgO (eo_lst ea_nil))
      (sd_seq (sd_for (ei_list ev_var) eg_pair (sd_if (et_and (et_test (ev_op (ev_op ev_var ev_var od_ix) ev_non od_isNot)) (et_test (ev_op (ev_op (ev_op ev_var ev_var od_ix) ev_var od_add) (ev_op ev_var ev_var od_ix) od_eq))) (sd_if (et_and (et_test (ev_op (ev_op ev_var ev_var od_ix) ev_non od_isNot)) (et_test (ev_op (ev_op ev_var ev_var od_ix) ev_var od_lt))) (sd_app ev_var) (sd_app ev_var)) (sd_if (et_and (et_test (ev_op (ev_op ev_var ev_var od_ix) ev_non od_isNot)) (et_and (et_test (ev_op (ev_op (ev_op ev_var ev_var od_ix) ev_var od_add) ev_int od_lt)) (et_test (ev_op (ev_op ev_var ev_var od_ix) ev_int od_eq)))) (sd_app ev_var) sd_next)))
      (sd_frz 7 (sd_frz 8 (sd_frz 9 (sd_seq (sd_if (et_test (ev_op ev_var ev_str od_eq)) (sd_ret (ev_op (ev_op (ev_cb (ea_cons ev_var ea_nil) cd_len) (ev_cb (ea_cons ev_var ea_nil) cd_len) od_add) ev_int od_gt)) sd_next)
      (sd_ret (ev_op (ev_cb (ea_cons ev_var ea_nil) cd_len) ev_int od_eq))))))))))))⟩
abbrev s__law_tight : Stmt := topS 38
theorem sc__law_tight : FnScope N__law_tight ["plain", "x"] (defScope s__law_tight) := ⟨rfl, rfl, rfl, by decide +kernel, rfl, by decide +kernel, by decide +kernel⟩
theorem ok__law_tight {f : Addr} {fd : FuncData} (T : Tx K mg "_law_tight" s__law_tight ["plain", "x"] f fd) (D__law_can_be : Df Pg w K mg base 1 "_law_can_be" ["plain", "x", "k", "ranks", "rank"] f__law_can_be) (b_len : mg "len" = none) (b_list : mg "list" = none) (b_range : mg "range" = none) : Df Pg w K mg base 2 "_law_tight" ["plain", "x"] f__law_tight :=
  Tx.df (P := Pg) (w := w) (base := base) (k := 1) (mm := m__law_tight) T sc__law_tight fun cdv A outer s H E hr => ⟨_, (pss_cons (ps_setLc (i := 2) rfl sc__law_tight.nd rfl rfl (sw_true rfl rfl rfl (by decide +kernel)) (own := [("formula", 6)]) (pi_list (pv 0)) (blkOk_by (own := [("formula", 6)]) (N := N__law_tight) (sc := defScope s__law_tight) (by decide +kernel)) (fun _ _ _ _ _ => (pg_name (i := 6) sc__law_tight.nd rfl (Or.inl rfl))) (fun _ _ _ _ _ => pts_nil) (fun _ _ _ _ _ => pe_non))
      (pss_cons (ps_for PassesOwn.never rfl (pi_range1 rfl b_range (pa_cons (pe_callB call_len (by rfl) b_len (by decide +kernel) (pa_cons (pv 0) pa_nil)) pa_nil)) (pg_name (i := 3) sc__law_tight.nd rfl (Or.inl rfl)) (pss_one (ps_if (PW.pt (pw_and (pt_cmpR (op_eqU hr.units) (pe_ix ix_seq (pe_ix ix_seq (pv 0) (pv 3) (fun _ _ => rfl)) pe_int (fun _ _ => rfl)) pe_str (nomark _)) (pw_and1 (pt_cmpR op_notU (pe_ix ix_seq (pv 1) (pv 3) (fun _ _ => rfl)) pe_non (nomark _))))) (pss_one (ps_asg pe_int (pg_sub (pv 2) (pv 3) set_list))) pss_nil)))
      (pss_cons (ps_for PassesOwn.never rfl (pi_range2 rfl b_range (pa_cons pe_int (pa_cons (pe_op op_addU (pe_callB call_len (by rfl) b_len (by decide +kernel) (pa_cons (pv 0) pa_nil)) pe_int) pa_nil))) (pg_name (i := 4) sc__law_tight.nd rfl (Or.inl rfl)) (pss_cons (ps_set (i := 5) sc__law_tight.nd rfl (Or.inl rfl) (pe_callTy call_list_of (by rfl) b_list (by decide +kernel) (pa_cons (pv 2) pa_nil)))
      (pss_one (ps_for PassesOwn.never rfl (pi_range1 rfl b_range (pa_cons (pe_callB call_len (by rfl) b_len (by decide +kernel) (pa_cons (pv 0) pa_nil)) pa_nil)) (pg_name (i := 3) sc__law_tight.nd rfl (Or.inl rfl)) (pss_one (ps_if (PW.pt (pw_and (pt_cmpR op_isU (pe_ix ix_seq (pv 5) (pv 3) (fun _ _ => rfl)) pe_non (nomark _)) (pw_and (pt_cmpR op_notU (pe_ix ix_seq (pv 1) (pv 3) (fun _ _ => rfl)) pe_non (nomark _)) (pw_and1 (pt_val (pe_d D__law_can_be (hr.mono (by omega)) (by rfl) (pa_cons (pv 0) (pa_cons (pv 1) (pa_cons (pv 3) (pa_cons (pv 5) (pa_cons (pv 4) pa_nil))))))))))) (pss_one (ps_asg (pv 4) (pg_sub (pv 2) (pv 3) set_list))) pss_nil))))))
      (pss_one (ps_ret (pv 2)))))),
    (sd_seq (sd_asgO (eo_lcI (vs := [6]) (ei_list ev_var) eg_name et_yes ev_non))
      (sd_seq (sd_for (ei_rng1 (ea_cons (ev_cb (ea_cons ev_var ea_nil) cd_len) ea_nil)) eg_name (sd_if (et_and (et_test (ev_op (ev_op (ev_op ev_var ev_var od_ix) ev_int od_ix) ev_str od_eq)) (et_test (ev_op (ev_op ev_var ev_var od_ix) ev_non od_isNot))) (sd_setI ev_int ev_var) sd_next))
      (sd_seq (sd_for (ei_rng2 (ea_cons ev_int (ea_cons (ev_op (ev_cb (ea_cons ev_var ea_nil) cd_len) ev_int od_add) ea_nil))) eg_name (sd_seq (sd_asg (EvO.ev (EvO.bor (eo_cb (ea_cons ev_var ea_nil) co_list))))
      (sd_for (ei_rng1 (ea_cons (ev_cb (ea_cons ev_var ea_nil) cd_len) ea_nil)) eg_name (sd_if (et_and (et_test (ev_op (ev_op ev_var ev_var od_ix) ev_non od_is)) (et_and (et_test (ev_op (ev_op ev_var ev_var od_ix) ev_non od_isNot)) (et_B (ev_call (ea_cons ev_var (ea_cons ev_var (ea_cons ev_var (ea_cons ev_var (ea_cons ev_var ea_nil))))))))) (sd_setI ev_var ev_var) sd_next))))
      sd_retX)))⟩
abbrev s__law_stage : Stmt := topS 43
theorem sc__law_stage : FnScope N__law_stage ["flat", "places"] (defScope s__law_stage) := ⟨rfl, rfl, rfl, by decide +kernel, rfl, by decide +kernel, by decide +kernel⟩
theorem ok__law_stage {f : Addr} {fd : FuncData} (T : Tx K mg "_law_stage" s__law_stage ["flat", "places"] f fd) (D__law_flat_greatest : Df Pg w K mg base 5 "_law_flat_greatest" ["flat"] f__law_flat_greatest) (D__law_held : Df Pg w K mg base 1 "_law_held" ["plain"] f__law_held) (D__law_opened : Df Pg w K mg base 1 "_law_opened" ["flat", "places"] f__law_opened) (D__law_tight : Df Pg w K mg base 2 "_law_tight" ["plain", "x"] f__law_tight) : Df Pg w K mg base 6 "_law_stage" ["flat", "places"] f__law_stage :=
  Tx.df (P := Pg) (w := w) (base := base) (k := 5) (mm := m__law_stage) T sc__law_stage fun cdv A outer s H E hr => ⟨_, (pss_cons (ps_set (i := 2) sc__law_stage.nd rfl (Or.inl rfl) (pe_d D__law_opened (hr.mono (by omega)) (by rfl) (pa_cons (pv 0) (pa_cons (pv 1) pa_nil))))
      (pss_cons (ps_set (i := 3) sc__law_stage.nd rfl (Or.inl rfl) (pe_d D__law_flat_greatest (hr.mono (by omega)) (by rfl) (pa_cons (pv 2) pa_nil)))
      (pss_one (ps_ret (pe_tup (pa_cons (pv 1) (pa_cons (pv 3) (pa_cons (pe_d D__law_held (hr.mono (by omega)) (by rfl) (pa_cons (pv 2) pa_nil)) (pa_cons (pe_d D__law_tight (hr.mono (by omega)) (by rfl) (pa_cons (pv 2) (pa_cons (pv 3) pa_nil))) pa_nil))))))))),
    (sd_seq (sd_asg (ev_call (ea_cons ev_var (ea_cons ev_var ea_nil))))
      (sd_seq (sd_asg (ev_call (ea_cons ev_var ea_nil)))
      (sd_ret (ev_tup (ea_cons ev_var (ea_cons ev_var (ea_cons (ev_call (ea_cons ev_var ea_nil)) (ea_cons (ev_call (ea_cons ev_var (ea_cons ev_var ea_nil))) ea_nil))))))))⟩
abbrev s__law_conditions : Stmt := topS 34
theorem sc__law_conditions : FnScope N__law_conditions ["flat"] (defScope s__law_conditions) := ⟨rfl, rfl, rfl, by decide +kernel, rfl, by decide +kernel, by decide +kernel⟩
theorem ok__law_conditions {f : Addr} {fd : FuncData} (T : Tx K mg "_law_conditions" s__law_conditions ["flat"] f fd) (b_len : mg "len" = none) (b_range : mg "range" = none) : Df Pg w K mg base 1 "_law_conditions" ["flat"] f__law_conditions :=
  Tx.df (P := Pg) (w := w) (base := base) (k := 0) (mm := m__law_conditions) T sc__law_conditions fun cdv A outer s H E hr => ⟨_, (pss_one (ps_ret (pe_lc (own := [("k", 1)]) rfl sc__law_conditions.nd (pi_range1 rfl b_range (pa_cons (pe_callB call_len (by rfl) b_len (by decide +kernel) (pa_cons (pv 0) pa_nil)) pa_nil)) (blkOk_by (own := [("k", 1)]) (N := N__law_conditions) (sc := defScope s__law_conditions) (by decide +kernel)) (fun _ _ _ _ _ => (pg_name (i := 1) sc__law_conditions.nd rfl (Or.inl rfl))) (fun _ _ _ _ _ => pts_one (pt_cmpR (op_eqU hr.units) (pe_ix ix_seq (pe_ix ix_seq (pv 0) (pv 1) (fun _ _ => rfl)) pe_int (fun _ _ => rfl)) pe_str (nomark _))) (fun _ _ _ _ _ => (pv 1))))),
    (sd_retO (eo_lcI (vs := [1]) (ei_rng1 (ea_cons (ev_cb (ea_cons ev_var ea_nil) cd_len) ea_nil)) eg_name (et_test (ev_op (ev_op (ev_op ev_var ev_var od_ix) ev_int od_ix) ev_str od_eq)) ev_var))⟩
abbrev s__law_one_by_one : Stmt := topS 44
theorem sc__law_one_by_one : FnScope N__law_one_by_one ["flat"] (defScope s__law_one_by_one) := ⟨rfl, rfl, rfl, by decide +kernel, rfl, by decide +kernel, by decide +kernel⟩
theorem ok__law_one_by_one {f : Addr} {fd : FuncData} (T : Tx K mg "_law_one_by_one" s__law_one_by_one ["flat"] f fd) (D__law_at_most : Df Pg w K mg base 1 "_law_at_most" ["a", "b"] f__law_at_most) (D__law_conditions : Df Pg w K mg base 1 "_law_conditions" ["flat"] f__law_conditions) (D__law_stage : Df Pg w K mg base 6 "_law_stage" ["flat", "places"] f__law_stage) (b_len : mg "len" = none) (b_range : mg "range" = none) : Df Pg w K mg base 7 "_law_one_by_one" ["flat"] f__law_one_by_one :=
  Tx.df (P := Pg) (w := w) (base := base) (k := 6) (mm := m__law_one_by_one) T sc__law_one_by_one fun cdv A outer s H E hr => ⟨_, (pss_cons (ps_set (i := 1) sc__law_one_by_one.nd rfl (Or.inl rfl) (pe_d D__law_conditions (hr.mono (by omega)) (by rfl) (pa_cons (pv 0) pa_nil)))
      (pss_cons (ps_set (i := 2) sc__law_one_by_one.nd rfl (Or.inl rfl) (pe_lst pa_nil))
      (pss_cons (ps_for PassesOwn.never rfl (pi_range1 rfl b_range (pa_cons (pe_op op_addU (pe_callB call_len (by rfl) b_len (by decide +kernel) (pa_cons (pv 0) pa_nil)) pe_int) pa_nil)) (pg_name (i := 3) sc__law_one_by_one.nd rfl (Or.inl rfl)) (pss_cons (ps_set (i := 4) sc__law_one_by_one.nd rfl (Or.inr rfl) (pe_d D__law_stage (hr.mono (by omega)) (by rfl) (pa_cons (pv 0) (pa_cons (pv 1) pa_nil))))
      (pss_cons (ps_expr (pe_bm PySem.F.plainAttrs_list PySem.F.slot_list_append PySem.F.type_list_append mt_append (pv 2) (pa_cons (pv 4) pa_nil)))
      (pss_cons (ps_set (i := 5) sc__law_one_by_one.nd rfl (Or.inr rfl) (pe_lc (own := [("k", 6)]) rfl sc__law_one_by_one.nd (pi_list (pv 1)) (blkOk_by (own := [("k", 6)]) (N := N__law_one_by_one) (sc := defScope s__law_one_by_one) (by decide +kernel)) (fun _ _ _ _ _ => (pg_name (i := 6) sc__law_one_by_one.nd rfl (Or.inl rfl))) (fun _ _ _ _ _ => pts_one (pt_not (pt_val (pe_d D__law_at_most (hr.mono (by omega)) (by rfl) (pa_cons (pe_ix ix_seq (pe_ix ix_seq (pv 0) (pv 6) (fun _ _ => rfl)) pe_int (fun _ _ => rfl)) (pa_cons (pe_ix ix_seq (pe_ix ix_seq (pv 4) pe_int (fun _ _ => rfl)) (pe_ix ix_seq (pe_ix ix_seq (pv 0) (pv 6) (fun _ _ => rfl)) pe_int (fun _ _ => rfl)) (fun _ _ => rfl)) pa_nil)))))) (fun _ _ _ _ _ => (pv 6))))
      (pss_cons (ps_if (pt_cmpR (op_eqU hr.units) (pe_callB call_len (by rfl) b_len (by decide +kernel) (pa_cons (pv 5) pa_nil)) pe_int (nomark _)) (pss_one ps_break) pss_nil)
      (pss_one (ps_setLc (i := 1) rfl sc__law_one_by_one.nd rfl rfl (sw_true rfl rfl rfl (by decide +kernel)) (own := [("k", 6)]) (pi_list (pv 1)) (blkOk_by (own := [("k", 6)]) (N := N__law_one_by_one) (sc := defScope s__law_one_by_one) (by decide +kernel)) (fun _ _ _ _ _ => (pg_name (i := 6) sc__law_one_by_one.nd rfl (Or.inl rfl))) (fun _ _ _ _ _ => pts_one (pt_cmpR (op_neU hr.units) (pv 6) (pe_ix ix_seq (pv 5) (pe_un un_neg pe_int) (fun _ _ => rfl)) (nomark _))) (fun _ _ _ _ _ => (pv 6)))))))))
      (pss_one (ps_ret (pv 2)))))),
    (sd_seq (sd_asg (ev_call (ea_cons ev_var ea_nil)))
      (sd_seq (sd_asgO (eo_lst ea_nil))
      (sd_seq (sd_for (ei_rng1 (ea_cons (ev_op (ev_cb (ea_cons ev_var ea_nil) cd_len) ev_int od_add) ea_nil)) eg_name (sd_seq (sd_asg (ev_call (ea_cons ev_var (ea_cons ev_var ea_nil))))
      (sd_seq (sd_app ev_var)
      (sd_seq (sd_asg (EvO.ev (eo_lcI (vs := [6]) (ei_list ev_var) eg_name (et_not (et_B (ev_call (ea_cons (ev_op (ev_op ev_var ev_var od_ix) ev_int od_ix) (ea_cons (ev_op (ev_op ev_var ev_int od_ix) (ev_op (ev_op ev_var ev_var od_ix) ev_int od_ix) od_ix) ea_nil))))) ev_var)))
      (sd_seq (sd_if (et_test (ev_op (ev_cb (ea_cons ev_var ea_nil) cd_len) ev_int od_eq)) sd_brk sd_next)
      (sd_asg (EvO.ev (eo_lcI (vs := [6]) (ei_list ev_var) eg_name (et_test (ev_op ev_var (ev_op ev_var (ev_un ev_int ud_neg) od_ix) od_ne)) ev_var))))))))
      sd_retX)))⟩
abbrev s__law_others : Stmt := topS 45
theorem sc__law_others : FnScope N__law_others ["paper", "draws"] (defScope s__law_others) := ⟨rfl, rfl, rfl, by decide +kernel, rfl, by decide +kernel, by decide +kernel⟩
theorem ok__law_others {f : Addr} {fd : FuncData} (T : Tx K mg "_law_others" s__law_others ["paper", "draws"] f fd) (b_int : mg "int" = none) (b_len : mg "len" = none) : Df Pg w K mg base 1 "_law_others" ["paper", "draws"] f__law_others :=
  Tx.df (P := Pg) (w := w) (base := base) (k := 0) (mm := m__law_others) T sc__law_others fun cdv A outer s H E hr => ⟨_, (pss_cons (ps_set (i := 2) sc__law_others.nd rfl (Or.inl rfl) (pe_op op_mod (pe_callTy call_int1 (by rfl) b_int (by decide +kernel) (pa_cons (pe_ix ix_seq (pv 1) pe_int (fun _ _ => rfl)) pa_nil)) (pe_callB call_len (by rfl) b_len (by decide +kernel) (pa_cons (pv 0) pa_nil))))
      (pss_cons (ps_asg (pe_ix ix_seq (pv 0) (pv 2) (fun _ _ => rfl)) (pg_tup rfl (pgs_cons (pg_name (i := 3) sc__law_others.nd rfl (Or.inl rfl)) (pgs_cons (pg_name (i := 4) sc__law_others.nd rfl (Or.inl rfl)) (pgs_cons (pg_name (i := 5) sc__law_others.nd rfl (Or.inl rfl)) (pgs_cons (pg_name (i := 6) sc__law_others.nd rfl (Or.inl rfl)) pgs_nil))))))
      (pss_cons (ps_set (i := 7) sc__law_others.nd rfl (Or.inl rfl) (pe_lst (pa_cons (pv 0) (pa_cons (pe_slice sl_list (pv 0) (po_some pe_int) po_none) (pa_cons (pe_slice sl_list (pv 0) po_none (po_some (pe_un un_neg pe_int))) (pa_cons (pe_op op_catS (pe_slice sl_list (pv 0) po_none (po_some (pv 2))) (pe_slice sl_list (pv 0) (po_some (pe_op op_addU (pv 2) pe_int)) po_none)) (pa_cons (pe_op op_catS (pe_slice sl_list (pv 0) po_none (po_some (pe_op op_addU (pv 2) pe_int))) (pe_slice sl_list (pv 0) (po_some (pv 2)) po_none)) (pa_cons (pe_revL (pv 0)) pa_nil))))))))
      (pss_cons (ps_set (i := 8) sc__law_others.nd rfl (Or.inl rfl) (pe_op op_mod (pe_callTy call_int1 (by rfl) b_int (by decide +kernel) (pa_cons (pe_ix ix_seq (pv 1) pe_int (fun _ _ => rfl)) pa_nil)) (pe_callB call_len (by rfl) b_len (by decide +kernel) (pa_cons (pv 4) pa_nil))))
      (pss_cons (ps_set (i := 9) sc__law_others.nd rfl (Or.inl rfl) (pe_ix ix_seq (pe_lst (pa_cons pe_non (pa_cons pe_int (pa_cons pe_int (pa_cons pe_int pa_nil))))) (pe_op op_mod (pe_callTy call_int1 (by rfl) b_int (by decide +kernel) (pa_cons (pe_ix ix_seq (pv 1) pe_int (fun _ _ => rfl)) pa_nil)) pe_int) (fun _ _ => rfl)))
      (pss_cons (ps_for PassesOwn.never rfl (pi_list (pe_lst (pa_cons (pe_tup (pa_cons (pe_op op_catS (pv 3) (pe_lst (pa_cons (pv 8) pa_nil))) (pa_cons (pv 4) (pa_cons (pv 5) (pa_cons (pv 6) pa_nil))))) (pa_cons (pe_tup (pa_cons (pe_slice sl_list (pv 3) (po_some pe_int) po_none) (pa_cons (pv 4) (pa_cons (pv 5) (pa_cons (pv 6) pa_nil))))) (pa_cons (pe_tup (pa_cons (pe_revL (pv 3)) (pa_cons (pv 4) (pa_cons (pv 5) (pa_cons (pv 6) pa_nil))))) pa_nil))))) (pg_name (i := 10) sc__law_others.nd rfl (Or.inl rfl)) (pss_one (ps_expr (pe_bm PySem.F.plainAttrs_list PySem.F.slot_list_append PySem.F.type_list_append mt_append (pv 7) (pa_cons (pe_op op_catS (pe_op op_catS (pe_slice sl_list (pv 0) po_none (po_some (pv 2))) (pe_lst (pa_cons (pv 10) pa_nil))) (pe_slice sl_list (pv 0) (po_some (pe_op op_addU (pv 2) pe_int)) po_none)) pa_nil)))))
      (pss_cons (ps_for PassesOwn.never rfl (pi_list (pe_lst (pa_cons (pe_tup (pa_cons (pv 3) (pa_cons (pe_op op_catS (pe_op op_catS (pe_slice sl_list (pv 4) po_none (po_some (pv 8))) (pe_lst (pa_cons (pv 9) pa_nil))) (pe_slice sl_list (pv 4) (po_some (pe_op op_addU (pv 8) pe_int)) po_none)) (pa_cons (pv 5) (pa_cons (pv 6) pa_nil))))) (pa_cons (pe_tup (pa_cons (pv 3) (pa_cons (pv 4) (pa_cons (pe_op op_catS (pe_op op_catS (pe_slice sl_list (pv 5) po_none (po_some (pv 8))) (pe_lst (pa_cons (pv 9) pa_nil))) (pe_slice sl_list (pv 5) (po_some (pe_op op_addU (pv 8) pe_int)) po_none)) (pa_cons (pv 6) pa_nil))))) pa_nil)))) (pg_name (i := 10) sc__law_others.nd rfl (Or.inl rfl)) (pss_one (ps_expr (pe_bm PySem.F.plainAttrs_list PySem.F.slot_list_append PySem.F.type_list_append mt_append (pv 7) (pa_cons (pe_op op_catS (pe_op op_catS (pe_slice sl_list (pv 0) po_none (po_some (pv 2))) (pe_lst (pa_cons (pv 10) pa_nil))) (pe_slice sl_list (pv 0) (po_some (pe_op op_addU (pv 2) pe_int)) po_none)) pa_nil)))))
      (pss_cons (ps_for PassesOwn.never rfl (pi_list (pe_lst (pa_cons (pe_tup (pa_cons (pv 3) (pa_cons (pv 4) (pa_cons (pv 5) (pa_cons (pe_op op_catS (pe_op op_catS (pe_slice sl_list (pv 6) po_none (po_some (pv 8))) (pe_lst (pa_cons (pv 9) pa_nil))) (pe_slice sl_list (pv 6) (po_some (pe_op op_addU (pv 8) pe_int)) po_none)) pa_nil))))) (pa_cons (pe_tup (pa_cons (pv 3) (pa_cons (pe_slice sl_list (pv 4) po_none (po_some (pe_un un_neg pe_int))) (pa_cons (pv 5) (pa_cons (pv 6) pa_nil))))) pa_nil)))) (pg_name (i := 10) sc__law_others.nd rfl (Or.inl rfl)) (pss_one (ps_expr (pe_bm PySem.F.plainAttrs_list PySem.F.slot_list_append PySem.F.type_list_append mt_append (pv 7) (pa_cons (pe_op op_catS (pe_op op_catS (pe_slice sl_list (pv 0) po_none (po_some (pv 2))) (pe_lst (pa_cons (pv 10) pa_nil))) (pe_slice sl_list (pv 0) (po_some (pe_op op_addU (pv 2) pe_int)) po_none)) pa_nil)))))
      (pss_cons (ps_for PassesOwn.never rfl (pi_list (pe_lst (pa_cons (pe_tup (pa_cons (pv 3) (pa_cons (pv 4) (pa_cons (pe_op op_catS (pv 5) (pe_lst (pa_cons pe_int pa_nil))) (pa_cons (pv 6) pa_nil))))) (pa_cons (pe_tup (pa_cons (pv 3) (pa_cons (pv 4) (pa_cons (pv 5) (pa_cons (pe_slice sl_list (pv 6) (po_some pe_int) po_none) pa_nil))))) (pa_cons (pe_tup (pa_cons (pv 3) (pa_cons (pv 4) (pa_cons (pv 6) (pa_cons (pv 5) pa_nil))))) pa_nil))))) (pg_name (i := 10) sc__law_others.nd rfl (Or.inl rfl)) (pss_one (ps_expr (pe_bm PySem.F.plainAttrs_list PySem.F.slot_list_append PySem.F.type_list_append mt_append (pv 7) (pa_cons (pe_op op_catS (pe_op op_catS (pe_slice sl_list (pv 0) po_none (po_some (pv 2))) (pe_lst (pa_cons (pv 10) pa_nil))) (pe_slice sl_list (pv 0) (po_some (pe_op op_addU (pv 2) pe_int)) po_none)) pa_nil)))))
      (pss_one (ps_ret (pv 7)))))))))))),
    (sd_seq (sd_asg (ev_op (ev_cb (ea_cons (ev_op ev_var ev_int od_ix) ea_nil) cd_int) (ev_cb (ea_cons ev_var ea_nil) cd_len) od_mod))
      (sd_seq (sd_asgG (ev_op ev_var ev_var od_ix) eg_quad)
      (sd_seq (sd_asgO (eo_lst (ea_cons ev_var (ea_cons (EvO.ev (eo_slL ev_var (ep_some ev_int) ep_none)) (ea_cons (EvO.ev (eo_slL ev_var ep_none (ep_some (ev_un ev_int ud_neg)))) (ea_cons (EvO.ev (eo_op (EvO.ev (eo_slL ev_var ep_none (ep_some ev_var))) (EvO.ev (eo_slL ev_var (ep_some (ev_op ev_var ev_int od_add)) ep_none)) od_cat)) (ea_cons (EvO.ev (eo_op (EvO.ev (eo_slL ev_var ep_none (ep_some (ev_op ev_var ev_int od_add)))) (EvO.ev (eo_slL ev_var (ep_some ev_var) ep_none)) od_cat)) (ea_cons (EvO.ev (eo_rev ev_var)) ea_nil))))))))
      (sd_seq (sd_asg (ev_op (ev_cb (ea_cons (ev_op ev_var ev_int od_ix) ea_nil) cd_int) (ev_cb (ea_cons ev_var ea_nil) cd_len) od_mod))
      (sd_seq (sd_asg (ev_op (EvO.ev (eo_lst (ea_cons ev_non (ea_cons ev_int (ea_cons ev_int (ea_cons ev_int ea_nil)))))) (ev_op (ev_cb (ea_cons (ev_op ev_var ev_int od_ix) ea_nil) cd_int) ev_int od_mod) od_ix))
      (sd_seq (sd_for (ei_list (EvO.ev (eo_lst (ea_cons (ev_tup (ea_cons (EvO.ev (eo_op ev_var (EvO.ev (eo_lst (ea_cons ev_var ea_nil))) od_cat)) (ea_cons ev_var (ea_cons ev_var (ea_cons ev_var ea_nil))))) (ea_cons (ev_tup (ea_cons (EvO.ev (eo_slL ev_var (ep_some ev_int) ep_none)) (ea_cons ev_var (ea_cons ev_var (ea_cons ev_var ea_nil))))) (ea_cons (ev_tup (ea_cons (EvO.ev (eo_rev ev_var)) (ea_cons ev_var (ea_cons ev_var (ea_cons ev_var ea_nil))))) ea_nil)))))) eg_name (sd_app (EvO.ev (eo_op (EvO.ev (eo_op (EvO.ev (eo_slL ev_var ep_none (ep_some ev_var))) (EvO.ev (eo_lst (ea_cons ev_var ea_nil))) od_cat)) (EvO.ev (eo_slL ev_var (ep_some (ev_op ev_var ev_int od_add)) ep_none)) od_cat))))
      (sd_seq (sd_for (ei_list (EvO.ev (eo_lst (ea_cons (ev_tup (ea_cons ev_var (ea_cons (EvO.ev (eo_op (EvO.ev (eo_op (EvO.ev (eo_slL ev_var ep_none (ep_some ev_var))) (EvO.ev (eo_lst (ea_cons ev_var ea_nil))) od_cat)) (EvO.ev (eo_slL ev_var (ep_some (ev_op ev_var ev_int od_add)) ep_none)) od_cat)) (ea_cons ev_var (ea_cons ev_var ea_nil))))) (ea_cons (ev_tup (ea_cons ev_var (ea_cons ev_var (ea_cons (EvO.ev (eo_op (EvO.ev (eo_op (EvO.ev (eo_slL ev_var ep_none (ep_some ev_var))) (EvO.ev (eo_lst (ea_cons ev_var ea_nil))) od_cat)) (EvO.ev (eo_slL ev_var (ep_some (ev_op ev_var ev_int od_add)) ep_none)) od_cat)) (ea_cons ev_var ea_nil))))) ea_nil))))) eg_name (sd_app (EvO.ev (eo_op (EvO.ev (eo_op (EvO.ev (eo_slL ev_var ep_none (ep_some ev_var))) (EvO.ev (eo_lst (ea_cons ev_var ea_nil))) od_cat)) (EvO.ev (eo_slL ev_var (ep_some (ev_op ev_var ev_int od_add)) ep_none)) od_cat))))
      (sd_seq (sd_for (ei_list (EvO.ev (eo_lst (ea_cons (ev_tup (ea_cons ev_var (ea_cons ev_var (ea_cons ev_var (ea_cons (EvO.ev (eo_op (EvO.ev (eo_op (EvO.ev (eo_slL ev_var ep_none (ep_some ev_var))) (EvO.ev (eo_lst (ea_cons ev_var ea_nil))) od_cat)) (EvO.ev (eo_slL ev_var (ep_some (ev_op ev_var ev_int od_add)) ep_none)) od_cat)) ea_nil))))) (ea_cons (ev_tup (ea_cons ev_var (ea_cons (EvO.ev (eo_slL ev_var ep_none (ep_some (ev_un ev_int ud_neg)))) (ea_cons ev_var (ea_cons ev_var ea_nil))))) ea_nil))))) eg_name (sd_app (EvO.ev (eo_op (EvO.ev (eo_op (EvO.ev (eo_slL ev_var ep_none (ep_some ev_var))) (EvO.ev (eo_lst (ea_cons ev_var ea_nil))) od_cat)) (EvO.ev (eo_slL ev_var (ep_some (ev_op ev_var ev_int od_add)) ep_none)) od_cat))))
      (sd_seq (sd_for (ei_list (EvO.ev (eo_lst (ea_cons (ev_tup (ea_cons ev_var (ea_cons ev_var (ea_cons (EvO.ev (eo_op ev_var (EvO.ev (eo_lst (ea_cons ev_int ea_nil))) od_cat)) (ea_cons ev_var ea_nil))))) (ea_cons (ev_tup (ea_cons ev_var (ea_cons ev_var (ea_cons ev_var (ea_cons (EvO.ev (eo_slL ev_var (ep_some ev_int) ep_none)) ea_nil))))) (ea_cons (ev_tup (ea_cons ev_var (ea_cons ev_var (ea_cons ev_var (ea_cons ev_var ea_nil))))) ea_nil)))))) eg_name (sd_app (EvO.ev (eo_op (EvO.ev (eo_op (EvO.ev (eo_slL ev_var ep_none (ep_some ev_var))) (EvO.ev (eo_lst (ea_cons ev_var ea_nil))) od_cat)) (EvO.ev (eo_slL ev_var (ep_some (ev_op ev_var ev_int od_add)) ep_none)) od_cat))))
      sd_retX)))))))))⟩
abbrev s_shifted : Stmt := topS 4
theorem sc_shifted : FnScope N_shifted ["a", "c"] (defScope s_shifted) := ⟨rfl, rfl, rfl, by decide +kernel, rfl, by decide +kernel, by decide +kernel⟩
theorem ok_shifted {f : Addr} {fd : FuncData} (T : Tx K mg "shifted" s_shifted ["a", "c"] f fd) (b_max : mg "max" = none) : Df Pg w K mg base 1 "shifted" ["a", "c"] f_shifted :=
  Tx.df (P := Pg) (w := w) (base := base) (k := 0) (mm := m_shifted) T sc_shifted fun cdv A outer s H E hr => ⟨_, (pss_cons (ps_if (pt_cmpR op_isU (pv 0) pe_non (nomark _)) (pss_one (ps_ret pe_non)) pss_nil)
      (pss_one (ps_ret (pe_callB (call_max2 rfl) (by rfl) b_max (by decide +kernel) (pa_cons (pe_op op_addU (pv 0) (pv 1)) (pa_cons pe_int pa_nil)))))),
    (sd_seq (sd_if (et_test (ev_op ev_var ev_non od_is)) (sd_ret ev_non) sd_next)
      (sd_ret (ev_cb (ea_cons (ev_op ev_var ev_var od_add) (ea_cons ev_int ea_nil)) cd_max2)))⟩
abbrev s_least_of : Stmt := topS 2
theorem sc_least_of : FnScope N_least_of ["amounts"] (defScope s_least_of) := ⟨rfl, rfl, rfl, by decide +kernel, rfl, by decide +kernel, by decide +kernel⟩
theorem ok_least_of {f : Addr} {fd : FuncData} (T : Tx K mg "least_of" s_least_of ["amounts"] f fd) (b_min : mg "min" = none) : Df Pg w K mg base 1 "least_of" ["amounts"] f_least_of :=
  Tx.df (P := Pg) (w := w) (base := base) (k := 0) (mm := m_least_of) T sc_least_of fun cdv A outer s H E hr => ⟨_, (pss_cons (ps_setLc (i := 1) rfl sc_least_of.nd rfl rfl (sw_true rfl rfl rfl (by decide +kernel)) (own := [("amount", 2)]) (pi_list (pv 0)) (blkOk_by (own := [("amount", 2)]) (N := N_least_of) (sc := defScope s_least_of) (by decide +kernel)) (fun _ _ _ _ _ => (pg_name (i := 2) sc_least_of.nd rfl (Or.inl rfl))) (fun _ _ _ _ _ => pts_one (pt_cmpR op_notU (pv 2) pe_non (nomark _))) (fun _ _ _ _ _ => (pv 2)))
      (pss_one (ps_ret (pe_callBK (cr_minDf hr) (by rfl) b_min (by decide +kernel) (pa_cons (pv 1) pa_nil) (pk_cons pe_non pk_nil))))),
    (sd_seq (sd_asg (EvO.ev (eo_lcI (vs := [2]) (ei_list ev_var) eg_name (et_test (ev_op ev_var ev_non od_isNot)) ev_var)))
      (sd_ret (ev_ckw (ea_cons ev_var ea_nil) (ea_cons ev_non ea_nil) ck_pick)))⟩
abbrev s_greatest_of : Stmt := topS 3
theorem sc_greatest_of : FnScope N_greatest_of ["amounts"] (defScope s_greatest_of) := ⟨rfl, rfl, rfl, by decide +kernel, rfl, by decide +kernel, by decide +kernel⟩
theorem ok_greatest_of {f : Addr} {fd : FuncData} (T : Tx K mg "greatest_of" s_greatest_of ["amounts"] f fd) (b_max : mg "max" = none) : Df Pg w K mg base 1 "greatest_of" ["amounts"] f_greatest_of :=
  Tx.df (P := Pg) (w := w) (base := base) (k := 0) (mm := m_greatest_of) T sc_greatest_of fun cdv A outer s H E hr => ⟨_, (pss_cons (ps_if (pt_cmpR op_in_seq pe_non (pv 0) (by rfl)) (pss_one (ps_ret pe_non)) pss_nil)
      (pss_one (ps_ret (pe_callBK (cr_maxDf hr) (by rfl) b_max (by decide +kernel) (pa_cons (pv 0) pa_nil) (pk_cons pe_int pk_nil))))),
    (sd_seq (sd_if (et_test (ev_op ev_non ev_var od_in)) (sd_ret ev_non) sd_next)
      (sd_ret (ev_ckw (ea_cons ev_var ea_nil) (ea_cons ev_int ea_nil) ck_pick)))⟩
abbrev s_at_most : Stmt := topS 1
theorem sc_at_most : FnScope N_at_most ["a", "b"] (defScope s_at_most) := ⟨rfl, rfl, rfl, by decide +kernel, rfl, by decide +kernel, by decide +kernel⟩
theorem ok_at_most {f : Addr} {fd : FuncData} (T : Tx K mg "at_most" s_at_most ["a", "b"] f fd) : Df Pg w K mg base 1 "at_most" ["a", "b"] f_at_most :=
  Tx.df (P := Pg) (w := w) (base := base) (k := 0) (mm := m_at_most) T sc_at_most fun cdv A outer s H E hr => ⟨_, (pss_cons (ps_if (pt_cmpR op_isU (pv 1) pe_non (nomark _)) (pss_one (ps_ret pe_bl)) pss_nil)
      (pss_one (ps_ret (pe_and (pe_cmpR op_notU (pv 0) pe_non (nomark _)) (pe_one (pe_cmpR op_le (pv 0) (pv 1) (nomark _))))))),
    (sd_seq (sd_if (et_test (ev_op ev_var ev_non od_is)) (sd_ret ev_bl) sd_next)
      (sd_ret (ev_and (ev_op ev_var ev_non od_isNot) (ev_op ev_var ev_var od_le))))⟩
abbrev s_flat_value : Stmt := topS 6
theorem sc_flat_value : FnScope N_flat_value ["formula", "x"] (defScope s_flat_value) := ⟨rfl, rfl, rfl, by decide +kernel, rfl, by decide +kernel, by decide +kernel⟩
theorem ok_flat_value {f : Addr} {fd : FuncData} (T : Tx K mg "flat_value" s_flat_value ["formula", "x"] f fd) (D_at_most : Df Pg w K mg base 1 "at_most" ["a", "b"] f_at_most) (D_greatest_of : Df Pg w K mg base 1 "greatest_of" ["amounts"] f_greatest_of) (D_least_of : Df Pg w K mg base 1 "least_of" ["amounts"] f_least_of) (D_shifted : Df Pg w K mg base 1 "shifted" ["a", "c"] f_shifted) : Df Pg w K mg base 2 "flat_value" ["formula", "x"] f_flat_value :=
  Tx.df (P := Pg) (w := w) (base := base) (k := 1) (mm := m_flat_value) T sc_flat_value fun cdv A outer s H E hr => ⟨_, (pss_cons (ps_set (i := 2) sc_flat_value.nd rfl (Or.inl rfl) (pe_ix ix_seq (pv 0) pe_int (fun _ _ => rfl)))
      (pss_cons (ps_if (pt_cmpR (op_eqU hr.units) (pv 2) pe_str (nomark _)) (pss_one (ps_ret (pe_ix ix_seq (pv 0) pe_int (fun _ _ => rfl)))) pss_nil)
      (pss_cons (ps_if (pt_cmpR (op_eqU hr.units) (pv 2) pe_str (nomark _)) (pss_one (ps_ret (pe_ifExp (pt_val (pe_d D_at_most (hr.mono (by omega)) (by rfl) (pa_cons (pe_ix ix_seq (pv 0) pe_int (fun _ _ => rfl)) (pa_cons (pe_ix ix_seq (pv 1) (pe_ix ix_seq (pv 0) pe_int (fun _ _ => rfl)) (fun _ _ => rfl)) pa_nil)))) (pe_ix ix_seq (pv 1) (pe_ix ix_seq (pv 0) pe_int (fun _ _ => rfl)) (fun _ _ => rfl)) pe_int))) pss_nil)
      (pss_cons (ps_setLc (i := 3) rfl sc_flat_value.nd rfl rfl (sw_true rfl rfl rfl (by decide +kernel)) (own := [("cell", 4), ("shift", 5)]) (pi_list (pe_ix ix_seq (pv 0) pe_int (fun _ _ => rfl))) (blkOk_by (own := [("cell", 4), ("shift", 5)]) (N := N_flat_value) (sc := defScope s_flat_value) (by decide +kernel)) (fun _ _ _ _ _ => (pg_tup rfl (pgs_cons (pg_name (i := 4) sc_flat_value.nd rfl (Or.inl rfl)) (pgs_cons (pg_name (i := 5) sc_flat_value.nd rfl (Or.inl rfl)) pgs_nil)))) (fun _ _ _ _ _ => pts_nil) (fun _ _ _ _ _ => (pe_d D_shifted (hr.mono (by omega)) (by rfl) (pa_cons (pe_ix ix_seq (pv 1) (pv 4) (fun _ _ => rfl)) (pa_cons (pv 5) pa_nil)))))
      (pss_one (ps_ret (pe_ifExp (pt_cmpR (op_eqU hr.units) (pv 2) pe_str (nomark _)) (pe_d D_least_of (hr.mono (by omega)) (by rfl) (pa_cons (pv 3) pa_nil)) (pe_d D_greatest_of (hr.mono (by omega)) (by rfl) (pa_cons (pv 3) pa_nil))))))))),
    (sd_seq (sd_asg (ev_op ev_var ev_int od_ix))
      (sd_seq (sd_if (et_test (ev_op ev_var ev_str od_eq)) (sd_ret (ev_op ev_var ev_int od_ix)) sd_next)
      (sd_seq (sd_if (et_test (ev_op ev_var ev_str od_eq)) (sd_ret (ev_if (et_B (ev_call (ea_cons (ev_op ev_var ev_int od_ix) (ea_cons (ev_op ev_var (ev_op ev_var ev_int od_ix) od_ix) ea_nil)))) (ev_op ev_var (ev_op ev_var ev_int od_ix) od_ix) ev_int)) sd_next)
      (sd_seq (sd_asg (EvO.ev (eo_lcI (vs := [4, 5]) (ei_list (ev_op ev_var ev_int od_ix)) eg_pair et_yes (ev_call (ea_cons (ev_op ev_var ev_var od_ix) (ea_cons ev_var ea_nil))))))
      (sd_ret (ev_if (et_test (ev_op ev_var ev_str od_eq)) (ev_call (ea_cons ev_var ea_nil)) (ev_call (ea_cons ev_var ea_nil))))))))⟩
abbrev s_flat_values : Stmt := topS 7
theorem sc_flat_values : FnScope N_flat_values ["flat", "x"] (defScope s_flat_values) := ⟨rfl, rfl, rfl, by decide +kernel, rfl, by decide +kernel, by decide +kernel⟩
theorem ok_flat_values {f : Addr} {fd : FuncData} (T : Tx K mg "flat_values" s_flat_values ["flat", "x"] f fd) (D_flat_value : Df Pg w K mg base 2 "flat_value" ["formula", "x"] f_flat_value) : Df Pg w K mg base 3 "flat_values" ["flat", "x"] f_flat_values :=
  Tx.df (P := Pg) (w := w) (base := base) (k := 2) (mm := m_flat_values) T sc_flat_values fun cdv A outer s H E hr => ⟨_, (pss_one (ps_ret (pe_lc (own := [("formula", 2)]) rfl sc_flat_values.nd (pi_list (pv 0)) (blkOk_by (own := [("formula", 2)]) (N := N_flat_values) (sc := defScope s_flat_values) (by decide +kernel)) (fun _ _ _ _ _ => (pg_name (i := 2) sc_flat_values.nd rfl (Or.inl rfl))) (fun _ _ _ _ _ => pts_nil) (fun _ _ _ _ _ => (pe_d D_flat_value (hr.mono (by omega)) (by rfl) (pa_cons (pv 2) (pa_cons (pv 1) pa_nil))))))),
    (sd_retO (eo_lcI (vs := [2]) (ei_list ev_var) eg_name et_yes (ev_call (ea_cons ev_var (ea_cons ev_var ea_nil)))))⟩
abbrev s_is_flat_solution : Stmt := topS 8
theorem sc_is_flat_solution : FnScope N_is_flat_solution ["flat", "x"] (defScope s_is_flat_solution) := ⟨rfl, rfl, rfl, by decide +kernel, rfl, by decide +kernel, by decide +kernel⟩
theorem ok_is_flat_solution {f : Addr} {fd : FuncData} (T : Tx K mg "is_flat_solution" s_is_flat_solution ["flat", "x"] f fd) (D_flat_values : Df Pg w K mg base 3 "flat_values" ["flat", "x"] f_flat_values) : Df Pg w K mg base 4 "is_flat_solution" ["flat", "x"] f_is_flat_solution :=
  Tx.df (P := Pg) (w := w) (base := base) (k := 3) (mm := m_is_flat_solution) T sc_is_flat_solution fun cdv A outer s H E hr => ⟨_, (pss_one (ps_ret (pe_cmpR (op_eqU hr.units) (pe_d D_flat_values (hr.mono (by omega)) (by rfl) (pa_cons (pv 0) (pa_cons (pv 1) pa_nil))) (pv 1) (nomark _)))),
    (sd_ret (ev_op (ev_call (ea_cons ev_var (ea_cons ev_var ea_nil))) ev_var od_eq))⟩
abbrev s_conditions_of : Stmt := topS 11
theorem sc_conditions_of : FnScope N_conditions_of ["flat"] (defScope s_conditions_of) := ⟨rfl, rfl, rfl, by decide +kernel, rfl, by decide +kernel, by decide +kernel⟩
theorem ok_conditions_of {f : Addr} {fd : FuncData} (T : Tx K mg "conditions_of" s_conditions_of ["flat"] f fd) (b_enumerate : mg "enumerate" = none) : Df Pg w K mg base 1 "conditions_of" ["flat"] f_conditions_of :=
  Tx.df (P := Pg) (w := w) (base := base) (k := 0) (mm := m_conditions_of) T sc_conditions_of fun cdv A outer s H E hr => ⟨_, (pss_one (ps_ret (pe_lc (own := [("cell", 1), ("formula", 2)]) rfl sc_conditions_of.nd (pi_enum (by rfl) b_enumerate (pa_cons (pv 0) pa_nil)) (blkOk_by (own := [("cell", 1), ("formula", 2)]) (N := N_conditions_of) (sc := defScope s_conditions_of) (by decide +kernel)) (fun _ _ _ _ _ => (pg_tup rfl (pgs_cons (pg_name (i := 1) sc_conditions_of.nd rfl (Or.inl rfl)) (pgs_cons (pg_name (i := 2) sc_conditions_of.nd rfl (Or.inl rfl)) pgs_nil)))) (fun _ _ _ _ _ => pts_one (pt_cmpR (op_eqU hr.units) (pe_ix ix_seq (pv 2) pe_int (fun _ _ => rfl)) pe_str (nomark _))) (fun _ _ _ _ _ => (pv 1))))),
    (sd_retO (eo_lcI (vs := [1, 2]) (ei_enum (ea_cons ev_var ea_nil)) eg_pair (et_test (ev_op (ev_op ev_var ev_int od_ix) ev_str od_eq)) ev_var))⟩
abbrev s_is_held : Stmt := topS 18
theorem sc_is_held : FnScope N_is_held ["formula", "x", "cell", "held"] (defScope s_is_held) := ⟨rfl, rfl, rfl, by decide +kernel, rfl, by decide +kernel, by decide +kernel⟩
theorem ok_is_held {f : Addr} {fd : FuncData} (T : Tx K mg "is_held" s_is_held ["formula", "x", "cell", "held"] f fd) (b_all : mg "all" = none) (b_any : mg "any" = none) : Df Pg w K mg base 1 "is_held" ["formula", "x", "cell", "held"] f_is_held :=
  Tx.df (P := Pg) (w := w) (base := base) (k := 0) (mm := m_is_held) T sc_is_held fun cdv A outer s H E hr => ⟨_, (pss_cons (ps_if (pt_cmpR (op_eqU hr.units) (pe_ix ix_seq (pv 0) pe_int (fun _ _ => rfl)) pe_str (nomark _)) (pss_one (ps_ret pe_bl)) pss_nil)
      (pss_cons (ps_setLc (i := 4) rfl sc_is_held.nd rfl rfl (sw_true rfl rfl rfl (by decide +kernel)) (own := [("target", 5), ("_", 6)]) (pi_list (pe_ix ix_seq (pv 0) pe_int (fun _ _ => rfl))) (blkOk_by (own := [("target", 5), ("_", 6)]) (N := N_is_held) (sc := defScope s_is_held) (by decide +kernel)) (fun _ _ _ _ _ => (pg_tup rfl (pgs_cons (pg_name (i := 5) sc_is_held.nd rfl (Or.inl rfl)) (pgs_cons (pg_name (i := 6) sc_is_held.nd rfl (Or.inl rfl)) pgs_nil)))) (fun _ _ _ _ _ => pts_nil) (fun _ _ _ _ _ => (pe_and (pe_cmpR op_notU (pe_ix ix_seq (pv 1) (pv 5) (fun _ _ => rfl)) pe_non (nomark _)) (pe_one (pe_cmpR op_lt (pe_ix ix_seq (pv 3) (pv 5) (fun _ _ => rfl)) (pe_ix ix_seq (pv 3) (pv 2) (fun _ _ => rfl)) (nomark _))))))
      (pss_one (ps_ret (pe_ifExp (pt_cmpR (op_eqU hr.units) (pe_ix ix_seq (pv 0) pe_int (fun _ _ => rfl)) pe_str (nomark _)) (pe_callB (cr_any rfl) (by rfl) b_any (by decide +kernel) (pa_cons (pv 4) pa_nil)) (pe_callB (cr_all rfl) (by rfl) b_all (by decide +kernel) (pa_cons (pv 4) pa_nil))))))),
    (sd_seq (sd_if (et_test (ev_op (ev_op ev_var ev_int od_ix) ev_str od_eq)) (sd_ret ev_bl) sd_next)
      (sd_seq (sd_asg (EvO.ev (eo_lcI (vs := [5, 6]) (ei_list (ev_op ev_var ev_int od_ix)) eg_pair et_yes (ev_and (ev_op (ev_op ev_var ev_var od_ix) ev_non od_isNot) (ev_op (ev_op ev_var ev_var od_ix) (ev_op ev_var ev_var od_ix) od_lt)))))
      (sd_ret (ev_if (et_test (ev_op (ev_op ev_var ev_int od_ix) ev_str od_eq)) (ev_cb (ea_cons ev_var ea_nil) cd_any) (ev_cb (ea_cons ev_var ea_nil) cd_all)))))⟩
abbrev s_is_on_floor : Stmt := topS 16
theorem sc_is_on_floor : FnScope N_is_on_floor ["formula", "x", "cell"] (defScope s_is_on_floor) := ⟨rfl, rfl, rfl, by decide +kernel, rfl, by decide +kernel, by decide +kernel⟩
theorem ok_is_on_floor {f : Addr} {fd : FuncData} (T : Tx K mg "is_on_floor" s_is_on_floor ["formula", "x", "cell"] f fd) (b_any : mg "any" = none) : Df Pg w K mg base 1 "is_on_floor" ["formula", "x", "cell"] f_is_on_floor :=
  Tx.df (P := Pg) (w := w) (base := base) (k := 0) (mm := m_is_on_floor) T sc_is_on_floor fun cdv A outer s H E hr => ⟨_, (pss_one (ps_ret (pe_and (pe_cmpR (op_eqU hr.units) (pe_ix ix_seq (pv 1) (pv 2) (fun _ _ => rfl)) pe_int (nomark _)) (pe_one (pe_callB (cr_any rfl) (by rfl) b_any (by decide +kernel) (pa_cons (pe_lc (own := [("target", 3), ("shift", 4)]) rfl sc_is_on_floor.nd (pi_list (pe_ix ix_seq (pv 0) pe_int (fun _ _ => rfl))) (blkOk_by (own := [("target", 3), ("shift", 4)]) (N := N_is_on_floor) (sc := defScope s_is_on_floor) (by decide +kernel)) (fun _ _ _ _ _ => (pg_tup rfl (pgs_cons (pg_name (i := 3) sc_is_on_floor.nd rfl (Or.inl rfl)) (pgs_cons (pg_name (i := 4) sc_is_on_floor.nd rfl (Or.inl rfl)) pgs_nil)))) (fun _ _ _ _ _ => pts_nil) (fun _ _ _ _ _ => (pe_and (pe_cmpR op_notU (pe_ix ix_seq (pv 1) (pv 3) (fun _ _ => rfl)) pe_non (nomark _)) (pe_one (pe_cmpR op_lt (pe_op op_addU (pe_ix ix_seq (pv 1) (pv 3) (fun _ _ => rfl)) (pv 4)) pe_int (nomark _)))))) pa_nil)))))),
    (sd_ret (ev_and (ev_op (ev_op ev_var ev_var od_ix) ev_int od_eq) (ev_cb (ea_cons (EvO.ev (eo_lcI (vs := [3, 4]) (ei_list (ev_op ev_var ev_int od_ix)) eg_pair et_yes (ev_and (ev_op (ev_op ev_var ev_var od_ix) ev_non od_isNot) (ev_op (ev_op (ev_op ev_var ev_var od_ix) ev_var od_add) ev_int od_lt)))) ea_nil) cd_any)))⟩
abbrev s_free_targets : Stmt := topS 15
theorem sc_free_targets : FnScope N_free_targets ["formula", "x", "cell"] (defScope s_free_targets) := ⟨rfl, rfl, rfl, by decide +kernel, rfl, by decide +kernel, by decide +kernel⟩
theorem ok_free_targets {f : Addr} {fd : FuncData} (T : Tx K mg "free_targets" s_free_targets ["formula", "x", "cell"] f fd) : Df Pg w K mg base 1 "free_targets" ["formula", "x", "cell"] f_free_targets :=
  Tx.df (P := Pg) (w := w) (base := base) (k := 0) (mm := m_free_targets) T sc_free_targets fun cdv A outer s H E hr => ⟨_, (pss_one (ps_ret (pe_lc (own := [("target", 3), ("shift", 4)]) rfl sc_free_targets.nd (pi_list (pe_ix ix_seq (pv 0) pe_int (fun _ _ => rfl))) (blkOk_by (own := [("target", 3), ("shift", 4)]) (N := N_free_targets) (sc := defScope s_free_targets) (by decide +kernel)) (fun _ _ _ _ _ => (pg_tup rfl (pgs_cons (pg_name (i := 3) sc_free_targets.nd rfl (Or.inl rfl)) (pgs_cons (pg_name (i := 4) sc_free_targets.nd rfl (Or.inl rfl)) pgs_nil)))) (fun _ _ _ _ _ => pts_one (PW.pt (pw_and (pt_cmpR op_notU (pe_ix ix_seq (pv 1) (pv 3) (fun _ _ => rfl)) pe_non (nomark _)) (pw_and1 (pt_cmpR (op_eqU hr.units) (pe_op op_addU (pe_ix ix_seq (pv 1) (pv 3) (fun _ _ => rfl)) (pv 4)) (pe_ix ix_seq (pv 1) (pv 2) (fun _ _ => rfl)) (nomark _)))))) (fun _ _ _ _ _ => (pv 3))))),
    (sd_retO (eo_lcI (vs := [3, 4]) (ei_list (ev_op ev_var ev_int od_ix)) eg_pair (et_and (et_test (ev_op (ev_op ev_var ev_var od_ix) ev_non od_isNot)) (et_test (ev_op (ev_op (ev_op ev_var ev_var od_ix) ev_var od_add) (ev_op ev_var ev_var od_ix) od_eq))) ev_var))⟩
abbrev s_is_tight : Stmt := topS 19
theorem sc_is_tight : FnScope N_is_tight ["formula", "x", "cell", "tight"] (defScope s_is_tight) := ⟨rfl, rfl, rfl, by decide +kernel, rfl, by decide +kernel, by decide +kernel⟩
theorem ok_is_tight {f : Addr} {fd : FuncData} (T : Tx K mg "is_tight" s_is_tight ["formula", "x", "cell", "tight"] f fd) (D_free_targets : Df Pg w K mg base 1 "free_targets" ["formula", "x", "cell"] f_free_targets) (D_is_on_floor : Df Pg w K mg base 1 "is_on_floor" ["formula", "x", "cell"] f_is_on_floor) (b_all : mg "all" = none) (b_any : mg "any" = none) : Df Pg w K mg base 2 "is_tight" ["formula", "x", "cell", "tight"] f_is_tight :=
  Tx.df (P := Pg) (w := w) (base := base) (k := 1) (mm := m_is_tight) T sc_is_tight fun cdv A outer s H E hr => ⟨_, (pss_cons (ps_if (pt_cmpR (op_eqU hr.units) (pe_ix ix_seq (pv 0) pe_int (fun _ _ => rfl)) pe_str (nomark _)) (pss_one (ps_ret pe_bl)) pss_nil)
      (pss_cons (ps_setLc (i := 4) rfl sc_is_tight.nd rfl rfl (sw_true rfl rfl rfl (by decide +kernel)) (own := [("target", 5)]) (pi_list (pe_d D_free_targets (hr.mono (by omega)) (by rfl) (pa_cons (pv 0) (pa_cons (pv 1) (pa_cons (pv 2) pa_nil))))) (blkOk_by (own := [("target", 5)]) (N := N_is_tight) (sc := defScope s_is_tight) (by decide +kernel)) (fun _ _ _ _ _ => (pg_name (i := 5) sc_is_tight.nd rfl (Or.inl rfl))) (fun _ _ _ _ _ => pts_nil) (fun _ _ _ _ _ => (pe_cmpR op_lt (pe_ix ix_seq (pv 3) (pv 5) (fun _ _ => rfl)) (pe_ix ix_seq (pv 3) (pv 2) (fun _ _ => rfl)) (nomark _))))
      (pss_cons (ps_if (pt_cmpR (op_eqU hr.units) (pe_ix ix_seq (pv 0) pe_int (fun _ _ => rfl)) pe_str (nomark _)) (pss_one (ps_ret (pe_callB (cr_all rfl) (by rfl) b_all (by decide +kernel) (pa_cons (pv 4) pa_nil)))) pss_nil)
      (pss_one (ps_ret (pe_or (pe_d D_is_on_floor (hr.mono (by omega)) (by rfl) (pa_cons (pv 0) (pa_cons (pv 1) (pa_cons (pv 2) pa_nil)))) (pe_one (pe_callB (cr_any rfl) (by rfl) b_any (by decide +kernel) (pa_cons (pv 4) pa_nil))))))))),
    (sd_seq (sd_if (et_test (ev_op (ev_op ev_var ev_int od_ix) ev_str od_eq)) (sd_ret ev_bl) sd_next)
      (sd_seq (sd_asg (EvO.ev (eo_lcI (vs := [5]) (ei_list (ev_call (ea_cons ev_var (ea_cons ev_var (ea_cons ev_var ea_nil))))) eg_name et_yes (ev_op (ev_op ev_var ev_var od_ix) (ev_op ev_var ev_var od_ix) od_lt))))
      (sd_seq (sd_if (et_test (ev_op (ev_op ev_var ev_int od_ix) ev_str od_eq)) (sd_ret (ev_cb (ea_cons ev_var ea_nil) cd_all)) sd_next)
      (sd_ret (ev_or (ev_call (ea_cons ev_var (ea_cons ev_var (ea_cons ev_var ea_nil)))) (ev_cb (ea_cons ev_var ea_nil) cd_any))))))⟩
abbrev s_shows_greatest : Stmt := topS 17
theorem sc_shows_greatest : FnScope N_shows_greatest ["plain", "x", "held", "tight"] (defScope s_shows_greatest) := ⟨rfl, rfl, rfl, by decide +kernel, rfl, by decide +kernel, by decide +kernel⟩
theorem ok_shows_greatest {f : Addr} {fd : FuncData} (T : Tx K mg "shows_greatest" s_shows_greatest ["plain", "x", "held", "tight"] f fd) (D_is_flat_solution : Df Pg w K mg base 4 "is_flat_solution" ["flat", "x"] f_is_flat_solution) (D_is_held : Df Pg w K mg base 1 "is_held" ["formula", "x", "cell", "held"] f_is_held) (D_is_tight : Df Pg w K mg base 2 "is_tight" ["formula", "x", "cell", "tight"] f_is_tight) (b_all : mg "all" = none) (b_enumerate : mg "enumerate" = none) (b_len : mg "len" = none) : Df Pg w K mg base 5 "shows_greatest" ["plain", "x", "held", "tight"] f_shows_greatest :=
  Tx.df (P := Pg) (w := w) (base := base) (k := 4) (mm := m_shows_greatest) T sc_shows_greatest fun cdv A outer s H E hr => ⟨_, (pss_cons (ps_if (PW.pt (pw_or (pt_cmpR (op_neU hr.units) (pe_callB call_len (by rfl) b_len (by decide +kernel) (pa_cons (pv 1) pa_nil)) (pe_callB call_len (by rfl) b_len (by decide +kernel) (pa_cons (pv 0) pa_nil)) (nomark _)) (pw_or (pt_cmpR (op_neU hr.units) (pe_callB call_len (by rfl) b_len (by decide +kernel) (pa_cons (pv 2) pa_nil)) (pe_callB call_len (by rfl) b_len (by decide +kernel) (pa_cons (pv 0) pa_nil)) (nomark _)) (pw_or1 (pt_cmpR (op_neU hr.units) (pe_callB call_len (by rfl) b_len (by decide +kernel) (pa_cons (pv 3) pa_nil)) (pe_callB call_len (by rfl) b_len (by decide +kernel) (pa_cons (pv 0) pa_nil)) (nomark _)))))) (pss_one (ps_ret pe_bl)) pss_nil)
      (pss_cons (ps_if (pt_not (pt_val (pe_d D_is_flat_solution (hr.mono (by omega)) (by rfl) (pa_cons (pv 0) (pa_cons (pv 1) pa_nil))))) (pss_one (ps_ret pe_bl)) pss_nil)
      (pss_cons (ps_setLc (i := 4) rfl sc_shows_greatest.nd rfl rfl (sw_true rfl rfl rfl (by decide +kernel)) (own := [("cell", 5), ("amount", 6)]) (pi_enum (by rfl) b_enumerate (pa_cons (pv 1) pa_nil)) (blkOk_by (own := [("cell", 5), ("amount", 6)]) (N := N_shows_greatest) (sc := defScope s_shows_greatest) (by decide +kernel)) (fun _ _ _ _ _ => (pg_tup rfl (pgs_cons (pg_name (i := 5) sc_shows_greatest.nd rfl (Or.inl rfl)) (pgs_cons (pg_name (i := 6) sc_shows_greatest.nd rfl (Or.inl rfl)) pgs_nil)))) (fun _ _ _ _ _ => pts_one (pt_cmpR op_notU (pv 6) pe_non (nomark _))) (fun _ _ _ _ _ => (pv 5)))
      (pss_cons (ps_if (PW.pt (pw_or (pt_cmpR op_in_seq pe_non (pe_lc (own := [("cell", 5)]) rfl sc_shows_greatest.nd (pi_list (pv 4)) (blkOk_by (own := [("cell", 5)]) (N := N_shows_greatest) (sc := defScope s_shows_greatest) (by decide +kernel)) (fun _ _ _ _ _ => (pg_name (i := 5) sc_shows_greatest.nd rfl (Or.inl rfl))) (fun _ _ _ _ _ => pts_nil) (fun _ _ _ _ _ => (pe_ix ix_seq (pv 2) (pv 5) (fun _ _ => rfl)))) (by rfl)) (pw_or1 (pt_cmpR op_in_seq pe_non (pe_lc (own := [("cell", 5)]) rfl sc_shows_greatest.nd (pi_list (pv 4)) (blkOk_by (own := [("cell", 5)]) (N := N_shows_greatest) (sc := defScope s_shows_greatest) (by decide +kernel)) (fun _ _ _ _ _ => (pg_name (i := 5) sc_shows_greatest.nd rfl (Or.inl rfl))) (fun _ _ _ _ _ => pts_nil) (fun _ _ _ _ _ => (pe_ix ix_seq (pv 3) (pv 5) (fun _ _ => rfl)))) (by rfl))))) (pss_one (ps_ret pe_bl)) pss_nil)
      (pss_one (ps_ret (pe_callB (cr_all rfl) (by rfl) b_all (by decide +kernel) (pa_cons (pe_lc (own := [("cell", 5)]) rfl sc_shows_greatest.nd (pi_list (pv 4)) (blkOk_by (own := [("cell", 5)]) (N := N_shows_greatest) (sc := defScope s_shows_greatest) (by decide +kernel)) (fun _ _ _ _ _ => (pg_name (i := 5) sc_shows_greatest.nd rfl (Or.inl rfl))) (fun _ _ _ _ _ => pts_nil) (fun _ _ _ _ _ => (pe_and (pe_d D_is_held (hr.mono (by omega)) (by rfl) (pa_cons (pe_ix ix_seq (pv 0) (pv 5) (fun _ _ => rfl)) (pa_cons (pv 1) (pa_cons (pv 5) (pa_cons (pv 2) pa_nil))))) (pe_one (pe_d D_is_tight (hr.mono (by omega)) (by rfl) (pa_cons (pe_ix ix_seq (pv 0) (pv 5) (fun _ _ => rfl)) (pa_cons (pv 1) (pa_cons (pv 5) (pa_cons (pv 3) pa_nil))))))))) pa_nil)))))))),
    (sd_seq (sd_if (et_or (et_test (ev_op (ev_cb (ea_cons ev_var ea_nil) cd_len) (ev_cb (ea_cons ev_var ea_nil) cd_len) od_ne)) (et_or (et_test (ev_op (ev_cb (ea_cons ev_var ea_nil) cd_len) (ev_cb (ea_cons ev_var ea_nil) cd_len) od_ne)) (et_test (ev_op (ev_cb (ea_cons ev_var ea_nil) cd_len) (ev_cb (ea_cons ev_var ea_nil) cd_len) od_ne)))) (sd_ret ev_bl) sd_next)
      (sd_seq (sd_if (et_not (et_B (ev_call (ea_cons ev_var (ea_cons ev_var ea_nil))))) (sd_ret ev_bl) sd_next)
      (sd_seq (sd_asg (EvO.ev (eo_lcI (vs := [5, 6]) (ei_enum (ea_cons ev_var ea_nil)) eg_pair (et_test (ev_op ev_var ev_non od_isNot)) ev_var)))
      (sd_seq (sd_if (et_or (et_test (ev_op ev_non (EvO.ev (eo_lcI (vs := [5]) (ei_list ev_var) eg_name et_yes (ev_op ev_var ev_var od_ix))) od_in)) (et_test (ev_op ev_non (EvO.ev (eo_lcI (vs := [5]) (ei_list ev_var) eg_name et_yes (ev_op ev_var ev_var od_ix))) od_in))) (sd_ret ev_bl) sd_next)
      (sd_ret (ev_cb (ea_cons (EvO.ev (eo_lcI (vs := [5]) (ei_list ev_var) eg_name et_yes (ev_and (ev_call (ea_cons (ev_op ev_var ev_var od_ix) (ea_cons ev_var (ea_cons ev_var (ea_cons ev_var ea_nil))))) (ev_call (ea_cons (ev_op ev_var ev_var od_ix) (ea_cons ev_var (ea_cons ev_var (ea_cons ev_var ea_nil)))))))) ea_nil) cd_all))))))⟩
abbrev s_missed_conditions : Stmt := topS 20
theorem sc_missed_conditions : FnScope N_missed_conditions ["flat", "cells", "x"] (defScope s_missed_conditions) := ⟨rfl, rfl, rfl, by decide +kernel, rfl, by decide +kernel, by decide +kernel⟩
theorem ok_missed_conditions {f : Addr} {fd : FuncData} (T : Tx K mg "missed_conditions" s_missed_conditions ["flat", "cells", "x"] f fd) (D_at_most : Df Pg w K mg base 1 "at_most" ["a", "b"] f_at_most) : Df Pg w K mg base 2 "missed_conditions" ["flat", "cells", "x"] f_missed_conditions :=
  Tx.df (P := Pg) (w := w) (base := base) (k := 1) (mm := m_missed_conditions) T sc_missed_conditions fun cdv A outer s H E hr => ⟨_, (pss_one (ps_ret (pe_lc (own := [("cell", 3)]) rfl sc_missed_conditions.nd (pi_list (pv 1)) (blkOk_by (own := [("cell", 3)]) (N := N_missed_conditions) (sc := defScope s_missed_conditions) (by decide +kernel)) (fun _ _ _ _ _ => (pg_name (i := 3) sc_missed_conditions.nd rfl (Or.inl rfl))) (fun _ _ _ _ _ => pts_one (pt_not (pt_val (pe_d D_at_most (hr.mono (by omega)) (by rfl) (pa_cons (pe_ix ix_seq (pe_ix ix_seq (pv 0) (pv 3) (fun _ _ => rfl)) pe_int (fun _ _ => rfl)) (pa_cons (pe_ix ix_seq (pv 2) (pe_ix ix_seq (pe_ix ix_seq (pv 0) (pv 3) (fun _ _ => rfl)) pe_int (fun _ _ => rfl)) (fun _ _ => rfl)) pa_nil)))))) (fun _ _ _ _ _ => (pv 3))))),
    (sd_retO (eo_lcI (vs := [3]) (ei_list ev_var) eg_name (et_not (et_B (ev_call (ea_cons (ev_op (ev_op ev_var ev_var od_ix) ev_int od_ix) (ea_cons (ev_op ev_var (ev_op (ev_op ev_var ev_var od_ix) ev_int od_ix) od_ix) ea_nil))))) ev_var))⟩
abbrev s_closes_more : Stmt := topS 22
theorem sc_closes_more : FnScope N_closes_more ["flat", "before", "places"] (defScope s_closes_more) := ⟨rfl, rfl, rfl, by decide +kernel, rfl, by decide +kernel, by decide +kernel⟩
theorem ok_closes_more {f : Addr} {fd : FuncData} (T : Tx K mg "closes_more" s_closes_more ["flat", "before", "places"] f fd) (D_missed_conditions : Df Pg w K mg base 2 "missed_conditions" ["flat", "cells", "x"] f_missed_conditions) (b_len : mg "len" = none) : Df Pg w K mg base 3 "closes_more" ["flat", "before", "places"] f_closes_more :=
  Tx.df (P := Pg) (w := w) (base := base) (k := 2) (mm := m_closes_more) T sc_closes_more fun cdv A outer s H E hr => ⟨_, (pss_cons (ps_set (i := 3) sc_closes_more.nd rfl (Or.inr rfl) (pe_dc (own := [("cell", 5)]) rfl sc_closes_more.nd (pi_list (pv 2)) (blkOk_by (own := [("cell", 5)]) (N := N_closes_more) (sc := defScope s_closes_more) (by decide +kernel)) (fun _ _ _ _ _ => (pg_name (i := 5) sc_closes_more.nd rfl (Or.inl rfl))) (fun _ _ _ _ _ => pts_nil) (fun _ _ _ _ _ => (pv 5)) (fun _ _ _ _ _ => pe_bl)))
      (pss_cons (ps_if (PW.pt (pw_or (pt_cmpR (op_neU hr.units) (pv 2) (pe_lc (own := [("cell", 5)]) rfl sc_closes_more.nd (pi_list (pe_ix ix_seq (pv 1) pe_int (fun _ _ => rfl))) (blkOk_by (own := [("cell", 5)]) (N := N_closes_more) (sc := defScope s_closes_more) (by decide +kernel)) (fun _ _ _ _ _ => (pg_name (i := 5) sc_closes_more.nd rfl (Or.inl rfl))) (fun _ _ _ _ _ => pts_one (pt_cmp (pc_din (units1 hr) (pv 5) (pv 3)) (by rfl))) (fun _ _ _ _ _ => (pv 5))) (nomark _)) (pw_or1 (pt_cmpR (op_eqU hr.units) (pe_callB call_len (by rfl) b_len (by decide +kernel) (pa_cons (pv 2) pa_nil)) (pe_callB call_len (by rfl) b_len (by decide +kernel) (pa_cons (pe_ix ix_seq (pv 1) pe_int (fun _ _ => rfl)) pa_nil)) (nomark _))))) (pss_one (ps_ret pe_bl)) pss_nil)
      (pss_cons (ps_setLc (i := 4) rfl sc_closes_more.nd rfl rfl (sw_true rfl rfl rfl (by decide +kernel)) (own := [("cell", 5)]) (pi_list (pe_ix ix_seq (pv 1) pe_int (fun _ _ => rfl))) (blkOk_by (own := [("cell", 5)]) (N := N_closes_more) (sc := defScope s_closes_more) (by decide +kernel)) (fun _ _ _ _ _ => (pg_name (i := 5) sc_closes_more.nd rfl (Or.inl rfl))) (fun _ _ _ _ _ => pts_one (pt_cmp (pc_dnotin (units1 hr) (pv 5) (pv 3)) (by rfl))) (fun _ _ _ _ _ => (pv 5)))
      (pss_one (ps_ret (pe_cmpR (op_eqU hr.units) (pe_d D_missed_conditions (hr.mono (by omega)) (by rfl) (pa_cons (pv 0) (pa_cons (pv 4) (pa_cons (pe_ix ix_seq (pv 1) pe_int (fun _ _ => rfl)) pa_nil)))) (pv 4) (nomark _))))))),
    (sd_seq (sd_asg (ev_dset (vs := [5]) (ei_list ev_var) eg_name et_yes ev_var))
      (sd_seq (sd_if (et_or (et_test (ev_op ev_var (EvO.ev (eo_lcI (vs := [5]) (ei_list (ev_op ev_var ev_int od_ix)) eg_name (et_B (ev_din ev_var ev_var)) ev_var)) od_ne)) (et_test (ev_op (ev_cb (ea_cons ev_var ea_nil) cd_len) (ev_cb (ea_cons (ev_op ev_var ev_int od_ix) ea_nil) cd_len) od_eq))) (sd_ret ev_bl) sd_next)
      (sd_seq (sd_asg (EvO.ev (eo_lcI (vs := [5]) (ei_list (ev_op ev_var ev_int od_ix)) eg_name (et_B (ev_dnin ev_var ev_var)) ev_var)))
      (sd_ret (ev_op (ev_call (ea_cons ev_var (ea_cons ev_var (ea_cons (ev_op ev_var ev_int od_ix) ea_nil)))) ev_var od_eq)))))⟩
abbrev s_copied : Stmt := topS 9
theorem sc_copied : FnScope N_copied ["formula"] (defScope s_copied) := ⟨rfl, rfl, rfl, by decide +kernel, rfl, by decide +kernel, by decide +kernel⟩
theorem ok_copied {f : Addr} {fd : FuncData} (T : Tx K mg "copied" s_copied ["formula"] f fd) (b_list : mg "list" = none) : Df Pg w K mg base 1 "copied" ["formula"] f_copied :=
  Tx.df (P := Pg) (w := w) (base := base) (k := 0) (mm := m_copied) T sc_copied fun cdv A outer s H E hr => ⟨_, (pss_cons (ps_if (pt_cmpR op_in_seq (pe_ix ix_seq (pv 0) pe_int (fun _ _ => rfl)) (pe_tup (pa_cons pe_str (pa_cons pe_str pa_nil))) (by rfl)) (pss_one (ps_ret (pe_tup (pa_cons (pe_ix ix_seq (pv 0) pe_int (fun _ _ => rfl)) (pa_cons (pe_callTy call_list_of (by rfl) b_list (by decide +kernel) (pa_cons (pe_ix ix_seq (pv 0) pe_int (fun _ _ => rfl)) pa_nil)) pa_nil))))) pss_nil)
      (pss_one (ps_ret (pv 0)))),
    (sd_seq (sd_if (et_test (ev_op (ev_op ev_var ev_int od_ix) (ev_tup (ea_cons ev_str (ea_cons ev_str ea_nil))) od_in)) (sd_ret (ev_tup (ea_cons (ev_op ev_var ev_int od_ix) (ea_cons (EvO.ev (eo_cb (ea_cons (ev_op ev_var ev_int od_ix) ea_nil) co_list)) ea_nil)))) sd_next)
      (sd_ret ev_var))⟩
abbrev s_opened_formula : Stmt := topS 13
theorem sc_opened_formula : FnScope N_opened_formula ["formula", "is_open"] (defScope s_opened_formula) := ⟨rfl, rfl, rfl, by decide +kernel, rfl, by decide +kernel, by decide +kernel⟩
theorem ok_opened_formula {f : Addr} {fd : FuncData} (T : Tx K mg "opened_formula" s_opened_formula ["formula", "is_open"] f fd) (D_copied : Df Pg w K mg base 1 "copied" ["formula"] f_copied) : Df Pg w K mg base 2 "opened_formula" ["formula", "is_open"] f_opened_formula :=
  Tx.df (P := Pg) (w := w) (base := base) (k := 1) (mm := m_opened_formula) T sc_opened_formula fun cdv A outer s H E hr => ⟨_, (pss_cons (ps_if (pt_cmpR (op_eqU hr.units) (pe_ix ix_seq (pv 0) pe_int (fun _ _ => rfl)) pe_str (nomark _)) (pss_one (ps_ret (pe_ifExp (pt_truth (pv 1) (by intro _; rfl)) (pe_tup (pa_cons pe_str (pa_cons (pe_lst (pa_cons (pe_tup (pa_cons (pe_ix ix_seq (pv 0) pe_int (fun _ _ => rfl)) (pa_cons pe_int pa_nil))) pa_nil)) pa_nil))) (pe_tup (pa_cons pe_str (pa_cons pe_int pa_nil)))))) pss_nil)
      (pss_one (ps_ret (pe_d D_copied (hr.mono (by omega)) (by rfl) (pa_cons (pv 0) pa_nil))))),
    (sd_seq (sd_if (et_test (ev_op (ev_op ev_var ev_int od_ix) ev_str od_eq)) (sd_ret (ev_if (et_tru ev_var) (ev_tup (ea_cons ev_str (ea_cons (EvO.ev (eo_lst (ea_cons (ev_tup (ea_cons (ev_op ev_var ev_int od_ix) (ea_cons ev_int ea_nil))) ea_nil))) ea_nil))) (ev_tup (ea_cons ev_str (ea_cons ev_int ea_nil))))) sd_next)
      (sd_retC (ea_cons ev_var ea_nil)))⟩
abbrev s_opened : Stmt := topS 12
theorem sc_opened : FnScope N_opened ["flat", "places"] (defScope s_opened) := ⟨rfl, rfl, rfl, by decide +kernel, rfl, by decide +kernel, by decide +kernel⟩
theorem ok_opened {f : Addr} {fd : FuncData} (T : Tx K mg "opened" s_opened ["flat", "places"] f fd) (D_opened_formula : Df Pg w K mg base 2 "opened_formula" ["formula", "is_open"] f_opened_formula) (b_enumerate : mg "enumerate" = none) : Df Pg w K mg base 3 "opened" ["flat", "places"] f_opened :=
  Tx.df (P := Pg) (w := w) (base := base) (k := 2) (mm := m_opened) T sc_opened fun cdv A outer s H E hr => ⟨_, (pss_cons (ps_set (i := 2) sc_opened.nd rfl (Or.inr rfl) (pe_dc (own := [("place", 3)]) rfl sc_opened.nd (pi_list (pv 1)) (blkOk_by (own := [("place", 3)]) (N := N_opened) (sc := defScope s_opened) (by decide +kernel)) (fun _ _ _ _ _ => (pg_name (i := 3) sc_opened.nd rfl (Or.inl rfl))) (fun _ _ _ _ _ => pts_nil) (fun _ _ _ _ _ => (pv 3)) (fun _ _ _ _ _ => pe_bl)))
      (pss_one (ps_ret (pe_lc (own := [("cell", 4), ("formula", 5)]) rfl sc_opened.nd (pi_enum (by rfl) b_enumerate (pa_cons (pv 0) pa_nil)) (blkOk_by (own := [("cell", 4), ("formula", 5)]) (N := N_opened) (sc := defScope s_opened) (by decide +kernel)) (fun _ _ _ _ _ => (pg_tup rfl (pgs_cons (pg_name (i := 4) sc_opened.nd rfl (Or.inl rfl)) (pgs_cons (pg_name (i := 5) sc_opened.nd rfl (Or.inl rfl)) pgs_nil)))) (fun _ _ _ _ _ => pts_nil) (fun _ _ _ _ _ => (pe_d D_opened_formula (hr.mono (by omega)) (by rfl) (pa_cons (pv 5) (pa_cons (pe_cmp (pc_din (units1 hr) (pv 4) (pv 2)) (by rfl)) pa_nil)))))))),
    (sd_seq (sd_asg (ev_dset (vs := [3]) (ei_list ev_var) eg_name et_yes ev_var))
      (sd_retO (eo_lcI (vs := [4, 5]) (ei_enum (ea_cons ev_var ea_nil)) eg_pair et_yes (ev_call (ea_cons ev_var (ea_cons (ev_din ev_var ev_var) ea_nil))))))⟩
abbrev s_is_greatest_paper : Stmt := topS 21
theorem sc_is_greatest_paper : FnScope N_is_greatest_paper ["flat", "paper"] (defScope s_is_greatest_paper) := ⟨rfl, rfl, rfl, by decide +kernel, rfl, by decide +kernel, by decide +kernel⟩
theorem ok_is_greatest_paper {f : Addr} {fd : FuncData} (T : Tx K mg "is_greatest_paper" s_is_greatest_paper ["flat", "paper"] f fd) (D_closes_more : Df Pg w K mg base 3 "closes_more" ["flat", "before", "places"] f_closes_more) (D_conditions_of : Df Pg w K mg base 1 "conditions_of" ["flat"] f_conditions_of) (D_is_flat_solution : Df Pg w K mg base 4 "is_flat_solution" ["flat", "x"] f_is_flat_solution) (D_opened : Df Pg w K mg base 3 "opened" ["flat", "places"] f_opened) (D_shows_greatest : Df Pg w K mg base 5 "shows_greatest" ["plain", "x", "held", "tight"] f_shows_greatest) (b_enumerate : mg "enumerate" = none) : Df Pg w K mg base 6 "is_greatest_paper" ["flat", "paper"] f_is_greatest_paper :=
  Tx.df (P := Pg) (w := w) (base := base) (k := 5) (mm := m_is_greatest_paper) T sc_is_greatest_paper fun cdv A outer s H E hr => ⟨_, (pss_cons (ps_if (PW.pt (pw_or (pt_not (pt_truth (pv 1) (by intro _; rfl))) (pw_or1 (pt_cmpR (op_neU hr.units) (pe_ix ix_seq (pe_ix ix_seq (pv 1) pe_int (fun _ _ => rfl)) pe_int (fun _ _ => rfl)) (pe_d D_conditions_of (hr.mono (by omega)) (by rfl) (pa_cons (pv 0) pa_nil)) (nomark _))))) (pss_one (ps_ret pe_bl)) pss_nil)
      (pss_cons (ps_for PassesOwn.never rfl (pi_enum (by rfl) b_enumerate (pa_cons (pv 1) pa_nil)) (pg_tup rfl (pgs_cons (pg_name (i := 2) sc_is_greatest_paper.nd rfl (Or.inl rfl)) (pgs_cons (pg_tup rfl (pgs_cons (pg_name (i := 3) sc_is_greatest_paper.nd rfl (Or.inl rfl)) (pgs_cons (pg_name (i := 4) sc_is_greatest_paper.nd rfl (Or.inl rfl)) (pgs_cons (pg_name (i := 5) sc_is_greatest_paper.nd rfl (Or.inl rfl)) (pgs_cons (pg_name (i := 6) sc_is_greatest_paper.nd rfl (Or.inl rfl)) pgs_nil))))) pgs_nil))) (pss_cons (ps_if (PW.pt (pw_and (pt_cmpR op_gt (pv 2) pe_int (nomark _)) (pw_and1 (pt_not (pt_val (pe_d D_closes_more (hr.mono (by omega)) (by rfl) (pa_cons (pv 0) (pa_cons (pe_ix ix_seq (pv 1) (pe_op op_sub (pv 2) pe_int) (fun _ _ => rfl)) (pa_cons (pv 3) pa_nil))))))))) (pss_one (ps_ret pe_bl)) pss_nil)
      (pss_one (ps_if (pt_not (pt_val (pe_d D_shows_greatest (hr.mono (by omega)) (by rfl) (pa_cons (pe_d D_opened (hr.mono (by omega)) (by rfl) (pa_cons (pv 0) (pa_cons (pv 3) pa_nil))) (pa_cons (pv 4) (pa_cons (pv 5) (pa_cons (pv 6) pa_nil))))))) (pss_one (ps_ret pe_bl)) pss_nil))))
      (pss_one (ps_ret (pe_d D_is_flat_solution (hr.mono (by omega)) (by rfl) (pa_cons (pv 0) (pa_cons (pe_ix ix_seq (pe_ix ix_seq (pv 1) (pe_un un_neg pe_int) (fun _ _ => rfl)) pe_int (fun _ _ => rfl)) pa_nil))))))),
    (sd_seq (sd_if (et_or (et_not (et_tru ev_var)) (et_test (ev_op (ev_op (ev_op ev_var ev_int od_ix) ev_int od_ix) (ev_call (ea_cons ev_var ea_nil)) od_ne))) (sd_ret ev_bl) sd_next)
      (sd_seq (sd_for (ei_enum (ea_cons ev_var ea_nil)) (eg_nest eg_quad) (sd_seq (sd_if (et_and (et_test (ev_op ev_var ev_int od_gt)) (et_not (et_B (ev_call (ea_cons ev_var (ea_cons (ev_op ev_var (ev_op ev_var ev_int od_sub) od_ix) (ea_cons ev_var ea_nil))))))) (sd_ret ev_bl) sd_next)
      (sd_if (et_not (et_B (ev_call (ea_cons (ev_call (ea_cons ev_var (ea_cons ev_var ea_nil))) (ea_cons ev_var (ea_cons ev_var (ea_cons ev_var ea_nil))))))) (sd_ret ev_bl) sd_next)))
      (sd_retC (ea_cons ev_var (ea_cons (ev_op (ev_op ev_var (ev_un ev_int ud_neg) od_ix) ev_int od_ix) ea_nil)))))⟩
abbrev s__law_shows : Stmt := topS 39
theorem sc__law_shows : FnScope N__law_shows ["plain", "x", "held", "tight"] (defScope s__law_shows) := ⟨rfl, rfl, rfl, by decide +kernel, rfl, by decide +kernel, by decide +kernel⟩
theorem ok__law_shows {f : Addr} {fd : FuncData} (T : Tx K mg "_law_shows" s__law_shows ["plain", "x", "held", "tight"] f fd) (D__law_can_be : Df Pg w K mg base 1 "_law_can_be" ["plain", "x", "k", "ranks", "rank"] f__law_can_be) (D__law_flat_values : Df Pg w K mg base 4 "_law_flat_values" ["flat", "x"] f__law_flat_values) (b_len : mg "len" = none) (b_range : mg "range" = none) : Df Pg w K mg base 5 "_law_shows" ["plain", "x", "held", "tight"] f__law_shows :=
  Tx.df (P := Pg) (w := w) (base := base) (k := 4) (mm := m__law_shows) T sc__law_shows fun cdv A outer s H E hr => ⟨_, (pss_cons (ps_if (pt_cmpR (op_neU hr.units) (pv 1) (pe_d D__law_flat_values (hr.mono (by omega)) (by rfl) (pa_cons (pv 0) (pa_cons (pv 1) pa_nil))) (nomark _)) (pss_one (ps_ret pe_bl)) pss_nil)
      (pss_cons (ps_for PassesOwn.never rfl (pi_range1 rfl b_range (pa_cons (pe_callB call_len (by rfl) b_len (by decide +kernel) (pa_cons (pv 0) pa_nil)) pa_nil)) (pg_name (i := 4) sc__law_shows.nd rfl (Or.inr rfl)) (pss_one (ps_if (pt_cmpR op_notU (pe_ix ix_seq (pv 1) (pv 4) (fun _ _ => rfl)) pe_non (nomark _)) (pss_cons (ps_if (PW.pt (pw_or (pt_cmpR op_isU (pe_ix ix_seq (pv 2) (pv 4) (fun _ _ => rfl)) pe_non (nomark _)) (pw_or1 (pt_cmpR op_isU (pe_ix ix_seq (pv 3) (pv 4) (fun _ _ => rfl)) pe_non (nomark _))))) (pss_one (ps_ret pe_bl)) pss_nil)
      (pss_cons (ps_if (pt_cmpR (op_neU hr.units) (pe_ix ix_seq (pe_ix ix_seq (pv 0) (pv 4) (fun _ _ => rfl)) pe_int (fun _ _ => rfl)) pe_str (nomark _)) (pss_cons (ps_setLc (i := 5) rfl sc__law_shows.nd rfl rfl (sw_true rfl rfl rfl (by decide +kernel)) (own := [("j", 6), ("c", 7)]) (pi_list (pe_ix ix_seq (pe_ix ix_seq (pv 0) (pv 4) (fun _ _ => rfl)) pe_int (fun _ _ => rfl))) (blkOk_by (own := [("j", 6), ("c", 7)]) (N := N__law_shows) (sc := defScope s__law_shows) (by decide +kernel)) (fun _ _ _ _ _ => (pg_tup rfl (pgs_cons (pg_name (i := 6) sc__law_shows.nd rfl (Or.inl rfl)) (pgs_cons (pg_name (i := 7) sc__law_shows.nd rfl (Or.inl rfl)) pgs_nil)))) (fun _ _ _ _ _ => pts_one (PW.pt (pw_and (pt_cmpR op_notU (pe_ix ix_seq (pv 1) (pv 6) (fun _ _ => rfl)) pe_non (nomark _)) (pw_and (pt_cmpR op_notU (pe_ix ix_seq (pv 2) (pv 6) (fun _ _ => rfl)) pe_non (nomark _)) (pw_and1 (pt_cmpR op_lt (pe_ix ix_seq (pv 2) (pv 6) (fun _ _ => rfl)) (pe_ix ix_seq (pv 2) (pv 4) (fun _ _ => rfl)) (nomark _))))))) (fun _ _ _ _ _ => (pv 6)))
      (pss_one (ps_if (PW.pt (pw_or (pt_cmpR (op_eqU hr.units) (pe_callB call_len (by rfl) b_len (by decide +kernel) (pa_cons (pv 5) pa_nil)) pe_int (nomark _)) (pw_or1 (PW.pt (pw_and (pt_cmpR (op_eqU hr.units) (pe_ix ix_seq (pe_ix ix_seq (pv 0) (pv 4) (fun _ _ => rfl)) pe_int (fun _ _ => rfl)) pe_str (nomark _)) (pw_and1 (pt_cmpR op_lt (pe_callB call_len (by rfl) b_len (by decide +kernel) (pa_cons (pv 5) pa_nil)) (pe_callB call_len (by rfl) b_len (by decide +kernel) (pa_cons (pe_ix ix_seq (pe_ix ix_seq (pv 0) (pv 4) (fun _ _ => rfl)) pe_int (fun _ _ => rfl)) pa_nil)) (nomark _)))))))) (pss_one (ps_ret pe_bl)) pss_nil))) pss_nil)
      (pss_one (ps_if (pt_not (pt_val (pe_d D__law_can_be (hr.mono (by omega)) (by rfl) (pa_cons (pv 0) (pa_cons (pv 1) (pa_cons (pv 4) (pa_cons (pv 3) (pa_cons (pe_ix ix_seq (pv 3) (pv 4) (fun _ _ => rfl)) pa_nil)))))))) (pss_one (ps_ret pe_bl)) pss_nil)))) pss_nil)))
      (pss_one (ps_ret pe_bl)))),
    (sd_seq (sd_if (et_test (ev_op ev_var (ev_call (ea_cons ev_var (ea_cons ev_var ea_nil))) od_ne)) (sd_ret ev_bl) sd_next)
      (sd_seq (sd_for (ei_rng1 (ea_cons (ev_cb (ea_cons ev_var ea_nil) cd_len) ea_nil)) eg_name (sd_if (et_test (ev_op (ev_op ev_var ev_var od_ix) ev_non od_isNot)) (sd_seq (sd_if (et_or (et_test (ev_op (ev_op ev_var ev_var od_ix) ev_non od_is)) (et_test (ev_op (ev_op ev_var ev_var od_ix) ev_non od_is))) (sd_ret ev_bl) sd_next)
      (sd_seq (sd_if (et_test (ev_op (ev_op (ev_op ev_var ev_var od_ix) ev_int od_ix) ev_str od_ne)) (sd_seq (sd_asg (EvO.ev (eo_lcI (vs := [6, 7]) (ei_list (ev_op (ev_op ev_var ev_var od_ix) ev_int od_ix)) eg_pair (et_and (et_test (ev_op (ev_op ev_var ev_var od_ix) ev_non od_isNot)) (et_and (et_test (ev_op (ev_op ev_var ev_var od_ix) ev_non od_isNot)) (et_test (ev_op (ev_op ev_var ev_var od_ix) (ev_op ev_var ev_var od_ix) od_lt)))) ev_var)))
      (sd_if (et_or (et_test (ev_op (ev_cb (ea_cons ev_var ea_nil) cd_len) ev_int od_eq)) (et_and (et_test (ev_op (ev_op (ev_op ev_var ev_var od_ix) ev_int od_ix) ev_str od_eq)) (et_test (ev_op (ev_cb (ea_cons ev_var ea_nil) cd_len) (ev_cb (ea_cons (ev_op (ev_op ev_var ev_var od_ix) ev_int od_ix) ea_nil) cd_len) od_lt)))) (sd_ret ev_bl) sd_next)) sd_next)
      (sd_if (et_not (et_B (ev_call (ea_cons ev_var (ea_cons ev_var (ea_cons ev_var (ea_cons ev_var (ea_cons (ev_op ev_var ev_var od_ix) ea_nil)))))))) (sd_ret ev_bl) sd_next))) sd_next))
      (sd_ret ev_bl)))⟩
abbrev s__law_right : Stmt := topS 41
theorem sc__law_right : FnScope N__law_right ["flat", "paper"] (defScope s__law_right) := ⟨rfl, rfl, rfl, by decide +kernel, rfl, by decide +kernel, by decide +kernel⟩
theorem ok__law_right {f : Addr} {fd : FuncData} (T : Tx K mg "_law_right" s__law_right ["flat", "paper"] f fd) (D__law_at_most : Df Pg w K mg base 1 "_law_at_most" ["a", "b"] f__law_at_most) (D__law_conditions : Df Pg w K mg base 1 "_law_conditions" ["flat"] f__law_conditions) (D__law_flat_values : Df Pg w K mg base 4 "_law_flat_values" ["flat", "x"] f__law_flat_values) (D__law_opened : Df Pg w K mg base 1 "_law_opened" ["flat", "places"] f__law_opened) (D__law_shows : Df Pg w K mg base 5 "_law_shows" ["plain", "x", "held", "tight"] f__law_shows) (b_len : mg "len" = none) (b_range : mg "range" = none) : Df Pg w K mg base 6 "_law_right" ["flat", "paper"] f__law_right :=
  Tx.df (P := Pg) (w := w) (base := base) (k := 5) (mm := m__law_right) T sc__law_right fun cdv A outer s H E hr => ⟨_, (pss_cons (ps_if (PW.pt (pw_or (pt_cmpR (op_eqU hr.units) (pe_callB call_len (by rfl) b_len (by decide +kernel) (pa_cons (pv 1) pa_nil)) pe_int (nomark _)) (pw_or1 (pt_cmpR (op_neU hr.units) (pe_ix ix_seq (pe_ix ix_seq (pv 1) pe_int (fun _ _ => rfl)) pe_int (fun _ _ => rfl)) (pe_d D__law_conditions (hr.mono (by omega)) (by rfl) (pa_cons (pv 0) pa_nil)) (nomark _))))) (pss_one (ps_ret pe_bl)) pss_nil)
      (pss_cons (ps_for PassesOwn.never rfl (pi_range1 rfl b_range (pa_cons (pe_callB call_len (by rfl) b_len (by decide +kernel) (pa_cons (pv 1) pa_nil)) pa_nil)) (pg_name (i := 2) sc__law_right.nd rfl (Or.inl rfl)) (pss_cons (ps_asg (pe_ix ix_seq (pv 1) (pv 2) (fun _ _ => rfl)) (pg_tup rfl (pgs_cons (pg_name (i := 3) sc__law_right.nd rfl (Or.inr rfl)) (pgs_cons (pg_name (i := 4) sc__law_right.nd rfl (Or.inl rfl)) (pgs_cons (pg_name (i := 5) sc__law_right.nd rfl (Or.inl rfl)) (pgs_cons (pg_name (i := 6) sc__law_right.nd rfl (Or.inl rfl)) pgs_nil))))))
      (pss_cons (ps_if (pt_cmpR (op_neU hr.units) (pe_lc (own := [("one", 10)]) rfl sc__law_right.nd (pi_list (pe_lst (pa_cons (pv 4) (pa_cons (pv 5) (pa_cons (pv 6) pa_nil))))) (blkOk_by (own := [("one", 10)]) (N := N__law_right) (sc := defScope s__law_right) (by decide +kernel)) (fun _ _ _ _ _ => (pg_name (i := 10) sc__law_right.nd rfl (Or.inl rfl))) (fun _ _ _ _ _ => pts_nil) (fun _ _ _ _ _ => (pe_callB call_len (by rfl) b_len (by decide +kernel) (pa_cons (pv 10) pa_nil)))) (pe_lst (pa_cons (pe_callB call_len (by rfl) b_len (by decide +kernel) (pa_cons (pv 0) pa_nil)) (pa_cons (pe_callB call_len (by rfl) b_len (by decide +kernel) (pa_cons (pv 0) pa_nil)) (pa_cons (pe_callB call_len (by rfl) b_len (by decide +kernel) (pa_cons (pv 0) pa_nil)) pa_nil)))) (nomark _)) (pss_one (ps_ret pe_bl)) pss_nil)
      (pss_cons (ps_if (pt_cmpR op_gt (pv 2) pe_int (nomark _)) (pss_cons (ps_par (i := 7) (j := 8) (by rfl) sc__law_right.nd rfl rfl (by decide) rfl rfl (pa_cons (pe_ix ix_seq (pe_ix ix_seq (pv 1) (pe_op op_sub (pv 2) pe_int) (fun _ _ => rfl)) pe_int (fun _ _ => rfl)) (pa_cons (pe_ix ix_seq (pe_ix ix_seq (pv 1) (pe_op op_sub (pv 2) pe_int) (fun _ _ => rfl)) pe_int (fun _ _ => rfl)) pa_nil)) (by rfl))
      (pss_cons (ps_if (PW.pt (pw_or (pt_cmpR op_ge (pe_callB call_len (by rfl) b_len (by decide +kernel) (pa_cons (pv 3) pa_nil)) (pe_callB call_len (by rfl) b_len (by decide +kernel) (pa_cons (pv 7) pa_nil)) (nomark _)) (pw_or1 (pt_cmpR (op_neU hr.units) (pv 3) (pe_lc (own := [("k", 9)]) rfl sc__law_right.nd (pi_list (pv 7)) (blkOk_by (own := [("k", 9)]) (N := N__law_right) (sc := defScope s__law_right) (by decide +kernel)) (fun _ _ _ _ _ => (pg_name (i := 9) sc__law_right.nd rfl (Or.inl rfl))) (fun _ _ _ _ _ => pts_one (pt_cmpR op_in_seq (pv 9) (pv 3) (by rfl))) (fun _ _ _ _ _ => (pv 9))) (nomark _))))) (pss_one (ps_ret pe_bl)) pss_nil)
      (pss_one (ps_for PassesOwn.never rfl (pi_list (pv 7)) (pg_name (i := 9) sc__law_right.nd rfl (Or.inl rfl)) (pss_one (ps_if (PW.pt (pw_and (pt_cmpR op_notIn_seq (pv 9) (pv 3) (by rfl)) (pw_and1 (pt_val (pe_d D__law_at_most (hr.mono (by omega)) (by rfl) (pa_cons (pe_ix ix_seq (pe_ix ix_seq (pv 0) (pv 9) (fun _ _ => rfl)) pe_int (fun _ _ => rfl)) (pa_cons (pe_ix ix_seq (pv 8) (pe_ix ix_seq (pe_ix ix_seq (pv 0) (pv 9) (fun _ _ => rfl)) pe_int (fun _ _ => rfl)) (fun _ _ => rfl)) pa_nil))))))) (pss_one (ps_ret pe_bl)) pss_nil)))))) pss_nil)
      (pss_one (ps_if (pt_not (pt_val (pe_d D__law_shows (hr.mono (by omega)) (by rfl) (pa_cons (pe_d D__law_opened (hr.mono (by omega)) (by rfl) (pa_cons (pv 0) (pa_cons (pv 3) pa_nil))) (pa_cons (pv 4) (pa_cons (pv 5) (pa_cons (pv 6) pa_nil))))))) (pss_one (ps_ret pe_bl)) pss_nil))))))
      (pss_one (ps_ret (pe_cmpR (op_eqU hr.units) (pe_ix ix_seq (pe_ix ix_seq (pv 1) (pe_un un_neg pe_int) (fun _ _ => rfl)) pe_int (fun _ _ => rfl)) (pe_d D__law_flat_values (hr.mono (by omega)) (by rfl) (pa_cons (pv 0) (pa_cons (pe_ix ix_seq (pe_ix ix_seq (pv 1) (pe_un un_neg pe_int) (fun _ _ => rfl)) pe_int (fun _ _ => rfl)) pa_nil))) (nomark _)))))),
    (sd_seq (sd_if (et_or (et_test (ev_op (ev_cb (ea_cons ev_var ea_nil) cd_len) ev_int od_eq)) (et_test (ev_op (ev_op (ev_op ev_var ev_int od_ix) ev_int od_ix) (ev_call (ea_cons ev_var ea_nil)) od_ne))) (sd_ret ev_bl) sd_next)
      (sd_seq (sd_for (ei_rng1 (ea_cons (ev_cb (ea_cons ev_var ea_nil) cd_len) ea_nil)) eg_name (sd_seq (sd_asgG (ev_op ev_var ev_var od_ix) eg_quad)
      (sd_seq (sd_if (et_test (ev_op (EvO.ev (eo_lcI (vs := [10]) (ei_list (EvO.ev (eo_lst (ea_cons ev_var (ea_cons ev_var (ea_cons ev_var ea_nil)))))) eg_name et_yes (ev_cb (ea_cons ev_var ea_nil) cd_len))) (EvO.ev (eo_lst (ea_cons (ev_cb (ea_cons ev_var ea_nil) cd_len) (ea_cons (ev_cb (ea_cons ev_var ea_nil) cd_len) (ea_cons (ev_cb (ea_cons ev_var ea_nil) cd_len) ea_nil))))) od_ne)) (sd_ret ev_bl) sd_next)
      (sd_seq (sd_if (et_test (ev_op ev_var ev_int od_gt)) (sd_seq (sd_par (ea_cons (ev_op (ev_op ev_var (ev_op ev_var ev_int od_sub) od_ix) ev_int od_ix) (ea_cons (ev_op (ev_op ev_var (ev_op ev_var ev_int od_sub) od_ix) ev_int od_ix) ea_nil)))
      (sd_seq (sd_if (et_or (et_test (ev_op (ev_cb (ea_cons ev_var ea_nil) cd_len) (ev_cb (ea_cons ev_var ea_nil) cd_len) od_ge)) (et_test (ev_op ev_var (EvO.ev (eo_lcI (vs := [9]) (ei_list ev_var) eg_name (et_test (ev_op ev_var ev_var od_in)) ev_var)) od_ne))) (sd_ret ev_bl) sd_next)
      (sd_for (ei_list ev_var) eg_name (sd_if (et_and (et_test (ev_op ev_var ev_var od_notIn)) (et_B (ev_call (ea_cons (ev_op (ev_op ev_var ev_var od_ix) ev_int od_ix) (ea_cons (ev_op ev_var (ev_op (ev_op ev_var ev_var od_ix) ev_int od_ix) od_ix) ea_nil))))) (sd_ret ev_bl) sd_next)))) sd_next)
      (sd_if (et_not (et_B (ev_call (ea_cons (ev_call (ea_cons ev_var (ea_cons ev_var ea_nil))) (ea_cons ev_var (ea_cons ev_var (ea_cons ev_var ea_nil))))))) (sd_ret ev_bl) sd_next)))))
      (sd_ret (ev_op (ev_op (ev_op ev_var (ev_un ev_int ud_neg) od_ix) ev_int od_ix) (ev_call (ea_cons ev_var (ea_cons (ev_op (ev_op ev_var (ev_un ev_int ud_neg) od_ix) ev_int od_ix) ea_nil))) od_eq))))⟩
abbrev s__law_stages : Stmt := topS 40
theorem sc__law_stages : FnScope N__law_stages ["flat"] (defScope s__law_stages) := ⟨rfl, rfl, rfl, by decide +kernel, rfl, by decide +kernel, by decide +kernel⟩
theorem ok__law_stages {f : Addr} {fd : FuncData} (T : Tx K mg "_law_stages" s__law_stages ["flat"] f fd) (D__law_at_most : Df Pg w K mg base 1 "_law_at_most" ["a", "b"] f__law_at_most) (D__law_conditions : Df Pg w K mg base 1 "_law_conditions" ["flat"] f__law_conditions) (D__law_flat_greatest : Df Pg w K mg base 5 "_law_flat_greatest" ["flat"] f__law_flat_greatest) (D__law_opened : Df Pg w K mg base 1 "_law_opened" ["flat", "places"] f__law_opened) (b_len : mg "len" = none) (b_range : mg "range" = none) : Df Pg w K mg base 6 "_law_stages" ["flat"] f__law_stages :=
  Tx.df (P := Pg) (w := w) (base := base) (k := 5) (mm := m__law_stages) T sc__law_stages fun cdv A outer s H E hr => ⟨_, (pss_cons (ps_set (i := 1) sc__law_stages.nd rfl (Or.inl rfl) (pe_d D__law_conditions (hr.mono (by omega)) (by rfl) (pa_cons (pv 0) pa_nil)))
      (pss_cons (ps_set (i := 2) sc__law_stages.nd rfl (Or.inl rfl) (pe_lst pa_nil))
      (pss_cons (ps_for PassesOwn.never rfl (pi_range1 rfl b_range (pa_cons (pe_op op_addU (pe_callB call_len (by rfl) b_len (by decide +kernel) (pa_cons (pv 0) pa_nil)) pe_int) pa_nil)) (pg_name (i := 3) sc__law_stages.nd rfl (Or.inl rfl)) (pss_cons (ps_set (i := 4) sc__law_stages.nd rfl (Or.inr rfl) (pe_d D__law_flat_greatest (hr.mono (by omega)) (by rfl) (pa_cons (pe_d D__law_opened (hr.mono (by omega)) (by rfl) (pa_cons (pv 0) (pa_cons (pv 1) pa_nil))) pa_nil)))
      (pss_cons (ps_expr (pe_bm PySem.F.plainAttrs_list PySem.F.slot_list_append PySem.F.type_list_append mt_append (pv 2) (pa_cons (pe_tup (pa_cons (pv 1) (pa_cons (pv 4) pa_nil))) pa_nil)))
      (pss_cons (ps_setLc (i := 5) rfl sc__law_stages.nd rfl rfl (sw_true rfl rfl rfl (by decide +kernel)) (own := [("k", 6)]) (pi_list (pv 1)) (blkOk_by (own := [("k", 6)]) (N := N__law_stages) (sc := defScope s__law_stages) (by decide +kernel)) (fun _ _ _ _ _ => (pg_name (i := 6) sc__law_stages.nd rfl (Or.inl rfl))) (fun _ _ _ _ _ => pts_one (pt_val (pe_d D__law_at_most (hr.mono (by omega)) (by rfl) (pa_cons (pe_ix ix_seq (pe_ix ix_seq (pv 0) (pv 6) (fun _ _ => rfl)) pe_int (fun _ _ => rfl)) (pa_cons (pe_ix ix_seq (pv 4) (pe_ix ix_seq (pe_ix ix_seq (pv 0) (pv 6) (fun _ _ => rfl)) pe_int (fun _ _ => rfl)) (fun _ _ => rfl)) pa_nil))))) (fun _ _ _ _ _ => (pv 6)))
      (pss_cons (ps_if (pt_cmpR (op_eqU hr.units) (pv 5) (pv 1) (nomark _)) (pss_one ps_break) pss_nil)
      (pss_one (ps_set (i := 1) sc__law_stages.nd rfl (Or.inl rfl) (pv 5))))))))
      (pss_one (ps_ret (pv 2)))))),
    (sd_seq (sd_asg (ev_call (ea_cons ev_var ea_nil)))
      (sd_seq (sd_asgO (eo_lst ea_nil))
      (sd_seq (sd_for (ei_rng1 (ea_cons (ev_op (ev_cb (ea_cons ev_var ea_nil) cd_len) ev_int od_add) ea_nil)) eg_name (sd_seq (sd_asg (ev_call (ea_cons (ev_call (ea_cons ev_var (ea_cons ev_var ea_nil))) ea_nil)))
      (sd_seq (sd_app (ev_tup (ea_cons ev_var (ea_cons ev_var ea_nil))))
      (sd_seq (sd_asg (EvO.ev (eo_lcI (vs := [6]) (ei_list ev_var) eg_name (et_B (ev_call (ea_cons (ev_op (ev_op ev_var ev_var od_ix) ev_int od_ix) (ea_cons (ev_op ev_var (ev_op (ev_op ev_var ev_var od_ix) ev_int od_ix) od_ix) ea_nil)))) ev_var)))
      (sd_seq (sd_if (et_test (ev_op ev_var ev_var od_eq)) sd_brk sd_next)
      (sd_asg ev_var))))))
      sd_retX)))⟩
abbrev s_law : Stmt := topS 46
theorem sc_law : FnScope N_law ["script"] (defScope s_law) := ⟨rfl, rfl, rfl, by decide +kernel, rfl, by decide +kernel, by decide +kernel⟩
theorem body_law {f : Addr} (D__law_conditions : Df Pg w K mg base 1 "_law_conditions" ["flat"] f__law_conditions) (D__law_draws : Df Pg w K mg base 1 "_law_draws" ["script", "count"] f__law_draws) (D__law_flat : Df Pg w K mg base 2 "_law_flat" ["draws", "most", "plain"] f__law_flat) (D__law_flat_greatest : Df Pg w K mg base 5 "_law_flat_greatest" ["flat"] f__law_flat_greatest) (D__law_flat_least : Df Pg w K mg base 5 "_law_flat_least" ["flat"] f__law_flat_least) (D__law_one_by_one : Df Pg w K mg base 7 "_law_one_by_one" ["flat"] f__law_one_by_one) (D__law_opened : Df Pg w K mg base 1 "_law_opened" ["flat", "places"] f__law_opened) (D__law_others : Df Pg w K mg base 1 "_law_others" ["paper", "draws"] f__law_others) (D__law_right : Df Pg w K mg base 6 "_law_right" ["flat", "paper"] f__law_right) (D__law_row : Df Pg w K mg base 1 "_law_row" ["draws"] f__law_row) (D__law_stage : Df Pg w K mg base 6 "_law_stage" ["flat", "places"] f__law_stage) (D__law_stages : Df Pg w K mg base 6 "_law_stages" ["flat"] f__law_stages) (D__law_tight : Df Pg w K mg base 2 "_law_tight" ["plain", "x"] f__law_tight) (D_is_greatest_paper : Df Pg w K mg base 6 "is_greatest_paper" ["flat", "paper"] f_is_greatest_paper) (b_bool : mg "bool" = none) (b_enumerate : mg "enumerate" = none) (b_int : mg "int" = none) (b_isinstance : mg "isinstance" = none) (b_repr : mg "repr" = none) (cdv : Value) (s : Shared) (H : Hp) (E : XK) : ∃ t, PSs (cxOf CX0 Pg w K mg base N_law "law" (defScope s_law) f cdv callerA [] s H E).nox (defBody s_law) t ∧ SD K t m_law := by
  have hr : Room 7 (callerA.deeper (envOfC "law" (defScope s_law) s.heap.objs.size f cdv)) := Room.deeper (show Room 8 callerA from ⟨rfl, by decide, by decide⟩) _
  have hg : (callerA.deeper (envOfC "law" (defScope s_law) s.heap.objs.size f cdv)).guards = some [] := rfl
  exact ⟨_, (pss_cons (ps_set (i := 1) sc_law.nd rfl (Or.inr rfl) (pe_d D__law_draws (hr.mono (by omega)) (by rfl) (pa_cons (pv 0) (pa_cons pe_int pa_nil))))
      (pss_cons (ps_set (i := 2) sc_law.nd rfl (Or.inr rfl) (pe_d D__law_flat (hr.mono (by omega)) (by rfl) (pa_cons (pv 1) (pa_cons pe_int (pa_cons pe_bl pa_nil)))))
      (pss_cons (ps_if (pt_cmpR (op_eqU hr.units) (pe_op op_mod (pe_callTy call_int1 (by rfl) b_int (by decide +kernel) (pa_cons (pe_ix ix_seq (pv 1) pe_int (fun _ _ => rfl)) pa_nil)) pe_int) pe_int (nomark _)) (pss_one (ps_set (i := 2) sc_law.nd rfl (Or.inr rfl) (pe_d D__law_row (hr.mono (by omega)) (by rfl) (pa_cons (pe_op op_catS (pe_lst (pa_cons (pe_op op_mod (pe_callTy call_int1 (by rfl) b_int (by decide +kernel) (pa_cons (pe_ix ix_seq (pv 1) pe_int (fun _ _ => rfl)) pa_nil)) pe_int) pa_nil)) (pe_slice sl_list (pv 1) (po_some pe_int) (po_some pe_int))) pa_nil)))) pss_nil)
      (pss_cons (ps_setLc (i := 3) rfl sc_law.nd rfl rfl (sw_true rfl rfl rfl (by decide +kernel)) (own := [("places", 13), ("x", 14)]) (pi_list (pe_d D__law_stages (hr.mono (by omega)) (by rfl) (pa_cons (pv 2) pa_nil))) (blkOk_by (own := [("places", 13), ("x", 14)]) (N := N_law) (sc := defScope s_law) (by decide +kernel)) (fun _ _ _ _ _ => (pg_tup rfl (pgs_cons (pg_name (i := 13) sc_law.nd rfl (Or.inl rfl)) (pgs_cons (pg_name (i := 14) sc_law.nd rfl (Or.inl rfl)) pgs_nil)))) (fun _ _ _ _ _ => pts_nil) (fun _ _ _ _ _ => (pe_d D__law_stage (hr.mono (by omega)) (by rfl) (pa_cons (pv 2) (pa_cons (pv 13) pa_nil)))))
      (pss_cons (ps_set (i := 4) sc_law.nd rfl (Or.inl rfl) (pe_lst (pa_cons (pe_lst pa_nil) (pa_cons (pe_lst (pa_cons (pe_d D__law_stage (hr.mono (by omega)) (by rfl) (pa_cons (pv 2) (pa_cons (pe_d D__law_conditions (hr.mono (by omega)) (by rfl) (pa_cons (pv 2) pa_nil)) pa_nil))) pa_nil)) (pa_cons (pe_lst (pa_cons (pe_d D__law_stage (hr.mono (by omega)) (by rfl) (pa_cons (pv 2) (pa_cons (pe_lst pa_nil) pa_nil))) pa_nil)) (pa_cons (pe_d D__law_one_by_one (hr.mono (by omega)) (by rfl) (pa_cons (pv 2) pa_nil)) pa_nil))))))
      (pss_cons (ps_set (i := 4) sc_law.nd rfl (Or.inl rfl) (pe_op op_catS (pe_op op_catS (pv 4) (pe_d D__law_others (hr.mono (by omega)) (by rfl) (pa_cons (pv 3) (pa_cons (pe_slice sl_list (pv 1) (po_some pe_int) (po_some pe_int)) pa_nil)))) (pe_d D__law_others (hr.mono (by omega)) (by rfl) (pa_cons (pe_d D__law_one_by_one (hr.mono (by omega)) (by rfl) (pa_cons (pv 2) pa_nil)) (pa_cons (pe_slice sl_list (pv 1) (po_some pe_int) (po_some pe_int)) pa_nil)))))
      (pss_cons (ps_set (i := 5) sc_law.nd rfl (Or.inl rfl) (pe_d D__law_opened (hr.mono (by omega)) (by rfl) (pa_cons (pv 2) (pa_cons (pe_d D__law_conditions (hr.mono (by omega)) (by rfl) (pa_cons (pv 2) pa_nil)) pa_nil))))
      (pss_cons (ps_set (i := 6) sc_law.nd rfl (Or.inl rfl) (pe_d D__law_flat_least (hr.mono (by omega)) (by rfl) (pa_cons (pv 5) pa_nil)))
      (pss_cons (ps_setLc (i := 7) rfl sc_law.nd rfl rfl (sw_true rfl rfl rfl (by decide +kernel)) (own := [("k", 15), ("one", 10)]) (pi_enum (by rfl) b_enumerate (pa_cons (pv 6) pa_nil)) (blkOk_by (own := [("k", 15), ("one", 10)]) (N := N_law) (sc := defScope s_law) (by decide +kernel)) (fun _ _ _ _ _ => (pg_tup rfl (pgs_cons (pg_name (i := 15) sc_law.nd rfl (Or.inl rfl)) (pgs_cons (pg_name (i := 10) sc_law.nd rfl (Or.inl rfl)) pgs_nil)))) (fun _ _ _ _ _ => pts_nil) (fun _ _ _ _ _ => (pe_op op_addU (pe_callTy call_int1 (by rfl) b_int (by decide +kernel) (pa_cons (pe_cmpR op_notU (pv 10) pe_non (nomark _)) pa_nil)) (pe_op op_mul (pe_op op_mod (pe_callTy call_int1 (by rfl) b_int (by decide +kernel) (pa_cons (pe_ix ix_seq (pv 1) pe_int (fun _ _ => rfl)) pa_nil)) pe_int) (pv 15)))))
      (pss_cons (ps_expr (pe_bm PySem.F.plainAttrs_list PySem.F.slot_list_append PySem.F.type_list_append mt_append (pv 4) (pa_cons (pe_lst (pa_cons (pe_tup (pa_cons (pe_d D__law_conditions (hr.mono (by omega)) (by rfl) (pa_cons (pv 2) pa_nil)) (pa_cons (pv 6) (pa_cons (pv 7) (pa_cons (pe_d D__law_tight (hr.mono (by omega)) (by rfl) (pa_cons (pv 5) (pa_cons (pv 6) pa_nil))) pa_nil))))) pa_nil)) pa_nil)))
      (pss_cons (ps_set (i := 8) sc_law.nd rfl (Or.inl rfl) (pe_d D__law_flat_greatest (hr.mono (by omega)) (by rfl) (pa_cons (pv 2) pa_nil)))
      (pss_cons (ps_set (i := 9) sc_law.nd rfl (Or.inl rfl) (pe_callB (cr_repr hr hg) (by rfl) b_repr (by decide +kernel) (pa_cons (pe_tup (pa_cons (pv 2) (pa_cons (pv 4) pa_nil))) pa_nil)))
      (pss_cons (ps_for PassesOwn.never rfl (pi_list (pv 4)) (pg_name (i := 10) sc_law.nd rfl (Or.inl rfl)) (pss_cons (ps_set (i := 11) sc_law.nd rfl (Or.inl rfl) (pe_d D_is_greatest_paper (hr.mono (by omega)) (by rfl) (pa_cons (pv 2) (pa_cons (pv 10) pa_nil))))
      (pss_cons (ps_set (i := 12) sc_law.nd rfl (Or.inl rfl) (pe_d D__law_right (hr.mono (by omega)) (by rfl) (pa_cons (pv 2) (pa_cons (pv 10) pa_nil))))
      (pss_one (ps_if (PW.pt (pw_or (pt_not (pt_val (pe_callB call_isi (by rfl) b_isinstance (by decide +kernel) (pa_cons (pv 11) (pa_cons (pe_bltn (v := .ty "bool") (by rfl) b_bool (by decide +kernel) rfl) pa_nil))))) (pw_or (pt_cmpR (op_neU hr.units) (pv 11) (pv 12) (nomark _)) (pw_or1 (PW.pt (pw_and (pt_truth (pv 12) (by intro _; rfl)) (pw_and1 (pt_cmpR (op_neU hr.units) (pe_ix ix_seq (pe_ix ix_seq (pv 10) (pe_un un_neg pe_int) (fun _ _ => rfl)) pe_int (fun _ _ => rfl)) (pv 8) (nomark _))))))))) (pss_one (ps_ret pe_bl)) pss_nil)))))
      (pss_one (ps_ret (pe_cmpR (op_eqU hr.units) (pe_callB (cr_repr hr hg) (by rfl) b_repr (by decide +kernel) (pa_cons (pe_tup (pa_cons (pv 2) (pa_cons (pv 4) pa_nil))) pa_nil)) (pv 9) (nomark _))))))))))))))))),
    (sd_seq (sd_asg (ev_call (ea_cons ev_var (ea_cons ev_int ea_nil))))
      (sd_seq (sd_asg (ev_call (ea_cons ev_var (ea_cons ev_int (ea_cons ev_bl ea_nil)))))
      (sd_seq (sd_if (et_test (ev_op (ev_op (ev_cb (ea_cons (ev_op ev_var ev_int od_ix) ea_nil) cd_int) ev_int od_mod) ev_int od_eq)) (sd_asg (ev_call (ea_cons (EvO.ev (eo_op (EvO.ev (eo_lst (ea_cons (ev_op (ev_cb (ea_cons (ev_op ev_var ev_int od_ix) ea_nil) cd_int) ev_int od_mod) ea_nil))) (EvO.ev (eo_slL ev_var (ep_some ev_int) (ep_some ev_int))) od_cat)) ea_nil))) sd_next)
      (sd_seq (sd_asg (EvO.ev (eo_lcI (vs := [13, 14]) (ei_list (ev_call (ea_cons ev_var ea_nil))) eg_pair et_yes (ev_call (ea_cons ev_var (ea_cons ev_var ea_nil))))))
      (sd_seq (sd_asgO (eo_lst (ea_cons (EvO.ev (eo_lst ea_nil)) (ea_cons (EvO.ev (eo_lst (ea_cons (ev_call (ea_cons ev_var (ea_cons (ev_call (ea_cons ev_var ea_nil)) ea_nil))) ea_nil))) (ea_cons (EvO.ev (eo_lst (ea_cons (ev_call (ea_cons ev_var (ea_cons (EvO.ev (eo_lst ea_nil)) ea_nil))) ea_nil))) (ea_cons (ev_call (ea_cons ev_var ea_nil)) ea_nil))))))
      (sd_seq (sd_frz 4 (sd_asgO (eo_op (EvO.ev (eo_op ev_var (ev_call (ea_cons ev_var (ea_cons (EvO.ev (eo_slL ev_var (ep_some ev_int) (ep_some ev_int))) ea_nil))) od_cat)) (ev_call (ea_cons (ev_call (ea_cons ev_var ea_nil)) (ea_cons (EvO.ev (eo_slL ev_var (ep_some ev_int) (ep_some ev_int))) ea_nil))) od_cat)))
      (sd_seq (sd_asg (ev_call (ea_cons ev_var (ea_cons (ev_call (ea_cons ev_var ea_nil)) ea_nil))))
      (sd_seq (sd_asg (ev_call (ea_cons ev_var ea_nil)))
      (sd_seq (sd_asg (EvO.ev (eo_lcI (vs := [15, 10]) (ei_enum (ea_cons ev_var ea_nil)) eg_pair et_yes (ev_op (ev_cb (ea_cons (ev_op ev_var ev_non od_isNot) ea_nil) cd_int) (ev_op (ev_op (ev_cb (ea_cons (ev_op ev_var ev_int od_ix) ea_nil) cd_int) ev_int od_mod) ev_var od_mul) od_add))))
      (sd_seq (sd_app (EvO.ev (eo_lst (ea_cons (ev_tup (ea_cons (ev_call (ea_cons ev_var ea_nil)) (ea_cons ev_var (ea_cons ev_var (ea_cons (ev_call (ea_cons ev_var (ea_cons ev_var ea_nil))) ea_nil))))) ea_nil))))
      (sd_frz 4 (sd_seq (sd_asg (ev_call (ea_cons ev_var ea_nil)))
      (sd_seq (sd_asg (ev_cb (ea_cons (ev_tup (ea_cons ev_var (ea_cons ev_var ea_nil))) ea_nil) cd_repr))
      (sd_seq (sd_for (ei_list ev_var) eg_name (sd_seq (sd_asg (ev_call (ea_cons ev_var (ea_cons ev_var ea_nil))))
      (sd_seq (sd_asg (ev_call (ea_cons ev_var (ea_cons ev_var ea_nil))))
      (sd_if (et_or (et_not (et_B (ev_isi ev_var))) (et_or (et_test (ev_op ev_var ev_var od_ne)) (et_and (et_tru ev_var) (et_test (ev_op (ev_op (ev_op ev_var (ev_un ev_int ud_neg) od_ix) ev_int od_ix) ev_var od_ne))))) (sd_ret ev_bl) sd_next))))
      (sd_ret (ev_op (ev_cb (ea_cons (ev_tup (ea_cons ev_var (ea_cons ev_var ea_nil))) ea_nil) cd_repr) ev_var od_eq))))))))))))))))⟩
end
set_option maxHeartbeats 0 in
theorem all_mk {l : PySem.W.OpenLaw} {w : World} {K : PySem.W.Frag} {h : Heap} {mg : Str → Option Value} {fa : Addr} (X : K.In h) (G : h.Ns mainGlobals mg) (hfa : mg "law" = some (.ref fa))
    {f0 : Addr} {od0 an0 : Option Addr} {sl0 : Array (Option Value)} {oc0 kV0 dc0 pm0 cd0 ct0 : Value}
    (a0 : PySem.W.nsIn K mainGlobals "_law_draws" = some (some (.ref f0))) (l0 : K.lookup f0 = some ⟨oc0, od0, .func (PySem.W.fnOf "_law_draws" "_law_draws" (defArgs s__law_draws) (defBody s__law_draws) (defScope s__law_draws) .none kV0 dc0 pm0 an0 cd0 ct0), sl0⟩) (c0 : PySem.W.codeIn K cd0 "_law_draws" = true) (k0 : PySem.W.keepIn K (.ref f0) = true)
    {f1 : Addr} {od1 an1 : Option Addr} {sl1 : Array (Option Value)} {oc1 kV1 dc1 pm1 cd1 ct1 : Value}
    (a1 : PySem.W.nsIn K mainGlobals "_law_arcs" = some (some (.ref f1))) (l1 : K.lookup f1 = some ⟨oc1, od1, .func (PySem.W.fnOf "_law_arcs" "_law_arcs" (defArgs s__law_arcs) (defBody s__law_arcs) (defScope s__law_arcs) .none kV1 dc1 pm1 an1 cd1 ct1), sl1⟩) (c1 : PySem.W.codeIn K cd1 "_law_arcs" = true) (k1 : PySem.W.keepIn K (.ref f1) = true)
    {f2 : Addr} {od2 an2 : Option Addr} {sl2 : Array (Option Value)} {oc2 kV2 dc2 pm2 cd2 ct2 : Value}
    (a2 : PySem.W.nsIn K mainGlobals "_law_flat" = some (some (.ref f2))) (l2 : K.lookup f2 = some ⟨oc2, od2, .func (PySem.W.fnOf "_law_flat" "_law_flat" (defArgs s__law_flat) (defBody s__law_flat) (defScope s__law_flat) .none kV2 dc2 pm2 an2 cd2 ct2), sl2⟩) (c2 : PySem.W.codeIn K cd2 "_law_flat" = true) (k2 : PySem.W.keepIn K (.ref f2) = true)
    {f3 : Addr} {od3 an3 : Option Addr} {sl3 : Array (Option Value)} {oc3 kV3 dc3 pm3 cd3 ct3 : Value}
    (a3 : PySem.W.nsIn K mainGlobals "_law_opened" = some (some (.ref f3))) (l3 : K.lookup f3 = some ⟨oc3, od3, .func (PySem.W.fnOf "_law_opened" "_law_opened" (defArgs s__law_opened) (defBody s__law_opened) (defScope s__law_opened) .none kV3 dc3 pm3 an3 cd3 ct3), sl3⟩) (c3 : PySem.W.codeIn K cd3 "_law_opened" = true) (k3 : PySem.W.keepIn K (.ref f3) = true)
    {f4 : Addr} {od4 an4 : Option Addr} {sl4 : Array (Option Value)} {oc4 kV4 dc4 pm4 cd4 ct4 : Value}
    (a4 : PySem.W.nsIn K mainGlobals "_law_at_most" = some (some (.ref f4))) (l4 : K.lookup f4 = some ⟨oc4, od4, .func (PySem.W.fnOf "_law_at_most" "_law_at_most" (defArgs s__law_at_most) (defBody s__law_at_most) (defScope s__law_at_most) .none kV4 dc4 pm4 an4 cd4 ct4), sl4⟩) (c4 : PySem.W.codeIn K cd4 "_law_at_most" = true) (k4 : PySem.W.keepIn K (.ref f4) = true)
    {f5 : Addr} {od5 an5 : Option Addr} {sl5 : Array (Option Value)} {oc5 kV5 dc5 pm5 cd5 ct5 : Value}
    (a5 : PySem.W.nsIn K mainGlobals "_law_one_of" = some (some (.ref f5))) (l5 : K.lookup f5 = some ⟨oc5, od5, .func (PySem.W.fnOf "_law_one_of" "_law_one_of" (defArgs s__law_one_of) (defBody s__law_one_of) (defScope s__law_one_of) .none kV5 dc5 pm5 an5 cd5 ct5), sl5⟩) (c5 : PySem.W.codeIn K cd5 "_law_one_of" = true) (k5 : PySem.W.keepIn K (.ref f5) = true)
    {f6 : Addr} {od6 an6 : Option Addr} {sl6 : Array (Option Value)} {oc6 kV6 dc6 pm6 cd6 ct6 : Value}
    (a6 : PySem.W.nsIn K mainGlobals "_law_shifted" = some (some (.ref f6))) (l6 : K.lookup f6 = some ⟨oc6, od6, .func (PySem.W.fnOf "_law_shifted" "_law_shifted" (defArgs s__law_shifted) (defBody s__law_shifted) (defScope s__law_shifted) .none kV6 dc6 pm6 an6 cd6 ct6), sl6⟩) (c6 : PySem.W.codeIn K cd6 "_law_shifted" = true) (k6 : PySem.W.keepIn K (.ref f6) = true)
    {f7 : Addr} {od7 an7 : Option Addr} {sl7 : Array (Option Value)} {oc7 kV7 dc7 pm7 cd7 ct7 : Value}
    (a7 : PySem.W.nsIn K mainGlobals "_law_flat_value" = some (some (.ref f7))) (l7 : K.lookup f7 = some ⟨oc7, od7, .func (PySem.W.fnOf "_law_flat_value" "_law_flat_value" (defArgs s__law_flat_value) (defBody s__law_flat_value) (defScope s__law_flat_value) .none kV7 dc7 pm7 an7 cd7 ct7), sl7⟩) (c7 : PySem.W.codeIn K cd7 "_law_flat_value" = true) (k7 : PySem.W.keepIn K (.ref f7) = true)
    {f8 : Addr} {od8 an8 : Option Addr} {sl8 : Array (Option Value)} {oc8 kV8 dc8 pm8 cd8 ct8 : Value}
    (a8 : PySem.W.nsIn K mainGlobals "_law_flat_values" = some (some (.ref f8))) (l8 : K.lookup f8 = some ⟨oc8, od8, .func (PySem.W.fnOf "_law_flat_values" "_law_flat_values" (defArgs s__law_flat_values) (defBody s__law_flat_values) (defScope s__law_flat_values) .none kV8 dc8 pm8 an8 cd8 ct8), sl8⟩) (c8 : PySem.W.codeIn K cd8 "_law_flat_values" = true) (k8 : PySem.W.keepIn K (.ref f8) = true)
    {f9 : Addr} {od9 an9 : Option Addr} {sl9 : Array (Option Value)} {oc9 kV9 dc9 pm9 cd9 ct9 : Value}
    (a9 : PySem.W.nsIn K mainGlobals "_law_flat_least" = some (some (.ref f9))) (l9 : K.lookup f9 = some ⟨oc9, od9, .func (PySem.W.fnOf "_law_flat_least" "_law_flat_least" (defArgs s__law_flat_least) (defBody s__law_flat_least) (defScope s__law_flat_least) .none kV9 dc9 pm9 an9 cd9 ct9), sl9⟩) (c9 : PySem.W.codeIn K cd9 "_law_flat_least" = true) (k9 : PySem.W.keepIn K (.ref f9) = true)
    {f10 : Addr} {od10 an10 : Option Addr} {sl10 : Array (Option Value)} {oc10 kV10 dc10 pm10 cd10 ct10 : Value}
    (a10 : PySem.W.nsIn K mainGlobals "_law_flat_greatest" = some (some (.ref f10))) (l10 : K.lookup f10 = some ⟨oc10, od10, .func (PySem.W.fnOf "_law_flat_greatest" "_law_flat_greatest" (defArgs s__law_flat_greatest) (defBody s__law_flat_greatest) (defScope s__law_flat_greatest) .none kV10 dc10 pm10 an10 cd10 ct10), sl10⟩) (c10 : PySem.W.codeIn K cd10 "_law_flat_greatest" = true) (k10 : PySem.W.keepIn K (.ref f10) = true)
    {f11 : Addr} {od11 an11 : Option Addr} {sl11 : Array (Option Value)} {oc11 kV11 dc11 pm11 cd11 ct11 : Value}
    (a11 : PySem.W.nsIn K mainGlobals "_law_row" = some (some (.ref f11))) (l11 : K.lookup f11 = some ⟨oc11, od11, .func (PySem.W.fnOf "_law_row" "_law_row" (defArgs s__law_row) (defBody s__law_row) (defScope s__law_row) .none kV11 dc11 pm11 an11 cd11 ct11), sl11⟩) (c11 : PySem.W.codeIn K cd11 "_law_row" = true) (k11 : PySem.W.keepIn K (.ref f11) = true)
    {f12 : Addr} {od12 an12 : Option Addr} {sl12 : Array (Option Value)} {oc12 kV12 dc12 pm12 cd12 ct12 : Value}
    (a12 : PySem.W.nsIn K mainGlobals "_law_held" = some (some (.ref f12))) (l12 : K.lookup f12 = some ⟨oc12, od12, .func (PySem.W.fnOf "_law_held" "_law_held" (defArgs s__law_held) (defBody s__law_held) (defScope s__law_held) .none kV12 dc12 pm12 an12 cd12 ct12), sl12⟩) (c12 : PySem.W.codeIn K cd12 "_law_held" = true) (k12 : PySem.W.keepIn K (.ref f12) = true)
    {f13 : Addr} {od13 an13 : Option Addr} {sl13 : Array (Option Value)} {oc13 kV13 dc13 pm13 cd13 ct13 : Value}
    (a13 : PySem.W.nsIn K mainGlobals "_law_can_be" = some (some (.ref f13))) (l13 : K.lookup f13 = some ⟨oc13, od13, .func (PySem.W.fnOf "_law_can_be" "_law_can_be" (defArgs s__law_can_be) (defBody s__law_can_be) (defScope s__law_can_be) .none kV13 dc13 pm13 an13 cd13 ct13), sl13⟩) (c13 : PySem.W.codeIn K cd13 "_law_can_be" = true) (k13 : PySem.W.keepIn K (.ref f13) = true)
    {f14 : Addr} {od14 an14 : Option Addr} {sl14 : Array (Option Value)} {oc14 kV14 dc14 pm14 cd14 ct14 : Value}
    (a14 : PySem.W.nsIn K mainGlobals "_law_tight" = some (some (.ref f14))) (l14 : K.lookup f14 = some ⟨oc14, od14, .func (PySem.W.fnOf "_law_tight" "_law_tight" (defArgs s__law_tight) (defBody s__law_tight) (defScope s__law_tight) .none kV14 dc14 pm14 an14 cd14 ct14), sl14⟩) (c14 : PySem.W.codeIn K cd14 "_law_tight" = true) (k14 : PySem.W.keepIn K (.ref f14) = true)
    {f15 : Addr} {od15 an15 : Option Addr} {sl15 : Array (Option Value)} {oc15 kV15 dc15 pm15 cd15 ct15 : Value}
    (a15 : PySem.W.nsIn K mainGlobals "_law_stage" = some (some (.ref f15))) (l15 : K.lookup f15 = some ⟨oc15, od15, .func (PySem.W.fnOf "_law_stage" "_law_stage" (defArgs s__law_stage) (defBody s__law_stage) (defScope s__law_stage) .none kV15 dc15 pm15 an15 cd15 ct15), sl15⟩) (c15 : PySem.W.codeIn K cd15 "_law_stage" = true) (k15 : PySem.W.keepIn K (.ref f15) = true)
    {f16 : Addr} {od16 an16 : Option Addr} {sl16 : Array (Option Value)} {oc16 kV16 dc16 pm16 cd16 ct16 : Value}
    (a16 : PySem.W.nsIn K mainGlobals "_law_conditions" = some (some (.ref f16))) (l16 : K.lookup f16 = some ⟨oc16, od16, .func (PySem.W.fnOf "_law_conditions" "_law_conditions" (defArgs s__law_conditions) (defBody s__law_conditions) (defScope s__law_conditions) .none kV16 dc16 pm16 an16 cd16 ct16), sl16⟩) (c16 : PySem.W.codeIn K cd16 "_law_conditions" = true) (k16 : PySem.W.keepIn K (.ref f16) = true)
    {f17 : Addr} {od17 an17 : Option Addr} {sl17 : Array (Option Value)} {oc17 kV17 dc17 pm17 cd17 ct17 : Value}
    (a17 : PySem.W.nsIn K mainGlobals "_law_one_by_one" = some (some (.ref f17))) (l17 : K.lookup f17 = some ⟨oc17, od17, .func (PySem.W.fnOf "_law_one_by_one" "_law_one_by_one" (defArgs s__law_one_by_one) (defBody s__law_one_by_one) (defScope s__law_one_by_one) .none kV17 dc17 pm17 an17 cd17 ct17), sl17⟩) (c17 : PySem.W.codeIn K cd17 "_law_one_by_one" = true) (k17 : PySem.W.keepIn K (.ref f17) = true)
    {f18 : Addr} {od18 an18 : Option Addr} {sl18 : Array (Option Value)} {oc18 kV18 dc18 pm18 cd18 ct18 : Value}
    (a18 : PySem.W.nsIn K mainGlobals "_law_others" = some (some (.ref f18))) (l18 : K.lookup f18 = some ⟨oc18, od18, .func (PySem.W.fnOf "_law_others" "_law_others" (defArgs s__law_others) (defBody s__law_others) (defScope s__law_others) .none kV18 dc18 pm18 an18 cd18 ct18), sl18⟩) (c18 : PySem.W.codeIn K cd18 "_law_others" = true) (k18 : PySem.W.keepIn K (.ref f18) = true)
    {f19 : Addr} {od19 an19 : Option Addr} {sl19 : Array (Option Value)} {oc19 kV19 dc19 pm19 cd19 ct19 : Value}
    (a19 : PySem.W.nsIn K mainGlobals "shifted" = some (some (.ref f19))) (l19 : K.lookup f19 = some ⟨oc19, od19, .func (PySem.W.fnOf "shifted" "shifted" (defArgs s_shifted) (defBody s_shifted) (defScope s_shifted) .none kV19 dc19 pm19 an19 cd19 ct19), sl19⟩) (c19 : PySem.W.codeIn K cd19 "shifted" = true) (k19 : PySem.W.keepIn K (.ref f19) = true)
    {f20 : Addr} {od20 an20 : Option Addr} {sl20 : Array (Option Value)} {oc20 kV20 dc20 pm20 cd20 ct20 : Value}
    (a20 : PySem.W.nsIn K mainGlobals "least_of" = some (some (.ref f20))) (l20 : K.lookup f20 = some ⟨oc20, od20, .func (PySem.W.fnOf "least_of" "least_of" (defArgs s_least_of) (defBody s_least_of) (defScope s_least_of) .none kV20 dc20 pm20 an20 cd20 ct20), sl20⟩) (c20 : PySem.W.codeIn K cd20 "least_of" = true) (k20 : PySem.W.keepIn K (.ref f20) = true)
    {f21 : Addr} {od21 an21 : Option Addr} {sl21 : Array (Option Value)} {oc21 kV21 dc21 pm21 cd21 ct21 : Value}
    (a21 : PySem.W.nsIn K mainGlobals "greatest_of" = some (some (.ref f21))) (l21 : K.lookup f21 = some ⟨oc21, od21, .func (PySem.W.fnOf "greatest_of" "greatest_of" (defArgs s_greatest_of) (defBody s_greatest_of) (defScope s_greatest_of) .none kV21 dc21 pm21 an21 cd21 ct21), sl21⟩) (c21 : PySem.W.codeIn K cd21 "greatest_of" = true) (k21 : PySem.W.keepIn K (.ref f21) = true)
    {f22 : Addr} {od22 an22 : Option Addr} {sl22 : Array (Option Value)} {oc22 kV22 dc22 pm22 cd22 ct22 : Value}
    (a22 : PySem.W.nsIn K mainGlobals "at_most" = some (some (.ref f22))) (l22 : K.lookup f22 = some ⟨oc22, od22, .func (PySem.W.fnOf "at_most" "at_most" (defArgs s_at_most) (defBody s_at_most) (defScope s_at_most) .none kV22 dc22 pm22 an22 cd22 ct22), sl22⟩) (c22 : PySem.W.codeIn K cd22 "at_most" = true) (k22 : PySem.W.keepIn K (.ref f22) = true)
    {f23 : Addr} {od23 an23 : Option Addr} {sl23 : Array (Option Value)} {oc23 kV23 dc23 pm23 cd23 ct23 : Value}
    (a23 : PySem.W.nsIn K mainGlobals "flat_value" = some (some (.ref f23))) (l23 : K.lookup f23 = some ⟨oc23, od23, .func (PySem.W.fnOf "flat_value" "flat_value" (defArgs s_flat_value) (defBody s_flat_value) (defScope s_flat_value) .none kV23 dc23 pm23 an23 cd23 ct23), sl23⟩) (c23 : PySem.W.codeIn K cd23 "flat_value" = true) (k23 : PySem.W.keepIn K (.ref f23) = true)
    {f24 : Addr} {od24 an24 : Option Addr} {sl24 : Array (Option Value)} {oc24 kV24 dc24 pm24 cd24 ct24 : Value}
    (a24 : PySem.W.nsIn K mainGlobals "flat_values" = some (some (.ref f24))) (l24 : K.lookup f24 = some ⟨oc24, od24, .func (PySem.W.fnOf "flat_values" "flat_values" (defArgs s_flat_values) (defBody s_flat_values) (defScope s_flat_values) .none kV24 dc24 pm24 an24 cd24 ct24), sl24⟩) (c24 : PySem.W.codeIn K cd24 "flat_values" = true) (k24 : PySem.W.keepIn K (.ref f24) = true)
    {f25 : Addr} {od25 an25 : Option Addr} {sl25 : Array (Option Value)} {oc25 kV25 dc25 pm25 cd25 ct25 : Value}
    (a25 : PySem.W.nsIn K mainGlobals "is_flat_solution" = some (some (.ref f25))) (l25 : K.lookup f25 = some ⟨oc25, od25, .func (PySem.W.fnOf "is_flat_solution" "is_flat_solution" (defArgs s_is_flat_solution) (defBody s_is_flat_solution) (defScope s_is_flat_solution) .none kV25 dc25 pm25 an25 cd25 ct25), sl25⟩) (c25 : PySem.W.codeIn K cd25 "is_flat_solution" = true) (k25 : PySem.W.keepIn K (.ref f25) = true)
    {f26 : Addr} {od26 an26 : Option Addr} {sl26 : Array (Option Value)} {oc26 kV26 dc26 pm26 cd26 ct26 : Value}
    (a26 : PySem.W.nsIn K mainGlobals "conditions_of" = some (some (.ref f26))) (l26 : K.lookup f26 = some ⟨oc26, od26, .func (PySem.W.fnOf "conditions_of" "conditions_of" (defArgs s_conditions_of) (defBody s_conditions_of) (defScope s_conditions_of) .none kV26 dc26 pm26 an26 cd26 ct26), sl26⟩) (c26 : PySem.W.codeIn K cd26 "conditions_of" = true) (k26 : PySem.W.keepIn K (.ref f26) = true)
    {f27 : Addr} {od27 an27 : Option Addr} {sl27 : Array (Option Value)} {oc27 kV27 dc27 pm27 cd27 ct27 : Value}
    (a27 : PySem.W.nsIn K mainGlobals "is_held" = some (some (.ref f27))) (l27 : K.lookup f27 = some ⟨oc27, od27, .func (PySem.W.fnOf "is_held" "is_held" (defArgs s_is_held) (defBody s_is_held) (defScope s_is_held) .none kV27 dc27 pm27 an27 cd27 ct27), sl27⟩) (c27 : PySem.W.codeIn K cd27 "is_held" = true) (k27 : PySem.W.keepIn K (.ref f27) = true)
    {f28 : Addr} {od28 an28 : Option Addr} {sl28 : Array (Option Value)} {oc28 kV28 dc28 pm28 cd28 ct28 : Value}
    (a28 : PySem.W.nsIn K mainGlobals "is_on_floor" = some (some (.ref f28))) (l28 : K.lookup f28 = some ⟨oc28, od28, .func (PySem.W.fnOf "is_on_floor" "is_on_floor" (defArgs s_is_on_floor) (defBody s_is_on_floor) (defScope s_is_on_floor) .none kV28 dc28 pm28 an28 cd28 ct28), sl28⟩) (c28 : PySem.W.codeIn K cd28 "is_on_floor" = true) (k28 : PySem.W.keepIn K (.ref f28) = true)
    {f29 : Addr} {od29 an29 : Option Addr} {sl29 : Array (Option Value)} {oc29 kV29 dc29 pm29 cd29 ct29 : Value}
    (a29 : PySem.W.nsIn K mainGlobals "free_targets" = some (some (.ref f29))) (l29 : K.lookup f29 = some ⟨oc29, od29, .func (PySem.W.fnOf "free_targets" "free_targets" (defArgs s_free_targets) (defBody s_free_targets) (defScope s_free_targets) .none kV29 dc29 pm29 an29 cd29 ct29), sl29⟩) (c29 : PySem.W.codeIn K cd29 "free_targets" = true) (k29 : PySem.W.keepIn K (.ref f29) = true)
    {f30 : Addr} {od30 an30 : Option Addr} {sl30 : Array (Option Value)} {oc30 kV30 dc30 pm30 cd30 ct30 : Value}
    (a30 : PySem.W.nsIn K mainGlobals "is_tight" = some (some (.ref f30))) (l30 : K.lookup f30 = some ⟨oc30, od30, .func (PySem.W.fnOf "is_tight" "is_tight" (defArgs s_is_tight) (defBody s_is_tight) (defScope s_is_tight) .none kV30 dc30 pm30 an30 cd30 ct30), sl30⟩) (c30 : PySem.W.codeIn K cd30 "is_tight" = true) (k30 : PySem.W.keepIn K (.ref f30) = true)
    {f31 : Addr} {od31 an31 : Option Addr} {sl31 : Array (Option Value)} {oc31 kV31 dc31 pm31 cd31 ct31 : Value}
    (a31 : PySem.W.nsIn K mainGlobals "shows_greatest" = some (some (.ref f31))) (l31 : K.lookup f31 = some ⟨oc31, od31, .func (PySem.W.fnOf "shows_greatest" "shows_greatest" (defArgs s_shows_greatest) (defBody s_shows_greatest) (defScope s_shows_greatest) .none kV31 dc31 pm31 an31 cd31 ct31), sl31⟩) (c31 : PySem.W.codeIn K cd31 "shows_greatest" = true) (k31 : PySem.W.keepIn K (.ref f31) = true)
    {f32 : Addr} {od32 an32 : Option Addr} {sl32 : Array (Option Value)} {oc32 kV32 dc32 pm32 cd32 ct32 : Value}
    (a32 : PySem.W.nsIn K mainGlobals "missed_conditions" = some (some (.ref f32))) (l32 : K.lookup f32 = some ⟨oc32, od32, .func (PySem.W.fnOf "missed_conditions" "missed_conditions" (defArgs s_missed_conditions) (defBody s_missed_conditions) (defScope s_missed_conditions) .none kV32 dc32 pm32 an32 cd32 ct32), sl32⟩) (c32 : PySem.W.codeIn K cd32 "missed_conditions" = true) (k32 : PySem.W.keepIn K (.ref f32) = true)
    {f33 : Addr} {od33 an33 : Option Addr} {sl33 : Array (Option Value)} {oc33 kV33 dc33 pm33 cd33 ct33 : Value}
    (a33 : PySem.W.nsIn K mainGlobals "closes_more" = some (some (.ref f33))) (l33 : K.lookup f33 = some ⟨oc33, od33, .func (PySem.W.fnOf "closes_more" "closes_more" (defArgs s_closes_more) (defBody s_closes_more) (defScope s_closes_more) .none kV33 dc33 pm33 an33 cd33 ct33), sl33⟩) (c33 : PySem.W.codeIn K cd33 "closes_more" = true) (k33 : PySem.W.keepIn K (.ref f33) = true)
    {f34 : Addr} {od34 an34 : Option Addr} {sl34 : Array (Option Value)} {oc34 kV34 dc34 pm34 cd34 ct34 : Value}
    (a34 : PySem.W.nsIn K mainGlobals "copied" = some (some (.ref f34))) (l34 : K.lookup f34 = some ⟨oc34, od34, .func (PySem.W.fnOf "copied" "copied" (defArgs s_copied) (defBody s_copied) (defScope s_copied) .none kV34 dc34 pm34 an34 cd34 ct34), sl34⟩) (c34 : PySem.W.codeIn K cd34 "copied" = true) (k34 : PySem.W.keepIn K (.ref f34) = true)
    {f35 : Addr} {od35 an35 : Option Addr} {sl35 : Array (Option Value)} {oc35 kV35 dc35 pm35 cd35 ct35 : Value}
    (a35 : PySem.W.nsIn K mainGlobals "opened_formula" = some (some (.ref f35))) (l35 : K.lookup f35 = some ⟨oc35, od35, .func (PySem.W.fnOf "opened_formula" "opened_formula" (defArgs s_opened_formula) (defBody s_opened_formula) (defScope s_opened_formula) .none kV35 dc35 pm35 an35 cd35 ct35), sl35⟩) (c35 : PySem.W.codeIn K cd35 "opened_formula" = true) (k35 : PySem.W.keepIn K (.ref f35) = true)
    {f36 : Addr} {od36 an36 : Option Addr} {sl36 : Array (Option Value)} {oc36 kV36 dc36 pm36 cd36 ct36 : Value}
    (a36 : PySem.W.nsIn K mainGlobals "opened" = some (some (.ref f36))) (l36 : K.lookup f36 = some ⟨oc36, od36, .func (PySem.W.fnOf "opened" "opened" (defArgs s_opened) (defBody s_opened) (defScope s_opened) .none kV36 dc36 pm36 an36 cd36 ct36), sl36⟩) (c36 : PySem.W.codeIn K cd36 "opened" = true) (k36 : PySem.W.keepIn K (.ref f36) = true)
    {f37 : Addr} {od37 an37 : Option Addr} {sl37 : Array (Option Value)} {oc37 kV37 dc37 pm37 cd37 ct37 : Value}
    (a37 : PySem.W.nsIn K mainGlobals "is_greatest_paper" = some (some (.ref f37))) (l37 : K.lookup f37 = some ⟨oc37, od37, .func (PySem.W.fnOf "is_greatest_paper" "is_greatest_paper" (defArgs s_is_greatest_paper) (defBody s_is_greatest_paper) (defScope s_is_greatest_paper) .none kV37 dc37 pm37 an37 cd37 ct37), sl37⟩) (c37 : PySem.W.codeIn K cd37 "is_greatest_paper" = true) (k37 : PySem.W.keepIn K (.ref f37) = true)
    {f38 : Addr} {od38 an38 : Option Addr} {sl38 : Array (Option Value)} {oc38 kV38 dc38 pm38 cd38 ct38 : Value}
    (a38 : PySem.W.nsIn K mainGlobals "_law_shows" = some (some (.ref f38))) (l38 : K.lookup f38 = some ⟨oc38, od38, .func (PySem.W.fnOf "_law_shows" "_law_shows" (defArgs s__law_shows) (defBody s__law_shows) (defScope s__law_shows) .none kV38 dc38 pm38 an38 cd38 ct38), sl38⟩) (c38 : PySem.W.codeIn K cd38 "_law_shows" = true) (k38 : PySem.W.keepIn K (.ref f38) = true)
    {f39 : Addr} {od39 an39 : Option Addr} {sl39 : Array (Option Value)} {oc39 kV39 dc39 pm39 cd39 ct39 : Value}
    (a39 : PySem.W.nsIn K mainGlobals "_law_right" = some (some (.ref f39))) (l39 : K.lookup f39 = some ⟨oc39, od39, .func (PySem.W.fnOf "_law_right" "_law_right" (defArgs s__law_right) (defBody s__law_right) (defScope s__law_right) .none kV39 dc39 pm39 an39 cd39 ct39), sl39⟩) (c39 : PySem.W.codeIn K cd39 "_law_right" = true) (k39 : PySem.W.keepIn K (.ref f39) = true)
    {f40 : Addr} {od40 an40 : Option Addr} {sl40 : Array (Option Value)} {oc40 kV40 dc40 pm40 cd40 ct40 : Value}
    (a40 : PySem.W.nsIn K mainGlobals "_law_stages" = some (some (.ref f40))) (l40 : K.lookup f40 = some ⟨oc40, od40, .func (PySem.W.fnOf "_law_stages" "_law_stages" (defArgs s__law_stages) (defBody s__law_stages) (defScope s__law_stages) .none kV40 dc40 pm40 an40 cd40 ct40), sl40⟩) (c40 : PySem.W.codeIn K cd40 "_law_stages" = true) (k40 : PySem.W.keepIn K (.ref f40) = true)
    {f41 : Addr} {od41 an41 : Option Addr} {sl41 : Array (Option Value)} {oc41 kV41 dc41 pm41 cd41 ct41 : Value}
    (a41 : PySem.W.nsIn K mainGlobals "law" = some (some (.ref f41))) (l41 : K.lookup f41 = some ⟨oc41, od41, .func (PySem.W.fnOf "law" "law" (defArgs s_law) (defBody s_law) (defScope s_law) .none kV41 dc41 pm41 an41 cd41 ct41), sl41⟩) (c41 : PySem.W.codeIn K cd41 "law" = true) (k41 : PySem.W.keepIn K (.ref f41) = true)
    (z_all : PySem.W.nsIn K mainGlobals "all" = some none)
    (z_any : PySem.W.nsIn K mainGlobals "any" = some none)
    (z_bool : PySem.W.nsIn K mainGlobals "bool" = some none)
    (z_enumerate : PySem.W.nsIn K mainGlobals "enumerate" = some none)
    (z_int : PySem.W.nsIn K mainGlobals "int" = some none)
    (z_isinstance : PySem.W.nsIn K mainGlobals "isinstance" = some none)
    (z_len : PySem.W.nsIn K mainGlobals "len" = some none)
    (z_list : PySem.W.nsIn K mainGlobals "list" = some none)
    (z_max : PySem.W.nsIn K mainGlobals "max" = some none)
    (z_min : PySem.W.nsIn K mainGlobals "min" = some none)
    (z_range : PySem.W.nsIn K mainGlobals "range" = some none)
    (z_repr : PySem.W.nsIn K mainGlobals "repr" = some none)
    : ∃ fd : FuncData, Fun K "law" "law" s_law fa fd ∧ (∀ (s : Shared) (u : Value), BindsTo s fd ⟨[u], []⟩ [("script", u)]) ∧ ∀ base : Heap, K.In base → base.Ns mainGlobals mg → ∀ (cdv : Value) (s : Shared) (H : Hp) (E : XK), ∃ t, PSs (cxOf CX0 l.prog w K mg base N_law "law" (defScope s_law) fa cdv callerA [] s H E).nox (defBody s_law) t ∧ SD K t m_law := by
  have e := hfa.symm.trans (PySem.W.mg_of X G a41)
  cases e
  have F0 := fun_mk (st := s__law_draws) l0 c0 k0
  have T0 : Tx K mg "_law_draws" s__law_draws ["script", "count"] f0 _ := ⟨F0, PySem.W.mg_of X G a0, F0.binds (ps := ["script", "count"]) fun _ _ _ _ _ _ us hl => match us, hl with | [_, _], _ => rfl⟩
  have F1 := fun_mk (st := s__law_arcs) l1 c1 k1
  have T1 : Tx K mg "_law_arcs" s__law_arcs ["draws", "many"] f1 _ := ⟨F1, PySem.W.mg_of X G a1, F1.binds (ps := ["draws", "many"]) fun _ _ _ _ _ _ us hl => match us, hl with | [_, _], _ => rfl⟩
  have F2 := fun_mk (st := s__law_flat) l2 c2 k2
  have T2 : Tx K mg "_law_flat" s__law_flat ["draws", "most", "plain"] f2 _ := ⟨F2, PySem.W.mg_of X G a2, F2.binds (ps := ["draws", "most", "plain"]) fun _ _ _ _ _ _ us hl => match us, hl with | [_, _, _], _ => rfl⟩
  have F3 := fun_mk (st := s__law_opened) l3 c3 k3
  have T3 : Tx K mg "_law_opened" s__law_opened ["flat", "places"] f3 _ := ⟨F3, PySem.W.mg_of X G a3, F3.binds (ps := ["flat", "places"]) fun _ _ _ _ _ _ us hl => match us, hl with | [_, _], _ => rfl⟩
  have F4 := fun_mk (st := s__law_at_most) l4 c4 k4
  have T4 : Tx K mg "_law_at_most" s__law_at_most ["a", "b"] f4 _ := ⟨F4, PySem.W.mg_of X G a4, F4.binds (ps := ["a", "b"]) fun _ _ _ _ _ _ us hl => match us, hl with | [_, _], _ => rfl⟩
  have F5 := fun_mk (st := s__law_one_of) l5 c5 k5
  have T5 : Tx K mg "_law_one_of" s__law_one_of ["amounts", "least"] f5 _ := ⟨F5, PySem.W.mg_of X G a5, F5.binds (ps := ["amounts", "least"]) fun _ _ _ _ _ _ us hl => match us, hl with | [_, _], _ => rfl⟩
  have F6 := fun_mk (st := s__law_shifted) l6 c6 k6
  have T6 : Tx K mg "_law_shifted" s__law_shifted ["a", "c"] f6 _ := ⟨F6, PySem.W.mg_of X G a6, F6.binds (ps := ["a", "c"]) fun _ _ _ _ _ _ us hl => match us, hl with | [_, _], _ => rfl⟩
  have F7 := fun_mk (st := s__law_flat_value) l7 c7 k7
  have T7 : Tx K mg "_law_flat_value" s__law_flat_value ["formula", "x"] f7 _ := ⟨F7, PySem.W.mg_of X G a7, F7.binds (ps := ["formula", "x"]) fun _ _ _ _ _ _ us hl => match us, hl with | [_, _], _ => rfl⟩
  have F8 := fun_mk (st := s__law_flat_values) l8 c8 k8
  have T8 : Tx K mg "_law_flat_values" s__law_flat_values ["flat", "x"] f8 _ := ⟨F8, PySem.W.mg_of X G a8, F8.binds (ps := ["flat", "x"]) fun _ _ _ _ _ _ us hl => match us, hl with | [_, _], _ => rfl⟩
  have F9 := fun_mk (st := s__law_flat_least) l9 c9 k9
  have T9 : Tx K mg "_law_flat_least" s__law_flat_least ["flat"] f9 _ := ⟨F9, PySem.W.mg_of X G a9, F9.binds (ps := ["flat"]) fun _ _ _ _ _ _ us hl => match us, hl with | [_], _ => rfl⟩
  have F10 := fun_mk (st := s__law_flat_greatest) l10 c10 k10
  have T10 : Tx K mg "_law_flat_greatest" s__law_flat_greatest ["flat"] f10 _ := ⟨F10, PySem.W.mg_of X G a10, F10.binds (ps := ["flat"]) fun _ _ _ _ _ _ us hl => match us, hl with | [_], _ => rfl⟩
  have F11 := fun_mk (st := s__law_row) l11 c11 k11
  have T11 : Tx K mg "_law_row" s__law_row ["draws"] f11 _ := ⟨F11, PySem.W.mg_of X G a11, F11.binds (ps := ["draws"]) fun _ _ _ _ _ _ us hl => match us, hl with | [_], _ => rfl⟩
  have F12 := fun_mk (st := s__law_held) l12 c12 k12
  have T12 : Tx K mg "_law_held" s__law_held ["plain"] f12 _ := ⟨F12, PySem.W.mg_of X G a12, F12.binds (ps := ["plain"]) fun _ _ _ _ _ _ us hl => match us, hl with | [_], _ => rfl⟩
  have F13 := fun_mk (st := s__law_can_be) l13 c13 k13
  have T13 : Tx K mg "_law_can_be" s__law_can_be ["plain", "x", "k", "ranks", "rank"] f13 _ := ⟨F13, PySem.W.mg_of X G a13, F13.binds (ps := ["plain", "x", "k", "ranks", "rank"]) fun _ _ _ _ _ _ us hl => match us, hl with | [_, _, _, _, _], _ => rfl⟩
  have F14 := fun_mk (st := s__law_tight) l14 c14 k14
  have T14 : Tx K mg "_law_tight" s__law_tight ["plain", "x"] f14 _ := ⟨F14, PySem.W.mg_of X G a14, F14.binds (ps := ["plain", "x"]) fun _ _ _ _ _ _ us hl => match us, hl with | [_, _], _ => rfl⟩
  have F15 := fun_mk (st := s__law_stage) l15 c15 k15
  have T15 : Tx K mg "_law_stage" s__law_stage ["flat", "places"] f15 _ := ⟨F15, PySem.W.mg_of X G a15, F15.binds (ps := ["flat", "places"]) fun _ _ _ _ _ _ us hl => match us, hl with | [_, _], _ => rfl⟩
  have F16 := fun_mk (st := s__law_conditions) l16 c16 k16
  have T16 : Tx K mg "_law_conditions" s__law_conditions ["flat"] f16 _ := ⟨F16, PySem.W.mg_of X G a16, F16.binds (ps := ["flat"]) fun _ _ _ _ _ _ us hl => match us, hl with | [_], _ => rfl⟩
  have F17 := fun_mk (st := s__law_one_by_one) l17 c17 k17
  have T17 : Tx K mg "_law_one_by_one" s__law_one_by_one ["flat"] f17 _ := ⟨F17, PySem.W.mg_of X G a17, F17.binds (ps := ["flat"]) fun _ _ _ _ _ _ us hl => match us, hl with | [_], _ => rfl⟩
  have F18 := fun_mk (st := s__law_others) l18 c18 k18
  have T18 : Tx K mg "_law_others" s__law_others ["paper", "draws"] f18 _ := ⟨F18, PySem.W.mg_of X G a18, F18.binds (ps := ["paper", "draws"]) fun _ _ _ _ _ _ us hl => match us, hl with | [_, _], _ => rfl⟩
  have F19 := fun_mk (st := s_shifted) l19 c19 k19
  have T19 : Tx K mg "shifted" s_shifted ["a", "c"] f19 _ := ⟨F19, PySem.W.mg_of X G a19, F19.binds (ps := ["a", "c"]) fun _ _ _ _ _ _ us hl => match us, hl with | [_, _], _ => rfl⟩
  have F20 := fun_mk (st := s_least_of) l20 c20 k20
  have T20 : Tx K mg "least_of" s_least_of ["amounts"] f20 _ := ⟨F20, PySem.W.mg_of X G a20, F20.binds (ps := ["amounts"]) fun _ _ _ _ _ _ us hl => match us, hl with | [_], _ => rfl⟩
  have F21 := fun_mk (st := s_greatest_of) l21 c21 k21
  have T21 : Tx K mg "greatest_of" s_greatest_of ["amounts"] f21 _ := ⟨F21, PySem.W.mg_of X G a21, F21.binds (ps := ["amounts"]) fun _ _ _ _ _ _ us hl => match us, hl with | [_], _ => rfl⟩
  have F22 := fun_mk (st := s_at_most) l22 c22 k22
  have T22 : Tx K mg "at_most" s_at_most ["a", "b"] f22 _ := ⟨F22, PySem.W.mg_of X G a22, F22.binds (ps := ["a", "b"]) fun _ _ _ _ _ _ us hl => match us, hl with | [_, _], _ => rfl⟩
  have F23 := fun_mk (st := s_flat_value) l23 c23 k23
  have T23 : Tx K mg "flat_value" s_flat_value ["formula", "x"] f23 _ := ⟨F23, PySem.W.mg_of X G a23, F23.binds (ps := ["formula", "x"]) fun _ _ _ _ _ _ us hl => match us, hl with | [_, _], _ => rfl⟩
  have F24 := fun_mk (st := s_flat_values) l24 c24 k24
  have T24 : Tx K mg "flat_values" s_flat_values ["flat", "x"] f24 _ := ⟨F24, PySem.W.mg_of X G a24, F24.binds (ps := ["flat", "x"]) fun _ _ _ _ _ _ us hl => match us, hl with | [_, _], _ => rfl⟩
  have F25 := fun_mk (st := s_is_flat_solution) l25 c25 k25
  have T25 : Tx K mg "is_flat_solution" s_is_flat_solution ["flat", "x"] f25 _ := ⟨F25, PySem.W.mg_of X G a25, F25.binds (ps := ["flat", "x"]) fun _ _ _ _ _ _ us hl => match us, hl with | [_, _], _ => rfl⟩
  have F26 := fun_mk (st := s_conditions_of) l26 c26 k26
  have T26 : Tx K mg "conditions_of" s_conditions_of ["flat"] f26 _ := ⟨F26, PySem.W.mg_of X G a26, F26.binds (ps := ["flat"]) fun _ _ _ _ _ _ us hl => match us, hl with | [_], _ => rfl⟩
  have F27 := fun_mk (st := s_is_held) l27 c27 k27
  have T27 : Tx K mg "is_held" s_is_held ["formula", "x", "cell", "held"] f27 _ := ⟨F27, PySem.W.mg_of X G a27, F27.binds (ps := ["formula", "x", "cell", "held"]) fun _ _ _ _ _ _ us hl => match us, hl with | [_, _, _, _], _ => rfl⟩
  have F28 := fun_mk (st := s_is_on_floor) l28 c28 k28
  have T28 : Tx K mg "is_on_floor" s_is_on_floor ["formula", "x", "cell"] f28 _ := ⟨F28, PySem.W.mg_of X G a28, F28.binds (ps := ["formula", "x", "cell"]) fun _ _ _ _ _ _ us hl => match us, hl with | [_, _, _], _ => rfl⟩
  have F29 := fun_mk (st := s_free_targets) l29 c29 k29
  have T29 : Tx K mg "free_targets" s_free_targets ["formula", "x", "cell"] f29 _ := ⟨F29, PySem.W.mg_of X G a29, F29.binds (ps := ["formula", "x", "cell"]) fun _ _ _ _ _ _ us hl => match us, hl with | [_, _, _], _ => rfl⟩
  have F30 := fun_mk (st := s_is_tight) l30 c30 k30
  have T30 : Tx K mg "is_tight" s_is_tight ["formula", "x", "cell", "tight"] f30 _ := ⟨F30, PySem.W.mg_of X G a30, F30.binds (ps := ["formula", "x", "cell", "tight"]) fun _ _ _ _ _ _ us hl => match us, hl with | [_, _, _, _], _ => rfl⟩
  have F31 := fun_mk (st := s_shows_greatest) l31 c31 k31
  have T31 : Tx K mg "shows_greatest" s_shows_greatest ["plain", "x", "held", "tight"] f31 _ := ⟨F31, PySem.W.mg_of X G a31, F31.binds (ps := ["plain", "x", "held", "tight"]) fun _ _ _ _ _ _ us hl => match us, hl with | [_, _, _, _], _ => rfl⟩
  have F32 := fun_mk (st := s_missed_conditions) l32 c32 k32
  have T32 : Tx K mg "missed_conditions" s_missed_conditions ["flat", "cells", "x"] f32 _ := ⟨F32, PySem.W.mg_of X G a32, F32.binds (ps := ["flat", "cells", "x"]) fun _ _ _ _ _ _ us hl => match us, hl with | [_, _, _], _ => rfl⟩
  have F33 := fun_mk (st := s_closes_more) l33 c33 k33
  have T33 : Tx K mg "closes_more" s_closes_more ["flat", "before", "places"] f33 _ := ⟨F33, PySem.W.mg_of X G a33, F33.binds (ps := ["flat", "before", "places"]) fun _ _ _ _ _ _ us hl => match us, hl with | [_, _, _], _ => rfl⟩
  have F34 := fun_mk (st := s_copied) l34 c34 k34
  have T34 : Tx K mg "copied" s_copied ["formula"] f34 _ := ⟨F34, PySem.W.mg_of X G a34, F34.binds (ps := ["formula"]) fun _ _ _ _ _ _ us hl => match us, hl with | [_], _ => rfl⟩
  have F35 := fun_mk (st := s_opened_formula) l35 c35 k35
  have T35 : Tx K mg "opened_formula" s_opened_formula ["formula", "is_open"] f35 _ := ⟨F35, PySem.W.mg_of X G a35, F35.binds (ps := ["formula", "is_open"]) fun _ _ _ _ _ _ us hl => match us, hl with | [_, _], _ => rfl⟩
  have F36 := fun_mk (st := s_opened) l36 c36 k36
  have T36 : Tx K mg "opened" s_opened ["flat", "places"] f36 _ := ⟨F36, PySem.W.mg_of X G a36, F36.binds (ps := ["flat", "places"]) fun _ _ _ _ _ _ us hl => match us, hl with | [_, _], _ => rfl⟩
  have F37 := fun_mk (st := s_is_greatest_paper) l37 c37 k37
  have T37 : Tx K mg "is_greatest_paper" s_is_greatest_paper ["flat", "paper"] f37 _ := ⟨F37, PySem.W.mg_of X G a37, F37.binds (ps := ["flat", "paper"]) fun _ _ _ _ _ _ us hl => match us, hl with | [_, _], _ => rfl⟩
  have F38 := fun_mk (st := s__law_shows) l38 c38 k38
  have T38 : Tx K mg "_law_shows" s__law_shows ["plain", "x", "held", "tight"] f38 _ := ⟨F38, PySem.W.mg_of X G a38, F38.binds (ps := ["plain", "x", "held", "tight"]) fun _ _ _ _ _ _ us hl => match us, hl with | [_, _, _, _], _ => rfl⟩
  have F39 := fun_mk (st := s__law_right) l39 c39 k39
  have T39 : Tx K mg "_law_right" s__law_right ["flat", "paper"] f39 _ := ⟨F39, PySem.W.mg_of X G a39, F39.binds (ps := ["flat", "paper"]) fun _ _ _ _ _ _ us hl => match us, hl with | [_, _], _ => rfl⟩
  have F40 := fun_mk (st := s__law_stages) l40 c40 k40
  have T40 : Tx K mg "_law_stages" s__law_stages ["flat"] f40 _ := ⟨F40, PySem.W.mg_of X G a40, F40.binds (ps := ["flat"]) fun _ _ _ _ _ _ us hl => match us, hl with | [_], _ => rfl⟩
  have b_all := PySem.W.mg_none_of X G z_all
  have b_any := PySem.W.mg_none_of X G z_any
  have b_bool := PySem.W.mg_none_of X G z_bool
  have b_enumerate := PySem.W.mg_none_of X G z_enumerate
  have b_int := PySem.W.mg_none_of X G z_int
  have b_isinstance := PySem.W.mg_none_of X G z_isinstance
  have b_len := PySem.W.mg_none_of X G z_len
  have b_list := PySem.W.mg_none_of X G z_list
  have b_max := PySem.W.mg_none_of X G z_max
  have b_min := PySem.W.mg_none_of X G z_min
  have b_range := PySem.W.mg_none_of X G z_range
  have b_repr := PySem.W.mg_none_of X G z_repr
  refine ⟨PySem.W.fnOf "law" "law" (defArgs s_law) (defBody s_law) (defScope s_law) .none kV41 dc41 pm41 an41 cd41 ct41, fun_mk (st := s_law) l41 c41 k41, fun s v => .of_eq rfl, fun base _ _ cdv s H E => ?_⟩
  have D__law_draws := ok__law_draws (Pg := l.prog) (w := w) (base := base) T0 b_int b_len b_range
  have D__law_arcs := ok__law_arcs (Pg := l.prog) (w := w) (base := base) T1 b_int b_range
  have D__law_flat := ok__law_flat (Pg := l.prog) (w := w) (base := base) T2 D__law_arcs b_int b_range
  have D__law_opened := ok__law_opened (Pg := l.prog) (w := w) (base := base) T3 b_int b_len b_range
  have D__law_at_most := ok__law_at_most (Pg := l.prog) (w := w) (base := base) T4 
  have D__law_one_of := ok__law_one_of (Pg := l.prog) (w := w) (base := base) T5 D__law_at_most
  have D__law_shifted := ok__law_shifted (Pg := l.prog) (w := w) (base := base) T6 b_max
  have D__law_flat_value := ok__law_flat_value (Pg := l.prog) (w := w) (base := base) T7 D__law_at_most D__law_one_of D__law_shifted
  have D__law_flat_values := ok__law_flat_values (Pg := l.prog) (w := w) (base := base) T8 D__law_flat_value
  have D__law_flat_least := ok__law_flat_least (Pg := l.prog) (w := w) (base := base) T9 D__law_flat_values b_max b_range
  have D__law_flat_greatest := ok__law_flat_greatest (Pg := l.prog) (w := w) (base := base) T10 D__law_flat_values b_range
  have D__law_row := ok__law_row (Pg := l.prog) (w := w) (base := base) T11 b_int b_range
  have D__law_held := ok__law_held (Pg := l.prog) (w := w) (base := base) T12 b_len b_list b_range
  have D__law_can_be := ok__law_can_be (Pg := l.prog) (w := w) (base := base) T13 b_len
  have D__law_tight := ok__law_tight (Pg := l.prog) (w := w) (base := base) T14 D__law_can_be b_len b_list b_range
  have D__law_stage := ok__law_stage (Pg := l.prog) (w := w) (base := base) T15 D__law_flat_greatest D__law_held D__law_opened D__law_tight
  have D__law_conditions := ok__law_conditions (Pg := l.prog) (w := w) (base := base) T16 b_len b_range
  have D__law_one_by_one := ok__law_one_by_one (Pg := l.prog) (w := w) (base := base) T17 D__law_at_most D__law_conditions D__law_stage b_len b_range
  have D__law_others := ok__law_others (Pg := l.prog) (w := w) (base := base) T18 b_int b_len
  have D_shifted := ok_shifted (Pg := l.prog) (w := w) (base := base) T19 b_max
  have D_least_of := ok_least_of (Pg := l.prog) (w := w) (base := base) T20 b_min
  have D_greatest_of := ok_greatest_of (Pg := l.prog) (w := w) (base := base) T21 b_max
  have D_at_most := ok_at_most (Pg := l.prog) (w := w) (base := base) T22 
  have D_flat_value := ok_flat_value (Pg := l.prog) (w := w) (base := base) T23 D_at_most D_greatest_of D_least_of D_shifted
  have D_flat_values := ok_flat_values (Pg := l.prog) (w := w) (base := base) T24 D_flat_value
  have D_is_flat_solution := ok_is_flat_solution (Pg := l.prog) (w := w) (base := base) T25 D_flat_values
  have D_conditions_of := ok_conditions_of (Pg := l.prog) (w := w) (base := base) T26 b_enumerate
  have D_is_held := ok_is_held (Pg := l.prog) (w := w) (base := base) T27 b_all b_any
  have D_is_on_floor := ok_is_on_floor (Pg := l.prog) (w := w) (base := base) T28 b_any
  have D_free_targets := ok_free_targets (Pg := l.prog) (w := w) (base := base) T29 
  have D_is_tight := ok_is_tight (Pg := l.prog) (w := w) (base := base) T30 D_free_targets D_is_on_floor b_all b_any
  have D_shows_greatest := ok_shows_greatest (Pg := l.prog) (w := w) (base := base) T31 D_is_flat_solution D_is_held D_is_tight b_all b_enumerate b_len
  have D_missed_conditions := ok_missed_conditions (Pg := l.prog) (w := w) (base := base) T32 D_at_most
  have D_closes_more := ok_closes_more (Pg := l.prog) (w := w) (base := base) T33 D_missed_conditions b_len
  have D_copied := ok_copied (Pg := l.prog) (w := w) (base := base) T34 b_list
  have D_opened_formula := ok_opened_formula (Pg := l.prog) (w := w) (base := base) T35 D_copied
  have D_opened := ok_opened (Pg := l.prog) (w := w) (base := base) T36 D_opened_formula b_enumerate
  have D_is_greatest_paper := ok_is_greatest_paper (Pg := l.prog) (w := w) (base := base) T37 D_closes_more D_conditions_of D_is_flat_solution D_opened D_shows_greatest b_enumerate
  have D__law_shows := ok__law_shows (Pg := l.prog) (w := w) (base := base) T38 D__law_can_be D__law_flat_values b_len b_range
  have D__law_right := ok__law_right (Pg := l.prog) (w := w) (base := base) T39 D__law_at_most D__law_conditions D__law_flat_values D__law_opened D__law_shows b_len b_range
  have D__law_stages := ok__law_stages (Pg := l.prog) (w := w) (base := base) T40 D__law_at_most D__law_conditions D__law_flat_greatest D__law_opened b_len b_range
  exact body_law D__law_conditions D__law_draws D__law_flat D__law_flat_greatest D__law_flat_least D__law_one_by_one D__law_opened D__law_others D__law_right D__law_row D__law_stage D__law_stages D__law_tight D_is_greatest_paper b_bool b_enumerate b_int b_isinstance b_repr cdv s H E
end Law
namespace Law
open PySem PySem.Spec PyProof.Rows L2 Dl
abbrev iL (ns : List Int) : List D := ns.map PyData.int
theorem ixN_nat {n : Nat} {i : Int} (h0 : 0 ≤ i) (h : i < n) : ixN n i = some i.toNat := by
  unfold ixN
  rw [if_pos h0, if_pos h]
theorem iL_app (ds : List Int) (x : Int) : iL ds ++ [PyData.int x] = iL (ds ++ [x]) := by simp
def DrawSt (ns : List Int) (c : Nat) (i : Nat) (δ : DS) : Prop := ∃ (rs ds : List Int) (a4 a5 a6 a7 : Option DV), δ = [v (.list (iL ns)), v (.int c), some (.own (iL rs)), some (.own (iL ds)), a4, a5, a6, a7, none] ∧ rs.length = ns.length ∧ ds.length = i ∧ ∀ d ∈ ds, 0 ≤ d ∧ d < 1000
theorem mod_bd (x : Int) : 0 ≤ x % 1000 ∧ x % 1000 < 1000 := ⟨Int.emod_nonneg _ (by decide), Int.emod_lt_of_pos _ (by decide)⟩
theorem draws_ok (ns : List Int) (c : Nat) (hc : c ≤ 1000) (hn : ns.length ≤ 63) : ∃ ds : List Int, ds.length = c ∧ (∀ d ∈ ds, 0 ≤ d ∧ d < 1000) ∧ f__law_draws [.list (iL ns), .int c] = some (.own (iL ds)) := by
  have hcap : ns.length ≤ cap := by unfold cap; omega
  have hcol : colO (mLcF (gmName 8) mYes c__law_draws_1 [v (.list (iL ns)), v (.int c), none, none, none, none, none, none, none]) (iL ns) = some (iL ns) :=
    colO_eq PyData.int PyData.int ns fun a _ => rfl
  have hloop : ∃ δ', mForL (gmName 4) b__law_draws_1 (rngD 0 c) [v (.list (iL ns)), v (.int c), some (.own (iL ns)), some (.own []), none, none, none, none, none] = some (.nx δ') ∧ DrawSt ns c (0 + (rngD 0 c).length) δ' := by
    refine mForL_inv (DrawSt ns c) (rngD 0 c) 0 _ ⟨ns, [], none, none, none, none, rfl, rfl, rfl, fun d h => by cases h⟩ fun i d δ hd hp => ?_
    obtain ⟨rs, ds, a4, a5, a6, a7, rfl, h1, h2, h3⟩ := hp
    obtain ⟨rfl, hi⟩ := rngD_get hd
    refine ⟨_, rfl, ?_⟩
    have hds : (iL ds).length ≤ cap := by
      rw [List.length_map, h2]
      unfold cap
      omega
    have done : ∀ (rs' : List Int) (x : Int) (b4 b6 b7 : Option DV), rs'.length = ns.length → 0 ≤ x ∧ x < 1000 → DrawSt ns c (0 + i + 1) [v (.list (iL ns)), v (.int c), some (.own (iL rs')), some (.own (iL ds ++ [.int x])), b4, v (.int x), b6, b7, none] := by
      intro rs' x b4 b6 b7 hr hx
      refine ⟨rs', ds ++ [x], b4, _, b6, b7, by rw [iL_app], hr, by rw [List.length_append, h2]; rfl, fun d hd => ?_⟩
      rcases List.mem_append.mp hd with h | h
      · exact h3 d h
      · rw [List.mem_singleton.mp h]; exact hx
    by_cases hz : rs.length = 0
    · have hz' : rs = [] := List.eq_nil_of_length_eq_zero hz
      subst hz'
      refine ⟨_, .inl ?_, done [] 0 (v (.int (0 + (i : Int)))) a6 a7 h1 ⟨by decide, by decide⟩⟩
      simp -implicitDefEqProofs [b__law_draws_1, gApp_o hds]
    · have hn0 : 0 < (rs.length : Int) := by omega
      have hn1 : 0 < rs.length := by omega
      have hk : ∃ a : Int, a = (i : Int) % (rs.length : Int) ∧ 0 ≤ a ∧ a < rs.length := ⟨_, rfl, Int.emod_nonneg _ (by omega), Int.emod_lt_of_pos _ hn0⟩
      obtain ⟨a, ha, ha0, ha1⟩ := hk
      have hx := atI_int ha0 ha1
      generalize rs.getD a.toNat 0 = x at hx
      have hix := ixN_nat ha0 ha1
      by_cases hb : (1000000000000000000 : Int) ≤ x
      · refine ⟨_, .inl ?_, done (rs.set a.toNat (x / 1000)) (x % 1000) (v (.int (i : Int))) (v (.int a)) a7 (by rw [List.length_set, h1]) (mod_bd x)⟩
        simp -implicitDefEqProofs [b__law_draws_1, hn1, ← ha, hx, hb, hix, pow18, gApp_o hds]
      · obtain ⟨p, hp⟩ : ∃ p, p = (x * 48271 + (i : Int) * 69621 + 11) % 2147483647 := ⟨_, rfl⟩
        obtain ⟨q, hq⟩ : ∃ q, q = (p * 16807 + a) % 2147483629 := ⟨_, rfl⟩
        obtain ⟨r, hr⟩ : ∃ r, r = q / 7 % 1000 := ⟨_, rfl⟩
        refine ⟨_, .inl ?_, done rs r (v (.int (i : Int))) (v (.int a)) (v (.int q)) h1 (by rw [hr]; exact mod_bd _)⟩
        simp -implicitDefEqProofs [b__law_draws_1, hn1, ← ha, hx, hb, hix, pow18, gApp_o hds, ← hp, ← hq, ← hr]
  obtain ⟨δ', e, hp⟩ := hloop
  rw [rngD_len] at hp
  obtain ⟨rs, ds, a4, a5, a6, a7, rfl, h1, h2, h3⟩ := hp
  refine ⟨ds, by omega, h3, ?_⟩
  unfold f__law_draws
  refine fnD_rt rfl ?_
  have hr : gRng1 (some [.int (c : Int)]) = some (rngD 0 c) := by
    rw [gRng1_some (by omega) (by omega)]
    rfl
  simp -implicitDefEqProofs [m__law_draws, N__law_draws, hcap, hcol, hr, e, List.replicate]
/-- an amount, as data -/
def eA : Option Int → D
  | none => .none
  | some n => .int n
@[simp] theorem eA_n : eA none = .none := rfl
@[simp] theorem eA_s {n : Int} : eA (some n) = .int n := rfl
abbrev aL (xs : List (Option Int)) : List D := xs.map eA
def amOk (a : Option Int) : Prop := ∀ n, a = some n → 0 ≤ n ∧ n < 10000000000000
/-- the order of amounts -/
def leA : Option Int → Option Int → Bool
  | _, none => true
  | none, some _ => false
  | some a, some b => decide (a ≤ b)
def shA : Option Int → Int → Option Int
  | none, _ => none
  | some a, c => some (max (a + c) 0)
theorem eA_eqB {a b : Option Int} : eqB (eA a) (eA b) = some (decide (a = b)) := by
  have h1 : ∀ o : Option Int, SeqAt.shaped (eA o) = true := fun o => by cases o <;> simp [SeqAt.shaped, PyData.canLay0, PyData.depth]
  rw [eqB_of (h1 a) (h1 b) (fun x z => by cases a <;> cases z)]
  cases a <;> cases b <;> simp [PyData.eqv] <;> (rename_i i j; by_cases h : i = j <;> simp [h])
/-! the amounts' own mathematics -/
theorem leA_refl (a : Option Int) : leA a a = true := by cases a <;> simp [leA]
theorem leA_anti {a b : Option Int} (h1 : leA a b = true) (h2 : leA b a = true) : a = b := by
  cases a <;> cases b <;> simp [leA] at h1 h2 ⊢
  omega
theorem leA_trans {a b c : Option Int} (h1 : leA a b = true) (h2 : leA b c = true) : leA a c = true := by
  cases a <;> cases b <;> cases c <;> simp [leA] at h1 h2 ⊢
  omega
theorem leA_total (a b : Option Int) : leA a b = true ∨ leA b a = true := by
  cases a <;> cases b <;> simp [leA]
  omega
theorem leA_not {a b : Option Int} (h : leA a b = false) : leA b a = true := by
  rcases leA_total a b with q | q
  · rw [h] at q; cases q
  · exact q
/-- R: m is at an end of xs -/
def EndOf (le : Option Int → Option Int → Bool) (xs : List (Option Int)) (m : Option Int) : Prop := m ∈ xs ∧ ∀ x ∈ xs, le m x = true
theorem end_least {xs : List (Option Int)} {m n : Option Int} (h1 : EndOf leA xs m) (h2 : EndOf leA xs n) : m = n := leA_anti (h1.2 n h2.1) (h2.2 m h1.1)
theorem end_most {xs : List (Option Int)} {m n : Option Int} (h1 : EndOf (fun a b => leA b a) xs m) (h2 : EndOf (fun a b => leA b a) xs n) : m = n := leA_anti (h2.2 m h1.1) (h1.2 n h2.1)
/-- the law's own way -/
def pickA (l : Bool) (f o : Option Int) : Option Int := if leA o f = l ∧ o ≠ f then o else f
def oneA (l : Bool) (xs : List (Option Int)) : Option Int := xs.foldl (pickA l) (xs.headD none)
theorem pick_true (f o : Option Int) : leA (pickA true f o) f = true ∧ leA (pickA true f o) o = true ∧ (pickA true f o = f ∨ pickA true f o = o) := by
  unfold pickA
  by_cases h : leA o f = true ∧ o ≠ f
  · rw [if_pos h]
    exact ⟨h.1, leA_refl _, .inr rfl⟩
  · rw [if_neg h]
    refine ⟨leA_refl _, ?_, .inl rfl⟩
    by_cases e : o = f
    · rw [e]; exact leA_refl _
    · cases q : leA o f with
      | true => exact absurd ⟨q, e⟩ h
      | false => exact leA_not q
theorem pick_false (f o : Option Int) : leA f (pickA false f o) = true ∧ leA o (pickA false f o) = true ∧ (pickA false f o = f ∨ pickA false f o = o) := by
  unfold pickA
  by_cases h : leA o f = false ∧ o ≠ f
  · rw [if_pos h]
    exact ⟨leA_not h.1, leA_refl _, .inr rfl⟩
  · rw [if_neg h]
    refine ⟨leA_refl _, ?_, .inl rfl⟩
    cases q : leA o f with
    | true => rfl
    | false =>
      by_cases e : o = f
      · rw [e] at q
        rw [leA_refl] at q
        cases q
      · exact absurd ⟨q, e⟩ h
theorem fold_true : ∀ (xs : List (Option Int)) (f : Option Int), leA (xs.foldl (pickA true) f) f = true ∧ (∀ x ∈ xs, leA (xs.foldl (pickA true) f) x = true) ∧ (xs.foldl (pickA true) f = f ∨ xs.foldl (pickA true) f ∈ xs)
  | [], f => ⟨leA_refl _, fun x h => (by cases h), .inl rfl⟩
  | o :: r, f => by
    obtain ⟨p1, p2, p3⟩ := pick_true f o
    obtain ⟨q1, q2, q3⟩ := fold_true r (pickA true f o)
    refine ⟨leA_trans q1 p1, fun x h => ?_, ?_⟩
    · rcases List.mem_cons.mp h with e | e
      · rw [e]; exact leA_trans q1 p2
      · exact q2 x e
    · rcases q3 with e | e
      · rcases p3 with z | z
        · exact .inl (e.trans z)
        · refine .inr ?_
          show r.foldl (pickA true) (pickA true f o) ∈ o :: r
          rw [e, z]
          exact List.mem_cons_self
      · exact .inr (List.mem_cons_of_mem _ e)
theorem fold_false : ∀ (xs : List (Option Int)) (f : Option Int), leA f (xs.foldl (pickA false) f) = true ∧ (∀ x ∈ xs, leA x (xs.foldl (pickA false) f) = true) ∧ (xs.foldl (pickA false) f = f ∨ xs.foldl (pickA false) f ∈ xs)
  | [], f => ⟨leA_refl _, fun x h => (by cases h), .inl rfl⟩
  | o :: r, f => by
    obtain ⟨p1, p2, p3⟩ := pick_false f o
    obtain ⟨q1, q2, q3⟩ := fold_false r (pickA false f o)
    refine ⟨leA_trans p1 q1, fun x h => ?_, ?_⟩
    · rcases List.mem_cons.mp h with e | e
      · rw [e]; exact leA_trans p2 q1
      · exact q2 x e
    · rcases q3 with e | e
      · rcases p3 with z | z
        · exact .inl (e.trans z)
        · refine .inr ?_
          show r.foldl (pickA false) (pickA false f o) ∈ o :: r
          rw [e, z]
          exact List.mem_cons_self
      · exact .inr (List.mem_cons_of_mem _ e)
theorem one_true {xs : List (Option Int)} (h : xs ≠ []) : EndOf leA xs (oneA true xs) := by
  cases xs with
  | nil => exact absurd rfl h
  | cons o r =>
    obtain ⟨q1, q2, q3⟩ := fold_true (o :: r) o
    refine ⟨?_, q2⟩
    rcases q3 with e | e
    · show (o :: r).foldl (pickA true) o ∈ o :: r
      rw [e]; exact List.mem_cons_self
    · exact e
theorem one_false {xs : List (Option Int)} (h : xs ≠ []) : EndOf (fun a b => leA b a) xs (oneA false xs) := by
  cases xs with
  | nil => exact absurd rfl h
  | cons o r =>
    obtain ⟨q1, q2, q3⟩ := fold_false (o :: r) o
    refine ⟨?_, q2⟩
    rcases q3 with e | e
    · show (o :: r).foldl (pickA false) o ∈ o :: r
      rw [e]; exact List.mem_cons_self
    · exact e
/-- the program's way -/
def leastA (xs : List (Option Int)) : Option Int := match xs.filterMap id with
  | [] => none
  | n :: r => some (r.foldl min n)
theorem foldl_min : ∀ (r : List Int) (n : Int), r.foldl min n ≤ n ∧ (∀ x ∈ r, r.foldl min n ≤ x) ∧ (r.foldl min n = n ∨ r.foldl min n ∈ r)
  | [], n => ⟨Int.le_refl _, fun x h => (by cases h), .inl rfl⟩
  | k :: r, n => by
    obtain ⟨q1, q2, q3⟩ := foldl_min r (min n k)
    refine ⟨by show r.foldl min (min n k) ≤ n; omega, fun x h => ?_, ?_⟩
    · show r.foldl min (min n k) ≤ x
      rcases List.mem_cons.mp h with e | e
      · rw [e]; omega
      · exact q2 x e
    · show r.foldl min (min n k) = n ∨ r.foldl min (min n k) ∈ k :: r
      rcases q3 with e | e
      · by_cases h : n ≤ k
        · exact .inl (by rw [e]; omega)
        · refine .inr ?_
          rw [e, Int.min_eq_right (by omega)]
          exact List.mem_cons_self
      · exact .inr (List.mem_cons_of_mem _ e)
theorem foldl_max : ∀ (r : List Int) (n : Int), n ≤ r.foldl max n ∧ (∀ x ∈ r, x ≤ r.foldl max n) ∧ (r.foldl max n = n ∨ r.foldl max n ∈ r)
  | [], n => ⟨Int.le_refl _, fun x h => (by cases h), .inl rfl⟩
  | k :: r, n => by
    obtain ⟨q1, q2, q3⟩ := foldl_max r (max n k)
    refine ⟨by show n ≤ r.foldl max (max n k); omega, fun x h => ?_, ?_⟩
    · show x ≤ r.foldl max (max n k)
      rcases List.mem_cons.mp h with e | e
      · rw [e]; omega
      · exact q2 x e
    · show r.foldl max (max n k) = n ∨ r.foldl max (max n k) ∈ k :: r
      rcases q3 with e | e
      · by_cases h : k ≤ n
        · exact .inl (by rw [e]; omega)
        · refine .inr ?_
          rw [e, Int.max_eq_right (by omega)]
          exact List.mem_cons_self
      · exact .inr (List.mem_cons_of_mem _ e)
theorem least_end {xs : List (Option Int)} (h : xs ≠ []) : EndOf leA xs (leastA xs) := by
  unfold leastA
  cases e : xs.filterMap id with
  | nil =>
    have all : ∀ x ∈ xs, x = none := fun x hx => by
      cases x with
      | none => rfl
      | some n =>
        have : n ∈ xs.filterMap id := List.mem_filterMap.mpr ⟨some n, hx, rfl⟩
        rw [e] at this
        cases this
    cases xs with
    | nil => exact absurd rfl h
    | cons o r =>
      refine ⟨?_, fun x hx => by rw [all x hx]; rfl⟩
      rw [all o List.mem_cons_self]
      exact List.mem_cons_self
  | cons n r =>
    obtain ⟨q1, q2, q3⟩ := foldl_min r n
    have mem : ∀ k, some k ∈ xs ↔ k ∈ n :: r := fun k => by
      rw [← e, List.mem_filterMap]
      exact ⟨fun h => ⟨some k, h, rfl⟩, fun ⟨a, h1, h2⟩ => by cases h2; exact h1⟩
    refine ⟨(mem _).mpr ?_, fun x hx => ?_⟩
    · rcases q3 with z | z
      · rw [z]; exact List.mem_cons_self
      · exact List.mem_cons_of_mem _ z
    · cases x with
      | none => rfl
      | some k =>
        have hk := (mem k).mp hx
        refine decide_eq_true ?_
        rcases List.mem_cons.mp hk with z | z
        · rw [z]; exact q1
        · exact q2 k z
def greatestA (xs : List (Option Int)) : Option Int := if none ∈ xs then none else match xs.filterMap id with
  | [] => some 0
  | n :: r => some (r.foldl max n)
theorem greatest_end {xs : List (Option Int)} (h : xs ≠ []) : EndOf (fun a b => leA b a) xs (greatestA xs) := by
  unfold greatestA
  by_cases hn : none ∈ xs
  · rw [if_pos hn]
    exact ⟨hn, fun x _ => rfl⟩
  · rw [if_neg hn]
    have mem : ∀ k, some k ∈ xs ↔ k ∈ xs.filterMap id := fun k => by
      rw [List.mem_filterMap]
      exact ⟨fun h => ⟨some k, h, rfl⟩, fun ⟨a, h1, h2⟩ => by cases h2; exact h1⟩
    cases e : xs.filterMap id with
    | nil =>
      cases xs with
      | nil => exact absurd rfl h
      | cons o r =>
        cases o with
        | none => exact absurd List.mem_cons_self hn
        | some k =>
          have := (mem k).mp List.mem_cons_self
          rw [e] at this
          cases this
    | cons n r =>
      rw [e] at mem
      obtain ⟨q1, q2, q3⟩ := foldl_max r n
      refine ⟨(mem _).mpr ?_, fun x hx => ?_⟩
      · rcases q3 with z | z
        · rw [z]; exact List.mem_cons_self
        · exact List.mem_cons_of_mem _ z
      · cases x with
        | none => exact absurd hx hn
        | some k =>
          have hk := (mem k).mp hx
          refine decide_eq_true ?_
          rcases List.mem_cons.mp hk with z | z
          · rw [z]; exact q1
          · exact q2 k z
theorem least_one {xs : List (Option Int)} (h : xs ≠ []) : leastA xs = oneA true xs := end_least (least_end h) (one_true h)
theorem greatest_one {xs : List (Option Int)} (h : xs ≠ []) : greatestA xs = oneA false xs := end_most (greatest_end h) (one_false h)
theorem at_most_ok (a b : Option Int) : f_at_most [eA a, eA b] = some (.val (.bool (leA a b))) := by
  unfold f_at_most
  refine fnD_rt rfl ?_
  cases b with
  | none => simp -implicitDefEqProofs [m_at_most, N_at_most, leA]
  | some b =>
    cases a with
    | none => simp -implicitDefEqProofs [m_at_most, N_at_most, leA]
    | some a => simp -implicitDefEqProofs [m_at_most, N_at_most, leA]
theorem law_at_most_ok (a b : Option Int) : f__law_at_most [eA a, eA b] = some (.val (.bool (leA a b))) := by
  unfold f__law_at_most
  refine fnD_rt rfl ?_
  cases b with
  | none => simp -implicitDefEqProofs [m__law_at_most, N__law_at_most, leA]
  | some b =>
    cases a with
    | none => simp -implicitDefEqProofs [m__law_at_most, N__law_at_most, leA]
    | some a => simp -implicitDefEqProofs [m__law_at_most, N__law_at_most, leA]
theorem shifted_ok (a : Option Int) (c : Int) : f_shifted [eA a, .int c] = some (.val (eA (shA a c))) := by
  unfold f_shifted
  refine fnD_rt rfl ?_
  cases a with
  | none => simp -implicitDefEqProofs [m_shifted, N_shifted, shA]
  | some a => simp -implicitDefEqProofs [m_shifted, N_shifted, shA]
theorem law_shifted_ok (a : Option Int) (c : Int) : f__law_shifted [eA a, .int c] = some (.val (eA (shA a c))) := by
  unfold f__law_shifted
  refine fnD_rt rfl ?_
  cases a with
  | none => simp -implicitDefEqProofs [m__law_shifted, N__law_shifted, shA]
  | some a => simp -implicitDefEqProofs [m__law_shifted, N__law_shifted, shA, Int.max_comm]
@[simp] theorem dEq_int {i j : Int} : dEq (.int i) (.int j) = some (.bool (decide (i = j))) := by
  unfold dEq
  rw [eqB_int]
  rfl
@[simp] theorem dNe_int {i j : Int} : dNe (.int i) (.int j) = some (.bool (!decide (i = j))) := by
  unfold dNe
  rw [eqB_int]
  rfl
@[simp] theorem dEq_bool {i j : Bool} : dEq (.bool i) (.bool j) = some (.bool (decide (i = j))) := by
  unfold dEq
  rw [eqB_bool]
  rfl
@[simp] theorem dNe_bool {i j : Bool} : dNe (.bool i) (.bool j) = some (.bool (!decide (i = j))) := by
  unfold dNe
  rw [eqB_bool]
  rfl
@[simp] theorem dNe_eA {a b : Option Int} : dNe (eA a) (eA b) = some (.bool (!decide (a = b))) := by
  unfold dNe
  rw [eA_eqB]
  rfl
@[simp] theorem isNone_eA {a : Option Int} : isNoneD (eA a) = decide (a = none) := by cases a <;> rfl
theorem aL_cap {xs : List (Option Int)} (h : xs.length ≤ 1000) : (aL xs).length ≤ cap := by
  rw [List.length_map]
  unfold cap
  omega
theorem least_of_ok (xs : List (Option Int)) (h : xs.length ≤ 1000) : f_least_of [.list (aL xs)] = some (.val (eA (leastA xs))) := by
  unfold f_least_of
  refine fnD_rt rfl ?_
  have hc : xs.length ≤ cap := by unfold cap; omega
  have hcol : colO (mLcF (gmName 2) (mB (m2 dIsNot (mVar 2) (mC .none))) c_least_of_1 [v (.list (aL xs)), none, none]) (aL xs) = some ((xs.filterMap id).map PyData.int) :=
    colO_fm eA id PyData.int xs fun a _ => by
      cases a with
      | none => rfl
      | some n => rfl
  simp -implicitDefEqProofs [m_least_of, N_least_of, List.replicate, hc, hcol]
  rw [dPick_map]
  unfold leastA
  cases xs.filterMap id <;> rfl
theorem aL_flat (xs : List (Option Int)) : (aL xs).all flatD = true := by
  rw [List.all_eq_true]
  intro d hd
  obtain ⟨a, _, rfl⟩ := List.mem_map.mp hd
  cases a <;> rfl
theorem aL_cons (a : Option Int) (r : List (Option Int)) : aL (a :: r) = eA a :: aL r := rfl
theorem aL_some (ns : List Int) : aL (ns.map some) = ns.map PyData.int := by
  show (ns.map some).map eA = _
  rw [List.map_map]
  rfl
theorem inD_none : ∀ xs : List (Option Int), inD .none (aL xs) = decide (none ∈ xs)
  | [] => rfl
  | a :: r => by
    have ih := inD_none r
    unfold inD at ih ⊢
    rw [aL_cons, List.any_cons, ih]
    cases a with
    | none => simp [PyData.eqv]
    | some n => simp [PyData.eqv]
theorem greatest_of_ok (xs : List (Option Int)) : f_greatest_of [.list (aL xs)] = some (.val (eA (greatestA xs))) := by
  unfold f_greatest_of
  refine fnD_rt rfl ?_
  have hin : dIn .none (.list (aL xs)) = some (.bool (decide (none ∈ xs))) := by
    unfold dIn
    rw [inB_l rfl (aL_flat xs), inD_none]
    rfl
  by_cases hn : none ∈ xs
  · simp -implicitDefEqProofs [m_greatest_of, N_greatest_of, hin, hn, greatestA]
  · obtain ⟨ns, hns⟩ : ∃ ns : List Int, xs = ns.map some := by
      clear hin
      induction xs with
      | nil => exact ⟨[], rfl⟩
      | cons a r ih =>
        cases a with
        | none => exact absurd List.mem_cons_self hn
        | some n =>
          obtain ⟨ns, rfl⟩ := ih (fun z => hn (List.mem_cons_of_mem _ z))
          exact ⟨n :: ns, rfl⟩
    have e1 : aL xs = ns.map PyData.int := by rw [hns, aL_some]
    have e2 : xs.filterMap id = ns := by
      rw [hns, List.filterMap_map]
      show ns.filterMap (fun n => some n) = ns
      exact List.filterMap_some
    simp -implicitDefEqProofs only [m_greatest_of, N_greatest_of, nSeq_e, nIf_e, mB_e, m2_e, mC_e, hin, hn, startD_1, mVar_0, List.length_cons, List.length_nil, Option.bind_some, toB_some, decide_false, Bool.false_eq_true, if_false, nNext_e, nx2_nx, nRet_e, mCallK_e, mCons_e, mNil_e]
    rw [e1, dPick_map]
    unfold greatestA
    rw [if_neg hn, e2]
    cases ns <;> rfl
theorem slice_ok {ds : List Int} {n : Nat} (hl : ds.length = n) (hb : ∀ d ∈ ds, 0 ≤ d ∧ d < 1000) {a b : Nat} (h1 : a ≤ b) (h2 : b ≤ n) : ∃ es : List Int, es.length = b - a ∧ (∀ d ∈ es, 0 ≤ d ∧ d < 1000) ∧ cutD (iL ds) (some (a : Int)) (some (b : Int)) = iL es :=
  ⟨cutD ds (some (a : Int)) (some (b : Int)), cutD_len ds h1 (by omega), fun d hd => hb d (cutD_mem hd), cutD_map _ _ _ _⟩
theorem at_am {xs : List (Option Int)} {i : Nat} (h : i < xs.length) : ∃ a, a ∈ xs ∧ xs[i]? = some a ∧ atI (aL xs) (i : Int) = some (eA a) :=
  ⟨xs[i], List.getElem_mem h, List.getElem?_eq_getElem h, atI_nat (by rw [List.getElem?_map, List.getElem?_eq_getElem h]; rfl)⟩
theorem at_dr {ds : List Int} {n : Nat} (hl : ds.length = n) (hb : ∀ d ∈ ds, 0 ≤ d ∧ d < 1000) {i : Nat} (h : i < n) : ∃ x, 0 ≤ x ∧ x < 1000 ∧ atI (iL ds) (i : Int) = some (.int x) := by
  have hi : i < ds.length := by omega
  have q := hb ds[i] (List.getElem_mem hi)
  exact ⟨ds[i], q.1, q.2, atI_nat (by rw [List.getElem?_map, List.getElem?_eq_getElem hi]; rfl)⟩
def nnA (a : Option Int) : Prop := ∀ n, a = some n → 0 ≤ n
/-- pointwise -/
def leL (xs ys : List (Option Int)) : Prop := ∀ (i : Nat) a b, xs[i]? = some a → ys[i]? = some b → leA a b = true
/-- a row of amounts -/
structure Row (m : Nat) (xs : List (Option Int)) : Prop where
  len : xs.length = m
  nn : ∀ a ∈ xs, nnA a
abbrev gA (xs : List (Option Int)) (i : Nat) : Option Int := (xs[i]?).getD none
theorem gA_get {xs : List (Option Int)} {i : Nat} (h : i < xs.length) : xs[i]? = some (gA xs i) := by
  unfold gA
  rw [List.getElem?_eq_getElem h]
  rfl
theorem gA_at {xs : List (Option Int)} {i : Nat} (h : i < xs.length) : atI (aL xs) (i : Int) = some (eA (gA xs i)) :=
  atI_nat (by rw [List.getElem?_map, gA_get h]; rfl)
theorem Row.g {m : Nat} {xs : List (Option Int)} (h : Row m xs) {i : Nat} (hi : i < m) : nnA (gA xs i) := by
  have hi' : i < xs.length := by rw [h.len]; exact hi
  exact h.nn _ (List.mem_of_getElem? (gA_get hi'))
theorem leL.g {m : Nat} {xs ys : List (Option Int)} (h1 : Row m xs) (h2 : Row m ys) (h : leL xs ys) {i : Nat} (hi : i < m) : leA (gA xs i) (gA ys i) = true :=
  h i _ _ (gA_get (by rw [h1.len]; exact hi)) (gA_get (by rw [h2.len]; exact hi))
theorem shA_mono {a b : Option Int} {c : Int} (h : leA a b = true) : leA (shA a c) (shA b c) = true := by
  cases a <;> cases b <;> simp [leA, shA] at h ⊢
  omega
theorem shA_nn {a : Option Int} {c : Int} : nnA (shA a c) := fun n h => by
  cases a with
  | none => cases h
  | some a =>
    have e := Option.some.inj h
    omega
theorem le0 {a : Option Int} (h : nnA a) : leA (some 0) a = true := by
  cases a with
  | none => rfl
  | some n => exact decide_eq_true (h n rfl)
theorem nn0 : nnA (some 0) := fun n h => by
  cases h
  exact Int.le_refl _
theorem least_mono {α : Type} {ds : List α} (f g : α → Option Int) (h0 : ds ≠ []) (h : ∀ d ∈ ds, leA (f d) (g d) = true) : leA (leastA (ds.map f)) (leastA (ds.map g)) = true := by
  have n1 : ∀ k : α → Option Int, ds.map k ≠ [] := fun k z => h0 (List.map_eq_nil_iff.mp z)
  obtain ⟨p, q⟩ := least_end (n1 g)
  obtain ⟨d, hd, e⟩ := List.mem_map.mp p
  rw [← e]
  exact leA_trans ((least_end (n1 f)).2 _ (List.mem_map.mpr ⟨d, hd, rfl⟩)) (h d hd)
theorem greatest_mono {α : Type} {ds : List α} (f g : α → Option Int) (h0 : ds ≠ []) (h : ∀ d ∈ ds, leA (f d) (g d) = true) : leA (greatestA (ds.map f)) (greatestA (ds.map g)) = true := by
  have n1 : ∀ k : α → Option Int, ds.map k ≠ [] := fun k z => h0 (List.map_eq_nil_iff.mp z)
  obtain ⟨p, q⟩ := greatest_end (n1 f)
  obtain ⟨d, hd, e⟩ := List.mem_map.mp p
  rw [← e]
  exact leA_trans (h d hd) ((greatest_end (n1 g)).2 _ (List.mem_map.mpr ⟨d, hd, rfl⟩))
theorem row_rep {a : Option Int} (h : nnA a) (m : Nat) : Row m (List.replicate m a) := ⟨List.length_replicate, fun b hb => by rw [List.eq_of_mem_replicate hb]; exact h⟩
theorem nnN : nnA none := fun n h => by cases h
theorem one_of_ok (l : Bool) (xs : List (Option Int)) (h : xs ≠ []) : f__law_one_of [.list (aL xs), .bool l] = some (.val (eA (oneA l xs))) := by
  cases xs with
  | nil => exact absurd rfl h
  | cons o r =>
    unfold f__law_one_of
    refine fnD_rt rfl ?_
    obtain ⟨δ', e, a3, rfl⟩ := mForL_fold (gm := gmName 3) (b := b__law_one_of_1) eA (pickA l) (fun s δ => ∃ a3, δ = [v (.list (aL (o :: r))), v (.bool l), v (eA s), a3]) (o :: r) o [v (.list (aL (o :: r))), v (.bool l), v (eA o), none] ⟨_, rfl⟩ fun a _ s δ hs => by
      obtain ⟨a3, rfl⟩ := hs
      refine ⟨_, rfl, [v (.list (aL (o :: r))), v (.bool l), v (eA (pickA l s a)), v (eA a)], ?_, _, rfl⟩
      by_cases h1 : leA a s = l
      · by_cases h2 : a = s
        · simp -implicitDefEqProofs [b__law_one_of_1, law_at_most_ok, pickA, h1, h2]
        · simp -implicitDefEqProofs [b__law_one_of_1, law_at_most_ok, pickA, h1, h2]
      · simp -implicitDefEqProofs [b__law_one_of_1, law_at_most_ok, pickA, h1]
    simp -implicitDefEqProofs [m__law_one_of, N__law_one_of, List.replicate, oneA]
    rw [← List.map_cons, e]
    simp -implicitDefEqProofs
theorem eqB_aL {xs ys : List (Option Int)} : eqB (.list (aL xs)) (.list (aL ys)) = some (decide (xs = ys)) := by
  have sh : ∀ zs : List (Option Int), SeqAt.shaped (.list (aL zs)) = true := fun zs => by
    have h : PyData.canLayAll0 (aL zs) = true ∧ PyData.depthAll (aL zs) = 0 := by
      induction zs with
      | nil => exact ⟨rfl, rfl⟩
      | cons a r ih =>
        rw [aL_cons, PyData.canLayAll0, PyData.depthAll, ih.1, ih.2]
        cases a <;> exact ⟨rfl, rfl⟩
    refine shaped_of (by rw [PyData.canLay0]; exact h.1) (by rw [PyData.depth, h.2]; decide)
  rw [eqB_of (sh xs) (sh ys) (fun x z => by cases z), PyData.eqv]
  congr 1
  induction xs generalizing ys with
  | nil => cases ys <;> simp [PyData.eqvAll]
  | cons a r ih =>
    cases ys with
    | nil => simp [PyData.eqvAll]
    | cons b s =>
      rw [aL_cons, aL_cons, PyData.eqvAll, ih]
      have h := eA_eqB (a := a) (b := b)
      have h1 : ∀ o : Option Int, SeqAt.shaped (eA o) = true := fun o => by cases o <;> simp [SeqAt.shaped, PyData.canLay0, PyData.depth]
      rw [eqB_of (h1 a) (h1 b) (fun x z => by cases a <;> cases z)] at h
      rw [Option.some.inj h]
      by_cases h1 : a = b <;> by_cases h2 : r = s <;> simp [h1, h2]
@[simp] theorem dNe_aL {xs ys : List (Option Int)} : dNe (.list (aL xs)) (.list (aL ys)) = some (.bool (!decide (xs = ys))) := by
  unfold dNe
  rw [eqB_aL]
  rfl

theorem len2 {α : Type} {xs : List α} (h : xs.length = 2) : ∃ a b, xs = [a, b] := by
  match xs, h with
  | [a, b], _ => exact ⟨a, b, rfl⟩
theorem len3 {α : Type} {xs : List α} (h : xs.length = 3) : ∃ a b c, xs = [a, b, c] := by
  match xs, h with
  | [a, b, c], _ => exact ⟨a, b, c, rfl⟩
@[simp] theorem dEq_str {x y : Str} : dEq (.str x) (.str y) = some (.bool (decide (x = y))) := rfl
theorem wq1 : decide (("cell" : Str) = "amount") = false := by decide
theorem wq2 : decide (("more" : Str) = "amount") = false := by decide
theorem wq3 : decide (("more" : Str) = "cell") = false := by decide
theorem wq4 : decide (("when" : Str) = "amount") = false := by decide
theorem wq5 : decide (("when" : Str) = "cell") = false := by decide
theorem wq6 : decide (("when" : Str) = "more") = false := by decide
theorem wq7 : decide (("least" : Str) = "amount") = false := by decide
theorem wq8 : decide (("least" : Str) = "cell") = false := by decide
theorem wq9 : decide (("least" : Str) = "more") = false := by decide
theorem wq10 : decide (("least" : Str) = "when") = false := by decide
theorem wq11 : decide (("greatest" : Str) = "amount") = false := by decide
theorem wq12 : decide (("greatest" : Str) = "cell") = false := by decide
theorem wq13 : decide (("greatest" : Str) = "more") = false := by decide
theorem wq14 : decide (("greatest" : Str) = "when") = false := by decide
theorem wq15 : decide (("greatest" : Str) = "least") = false := by decide
@[simp] theorem ne_amount_cell : decide (("amount" : Str) = "cell") = false := by decide
@[simp] theorem ne_amount_more : decide (("amount" : Str) = "more") = false := by decide
@[simp] theorem ne_amount_when : decide (("amount" : Str) = "when") = false := by decide
@[simp] theorem ne_amount_least : decide (("amount" : Str) = "least") = false := by decide
@[simp] theorem ne_amount_greatest : decide (("amount" : Str) = "greatest") = false := by decide
@[simp] theorem ne_cell_amount : decide (("cell" : Str) = "amount") = false := by decide
@[simp] theorem ne_cell_more : decide (("cell" : Str) = "more") = false := by decide
@[simp] theorem ne_cell_when : decide (("cell" : Str) = "when") = false := by decide
@[simp] theorem ne_cell_least : decide (("cell" : Str) = "least") = false := by decide
@[simp] theorem ne_cell_greatest : decide (("cell" : Str) = "greatest") = false := by decide
@[simp] theorem ne_more_amount : decide (("more" : Str) = "amount") = false := by decide
@[simp] theorem ne_more_cell : decide (("more" : Str) = "cell") = false := by decide
@[simp] theorem ne_more_when : decide (("more" : Str) = "when") = false := by decide
@[simp] theorem ne_more_least : decide (("more" : Str) = "least") = false := by decide
@[simp] theorem ne_more_greatest : decide (("more" : Str) = "greatest") = false := by decide
@[simp] theorem ne_when_amount : decide (("when" : Str) = "amount") = false := by decide
@[simp] theorem ne_when_cell : decide (("when" : Str) = "cell") = false := by decide
@[simp] theorem ne_when_more : decide (("when" : Str) = "more") = false := by decide
@[simp] theorem ne_when_least : decide (("when" : Str) = "least") = false := by decide
@[simp] theorem ne_when_greatest : decide (("when" : Str) = "greatest") = false := by decide
@[simp] theorem ne_least_amount : decide (("least" : Str) = "amount") = false := by decide
@[simp] theorem ne_least_cell : decide (("least" : Str) = "cell") = false := by decide
@[simp] theorem ne_least_more : decide (("least" : Str) = "more") = false := by decide
@[simp] theorem ne_least_when : decide (("least" : Str) = "when") = false := by decide
@[simp] theorem ne_least_greatest : decide (("least" : Str) = "greatest") = false := by decide
@[simp] theorem ne_greatest_amount : decide (("greatest" : Str) = "amount") = false := by decide
@[simp] theorem ne_greatest_cell : decide (("greatest" : Str) = "cell") = false := by decide
@[simp] theorem ne_greatest_more : decide (("greatest" : Str) = "more") = false := by decide
@[simp] theorem ne_greatest_when : decide (("greatest" : Str) = "when") = false := by decide
@[simp] theorem ne_greatest_least : decide (("greatest" : Str) = "least") = false := by decide
theorem mod_nat (x : Int) {m : Nat} (hm : 0 < m) : ∃ i : Nat, i < m ∧ x % (m : Int) = (i : Int) := by
  have h0 := Int.emod_nonneg x (b := (m : Int)) (by omega)
  have h1 := Int.emod_lt_of_pos x (b := (m : Int)) (by omega)
  exact ⟨(x % (m : Int)).toNat, by omega, by omega⟩
theorem rng_pos {k : Int} (h0 : 0 ≤ k) (h : k ≤ 1000) : gRng1 (some [.int k]) = some (rngD 0 k.toNat) := gRng1_some (by omega) (by omega)
theorem sublist_ok {ds : List Int} {n : Nat} (hl : ds.length = n) (hb : ∀ d ∈ ds, 0 ≤ d ∧ d < 1000) {a b : Int} (h0 : 0 ≤ a) (h1 : a ≤ b) (h2 : b ≤ n) : ∃ es : List Int, es.length = (b - a).toNat ∧ (∀ d ∈ es, 0 ≤ d ∧ d < 1000) ∧ cutD (iL ds) (some a) (some b) = iL es := by
  obtain ⟨a', rfl⟩ := Int.eq_ofNat_of_zero_le h0
  obtain ⟨b', rfl⟩ := Int.eq_ofNat_of_zero_le (by omega : 0 ≤ b)
  obtain ⟨es, q1, q2, q3⟩ := slice_ok hl hb (a := a') (b := b') (by omega) (by omega)
  exact ⟨es, by omega, q2, q3⟩
/-! flat formulas -/
inductive FF where
  | amt (a : Option Int)
  | wh (j : Nat) (a : Int) (k : Nat)
  | ex (l : Bool) (arcs : List (Nat × Int))
def eArc (p : Nat × Int) : D := .tuple [.int p.1, .int p.2]
def wd : Bool → Str
  | true => "least"
  | false => "greatest"
def eFF : FF → D
  | .amt a => .tuple [.str "amount", eA a]
  | .wh j a k => .tuple [.str "when", .int j, .int a, .int k]
  | .ex l arcs => .tuple [.str (wd l), .list (arcs.map eArc)]
def FF.val (xs : List (Option Int)) : FF → Option Int
  | .amt a => a
  | .wh j a k => if leA (some a) (gA xs j) = true then gA xs k else some 0
  | .ex l arcs => oneA l (arcs.map fun p => shA (gA xs p.1) p.2)
/-- over m cells, amounts up to A, shifts up to S -/
def FF.Ok (m : Nat) (A S : Int) : FF → Prop
  | .amt a => ∀ n, a = some n → 0 ≤ n ∧ n ≤ A
  | .wh j a k => j < m ∧ k < m ∧ 0 < a ∧ a ≤ A
  | .ex _ arcs => arcs ≠ [] ∧ arcs.length ≤ 6 ∧ ∀ p ∈ arcs, p.1 < m ∧ -S ≤ p.2 ∧ p.2 ≤ S
theorem wd_amount (l : Bool) : decide (wd l = "amount") = false := by cases l <;> decide
theorem wd_when (l : Bool) : decide (wd l = "when") = false := by cases l <;> decide
theorem wd_least (l : Bool) : decide (wd l = "least") = l := by cases l <;> decide
theorem wd_greatest (l : Bool) : decide (wd l = "greatest") = !l := by cases l <;> decide
theorem wn1 : decide (("when" : Str) = "amount") = false := by decide
theorem wn2 : decide (("amount" : Str) = "when") = false := by decide
theorem wn3 : decide (("when" : Str) = "least") = false := by decide
theorem wn4 : decide (("when" : Str) = "greatest") = false := by decide
theorem wn5 : decide (("amount" : Str) = "least") = false := by decide
theorem wn6 : decide (("amount" : Str) = "greatest") = false := by decide
theorem flat_value_ok {m : Nat} {A S : Int} {f : FF} (h : f.Ok m A S) {xs : List (Option Int)} (hx : xs.length = m) : f_flat_value [eFF f, .list (aL xs)] = some (.val (eA (f.val xs))) := by
  unfold f_flat_value
  refine fnD_rt rfl ?_
  show m_flat_value (startD 6 [eFF f, .list (aL xs)]) = _
  rw [startD_2]
  dsimp only [List.replicate]
  cases f with
  | amt a =>
    have h1 : atI [PyData.str "amount", eA a] 1 = some (eA a) := rfl
    simp -implicitDefEqProofs [m_flat_value, eFF, FF.val, h1]
  | wh j a k =>
    obtain ⟨h1, h2, _, _⟩ := h
    have g1 : atI [PyData.str "when", .int (j : Int), .int a, .int (k : Int)] 1 = some (.int j) := rfl
    have g2 : atI [PyData.str "when", .int (j : Int), .int a, .int (k : Int)] 2 = some (.int a) := rfl
    have g3 : atI [PyData.str "when", .int (j : Int), .int a, .int (k : Int)] 3 = some (.int k) := rfl
    have x1 := gA_at (xs := xs) (i := j) (by omega)
    have x2 := gA_at (xs := xs) (i := k) (by omega)
    have ha : f_at_most [.int a, eA (gA xs j)] = some (.val (.bool (leA (some a) (gA xs j)))) := at_most_ok (some a) (gA xs j)
    by_cases c1 : leA (some a) (gA xs j) = true
    · simp -implicitDefEqProofs [m_flat_value, eFF, FF.val, wn1, g1, g2, g3, x1, x2, ha, c1]
    · simp -implicitDefEqProofs [m_flat_value, eFF, FF.val, wn1, g1, g2, g3, x1, x2, ha, c1]
  | ex l arcs =>
    obtain ⟨h0, h1, h2⟩ := h
    have g1 : atI [PyData.str (wd l), .list (arcs.map eArc)] 1 = some (.list (arcs.map eArc)) := rfl
    have n0 : (arcs.map fun p => shA (gA xs p.1) p.2) ≠ [] := fun z => h0 (List.map_eq_nil_iff.mp z)
    have hl : (arcs.map fun p => shA (gA xs p.1) p.2).length ≤ 1000 := by rw [List.length_map]; omega
    unfold m_flat_value
    refine asg_go (d := .str (wd l)) (by simp -implicitDefEqProofs [eFF]) ?_
    dsimp only [List.set]
    refine chk_go (by simp -implicitDefEqProofs [wd_amount]) ?_
    refine chk_go (by simp -implicitDefEqProofs [wd_when]) ?_
    refine asg_go (d := .list ((aL (arcs.map fun p => shA (gA xs p.1) p.2)))) (lst_of ?_) ?_
    · show _ = some ((arcs.map fun p => shA (gA xs p.1) p.2).map eA)
      rw [List.map_map]
      refine lc_eq (F := eArc) (items_of (by simp -implicitDefEqProofs [eFF, g1])) (by omega) fun p hp => ?_
      have x1 := gA_at (xs := xs) (i := p.1) (by have := (h2 p hp).1; omega)
      simp -implicitDefEqProofs [mLcF, c_flat_value_1, eArc, x1, shifted_ok]
    · dsimp only [List.set]
      show _ = some (Out.rt (DV.val (eA (oneA l (arcs.map fun p => shA (gA xs p.1) p.2)))))
      generalize (arcs.map fun p => shA (gA xs p.1) p.2) = ys at n0 hl
      have q1 := least_of_ok ys hl
      have q2 := greatest_of_ok ys
      rw [least_one n0] at q1
      rw [greatest_one n0] at q2
      cases l with
      | true => simp -implicitDefEqProofs [wd_least, q1, q2]
      | false => simp -implicitDefEqProofs [wd_least, q1, q2]
theorem flat_values_ok {m : Nat} {A S : Int} {fs : List FF} (hl : fs.length ≤ 1000) (h : ∀ f ∈ fs, f.Ok m A S) {xs : List (Option Int)} (hx : xs.length = m) : f_flat_values [.list (fs.map eFF), .list (aL xs)] = some (.own (aL (fs.map (FF.val xs)))) := by
  unfold f_flat_values
  refine fnD_rt rfl ?_
  show m_flat_values (startD 3 [.list (fs.map eFF), .list (aL xs)]) = _
  rw [startD_2]
  dsimp only [List.replicate]
  refine retO_end ?_
  show _ = some ((fs.map (FF.val xs)).map eA)
  rw [List.map_map]
  refine lc_eq (F := eFF) (items_of rfl) (by omega) fun f hf => ?_
  simp -implicitDefEqProofs [mLcF, c_flat_values_1, flat_value_ok (h f hf) hx]
theorem dRepr_tup {es : List D} {dep n : Nat} (h : Shw (.tuple es) dep n) (h1 : dep ≤ 60 := by decide) (h2 : n ≤ 10000000 := by omega) : dRepr [.tuple es] = some (.str (PyData.tuple es).shown) := by
  show (if reprOk _ = true then _ else none) = _
  rw [if_pos (h.ok h1 h2)]
def bdA (B : Int) (a : Option Int) : Prop := ∀ n, a = some n → 0 ≤ n ∧ n ≤ B
theorem bdA.mono {B C : Int} {a : Option Int} (h : bdA B a) (hc : B ≤ C) : bdA C a := fun n e => by
  have := h n e
  omega
theorem bdA.nn {B : Int} {a : Option Int} (h : bdA B a) : nnA a := fun n e => (h n e).1
theorem bdA0 {B : Int} (h : 0 ≤ B) : bdA B (some 0) := fun n e => by
  cases e
  exact ⟨Int.le_refl _, h⟩
theorem bdAn {B : Int} : bdA B none := fun n e => by cases e
theorem gA_mem {xs : List (Option Int)} {i : Nat} (h : i < xs.length) : gA xs i ∈ xs := List.mem_of_getElem? (gA_get h)
theorem oneA_mem {l : Bool} {ys : List (Option Int)} (h : ys ≠ []) : oneA l ys ∈ ys := by
  cases l
  · exact (one_false h).1
  · exact (one_true h).1
theorem FF.bd {m : Nat} {A S B : Int} {f : FF} (h : f.Ok m A S) {xs : List (Option Int)} (hx : xs.length = m) (hb : ∀ a ∈ xs, bdA B a) (hS : 0 ≤ S) (hA : A ≤ B + S) (hB : 0 ≤ B) : bdA (B + S) (f.val xs) := by
  cases f with
  | amt a =>
    intro n e
    have := h n e
    omega
  | wh j a k =>
    show bdA _ (if _ then _ else _)
    split
    · exact (hb _ (gA_mem (by rw [hx]; exact h.2.1))).mono (by omega)
    · exact bdA0 (by omega)
  | ex l arcs =>
    obtain ⟨h0, _, h2⟩ := h
    have q := oneA_mem (l := l) (ys := arcs.map fun p => shA (gA xs p.1) p.2) (fun z => h0 (List.map_eq_nil_iff.mp z))
    obtain ⟨p, hp, e⟩ := List.mem_map.mp q
    show bdA _ (oneA l _)
    rw [← e]
    obtain ⟨p1, p2, p3⟩ := h2 p hp
    have g := hb _ (gA_mem (i := p.1) (by rw [hx]; exact p1))
    generalize gA xs p.1 = y at g
    cases y with
    | none => exact bdAn
    | some n =>
      intro k hk
      have := Option.some.inj hk
      have := g n rfl
      omega
theorem shw_int60 {i : Int} (h : i.natAbs < 2 ^ 60) : Shw (.int i) 0 61 := shw_int (k := 60) h (by decide) (by decide)
theorem shw_bd {B : Int} {a : Option Int} (h : bdA B a) (hB : B < 2 ^ 60) : Shw (eA a) 0 61 := by
  cases a with
  | none => exact shw_none.mono (Nat.le_refl _) (by decide)
  | some n =>
    have := h n rfl
    exact shw_int60 (by omega)
theorem shw_rowB {B : Int} {xs : List (Option Int)} (h : ∀ a ∈ xs, bdA B a) (hB : B < 2 ^ 60) : Shw (.list (aL xs)) 1 (63 * xs.length + 2) := by
  have q := shw_list (shw_all (ds := aL xs) (dep := 0) (n := 61) fun d hd => by
    obtain ⟨a, ha, rfl⟩ := List.mem_map.mp hd
    exact shw_bd (h a ha) hB)
  rw [List.length_map] at q
  exact q
theorem shw_wd (l : Bool) : Shw (.str (wd l)) 0 61 := shw_str.mono (Nat.le_refl _) (by cases l <;> decide +kernel)
theorem shw_ff {m : Nat} {A S : Int} {f : FF} (h : f.Ok m A S) (hm : m ≤ 100000) (hA : A ≤ 100000) (hS : S ≤ 100000) : Shw (eFF f) 3 2000 := by
  have i : ∀ {k : Int}, -100000 ≤ k → k ≤ 100000 → Shw (.int k) 0 61 := fun h1 h2 => shw_int60 (by omega)
  cases f with
  | amt a =>
    exact (shw_tup (shw_cons (shw_str.mono (Nat.le_refl _) (show (reprText "amount").length ≤ 61 by decide +kernel)) (shw_cons (shw_bd (B := A) h (by omega)) shw_nil))).mono (by decide) (by decide)
  | wh j a k =>
    obtain ⟨h1, h2, h3, h4⟩ := h
    exact (shw_tup (shw_cons (shw_str.mono (Nat.le_refl _) (show (reprText "when").length ≤ 61 by decide +kernel)) (shw_cons (i (by omega) (by omega)) (shw_cons (i (by omega) (by omega)) (shw_cons (i (by omega) (by omega)) shw_nil))))).mono (by decide) (by decide)
  | ex l arcs =>
    obtain ⟨h0, h1, h2⟩ := h
    have q := shw_list (shw_all (ds := arcs.map eArc) (dep := 1) (n := 130) fun d hd => by
      obtain ⟨p, hp, rfl⟩ := List.mem_map.mp hd
      obtain ⟨p1, p2, p3⟩ := h2 p hp
      exact (shw_tup (shw_cons (i (k := (p.1 : Int)) (by omega) (by omega)) (shw_cons (i (k := p.2) (by omega) (by omega)) shw_nil))).mono (by decide) (by decide))
    rw [List.length_map] at q
    exact (shw_tup (dep := 2) (n := 1065) (shw_cons ((shw_wd l).mono (Nat.zero_le _) (Nat.le_refl _)) (shw_cons (q.mono (Nat.le_refl _) (show _ ≤ 1000 by omega)) shw_nil))).mono (by decide) (by decide)
theorem shw_flat {m : Nat} {A S : Int} {fs : List FF} (h : ∀ f ∈ fs, f.Ok m A S) (hm : m ≤ 100000) (hA : A ≤ 100000) (hS : S ≤ 100000) : Shw (.list (fs.map eFF)) 4 (2002 * fs.length + 2) := by
  have q := shw_list (shw_all (ds := fs.map eFF) (dep := 3) (n := 2000) fun d hd => by
    obtain ⟨f, hf, rfl⟩ := List.mem_map.mp hd
    exact shw_ff (h f hf) hm hA hS)
  rw [List.length_map] at q
  exact q
theorem law_flat_value_ok {m : Nat} {A S : Int} {f : FF} (h : f.Ok m A S) {xs : List (Option Int)} (hx : xs.length = m) : f__law_flat_value [eFF f, .list (aL xs)] = some (.val (eA (f.val xs))) := by
  unfold f__law_flat_value
  refine fnD_rt rfl ?_
  show m__law_flat_value (startD 4 [eFF f, .list (aL xs)]) = _
  rw [startD_2]
  dsimp only [List.replicate]
  cases f with
  | amt a =>
    have h1 : atI [PyData.str "amount", eA a] 1 = some (eA a) := rfl
    simp -implicitDefEqProofs [m__law_flat_value, eFF, FF.val, h1]
  | wh j a k =>
    obtain ⟨h1, h2, _, _⟩ := h
    have g1 : atI [PyData.str "when", .int (j : Int), .int a, .int (k : Int)] 1 = some (.int j) := rfl
    have g2 : atI [PyData.str "when", .int (j : Int), .int a, .int (k : Int)] 2 = some (.int a) := rfl
    have g3 : atI [PyData.str "when", .int (j : Int), .int a, .int (k : Int)] 3 = some (.int k) := rfl
    have x1 := gA_at (xs := xs) (i := j) (by omega)
    have x2 := gA_at (xs := xs) (i := k) (by omega)
    have ha : f__law_at_most [.int a, eA (gA xs j)] = some (.val (.bool (leA (some a) (gA xs j)))) := law_at_most_ok (some a) (gA xs j)
    by_cases c1 : leA (some a) (gA xs j) = true
    · simp -implicitDefEqProofs [m__law_flat_value, eFF, FF.val, wn1, g1, g2, g3, x1, x2, ha, c1]
    · simp -implicitDefEqProofs [m__law_flat_value, eFF, FF.val, wn1, g1, g2, g3, x1, x2, ha, c1]
  | ex l arcs =>
    obtain ⟨h0, h1, h2⟩ := h
    have g1 : atI [PyData.str (wd l), .list (arcs.map eArc)] 1 = some (.list (arcs.map eArc)) := rfl
    have n0 : (arcs.map fun p => shA (gA xs p.1) p.2) ≠ [] := fun z => h0 (List.map_eq_nil_iff.mp z)
    unfold m__law_flat_value
    refine chk_go (by simp -implicitDefEqProofs [eFF, wd_amount]) ?_
    refine chk_go (by simp -implicitDefEqProofs [eFF, wd_when]) ?_
    have hc : mLcI (mItems (m2 dIx (mVar 0) (mC (.int 1)))) (gmPair 2 3) mYes c__law_flat_value_1 [2, 3] [v (eFF (.ex l arcs)), v (.list (aL xs)), none, none] = some (aL (arcs.map fun p => shA (gA xs p.1) p.2)) := by
      show _ = some ((arcs.map fun p => shA (gA xs p.1) p.2).map eA)
      rw [List.map_map]
      refine lc_eq (F := eArc) (items_of (by simp -implicitDefEqProofs [eFF, g1])) (by omega) fun p hp => ?_
      have x1 := gA_at (xs := xs) (i := p.1) (by have := (h2 p hp).1; omega)
      simp -implicitDefEqProofs [mLcF, c__law_flat_value_1, eArc, x1, law_shifted_ok]
    have hq := one_of_ok l _ n0
    show _ = some (Out.rt (DV.val (eA (oneA l (arcs.map fun p => shA (gA xs p.1) p.2)))))
    generalize (arcs.map fun p => shA (gA xs p.1) p.2) = ys at hc hq
    refine retC_end (ds := [.list (aL ys), .bool l]) ?_ hq
    rw [mCons_e, lst_of hc]
    simp -implicitDefEqProofs [eFF, wd_least]
/-! sheets that are drawn by numbers -/
def FF.Pl : FF → Prop
  | .wh _ _ _ => False
  | _ => True
theorem mod_natD (x : Int) {m : Nat} (hm : 0 < m) : ∃ i : Nat, i < m ∧ dMod (.int x) (.int (m : Int)) = some (.int (i : Int)) := by
  obtain ⟨i, h1, h2⟩ := mod_nat x hm
  exact ⟨i, h1, by rw [dMod_i (by omega), h2]⟩
theorem flarcs_ok (ds : List Int) {n : Nat} (hl : ds.length = n) (h13 : 13 ≤ n) (hb : ∀ d ∈ ds, 0 ≤ d ∧ d < 1000) {m : Nat} (hm : 0 < m) : ∃ arcs : List (Nat × Int), (arcs ≠ [] ∧ arcs.length ≤ 6 ∧ ∀ p ∈ arcs, p.1 < m ∧ -4 ≤ p.2 ∧ p.2 ≤ 4) ∧ f__law_arcs [.list (iL ds), .int m] = some (.own (arcs.map eArc)) := by
  obtain ⟨a0, _, _, i0⟩ := at_dr hl hb (i := 0) (by omega)
  have j0 : atI (iL ds) 0 = some (.int a0) := i0
  obtain ⟨k, hk1, hk6, hk⟩ : ∃ k : Nat, 1 ≤ k ∧ k ≤ 6 ∧ atI [PyData.int 1, .int 2, .int 1, .int 2, .int 3, .int 6] (a0 % 6) = some (.int (k : Int)) := by
    have h : a0 % 6 = 0 ∨ a0 % 6 = 1 ∨ a0 % 6 = 2 ∨ a0 % 6 = 3 ∨ a0 % 6 = 4 ∨ a0 % 6 = 5 := by omega
    rcases h with h | h | h | h | h | h <;> rw [h]
    · exact ⟨1, by omega, by omega, rfl⟩
    · exact ⟨2, by omega, by omega, rfl⟩
    · exact ⟨1, by omega, by omega, rfl⟩
    · exact ⟨2, by omega, by omega, rfl⟩
    · exact ⟨3, by omega, by omega, rfl⟩
    · exact ⟨6, by omega, by omega, rfl⟩
  have hlc := lc_ex (mi := mRng1 (mCons (m2 dIx (mLst (mCons (mC (.int 1)) (mCons (mC (.int 2)) (mCons (mC (.int 1)) (mCons (mC (.int 2)) (mCons (mC (.int 3)) (mCons (mC (.int 6)) mNil))))))) (m2 dMod (mCall (mCons (m2 dIx (mVar 0) (mC (.int 0))) mNil) dInt) (mC (.int 6)))) mNil)) (gm := gmName 2) (mt := mYes) (me := c__law_arcs_1) (vs := [2]) (δ := [v (.list (iL ds)), v (.int m), none])
    (P := fun _ (p : Nat × Int) => p.1 < m ∧ -4 ≤ p.2 ∧ p.2 ≤ 4) (enc := eArc) (rng_nat (n := k) (by simp -implicitDefEqProofs [j0, hk]) (by omega)) (by rw [List.length_map, List.length_range]; omega) fun i d hd => by
      obtain ⟨j, hj, rfl⟩ : ∃ j, j < k ∧ d = .int (j : Int) := by
        rw [List.getElem?_map] at hd
        obtain ⟨j, h1, h2⟩ := Option.map_eq_some_iff.mp hd
        have := (List.getElem?_eq_some_iff.mp h1).1
        rw [List.length_range] at this
        rw [List.getElem?_range this] at h1
        cases h1
        exact ⟨i, this, h2.symm⟩
      obtain ⟨x, _, _, hx⟩ := at_dr hl hb (i := 1 + 2 * j) (by omega)
      obtain ⟨y, _, _, hy⟩ := at_dr hl hb (i := 2 + 2 * j) (by omega)
      obtain ⟨p, hp, hp2⟩ := mod_natD x hm
      refine ⟨(p, y % 9 - 4), ⟨hp, by show -4 ≤ y % 9 - 4; omega, by show y % 9 - 4 ≤ 4; omega⟩, ?_⟩
      have hx' : atI (iL ds) (1 + 2 * (j : Int)) = some (.int x) := by have e : (1 + 2 * (j : Int)) = ((1 + 2 * j : Nat) : Int) := by omega
                                                                       rw [e]; exact hx
      have hy' : atI (iL ds) (2 + 2 * (j : Int)) = some (.int y) := by have e : (2 + 2 * (j : Int)) = ((2 + 2 * j : Nat) : Int) := by omega
                                                                       rw [e]; exact hy
      have hmul : dMul (.int 2) (.int (j : Int)) = some (.int (2 * (j : Int))) := dMul_l (by decide) (by decide)
      simp -implicitDefEqProofs [mLcF, c__law_arcs_1, hmul, hx', hy', hp2, eArc]
  obtain ⟨arcs, r1, r2, r3⟩ := hlc
  rw [List.length_map, List.length_range] at r1
  refine ⟨arcs, ⟨fun z => by rw [z] at r1; simp at r1; omega, by omega, fun p hp => by
    obtain ⟨i, hi, e⟩ := List.mem_iff_getElem.mp hp
    exact r2 i p (by rw [List.getElem?_eq_getElem hi, e])⟩, ?_⟩
  unfold f__law_arcs
  refine fnD_rt rfl ?_
  show m__law_arcs (startD 3 [.list (iL ds), .int m]) = _
  rw [startD_2]
  exact retO_end r3
theorem flflat_ok {n : Nat} (ds : List Int) (hl : ds.length = n) (hb : ∀ d ∈ ds, 0 ≤ d ∧ d < 1000) {M : Nat} (hM : 0 < M) (hn : 1 + 15 * M ≤ n) (hM2 : M ≤ 1000) (pl : Bool) : ∃ fs : List FF, 1 ≤ fs.length ∧ fs.length ≤ M ∧ (∀ f ∈ fs, f.Ok fs.length 11 4) ∧ (pl = true → ∀ f ∈ fs, f.Pl) ∧
    f__law_flat [.list (iL ds), .int M, .bool pl] = some (.own (fs.map eFF)) := by
  obtain ⟨a0, _, _, i0⟩ := at_dr hl hb (i := 0) (by omega)
  have j0 : atI (iL ds) 0 = some (.int a0) := i0
  obtain ⟨m0, hm0, hmd⟩ := mod_natD a0 hM
  have hadd : (1 : Int) + (m0 : Int) = ((m0 + 1 : Nat) : Int) := by omega
  have hloop : ∃ δ', mForL (gmName 5) b__law_flat_1 ((List.range (m0 + 1)).map fun k : Nat => PyData.int (k : Int)) [v (.list (iL ds)), v (.int M), v (.bool pl), v (.int ((m0 + 1 : Nat) : Int)), some (.own []), none, none, none] = some (.nx δ') ∧ (∃ (fs : List FF) (a5 a6 a7 : Option DV), δ' = [v (.list (iL ds)), v (.int M), v (.bool pl), v (.int ((m0 + 1 : Nat) : Int)), some (.own (fs.map eFF)), a5, a6, a7] ∧ fs.length = 0 + ((List.range (m0 + 1)).map fun k : Nat => PyData.int (k : Int)).length ∧ (∀ f ∈ fs, f.Ok (m0 + 1) 11 4) ∧ (pl = true → ∀ f ∈ fs, f.Pl)) := by
    refine mForL_inv (fun i δ => ∃ (fs : List FF) (a5 a6 a7 : Option DV), δ = [v (.list (iL ds)), v (.int M), v (.bool pl), v (.int ((m0 + 1 : Nat) : Int)), some (.own (fs.map eFF)), a5, a6, a7] ∧ fs.length = i ∧ (∀ f ∈ fs, f.Ok (m0 + 1) 11 4) ∧ (pl = true → ∀ f ∈ fs, f.Pl)) _ 0 _ ⟨[], none, none, none, rfl, rfl, fun f h => (by cases h), fun _ f h => (by cases h)⟩ fun i d δ hd hp => ?_
    obtain ⟨fs, a5, a6, a7, rfl, h1, h2, h3⟩ := hp
    obtain ⟨hi, rfl⟩ : i < m0 + 1 ∧ d = .int (i : Int) := by
      rw [List.getElem?_map] at hd
      obtain ⟨j, h1, h2⟩ := Option.map_eq_some_iff.mp hd
      have := (List.getElem?_eq_some_iff.mp h1).1
      rw [List.length_range] at this
      rw [List.getElem?_range this] at h1
      cases h1
      exact ⟨this, h2.symm⟩
    obtain ⟨es, e1, e2, e3⟩ := sublist_ok hl hb (a := 1 + 15 * (i : Int)) (b := 16 + 15 * (i : Int)) (by omega) (by omega) (by omega)
    have hel : es.length = 15 := by omega
    have hmul : dMul (.int 15) (.int (i : Int)) = some (.int (15 * (i : Int))) := dMul_l (by decide) (by decide)
    obtain ⟨b0, _, _, p0⟩ := at_dr hel e2 (i := 0) (by decide)
    obtain ⟨b1, _, _, p1⟩ := at_dr hel e2 (i := 1) (by decide)
    obtain ⟨b2, _, _, p2⟩ := at_dr hel e2 (i := 2) (by decide)
    obtain ⟨b3, _, _, p3⟩ := at_dr hel e2 (i := 3) (by decide)
    have q0 : atI (iL es) 0 = some (.int b0) := p0
    have q1 : atI (iL es) 1 = some (.int b1) := p1
    have q2 : atI (iL es) 2 = some (.int b2) := p2
    have q3 : atI (iL es) 3 = some (.int b3) := p3
    have hcapf : (fs.map eFF).length ≤ cap := by
      rw [List.length_map, h1]
      unfold cap
      omega
    have done : ∀ (f : FF), f.Ok (m0 + 1) 11 4 → (pl = true → f.Pl) → (fs ++ [f]).length = 0 + i + 1 ∧ (∀ g ∈ fs ++ [f], g.Ok (m0 + 1) 11 4) ∧ (pl = true → ∀ g ∈ fs ++ [f], g.Pl) := fun f hf hp => ⟨by rw [List.length_append, h1]; rfl, fun g hg => by
      rcases List.mem_append.mp hg with h | h
      · exact h2 g h
      · rw [List.mem_singleton.mp h]; exact hf, fun hpl g hg => by
      rcases List.mem_append.mp hg with h | h
      · exact h3 hpl g h
      · rw [List.mem_singleton.mp h]; exact hp hpl⟩
    have hm' : (0 : Nat) < m0 + 1 := by omega
    suffices H : ∃ f : FF, f.Ok (m0 + 1) 11 4 ∧ (pl = true → f.Pl) ∧ b__law_flat_1 [v (.list (iL ds)), v (.int M), v (.bool pl), v (.int ((m0 + 1 : Nat) : Int)), some (.own (fs.map eFF)), v (.int (i : Int)), a6, a7] = some (.nx [v (.list (iL ds)), v (.int M), v (.bool pl), v (.int ((m0 + 1 : Nat) : Int)), some (.own (fs.map eFF ++ [eFF f])), v (.int (i : Int)), v (.list (iL es)), v (.int (b0 % 9))]) by
      obtain ⟨f, hf, hp, e⟩ := H
      obtain ⟨d1, d2, d3⟩ := done f hf hp
      exact ⟨_, rfl, _, .inl e, fs ++ [f], _, _, _, by rw [List.map_append]; rfl, d1, d2, d3⟩
    unfold b__law_flat_1
    have hseq : ∀ (b : DS → Option Out) (o : Option Out), b [v (.list (iL ds)), v (.int M), v (.bool pl), v (.int ((m0 + 1 : Nat) : Int)), some (.own (fs.map eFF)), v (.int (i : Int)), v (.list (iL es)), v (.int (b0 % 9))] = o →
        nSeq (nAsg 6 (mLst (mSlL (mVar 0) (mP (m2 dAdd (mC (.int 1)) (m2 dMul (mC (.int 15)) (mVar 5)))) (mP (m2 dAdd (mC (.int 16)) (m2 dMul (mC (.int 15)) (mVar 5))))))) (nSeq (nAsg 7 (m2 dMod (mCall (mCons (m2 dIx (mVar 6) (mC (.int 0))) mNil) dInt) (mC (.int 9)))) b) [v (.list (iL ds)), v (.int M), v (.bool pl), v (.int ((m0 + 1 : Nat) : Int)), some (.own (fs.map eFF)), v (.int (i : Int)), a6, a7] = o := fun b o h => by
      refine asg_go (d := .list (iL es)) (by simp -implicitDefEqProofs [hmul, e3]) ?_
      dsimp only [List.set]
      refine asg_go (d := .int (b0 % 9)) (by simp -implicitDefEqProofs [q0]) ?_
      dsimp only [List.set]
      exact h
    have happ : ∀ (mm : DS → Option D) (f : FF), mm [v (.list (iL ds)), v (.int M), v (.bool pl), v (.int ((m0 + 1 : Nat) : Int)), some (.own (fs.map eFF)), v (.int (i : Int)), v (.list (iL es)), v (.int (b0 % 9))] = some (eFF f) → nApp 4 mm [v (.list (iL ds)), v (.int M), v (.bool pl), v (.int ((m0 + 1 : Nat) : Int)), some (.own (fs.map eFF)), v (.int (i : Int)), v (.list (iL es)), v (.int (b0 % 9))] = some (.nx [v (.list (iL ds)), v (.int M), v (.bool pl), v (.int ((m0 + 1 : Nat) : Int)), some (.own (fs.map eFF ++ [eFF f])), v (.int (i : Int)), v (.list (iL es)), v (.int (b0 % 9))]) := fun mm f h => app_end rfl h hcapf
    by_cases c0 : b0 % 9 < 2
    · have hamt : ∃ o : Option Int, (∀ n, o = some n → 0 ≤ n ∧ n ≤ 11) ∧ ∀ δ : DS, δ[6]? = some (v (.list (iL es))) → m2 dIx (mLst (mCons (m2 dMod (mCall (mCons (m2 dIx (mVar 6) (mC (.int 1))) mNil) dInt) (mC (.int 12))) (mCons (mC .none) mNil))) (mCall (mCons (m2 dEq (m2 dMod (mCall (mCons (m2 dIx (mVar 6) (mC (.int 2))) mNil) dInt) (mC (.int 7))) (mC (.int 6))) mNil) dInt) δ = some (eA o) := by
        have hv : ∀ δ : DS, δ[6]? = some (v (.list (iL es))) → mVar 6 δ = some (.list (iL es)) := fun δ h => by
          unfold mVar
          rw [h]
        by_cases c : b2 % 7 = 6
        · exact ⟨none, fun n h => (by cases h), fun δ h => by simp -implicitDefEqProofs [hv δ h, q1, q2, c]; rfl⟩
        · refine ⟨some (b1 % 12), fun n h => by cases h; omega, fun δ h => ?_⟩
          simp -implicitDefEqProofs [hv δ h, q1, q2, c]
          rfl
      obtain ⟨o, ho, hm⟩ := hamt
      refine ⟨.amt o, ho, fun _ => trivial, hseq _ _ (ifT_end (by simp -implicitDefEqProofs [c0]) (happ _ (.amt o) ?_))⟩
      rw [mTup_e, mCons_e, mCons_e, hm _ rfl]
      simp -implicitDefEqProofs [eFF]
    by_cases c1 : b0 % 9 = 8 ∧ pl = false
    · obtain ⟨c1, rfl⟩ := c1
      obtain ⟨p, hp, hp2⟩ := mod_natD b1 hm'
      obtain ⟨q, hq, hq2⟩ := mod_natD b3 hm'
      refine ⟨.wh p (1 + b2 % 9) q, ⟨hp, hq, by omega, by omega⟩, fun h => (by cases h), hseq _ _ (ifF_end (by simp -implicitDefEqProofs [c0]) (ifT_end (by simp -implicitDefEqProofs [c1]) (happ _ (.wh p (1 + b2 % 9) q) ?_)))⟩
      simp -implicitDefEqProofs only [mTup_e, mCons_e, mNil_e, m2_e, mC_e, mCall_e, mVar_s, mVar_0, Option.bind_some, Option.map_some, dIx_l, q1, q2, q3, dInt_i, hp2, hq2, dMod_i (show (0 : Int) < 9 by decide), dAdd_i, eFF]
    obtain ⟨gs, g1, g2, g3⟩ := sublist_ok hel e2 (a := 1) (b := 14) (by decide) (by decide) (by decide)
    obtain ⟨arcs, har, hf⟩ := flarcs_ok gs (n := 13) (by omega) (by decide) g2 hm'
    have hf' : f__law_arcs [.list (iL gs), .int ((m0 : Int) + 1)] = some (.own (arcs.map eArc)) := hf
    obtain ⟨l, hw⟩ : ∃ l : Bool, atI [PyData.str "least", .str "greatest"] (b0 % 9 % 2) = some (.str (wd l)) := by
      by_cases c2 : b0 % 9 % 2 = 0
      · exact ⟨true, by rw [c2]; rfl⟩
      · have c3 : b0 % 9 % 2 = 1 := by omega
        exact ⟨false, by rw [c3]; rfl⟩
    refine ⟨.ex l arcs, har, fun _ => trivial, hseq _ _ (ifF_end (by simp -implicitDefEqProofs [c0]) (ifF_end ?_ (happ _ (.ex l arcs) (by
      simp -implicitDefEqProofs [hw, g3, hf', eFF]))))⟩
    cases pl with
    | true => by_cases h8 : b0 % 9 = 8 <;> simp -implicitDefEqProofs [h8]
    | false =>
      have : ¬ b0 % 9 = 8 := fun z => c1 ⟨z, rfl⟩
      simp -implicitDefEqProofs [this]
  obtain ⟨δ', e, fs, a5, a6, a7, rfl, h1, h2, h3⟩ := hloop
  rw [List.length_map, List.length_range] at h1
  have h1' : fs.length = m0 + 1 := by omega
  refine ⟨fs, by omega, by omega, by rw [h1']; exact h2, h3, ?_⟩
  unfold f__law_flat
  refine fnD_rt rfl ?_
  show m__law_flat (startD 8 [.list (iL ds), .int M, .bool pl]) = _
  rw [startD_3]
  dsimp only [List.replicate]
  unfold m__law_flat
  refine asg_go (d := .int ((m0 + 1 : Nat) : Int)) (by simp -implicitDefEqProofs only [m2_e, mC_e, mCall_e, mCons_e, mNil_e, mVar_s, mVar_0, Option.bind_some, dIx_l, j0, dInt_i, hmd, dAdd_i, hadd]) ?_
  dsimp only [List.set]
  refine asgO_go (ds := []) rfl ?_
  dsimp only [List.set]
  refine for_go (rng_nat (n := m0 + 1) rfl (by omega)) e ?_
  exact retX_end rfl
end Law
namespace Law
open PySem PySem.Spec PyProof.Rows L2 Dl
/-! ### rounds: what settles, and at what -/
abbrev LA := List (Option Int)
/-- rounds until nothing changes, at most so many -/
def settle (S : LA → LA) : Nat → LA → LA
  | 0, x => x
  | n + 1, x => if S x = x then x else settle S n (S x)
theorem settle_ok {S : LA → LA} (I : LA → Prop) (μ : LA → Nat) (hI : ∀ x, I x → I (S x)) (hμ : ∀ x, I x → S x ≠ x → μ (S x) < μ x) : ∀ (n : Nat) (x : LA), I x → μ x ≤ n → I (settle S n x) ∧ S (settle S n x) = settle S n x
  | 0, x, h, hn => by
    refine ⟨h, ?_⟩
    by_cases e : S x = x
    · exact e
    · have := hμ x h e
      omega
  | n + 1, x, h, hn => by
    unfold settle
    by_cases e : S x = x
    · rw [if_pos e]
      exact ⟨h, e⟩
    · rw [if_neg e]
      have := hμ x h e
      exact settle_ok I μ hI hμ n (S x) (hI x h) (by omega)
theorem sum_dec (f : Option Int → Nat) : ∀ (xs ys : LA), xs.length = ys.length → (∀ (i : Nat) a b, xs[i]? = some a → ys[i]? = some b → f b ≤ f a ∧ (a ≠ b → f b < f a)) → (ys.map f).sum ≤ (xs.map f).sum ∧ (xs ≠ ys → (ys.map f).sum < (xs.map f).sum)
  | [], [], _, _ => ⟨Nat.le_refl _, fun h => absurd rfl h⟩
  | [], _ :: _, h, _ => by cases h
  | _ :: _, [], h, _ => by cases h
  | a :: xs, b :: ys, hl, h => by
    have h0 := h 0 a b rfl rfl
    obtain ⟨i1, i2⟩ := sum_dec f xs ys (Nat.succ.inj hl) fun i c d hc hd => h (i + 1) c d hc hd
    rw [List.map_cons, List.map_cons, List.sum_cons, List.sum_cons]
    refine ⟨Nat.add_le_add h0.1 i1, fun hne => ?_⟩
    by_cases e : a = b
    · have hn : xs ≠ ys := fun z => hne (by rw [e, z])
      have := i2 hn
      omega
    · have := h0.2 e
      omega
theorem sum_top (f : Option Int → Nat) (B : Nat) : ∀ xs : LA, (∀ a ∈ xs, f a ≤ B) → (xs.map f).sum ≤ xs.length * B
  | [], _ => Nat.zero_le _
  | a :: xs, h => by
    have h0 := h a List.mem_cons_self
    have h1 := sum_top f B xs fun b hb => h b (List.mem_cons_of_mem _ hb)
    rw [List.map_cons, List.sum_cons, List.length_cons, Nat.succ_mul]
    omega
def finLe (B : Int) (a : Option Int) : Prop := ∀ n, a = some n → n ≤ B
theorem finLe.mono {B C : Int} {a : Option Int} (h : finLe B a) (hc : B ≤ C) : finLe C a := fun n e => by
  have := h n e
  omega
def Sep (T K : Int) (a : Option Int) : Prop := ∀ n, a = some n → n ≤ T - K ∨ T + K < n
theorem Sep.mono {T K L : Int} {a : Option Int} (h : Sep T K a) (hl : L ≤ K) : Sep T L a := fun n e => by
  have := h n e
  omega
/-- what stands above T comes down by 1 -/
def lowA (T : Int) : Option Int → Option Int
  | none => none
  | some n => if T < n then some (n - 1) else some n
theorem lowA_hi {T n : Int} (h : T < n) : lowA T (some n) = some (n - 1) := by
  show (if T < n then some (n - 1) else some n) = _
  rw [if_pos h]
theorem lowA_lo {T n : Int} (h : n ≤ T) : lowA T (some n) = some n := by
  show (if T < n then some (n - 1) else some n) = _
  rw [if_neg (by omega)]
theorem lowA_le (T : Int) (a : Option Int) : leA (lowA T a) a = true := by
  cases a with
  | none => rfl
  | some n =>
    by_cases h : T < n
    · rw [lowA_hi h]
      exact decide_eq_true (by omega)
    · rw [lowA_lo (by omega)]
      exact leA_refl _
theorem lowA_mono {T : Int} {a b : Option Int} (h : leA a b = true) : leA (lowA T a) (lowA T b) = true := by
  cases b with
  | none => cases lowA T a <;> rfl
  | some k =>
    cases a with
    | none => cases h
    | some n =>
      have hk : n ≤ k := of_decide_eq_true h
      by_cases h1 : T < n
      · rw [lowA_hi h1, lowA_hi (by omega)]
        exact decide_eq_true (by omega)
      · rw [lowA_lo (by omega : n ≤ T)]
        by_cases h2 : T < k
        · rw [lowA_hi h2]
          exact decide_eq_true (by omega)
        · rw [lowA_lo (by omega)]
          exact h
theorem lowA_nn {T : Int} (hT : 0 ≤ T) {a : Option Int} (h : nnA a) : nnA (lowA T a) := fun n e => by
  cases a with
  | none => cases e
  | some k =>
    have hk := h k rfl
    by_cases h1 : T < k
    · rw [lowA_hi h1] at e
      have := Option.some.inj e
      omega
    · rw [lowA_lo (by omega)] at e
      have := Option.some.inj e
      omega
theorem least_low (T : Int) {vs : LA} (h : vs ≠ []) : leastA (vs.map (lowA T)) = lowA T (leastA vs) := by
  have n1 : vs.map (lowA T) ≠ [] := fun z => h (List.map_eq_nil_iff.mp z)
  refine end_least (least_end n1) ⟨List.mem_map.mpr ⟨_, (least_end h).1, rfl⟩, fun x hx => ?_⟩
  obtain ⟨a, ha, rfl⟩ := List.mem_map.mp hx
  exact lowA_mono ((least_end h).2 a ha)
theorem greatest_low (T : Int) {vs : LA} (h : vs ≠ []) : greatestA (vs.map (lowA T)) = lowA T (greatestA vs) := by
  have n1 : vs.map (lowA T) ≠ [] := fun z => h (List.map_eq_nil_iff.mp z)
  refine end_most (greatest_end n1) ⟨List.mem_map.mpr ⟨_, (greatest_end h).1, rfl⟩, fun x hx => ?_⟩
  obtain ⟨a, ha, rfl⟩ := List.mem_map.mp hx
  exact lowA_mono ((greatest_end h).2 a ha)
/-- a formula's value as a function of the amounts: constants up to c, shifts of together s under g -/
structure Comp (m : Nat) (c g s : Int) (f : LA → Option Int) : Prop where
  mono : ∀ xs ys, Row m xs → Row m ys → leL xs ys → leA (f xs) (f ys) = true
  nn : ∀ xs, Row m xs → nnA (f xs)
  up : ∀ xs B, Row m xs → c ≤ B → (∀ a ∈ xs, finLe B a) → finLe (B + s) (f xs)
  low : ∀ xs T, Row m xs → c + g ≤ T → (∀ a ∈ xs, Sep T g a) → f (xs.map (lowA T)) = lowA T (f xs) ∧ Sep T (g - s) (f xs)
section
variable {m : Nat} {c g s : Int}
theorem Comp.weak {t : Int} {f : LA → Option Int} (h : Comp m c g s f) (ht : s ≤ t) : Comp m c g t f :=
  ⟨h.mono, h.nn, fun xs B r hB hx => (h.up xs B r hB hx).mono (by omega), fun xs T r hT hx => ⟨(h.low xs T r hT hx).1, (h.low xs T r hT hx).2.mono (by omega)⟩⟩
theorem comp_amount {a : Option Int} (hc : 0 ≤ c) (hg : 0 ≤ g) (hn : nnA a) (ha : finLe c a) : Comp m c g 0 fun _ => a := by
  refine ⟨fun _ _ _ _ _ => leA_refl a, fun _ _ => hn, fun xs B _ hB _ => ha.mono (by omega), fun xs T _ hT _ => ?_⟩
  cases a with
  | none => exact ⟨rfl, fun n e => by cases e⟩
  | some k =>
    have hk := ha k rfl
    refine ⟨(lowA_lo (by omega)).symm, fun n e => ?_⟩
    cases e
    omega
theorem gA_map {xs : LA} {i : Nat} (h : i < xs.length) (f : Option Int → Option Int) : gA (xs.map f) i = f (gA xs i) := by
  unfold gA
  rw [List.getElem?_map, List.getElem?_eq_getElem h]
  rfl
theorem comp_cell {i : Nat} (hi : i < m) : Comp m c g 0 fun xs => gA xs i := by
  refine ⟨fun xs ys h1 h2 hl => leL.g h1 h2 hl hi, fun xs h => h.g hi, fun xs B r hB hx => ?_, fun xs T r hT hx => ?_⟩
  · have := hx _ (gA_mem (by rw [r.len]; exact hi))
    exact this.mono (by omega)
  · have hi' : i < xs.length := by rw [r.len]; exact hi
    refine ⟨gA_map hi' _, ?_⟩
    have := hx _ (gA_mem hi')
    exact this.mono (by omega)
theorem comp_more {f : LA → Option Int} {k t : Int} (h : Comp m c g s f) (h1 : -t ≤ k) (h2 : k ≤ t) (hs : 0 ≤ s) (hst : s + t ≤ g) (hc : 0 ≤ c) : Comp m c g (s + t) fun xs => shA (f xs) k := by
  refine ⟨fun xs ys r1 r2 hl => shA_mono (h.mono xs ys r1 r2 hl), fun xs _ => shA_nn, fun xs B r hB hx => ?_, fun xs T r hT hx => ?_⟩
  · have hu := h.up xs B r hB hx
    intro n e
    cases hv : f xs with
    | none =>
      have e' : shA (f xs) k = some n := e
      rw [hv] at e'
      cases e'
    | some a =>
      have e' : shA (f xs) k = some n := e
      rw [hv] at e'
      have := hu a hv
      have := Option.some.inj e'
      omega
  · obtain ⟨l1, l2⟩ := h.low xs T r hT hx
    show shA (f (xs.map (lowA T))) k = lowA T (shA (f xs) k) ∧ Sep T (g - (s + t)) (shA (f xs) k)
    rw [l1]
    cases hv : f xs with
    | none => exact ⟨rfl, fun n e => by cases e⟩
    | some a =>
      have ha := l2 a hv
      have hn := h.nn xs r a hv
      refine ⟨?_, fun n e => ?_⟩
      · rcases ha with ha | ha
        · rw [lowA_lo (by omega : a ≤ T)]
          exact (lowA_lo (by omega)).symm
        · rw [lowA_hi (by omega : T < a)]
          refine Eq.trans ?_ (lowA_hi (by omega)).symm
          show some (max (a - 1 + k) 0) = some (max (a + k) 0 - 1)
          congr 1
          omega
      · have := Option.some.inj e
        omega
theorem comp_when {f : LA → Option Int} {i : Nat} {k : Int} (h : Comp m c g s f) (hi : i < m) (hk0 : 0 < k) (hk : k ≤ c) (hs : 0 ≤ s) (hg : s ≤ g) : Comp m c g s fun xs => if leA (some k) (gA xs i) = true then f xs else some 0 := by
  refine ⟨fun xs ys r1 r2 hl => ?_, fun xs r => ?_, fun xs B r hB hx => ?_, fun xs T r hT hx => ?_⟩
  · have q := leL.g r1 r2 hl hi
    by_cases c1 : leA (some k) (gA xs i) = true
    · have c2 := leA_trans c1 q
      simp only [if_pos c1, if_pos c2]
      exact h.mono xs ys r1 r2 hl
    · simp only [if_neg c1]
      split
      · exact le0 (h.nn ys r2)
      · exact leA_refl _
  · show nnA (if _ then _ else _)
    split
    · exact h.nn xs r
    · exact nn0
  · show finLe _ (if _ then _ else _)
    split
    · exact h.up xs B r hB hx
    · intro n e
      cases e
      omega
  · have hi' : i < xs.length := by rw [r.len]; exact hi
    have hsep := hx _ (gA_mem hi')
    have e1 : leA (some k) (gA (xs.map (lowA T)) i) = leA (some k) (gA xs i) := by
      rw [gA_map hi']
      cases hv : gA xs i with
      | none => rfl
      | some n =>
        rw [hv] at hsep
        have := hsep n rfl
        by_cases hT' : T < n
        · rw [lowA_hi hT']
          show decide (k ≤ n - 1) = decide (k ≤ n)
          rw [decide_eq_true (by omega : k ≤ n - 1), decide_eq_true (by omega : k ≤ n)]
        · rw [lowA_lo (by omega)]
    show (if leA (some k) (gA (xs.map (lowA T)) i) = true then f (xs.map (lowA T)) else some 0) = lowA T (if leA (some k) (gA xs i) = true then f xs else some 0) ∧ Sep T (g - s) (if leA (some k) (gA xs i) = true then f xs else some 0)
    rw [e1]
    split
    · exact h.low xs T r hT hx
    · refine ⟨(lowA_lo (by omega)).symm, fun n e => ?_⟩
      cases e
      omega
theorem comp_least {α : Type} {ds : List α} {V : α → LA → Option Int} (h0 : ds ≠ []) (h : ∀ d ∈ ds, Comp m c g s (V d)) : Comp m c g s fun xs => leastA (ds.map fun d => V d xs) := by
  have n1 : ∀ xs, (ds.map fun d => V d xs) ≠ [] := fun xs z => h0 (List.map_eq_nil_iff.mp z)
  refine ⟨fun xs ys r1 r2 hl => least_mono _ _ h0 fun d hd => (h d hd).mono xs ys r1 r2 hl, fun xs r => ?_, fun xs B r hB hx => ?_, fun xs T r hT hx => ?_⟩
  · obtain ⟨d, hd, e⟩ := List.mem_map.mp (least_end (n1 xs)).1
    show nnA (leastA _)
    rw [← e]
    exact (h d hd).nn xs r
  · obtain ⟨d, hd, e⟩ := List.mem_map.mp (least_end (n1 xs)).1
    show finLe _ (leastA _)
    rw [← e]
    exact (h d hd).up xs B r hB hx
  · refine ⟨?_, ?_⟩
    · rw [← least_low T (n1 xs), List.map_map]
      congr 1
      exact List.map_congr_left fun d hd => ((h d hd).low xs T r hT hx).1
    · obtain ⟨d, hd, e⟩ := List.mem_map.mp (least_end (n1 xs)).1
      show Sep _ _ (leastA _)
      rw [← e]
      exact ((h d hd).low xs T r hT hx).2
theorem comp_greatest {α : Type} {ds : List α} {V : α → LA → Option Int} (h0 : ds ≠ []) (h : ∀ d ∈ ds, Comp m c g s (V d)) : Comp m c g s fun xs => greatestA (ds.map fun d => V d xs) := by
  have n1 : ∀ xs, (ds.map fun d => V d xs) ≠ [] := fun xs z => h0 (List.map_eq_nil_iff.mp z)
  refine ⟨fun xs ys r1 r2 hl => greatest_mono _ _ h0 fun d hd => (h d hd).mono xs ys r1 r2 hl, fun xs r => ?_, fun xs B r hB hx => ?_, fun xs T r hT hx => ?_⟩
  · obtain ⟨d, hd, e⟩ := List.mem_map.mp (greatest_end (n1 xs)).1
    show nnA (greatestA _)
    rw [← e]
    exact (h d hd).nn xs r
  · obtain ⟨d, hd, e⟩ := List.mem_map.mp (greatest_end (n1 xs)).1
    show finLe _ (greatestA _)
    rw [← e]
    exact (h d hd).up xs B r hB hx
  · refine ⟨?_, ?_⟩
    · rw [← greatest_low T (n1 xs), List.map_map]
      congr 1
      exact List.map_congr_left fun d hd => ((h d hd).low xs T r hT hx).1
    · obtain ⟨d, hd, e⟩ := List.mem_map.mp (greatest_end (n1 xs)).1
      show Sep _ _ (greatestA _)
      rw [← e]
      exact ((h d hd).low xs T r hT hx).2
end
theorem leL_refl (xs : LA) : leL xs xs := fun i a b ha hb => by
  rw [ha] at hb
  cases hb
  exact leA_refl a
theorem leL_anti {m : Nat} {xs ys : LA} (h1 : xs.length = m) (h2 : ys.length = m) (p : leL xs ys) (q : leL ys xs) : xs = ys := by
  refine List.ext_getElem (by omega) fun i hi hj => ?_
  exact leA_anti (p i _ _ (List.getElem?_eq_getElem hi) (List.getElem?_eq_getElem hj)) (q i _ _ (List.getElem?_eq_getElem hj) (List.getElem?_eq_getElem hi))
theorem leL_trans {m : Nat} {xs ys zs : LA} (hx : xs.length = m) (h : ys.length = m) (p : leL xs ys) (q : leL ys zs) : leL xs zs := fun i a b ha hb => by
  have hi : i < xs.length := (List.getElem?_eq_some_iff.mp ha).1
  have hy := List.getElem?_eq_getElem (l := ys) (by omega : i < ys.length)
  exact leA_trans (p i _ _ ha hy) (q i _ _ hy hb)
def cutA (B : Int) : Option Int → Option Int
  | none => none
  | some n => if B < n then none else some n
theorem cutA_hi {B n : Int} (h : B < n) : cutA B (some n) = none := by
  show (if B < n then none else some n) = _
  rw [if_pos h]
theorem cutA_lo {B n : Int} (h : n ≤ B) : cutA B (some n) = some n := by
  show (if B < n then none else some n) = _
  rw [if_neg (by omega)]
theorem leA_none (a : Option Int) : leA a none = true := by cases a <;> rfl
theorem cutA_mono {B : Int} {a b : Option Int} (h : leA a b = true) : leA (cutA B a) (cutA B b) = true := by
  cases b with
  | none => exact leA_none _
  | some k =>
    cases a with
    | none => cases h
    | some n =>
      have hk : n ≤ k := of_decide_eq_true h
      by_cases h2 : B < k
      · rw [cutA_hi h2]
        exact leA_none _
      · rw [cutA_lo (by omega : k ≤ B), cutA_lo (by omega : n ≤ B)]
        exact h
theorem cutA_le {B : Int} (a : Option Int) : leA a (cutA B a) = true := by
  cases a with
  | none => rfl
  | some n =>
    by_cases h : B < n
    · rw [cutA_hi h]
      rfl
    · rw [cutA_lo (by omega)]
      exact leA_refl _
theorem cutA_nn {B : Int} {a : Option Int} (h : nnA a) : nnA (cutA B a) := fun n e => by
  cases a with
  | none => cases e
  | some k =>
    by_cases h1 : B < k
    · rw [cutA_hi h1] at e
      cases e
    · rw [cutA_lo (by omega)] at e
      exact h n e
theorem cutA_fin {B : Int} {a : Option Int} : finLe B (cutA B a) := fun n e => by
  cases a with
  | none => cases e
  | some k =>
    by_cases h1 : B < k
    · rw [cutA_hi h1] at e
      cases e
    · rw [cutA_lo (by omega)] at e
      have := Option.some.inj e
      omega
theorem count_lt {p q : Option Int → Bool} : ∀ xs : LA, (∀ a ∈ xs, p a = true → q a = true) → (xs.filter p).length ≤ (xs.filter q).length ∧ ((∃ a ∈ xs, q a = true ∧ p a = false) → (xs.filter p).length < (xs.filter q).length)
  | [], _ => ⟨Nat.le_refl _, fun ⟨a, h, _⟩ => by cases h⟩
  | a :: xs, h => by
    obtain ⟨i1, i2⟩ := count_lt xs fun b hb => h b (List.mem_cons_of_mem _ hb)
    have h0 := h a List.mem_cons_self
    rw [List.filter_cons, List.filter_cons]
    cases hp : p a with
    | true =>
      rw [h0 hp, if_pos rfl, if_pos rfl, List.length_cons, List.length_cons]
      refine ⟨Nat.succ_le_succ i1, fun ⟨b, hb, e1, e2⟩ => ?_⟩
      rcases List.mem_cons.mp hb with rfl | hb
      · rw [hp] at e2; cases e2
      · exact Nat.succ_lt_succ (i2 ⟨b, hb, e1, e2⟩)
    | false =>
      rw [if_neg (by decide)]
      cases hq : q a with
      | true =>
        rw [if_pos rfl, List.length_cons]
        exact ⟨by omega, fun _ => by omega⟩
      | false =>
        rw [if_neg (by decide)]
        refine ⟨i1, fun ⟨b, hb, e1, e2⟩ => i2 ?_⟩
        rcases List.mem_cons.mp hb with rfl | hb
        · rw [hq] at e1; cases e1
        · exact ⟨b, hb, e1, e2⟩
def lowP (T : Int) : Option Int → Bool
  | none => false
  | some k => decide (k ≤ T)
/-- if below every T at which the row stands apart nothing finite is above: all finite ones are low -/
theorem pigeon {m : Nat} {T0 K : Int} (xs : LA) (hl : xs.length = m) (hK : 0 ≤ K) (h : ∀ T, T0 ≤ T → (∀ a ∈ xs, Sep T K a) → ∀ a ∈ xs, finLe T a) : ∀ a ∈ xs, finLe (T0 + 2 * K * m) a := by
  intro a ha n e
  refine Decidable.byContradiction fun hn => ?_
  have main : ∀ j : Nat, j ≤ m → j + 1 ≤ (xs.filter (lowP (T0 + 2 * K * j + K))).length := by
    intro j
    induction j with
    | zero =>
      intro hj
      refine Decidable.byContradiction fun hc => ?_
      have hemp : ∀ b ∈ xs, ¬ lowP (T0 + 2 * K * (0 : Nat) + K) b = true := fun b hb hq => by
        have := List.length_pos_of_mem (List.mem_filter.mpr ⟨hb, hq⟩)
        omega
      have hsep : ∀ b ∈ xs, Sep T0 K b := fun b hb k hk => by
        subst hk
        have hq := hemp _ hb
        have : ¬ k ≤ T0 + 2 * K * (0 : Nat) + K := fun z => hq (decide_eq_true z)
        right
        simp at this
        omega
      have := h T0 (Int.le_refl _) hsep a ha n e
      have h2 : 0 ≤ 2 * K * (m : Int) := Int.mul_nonneg (by omega) (by omega)
      omega
    | succ j ih =>
      intro hj
      have hi := ih (by omega)
      have e1 : 2 * K * ((j + 1 : Nat) : Int) = 2 * K * (j : Int) + 2 * K := by
        rw [Int.natCast_succ, Int.mul_add, Int.mul_one]
      have e2 : 0 ≤ 2 * K * (j : Int) := Int.mul_nonneg (by omega) (by omega)
      have e3 : 2 * K * ((j + 1 : Nat) : Int) ≤ 2 * K * (m : Int) := Int.mul_le_mul_of_nonneg_left (by omega) (by omega)
      refine Nat.lt_of_le_of_lt hi ((count_lt xs fun b hb hp => ?_).2 ?_)
      · cases b with
        | none => cases hp
        | some k =>
          have := of_decide_eq_true hp
          exact decide_eq_true (by omega)
      · refine Classical.byContradiction fun hc => ?_
        have hsep : ∀ b ∈ xs, Sep (T0 + 2 * K * ((j + 1 : Nat) : Int)) K b := fun b hb k hk => by
          subst hk
          refine Classical.byContradiction fun hno => hc ⟨_, hb, decide_eq_true (by omega), decide_eq_false (by omega)⟩
        have := h _ (by omega) hsep a ha n e
        omega
  have := main m (Nat.le_refl _)
  have h2 := List.length_filter_le (lowP (T0 + 2 * K * m + K)) xs
  omega
section
variable {α : Type} {m : Nat} {c g : Int} {ds : List α} {V : α → LA → Option Int}
/-- a sheet: a value for each cell -/
structure Sheet (m : Nat) (c g : Int) (ds : List α) (V : α → LA → Option Int) : Prop where
  len : ds.length = m
  comp : ∀ d ∈ ds, Comp m c g g (V d)
  hc : 0 ≤ c
  hg : 0 ≤ g
def vals (ds : List α) (V : α → LA → Option Int) (xs : LA) : LA := ds.map fun d => V d xs
theorem Sheet.row (S : Sheet m c g ds V) {xs : LA} (r : Row m xs) : Row m (vals ds V xs) := ⟨by unfold vals; rw [List.length_map, S.len], fun a ha => by
  obtain ⟨d, hd, rfl⟩ := List.mem_map.mp ha
  exact (S.comp d hd).nn xs r⟩
theorem Sheet.mono (S : Sheet m c g ds V) {xs ys : LA} (r1 : Row m xs) (r2 : Row m ys) (hl : leL xs ys) : leL (vals ds V xs) (vals ds V ys) := fun i a b ha hb => by
  unfold vals at ha hb
  rw [List.getElem?_map] at ha hb
  cases hd : ds[i]? with
  | none => rw [hd] at ha; cases ha
  | some d =>
    rw [hd] at ha hb
    cases ha
    cases hb
    exact (S.comp d (List.mem_of_getElem? hd)).mono xs ys r1 r2 hl
def valsB (B : Int) (ds : List α) (V : α → LA → Option Int) (xs : LA) : LA := (vals ds V xs).map (cutA B)
theorem Row.map {xs : LA} (r : Row m xs) {f : Option Int → Option Int} (h : ∀ a, nnA a → nnA (f a)) : Row m (xs.map f) := ⟨by rw [List.length_map, r.len], fun a ha => by
  obtain ⟨b, hb, rfl⟩ := List.mem_map.mp ha
  exact h b (r.nn b hb)⟩
theorem leL_map {xs ys : LA} {f : Option Int → Option Int} (h : ∀ a b, leA a b = true → leA (f a) (f b) = true) (hl : leL xs ys) : leL (xs.map f) (ys.map f) := fun i a b ha hb => by
  rw [List.getElem?_map] at ha hb
  cases hx : xs[i]? with
  | none => rw [hx] at ha; cases ha
  | some x =>
    cases hy : ys[i]? with
    | none => rw [hy] at hb; cases hb
    | some y =>
      rw [hx] at ha
      rw [hy] at hb
      cases ha
      cases hb
      exact h x y (hl i x y hx hy)
theorem Sheet.rowB (S : Sheet m c g ds V) {B : Int} {xs : LA} (r : Row m xs) : Row m (valsB B ds V xs) := (S.row r).map fun _ h => cutA_nn h
theorem Sheet.monoB (S : Sheet m c g ds V) {B : Int} {xs ys : LA} (r1 : Row m xs) (r2 : Row m ys) (hl : leL xs ys) : leL (valsB B ds V xs) (valsB B ds V ys) := leL_map (fun _ _ h => cutA_mono h) (S.mono r1 r2 hl)
def rkA (N : Nat) : Option Int → Nat
  | none => N
  | some n => n.toNat
theorem low_pre (S : Sheet m c g ds V) {T : Int} (hT : c + g ≤ T) {y : LA} (ry : Row m y) (hsep : ∀ a ∈ y, Sep T g a) (hy : leL (vals ds V y) y) : leL (vals ds V (y.map (lowA T))) (y.map (lowA T)) := by
  have e1 : vals ds V (y.map (lowA T)) = (vals ds V y).map (lowA T) := by
    unfold vals
    rw [List.map_map]
    exact List.map_congr_left fun d hd => ((S.comp d hd).low y T ry hT hsep).1
  rw [e1]
  exact leL_map (fun _ _ h => lowA_mono h) hy
/-- what is at least its values comes down to what is low -/
theorem pre_low (S : Sheet m c g ds V) : ∀ (n : Nat) (y : LA), (y.map (rkA 0)).sum ≤ n → Row m y → leL (vals ds V y) y → ∃ z, Row m z ∧ leL (vals ds V z) z ∧ leL z y ∧ ∀ a ∈ z, finLe (c + g + 2 * g * m) a := by
  have hc := S.hc
  have hg := S.hg
  intro n
  induction n with
  | zero =>
    intro y hn ry hy
    refine ⟨y, ry, hy, leL_refl y, fun a ha k hk => ?_⟩
    have hgm : 0 ≤ 2 * g * (m : Int) := Int.mul_nonneg (by omega) (by omega)
    have h1 : ∀ zs : LA, (zs.map (rkA 0)).sum ≤ 0 → ∀ b ∈ zs, rkA 0 b = 0 := fun zs => by
      induction zs with
      | nil => intro _ b hb; cases hb
      | cons q r ih =>
        intro h b hb
        rw [List.map_cons, List.sum_cons] at h
        rcases List.mem_cons.mp hb with rfl | hb
        · omega
        · exact ih (by omega) b hb
    have h2 := h1 y hn a ha
    subst hk
    have : k.toNat = 0 := h2
    omega
  | succ n ih =>
    intro y hn ry hy
    by_cases hall : ∀ a ∈ y, finLe (c + g + 2 * g * m) a
    · exact ⟨y, ry, hy, leL_refl y, hall⟩
    · have hex : ∃ T, c + g ≤ T ∧ (∀ a ∈ y, Sep T g a) ∧ ∃ a ∈ y, ∃ k, a = some k ∧ T < k := by
        refine Classical.byContradiction fun hno => hall (pigeon y ry.len hg fun T hT hs a ha k hk => ?_)
        refine Classical.byContradiction fun hkT => hno ⟨T, hT, hs, a, ha, k, hk, by omega⟩
      obtain ⟨T, hT, hs, a, ha, k, hk, hTk⟩ := hex
      have hT0 : 0 ≤ T := by omega
      have rz : Row m (y.map (lowA T)) := ry.map fun _ h => lowA_nn hT0 h
      have hdec := (sum_dec (rkA 0) y (y.map (lowA T)) (by rw [List.length_map]) fun i p q hp hq => by
        rw [List.getElem?_map, hp] at hq
        cases hq
        cases p with
        | none => exact ⟨Nat.le_refl _, fun z => absurd rfl z⟩
        | some w =>
          by_cases hw : T < w
          · rw [lowA_hi hw]
            show (w - 1).toNat ≤ w.toNat ∧ (_ → (w - 1).toNat < w.toNat)
            exact ⟨by omega, fun _ => by omega⟩
          · rw [lowA_lo (by omega)]
            exact ⟨Nat.le_refl _, fun z => absurd rfl z⟩).2 fun z => by
        obtain ⟨i, hi, e⟩ := List.mem_iff_getElem.mp ha
        have e2 : y[i]? = some (some k) := by rw [List.getElem?_eq_getElem hi, e, hk]
        have e3 : (y.map (lowA T))[i]? = some (some (k - 1)) := by rw [List.getElem?_map, e2]; exact congrArg some (lowA_hi hTk)
        rw [← z, e2] at e3
        have := Option.some.inj (Option.some.inj e3)
        omega
      obtain ⟨z, q1, q2, q3, q4⟩ := ih (y.map (lowA T)) (by omega) rz (low_pre S hT ry hs hy)
      refine ⟨z, q1, q2, leL_trans q1.len rz.len q3 fun i p q hp hq => ?_, q4⟩
      rw [List.getElem?_map, hq] at hp
      cases hp
      exact lowA_le T q
/-- rounds from below, what passes a bound is endless: they settle at the least solution -/
theorem least_settles (S : Sheet m c g ds V) {B : Int} (hB : c + g + 2 * g * m + g ≤ B) {n : Nat} (hn : m * (B.toNat + 1) ≤ n) :
    Row m (settle (valsB B ds V) n (List.replicate m (some 0))) ∧ vals ds V (settle (valsB B ds V) n (List.replicate m (some 0))) = settle (valsB B ds V) n (List.replicate m (some 0)) ∧
    (∀ a ∈ settle (valsB B ds V) n (List.replicate m (some 0)), finLe (c + g + 2 * g * m) a) ∧ ∀ y, Row m y → leL (vals ds V y) y → leL (settle (valsB B ds V) n (List.replicate m (some 0))) y := by
  have hc := S.hc
  have hg := S.hg
  have hgm : 0 ≤ 2 * g * (m : Int) := Int.mul_nonneg (by omega) (by omega)
  have hB0 : 0 ≤ B := by omega
  let I : LA → Prop := fun x => Row m x ∧ leL x (valsB B ds V x) ∧ (∀ a ∈ x, finLe B a) ∧ ∀ y, Row m y → leL (valsB B ds V y) y → leL x y
  let μ : LA → Nat := fun x => (x.map fun a => (B.toNat + 1) - rkA (B.toNat + 1) a).sum
  have key := settle_ok (S := valsB B ds V) I μ (fun x hx => by
      obtain ⟨r, h1, h2, h3⟩ := hx
      refine ⟨S.rowB r, S.monoB r (S.rowB r) h1, fun a ha => ?_, fun y ry hy => ?_⟩
      · obtain ⟨b, _, rfl⟩ := List.mem_map.mp ha
        exact cutA_fin
      · exact leL_trans (S.rowB r).len (S.rowB ry).len (S.monoB r ry (h3 y ry hy)) hy) (fun x hx hne => by
      obtain ⟨r, h1, h2, h3⟩ := hx
      refine (sum_dec _ x (valsB B ds V x) (by rw [r.len, (S.rowB r).len]) fun i a b ha hb => ?_).2 fun z => hne z.symm
      have hle := h1 i a b ha hb
      have fa := h2 a (List.mem_of_getElem? ha)
      have na := r.nn a (List.mem_of_getElem? ha)
      have fb : finLe B b := by
        obtain ⟨q, _, rfl⟩ := List.mem_map.mp (List.mem_of_getElem? hb)
        exact cutA_fin
      cases a with
      | none =>
        cases b with
        | none => exact ⟨Nat.le_refl _, fun z => absurd rfl z⟩
        | some k => cases hle
      | some i =>
        have h4 := fa i rfl
        have h5 := na i rfl
        cases b with
        | none =>
          show B.toNat + 1 - (B.toNat + 1) ≤ B.toNat + 1 - i.toNat ∧ (_ → B.toNat + 1 - (B.toNat + 1) < B.toNat + 1 - i.toNat)
          exact ⟨by omega, fun _ => by omega⟩
        | some k =>
          have h6 : i ≤ k := of_decide_eq_true hle
          have h7 := fb k rfl
          show B.toNat + 1 - k.toNat ≤ B.toNat + 1 - i.toNat ∧ (_ → B.toNat + 1 - k.toNat < B.toNat + 1 - i.toNat)
          refine ⟨by omega, fun z => ?_⟩
          have : i ≠ k := fun w => z (by rw [w])
          omega) n (List.replicate m (some 0)) ⟨row_rep nn0 m, fun i a b ha hb => by
        have h1 := List.mem_of_getElem? ha
        rw [List.eq_of_mem_replicate h1]
        exact le0 ((S.rowB (row_rep nn0 m)).nn _ (List.mem_of_getElem? hb)), fun a ha => by
        rw [List.eq_of_mem_replicate ha]
        intro k e
        cases e
        exact hB0, fun y ry _ i a b ha hb => by
        have h1 := List.mem_of_getElem? ha
        rw [List.eq_of_mem_replicate h1]
        exact le0 (ry.nn _ (List.mem_of_getElem? hb))⟩ (by
      have := sum_top (fun a => (B.toNat + 1) - rkA (B.toNat + 1) a) (B.toNat + 1) (List.replicate m (some 0)) fun a _ => Nat.sub_le _ _
      rw [List.length_replicate] at this
      exact Nat.le_trans this hn)
  obtain ⟨⟨r, h1, h2, h3⟩, hfix⟩ := key
  generalize settle (valsB B ds V) n (List.replicate m (some 0)) = x at r h1 h2 h3 hfix
  -- what is finite is low
  have hlow : ∀ a ∈ x, finLe (c + g + 2 * g * m) a := by
    refine pigeon x r.len hg fun T hT hsep a ha k hk => ?_
    have hT0 : 0 ≤ T := by omega
    have rl : Row m (x.map (lowA T)) := r.map fun _ h => lowA_nn hT0 h
    have e1 : vals ds V (x.map (lowA T)) = (vals ds V x).map (lowA T) := by
      unfold vals
      rw [List.map_map]
      exact List.map_congr_left fun d hd => ((S.comp d hd).low x T r hT hsep).1
    have hpre : leL (valsB B ds V (x.map (lowA T))) (x.map (lowA T)) := by
      intro i a b ha hb
      unfold valsB at ha
      rw [e1, List.map_map, List.getElem?_map] at ha
      rw [← hfix] at hb
      unfold valsB at hb
      rw [List.map_map, List.getElem?_map] at hb
      cases hv : (vals ds V x)[i]? with
      | none => rw [hv] at ha; cases ha
      | some w =>
        rw [hv] at ha hb
        cases ha
        cases hb
        show leA (cutA B (lowA T w)) (lowA T (cutA B w)) = true
        cases w with
        | none => rfl
        | some q =>
          by_cases hq : B < q
          · rw [cutA_hi hq]
            exact leA_none _
          · rw [cutA_lo (by omega : q ≤ B)]
            by_cases hqT : T < q
            · rw [lowA_hi hqT, cutA_lo (by omega)]
              exact leA_refl _
            · rw [lowA_lo (by omega), cutA_lo (by omega)]
              exact leA_refl _
    have hle := h3 _ rl hpre
    refine Decidable.byContradiction fun hno => ?_
    obtain ⟨i, hi, e⟩ := List.mem_iff_getElem.mp ha
    have q := hle i a (lowA T a) (by rw [List.getElem?_eq_getElem hi, e]) (by rw [List.getElem?_map, List.getElem?_eq_getElem hi, e]; rfl)
    rw [hk, lowA_hi (by omega)] at q
    have := of_decide_eq_true q
    omega
  -- nothing has passed the bound
  have hsol : vals ds V x = x := by
    refine Eq.trans ?_ hfix
    unfold valsB
    refine (List.map_id _).symm.trans (List.map_congr_left fun a ha => ?_)
    obtain ⟨d, hd, rfl⟩ := List.mem_map.mp ha
    have hu := (S.comp d hd).up x (c + g + 2 * g * m) r (by omega) hlow
    show V d x = cutA B (V d x)
    cases hv : V d x with
    | none => rfl
    | some k =>
      have := hu k hv
      rw [cutA_lo (by omega)]
  refine ⟨r, hsol, hlow, fun y ry hy => ?_⟩
  obtain ⟨z, q1, q2, q3, q4⟩ := pre_low S _ y (Nat.le_refl _) ry hy
  refine leL_trans r.len q1.len (h3 z q1 fun i a b ha hb => ?_) q3
  unfold valsB at ha
  rw [List.getElem?_map] at ha
  cases hv : (vals ds V z)[i]? with
  | none => rw [hv] at ha; cases ha
  | some w =>
    rw [hv] at ha
    cases ha
    have h5 := q2 i w b hv hb
    have h6 := q4 b (List.mem_of_getElem? hb)
    show leA (cutA B w) b = true
    cases b with
    | none => exact leA_none _
    | some k =>
      cases w with
      | none => cases h5
      | some q =>
        have h7 : q ≤ k := of_decide_eq_true h5
        have h8 := h6 k rfl
        rw [cutA_lo (by omega)]
        exact h5
/-- rounds from endless down settle at the greatest solution -/
theorem greatest_settles (S : Sheet m c g ds V) {n : Nat} (hn : m * (c + g * m + 1).toNat ≤ n) :
    Row m (settle (vals ds V) n (List.replicate m none)) ∧ vals ds V (settle (vals ds V) n (List.replicate m none)) = settle (vals ds V) n (List.replicate m none) ∧
    (∀ a ∈ settle (vals ds V) n (List.replicate m none), finLe (c + g * m) a) ∧ ∀ y, Row m y → leL y (vals ds V y) → leL y (settle (vals ds V) n (List.replicate m none)) := by
  have hc := S.hc
  have hg := S.hg
  let cnt : LA → Nat := fun x => (x.filter fun a => a.isSome).length
  have hcnt : ∀ x, Row m x → cnt x ≤ m := fun x r => by
    have := List.length_filter_le (fun a : Option Int => a.isSome) x
    rw [r.len] at this
    exact this
  have hmul : ∀ i j : Nat, i ≤ j → g * (i : Int) ≤ g * (j : Int) := fun i j h => Int.mul_le_mul_of_nonneg_left (by omega) hg
  have hmul0 : ∀ i : Nat, 0 ≤ g * (i : Int) := fun i => Int.mul_nonneg hg (by omega)
  let I : LA → Prop := fun x => Row m x ∧ leL (vals ds V x) x ∧ (∀ a ∈ x, finLe (c + g * (cnt x : Int)) a) ∧ ∀ y, Row m y → leL y (vals ds V y) → leL y x
  let μ : LA → Nat := fun x => (x.map (rkA (c + g * m + 1).toNat)).sum
  have hI : ∀ x, I x → I (vals ds V x) := fun x hx => by
      obtain ⟨r, h1, h2, h3⟩ := hx
      have rv := S.row r
      refine ⟨rv, S.mono rv r h1, fun a ha k hk => ?_, fun y ry hy => ?_⟩
      · obtain ⟨i, hi, e⟩ := List.mem_iff_getElem.mp ha
        have hle := h1 i a (gA x i) (by rw [List.getElem?_eq_getElem hi, e]) (gA_get (by rw [r.len, ← rv.len]; exact hi))
        have hsome : ∀ (xs ys : LA), xs.length = ys.length → leL ys xs → (xs.filter fun a => a.isSome).length ≤ (ys.filter fun a => a.isSome).length ∧ ((∃ i : Nat, (∃ k, ys[i]? = some (some k)) ∧ xs[i]? = some none) → (xs.filter fun a => a.isSome).length < (ys.filter fun a => a.isSome).length) := by
          intro xs
          induction xs with
          | nil =>
            intro ys hl _
            cases ys with
            | nil => exact ⟨Nat.le_refl _, fun ⟨i, ⟨k, h⟩, _⟩ => by simp at h⟩
            | cons _ _ => cases hl
          | cons p xs ih =>
            intro ys hl hle
            cases ys with
            | nil => cases hl
            | cons q ys =>
              obtain ⟨i1, i2⟩ := ih ys (Nat.succ.inj hl) fun i c d hc hd => hle (i + 1) c d hc hd
              have h0 := hle 0 q p rfl rfl
              rw [List.filter_cons, List.filter_cons]
              cases p with
              | none =>
                cases q with
                | none =>
                  refine ⟨i1, fun ⟨i, ⟨k, h⟩, h'⟩ => i2 ?_⟩
                  cases i with
                  | zero => cases h
                  | succ i => exact ⟨i, ⟨k, h⟩, h'⟩
                | some _ =>
                  show (xs.filter _).length ≤ (_ :: ys.filter _).length ∧ (_ → (xs.filter _).length < (_ :: ys.filter _).length)
                  rw [List.length_cons]
                  exact ⟨by omega, fun _ => by omega⟩
              | some _ =>
                cases q with
                | none => cases h0
                | some _ =>
                  show (_ :: xs.filter _).length ≤ (_ :: ys.filter _).length ∧ (_ → (_ :: xs.filter _).length < (_ :: ys.filter _).length)
                  rw [List.length_cons, List.length_cons]
                  refine ⟨Nat.succ_le_succ i1, fun ⟨i, ⟨k, h⟩, h'⟩ => Nat.succ_lt_succ (i2 ?_)⟩
                  cases i with
                  | zero => cases h'
                  | succ i => exact ⟨i, ⟨k, h⟩, h'⟩
        obtain ⟨s1, s2⟩ := hsome x (vals ds V x) (by rw [r.len, rv.len]) h1
        have s3 := hmul (cnt x) (cnt (vals ds V x)) s1
        cases hx : gA x i with
        | some w =>
          have hw := h2 (some w) (by rw [← hx]; exact gA_mem (by rw [r.len, ← rv.len]; exact hi)) w rfl
          rw [hx, hk] at hle
          have : k ≤ w := of_decide_eq_true hle
          omega
        | none =>
          have s4 : cnt x + 1 ≤ cnt (vals ds V x) := s2 ⟨i, ⟨k, by rw [List.getElem?_eq_getElem hi, e, hk]⟩, by rw [← hx]; exact gA_get (by rw [r.len, ← rv.len]; exact hi)⟩
          have s5 := hmul _ _ s4
          have s6 : g * ((cnt x + 1 : Nat) : Int) = g * (cnt x : Int) + g := by rw [Int.natCast_succ, Int.mul_add, Int.mul_one]
          obtain ⟨d, hd, hv⟩ := List.mem_map.mp ha
          have hu := (S.comp d hd).up x (c + g * (cnt x : Int)) r (by have := hmul0 (cnt x); omega) h2 k (by rw [hv, hk])
          omega
      · have q := S.mono ry r (h3 y ry hy)
        exact leL_trans ry.len (S.row ry).len hy q
  have key := settle_ok (S := vals ds V) I μ hI (fun x hx hne => by
      have hfb := (hI x hx).2.2.1
      obtain ⟨r, h1, h2, h3⟩ := hx
      have rv := S.row r
      refine (sum_dec _ x (vals ds V x) (by rw [r.len, rv.len]) fun i a b ha hb => ?_).2 fun z => hne z.symm
      have hle := h1 i b a hb ha
      have fa := h2 a (List.mem_of_getElem? ha)
      have nb := rv.nn b (List.mem_of_getElem? hb)
      have hm := hmul _ _ (hcnt x r)
      cases a with
      | none =>
        cases b with
        | none => exact ⟨Nat.le_refl _, fun z => absurd rfl z⟩
        | some k =>
          have h5 := hfb _ (List.mem_of_getElem? hb) k rfl
          have hm := hmul _ _ (hcnt _ rv)
          have h7 := nb k rfl
          show k.toNat ≤ (c + g * m + 1).toNat ∧ (_ → k.toNat < (c + g * m + 1).toNat)
          exact ⟨by omega, fun _ => by omega⟩
      | some w =>
        cases b with
        | none => cases hle
        | some k =>
          have h6 : k ≤ w := of_decide_eq_true hle
          have h7 := nb k rfl
          show k.toNat ≤ w.toNat ∧ (_ → k.toNat < w.toNat)
          refine ⟨by omega, fun z => ?_⟩
          have : w ≠ k := fun q => z (by rw [q])
          omega) n (List.replicate m none) ⟨row_rep nnN m, fun i a b ha hb => by
        have h1 := List.mem_of_getElem? hb
        rw [List.eq_of_mem_replicate h1]
        exact leA_none _, (fun a ha => by
        rw [List.eq_of_mem_replicate ha]
        intro k e
        cases e), fun y ry _ i a b ha hb => by
        have h1 := List.mem_of_getElem? hb
        rw [List.eq_of_mem_replicate h1]
        exact leA_none _⟩ (by
      have := sum_top (rkA (c + g * m + 1).toNat) (c + g * m + 1).toNat (List.replicate m none) fun a ha => by
        rw [List.eq_of_mem_replicate ha]
        exact Nat.le_refl _
      rw [List.length_replicate] at this
      exact Nat.le_trans this hn)
  obtain ⟨⟨r, h1, h2, h3⟩, hfix⟩ := key
  refine ⟨r, hfix, fun a ha => (h2 a ha).mono ?_, h3⟩
  have := hmul _ _ (hcnt _ r)
  omega
end
/-! flat formulas as functions of the amounts -/
theorem ff_comp {m : Nat} {A S c g : Int} {f : FF} (h : f.Ok m A S) (hS : 0 ≤ S) (hA : A ≤ c) (hg : S ≤ g) (hc : 0 ≤ c) : Comp m c g g fun xs => f.val xs := by
  cases f with
  | amt a => exact (comp_amount hc (by omega) (fun n e => (h n e).1) (fun n e => by have := (h n e).2; omega)).weak (by omega)
  | wh j a k =>
    obtain ⟨h1, h2, h3, h4⟩ := h
    exact (comp_when (comp_cell h2) h1 h3 (by omega) (by omega) (by omega)).weak (by omega)
  | ex l arcs =>
    obtain ⟨h0, _, h2⟩ := h
    have hp : ∀ p ∈ arcs, Comp m c g S fun xs => shA (gA xs p.1) p.2 := fun p hp => by
      have q := comp_more (m := m) (c := c) (g := g) (s := 0) (t := S) (k := p.2) (comp_cell (h2 p hp).1) (h2 p hp).2.1 (h2 p hp).2.2 (by omega) (by omega) hc
      rw [Int.zero_add] at q
      exact q
    cases l with
    | true =>
      have e : (fun xs => (FF.ex true arcs).val xs) = fun xs => leastA (arcs.map fun p => shA (gA xs p.1) p.2) := by
        funext xs
        exact (least_one (fun z => h0 (List.map_eq_nil_iff.mp z))).symm
      rw [e]
      exact (comp_least h0 hp).weak hg
    | false =>
      have e : (fun xs => (FF.ex false arcs).val xs) = fun xs => greatestA (arcs.map fun p => shA (gA xs p.1) p.2) := by
        funext xs
        exact (greatest_one (fun z => h0 (List.map_eq_nil_iff.mp z))).symm
      rw [e]
      exact (comp_greatest h0 hp).weak hg
abbrev vF (f : FF) (xs : LA) : Option Int := f.val xs
theorem ff_sheet {A S c g : Int} {fs : List FF} (h : ∀ f ∈ fs, f.Ok fs.length A S) (hS : 0 ≤ S) (hA : A ≤ c) (hg : S ≤ g) (hc : 0 ≤ c) : Sheet fs.length c g fs vF := ⟨rfl, fun f hf => ff_comp (h f hf) hS hA hg hc, hc, by omega⟩
abbrev gsol (fs : List FF) : LA := settle (vals fs vF) 20000 (List.replicate fs.length none)
/-! rounds from above -/
theorem settled_loop {b : DS → Option Out} {gm : D → DS → Option DS} (S : LA → LA) (I : LA → Prop) (St : LA → DS → Prop) (hI : ∀ x, I x → I (S x))
    (h : ∀ x δ d, I x → St x δ → ∃ δ1, gm d δ = some δ1 ∧ ∃ δ2, (S x = x ∧ b δ1 = some (.bk δ2) ∧ St x δ2 ∨ S x ≠ x ∧ b δ1 = some (.nx δ2) ∧ St (S x) δ2)) :
    ∀ (n : Nat) (lo : Int) (x : LA) (δ : DS), I x → St x δ → ∃ δ', mForL gm b (rngD lo n) δ = some (.nx δ') ∧ St (settle S n x) δ'
  | 0, lo, x, δ, _, hs => ⟨δ, rfl, hs⟩
  | n + 1, lo, x, δ, hi, hs => by
    obtain ⟨δ1, e1, δ2, h2⟩ := h x δ (.int lo) hi hs
    rw [rngD_succ, mForL_cons, e1]
    show ∃ δ', fr2 _ (b δ1) = _ ∧ _
    unfold settle
    rcases h2 with ⟨a, e2, s2⟩ | ⟨a, e2, s2⟩
    · rw [if_pos a, e2, fr2_bk]
      exact ⟨δ2, rfl, s2⟩
    · rw [if_neg a, e2, fr2_nx]
      exact settled_loop S I St hI h n (lo + 1) (S x) δ2 (hI x hi) s2
theorem rng20000 : gRng1 (some [.int 20000]) = some (rngD 0 20000) := gRng1_some (by decide) (by decide)
theorem const_aL {α : Type} (fs : List α) (a : Option Int) : fs.map (fun _ => eA a) = aL (List.replicate fs.length a) := by
  show _ = List.map eA _
  rw [List.map_replicate]
  exact List.map_const' ..
@[simp] theorem dEq_aL {xs ys : List (Option Int)} : dEq (.list (aL xs)) (.list (aL ys)) = some (.bool (decide (xs = ys))) := by
  unfold dEq
  rw [eqB_aL]
  rfl
theorem lfvals_ok {m : Nat} {A S : Int} {fs : List FF} (hl : fs.length ≤ 1000) (h : ∀ f ∈ fs, f.Ok m A S) {xs : List (Option Int)} (hx : xs.length = m) : f__law_flat_values [.list (fs.map eFF), .list (aL xs)] = some (.own (aL (vals fs vF xs))) := by
  unfold f__law_flat_values
  refine fnD_rt rfl ?_
  show m__law_flat_values (startD 3 [.list (fs.map eFF), .list (aL xs)]) = _
  rw [startD_2]
  dsimp only [List.replicate]
  refine retO_end ?_
  show _ = some ((fs.map (FF.val xs)).map eA)
  rw [List.map_map]
  refine lc_eq (F := eFF) (items_of rfl) (by omega) fun f hf => ?_
  simp -implicitDefEqProofs [mLcF, c__law_flat_values_1, law_flat_value_ok (h f hf) hx]
theorem lgreat_ok {A S : Int} {fs : List FF} (hl : fs.length ≤ 1000) (h : ∀ f ∈ fs, f.Ok fs.length A S) : f__law_flat_greatest [.list (fs.map eFF)] = some (.val (.list (aL (gsol fs)))) := by
  unfold f__law_flat_greatest
  refine fnD_rt rfl ?_
  show m__law_flat_greatest (startD 5 [.list (fs.map eFF)]) = _
  rw [startD_1]
  dsimp only [List.replicate]
  unfold m__law_flat_greatest
  refine asg_go (d := .list (aL (List.replicate fs.length none))) (lst_of ?_) ?_
  · rw [← const_aL]
    exact lc_eq (F := eFF) (items_of rfl) (by omega) fun f _ => rfl
  dsimp only [List.set]
  obtain ⟨δ', e, hs, a2, a3, rfl⟩ := settled_loop (gm := gmName 2) (b := b__law_flat_greatest_1) (vals fs vF) (fun x => x.length = fs.length) (fun x δ => x.length = fs.length ∧ ∃ a2 a3, δ = [v (.list (fs.map eFF)), v (.list (aL x)), a2, a3, none]) (fun x _ => List.length_map ..) (fun x δ d r hs => by
      obtain ⟨hx, a2, a3, rfl⟩ := hs
      refine ⟨_, rfl, ?_⟩
      have e1 := lfvals_ok hl h hx
      have hr : (vals fs vF x).length = fs.length := List.length_map ..
      generalize vals fs vF x = q at e1 hr
      have s1 : ∀ (b : DS → Option Out) o, b [v (.list (fs.map eFF)), v (.list (aL x)), v d, v (.list (aL q)), none] = o → nSeq (nAsg 3 (mCallF (mCons (mVar 0) (mCons (mVar 1) mNil)) f__law_flat_values)) b [v (.list (fs.map eFF)), v (.list (aL x)), v d, a3, none] = o := fun b o hb =>
        asg_go (d := .list (aL q)) (by simp -implicitDefEqProofs only [mCallF_e, mCons_e, mNil_e, mVar_s, mVar_0, Option.bind_some, e1, Option.map_some, data_own]) hb
      by_cases hq : q = x
      · refine ⟨[v (.list (fs.map eFF)), v (.list (aL x)), v d, v (.list (aL q)), none], .inl ⟨hq, s1 _ _ ?_, hx, _, _, rfl⟩⟩
        simp -implicitDefEqProofs only [nSeq_e, nIf_e, mB_e, m2_e, mVar_0, mVar_s, Option.bind_some, dEq_aL, hq, decide_true, toB_some, if_true, nBrk_e, nx2_bk]
      · refine ⟨[v (.list (fs.map eFF)), v (.list (aL q)), v d, v (.list (aL q)), none], .inr ⟨hq, s1 _ _ ?_, hr, _, _, rfl⟩⟩
        simp -implicitDefEqProofs only [nSeq_e, nIf_e, mB_e, m2_e, mVar_0, mVar_s, Option.bind_some, Option.map_some, dEq_aL, hq, decide_false, toB_some, Bool.false_eq_true, if_false, nNext_e, nx2_nx, nAsg_e, List.set_cons_succ, List.set_cons_zero]) 20000 0 (List.replicate fs.length none) [v (.list (fs.map eFF)), v (.list (aL (List.replicate fs.length none))), none, none, none] List.length_replicate ⟨List.length_replicate, _, _, rfl⟩
  refine for_go (ds := rngD 0 20000) (by simp -implicitDefEqProofs only [mRng1_e, mCons_e, mNil_e, mC_e, Option.bind_some, rng20000]) e ?_
  exact ret_end rfl
end Law
namespace Law
open PySem PySem.Spec PyProof.Rows L2 Dl
theorem startD_5 {n : Nat} {a b c d e : D} : startD (n + 5) [a, b, c, d, e] = v a :: v b :: v c :: v d :: v e :: List.replicate n none := rfl
/-! tight and held: one cell -/
@[simp] theorem dEq_eA {a b : Option Int} : dEq (eA a) (eA b) = some (.bool (decide (a = b))) := by
  unfold dEq
  rw [eA_eqB]
  rfl
def lt2 : Option Int → Option Int → Bool
  | some a, some b => decide (a < b)
  | _, _ => false
def tgt (xs : LA) (b : Int) (p : Nat × Int) : Bool := match gA xs p.1 with
  | some a => decide (a + p.2 = b)
  | none => false
def neg (xs : LA) (p : Nat × Int) : Bool := match gA xs p.1 with
  | some a => decide (a + p.2 < 0)
  | none => false
def canB (f : FF) (xs : LA) (b : Int) (rk : LA) (r : Option Int) : Bool := match f with
  | .ex true arcs => arcs.any fun p => tgt xs b p && lt2 (gA rk p.1) r || (!tgt xs b p && (neg xs p && decide (b = 0)))
  | .ex false arcs => arcs.all fun p => !tgt xs b p || lt2 (gA rk p.1) r
  | _ => true
theorem ff_at {fs : List FF} {k : Nat} {f : FF} (hf : fs[k]? = some f) : atI (fs.map eFF) (k : Int) = some (eFF f) := atI_nat (by rw [List.getElem?_map, hf]; rfl)
theorem take_any {α : Type} {xs : List α} {i : Nat} {a : α} (h : xs[i]? = some a) (q : α → Bool) : (xs.take (i + 1)).any q = ((xs.take i).any q || q a) := by
  rw [List.take_add_one, h]
  simp
theorem take_all {α : Type} {xs : List α} {i : Nat} {a : α} (h : xs[i]? = some a) (q : α → Bool) : (xs.take (i + 1)).all q = ((xs.take i).all q && q a) := by
  rw [List.take_add_one, h]
  simp
theorem canbe_ok {m : Nat} {A S : Int} {fs : List FF} {f : FF} {k : Nat} (hf : fs[k]? = some f) (ho : f.Ok m A S) (hp : f.Pl) {xs rk : LA} (hx : xs.length = m) (hr : rk.length = m) {b : Int} (hk : k < m) (hb : gA xs k = some b) (r : Int) :
    f__law_can_be [.list (fs.map eFF), .list (aL xs), .int (k : Int), .list (aL rk), .int r] = some (.val (.bool (canB f xs b rk (some r)))) := by
  have hfa := ff_at hf
  unfold f__law_can_be
  refine fnD_rt rfl ?_
  show m__law_can_be (startD 12 [.list (fs.map eFF), .list (aL xs), .int (k : Int), .list (aL rk), .int r]) = _
  rw [startD_5]
  dsimp only [List.replicate]
  unfold m__law_can_be
  cases f with
  | wh j a q => exact hp.elim
  | amt a =>
    refine asgG_go (d := eFF (.amt a)) (by simp -implicitDefEqProofs [hfa]) rfl ?_
    simp -implicitDefEqProofs [canB]
  | ex l arcs =>
    obtain ⟨h0, h6, h2⟩ := ho
    refine asgG_go (d := eFF (.ex l arcs)) (by simp -implicitDefEqProofs [hfa]) rfl ?_
    dsimp only [List.set]
    refine chk_go (by simp -implicitDefEqProofs [wd_amount]) ?_
    refine asgO_go (ds := []) rfl ?_
    refine asgO_go (ds := []) rfl ?_
    refine asgO_go (ds := []) rfl ?_
    dsimp only [List.set]
    have xk : atI (aL xs) (k : Int) = some (.int b) := by rw [gA_at (by omega), hb]; rfl
    obtain ⟨δ', e, lo, fl, hi, a10, a11, rfl, n1, n2, n3⟩ : ∃ δ', mForL (gmPair 10 11) b__law_can_be_1 (arcs.map eArc) [v (.list (fs.map eFF)), v (.list (aL xs)), v (.int (k : Int)), v (.list (aL rk)), v (.int r), v (.str (wd l)), v (.list (arcs.map eArc)), some (.own []), some (.own []), some (.own []), none, none] = some (.nx δ') ∧ (∃ (lo fl hi : List D) (a10 a11 : Option DV), δ' = [v (.list (fs.map eFF)), v (.list (aL xs)), v (.int (k : Int)), v (.list (aL rk)), v (.int r), v (.str (wd l)), v (.list (arcs.map eArc)), some (.own lo), some (.own fl), some (.own hi), a10, a11] ∧ lo.length + fl.length + hi.length ≤ 0 + (arcs.map eArc).length ∧
        decide (0 < lo.length + fl.length) = ((arcs.take (0 + (arcs.map eArc).length)).any fun p => tgt xs b p && lt2 (gA rk p.1) (some r) || (!tgt xs b p && (neg xs p && decide (b = 0)))) ∧ decide (hi.length = 0) = ((arcs.take (0 + (arcs.map eArc).length)).all fun p => !tgt xs b p || lt2 (gA rk p.1) (some r))) := by
      refine mForL_inv (fun i δ => ∃ (lo fl hi : List D) (a10 a11 : Option DV), δ = [v (.list (fs.map eFF)), v (.list (aL xs)), v (.int (k : Int)), v (.list (aL rk)), v (.int r), v (.str (wd l)), v (.list (arcs.map eArc)), some (.own lo), some (.own fl), some (.own hi), a10, a11] ∧ lo.length + fl.length + hi.length ≤ i ∧
        decide (0 < lo.length + fl.length) = ((arcs.take i).any fun p => tgt xs b p && lt2 (gA rk p.1) (some r) || (!tgt xs b p && (neg xs p && decide (b = 0)))) ∧ decide (hi.length = 0) = ((arcs.take i).all fun p => !tgt xs b p || lt2 (gA rk p.1) (some r))) _ 0 _ ⟨[], [], [], none, none, rfl, Nat.le_refl _, rfl, rfl⟩ fun i d δ hd hq => ?_
      obtain ⟨lo, fl, hi, a10, a11, rfl, n1, n2, n3⟩ := hq
      obtain ⟨p, hp, rfl⟩ : ∃ p, arcs[i]? = some p ∧ d = eArc p := by
        rw [List.getElem?_map] at hd
        obtain ⟨p, h1, h2⟩ := Option.map_eq_some_iff.mp hd
        exact ⟨p, h1, h2.symm⟩
      have hi6 : i < arcs.length := (List.getElem?_eq_some_iff.mp hp).1
      obtain ⟨p1, p2, p3⟩ := h2 p (List.mem_of_getElem? hp)
      have xj := gA_at (xs := xs) (i := p.1) (by omega)
      have rj := gA_at (xs := rk) (i := p.1) (by omega)
      have c1 : lo.length ≤ cap := by unfold cap; omega
      have c2 : fl.length ≤ cap := by unfold cap; omega
      have c3 : hi.length ≤ cap := by unfold cap; omega
      refine ⟨_, rfl, ?_⟩
      show ∃ δ2, (b__law_can_be_1 [v (.list (fs.map eFF)), v (.list (aL xs)), v (.int (k : Int)), v (.list (aL rk)), v (.int r), v (.str (wd l)), v (.list (arcs.map eArc)), some (.own lo), some (.own fl), some (.own hi), v (.int (p.1 : Int)), v (.int p.2)] = _ ∨ _) ∧ _
      simp only [Nat.zero_add] at n1 n2 n3 ⊢
      rw [take_any hp, take_all hp, ← n2, ← n3]
      have fin : ∀ (lo' fl' hi' : List D), b__law_can_be_1 [v (.list (fs.map eFF)), v (.list (aL xs)), v (.int (k : Int)), v (.list (aL rk)), v (.int r), v (.str (wd l)), v (.list (arcs.map eArc)), some (.own lo), some (.own fl), some (.own hi), v (.int (p.1 : Int)), v (.int p.2)] = some (.nx [v (.list (fs.map eFF)), v (.list (aL xs)), v (.int (k : Int)), v (.list (aL rk)), v (.int r), v (.str (wd l)), v (.list (arcs.map eArc)), some (.own lo'), some (.own fl'), some (.own hi'), v (.int (p.1 : Int)), v (.int p.2)]) →
          lo'.length + fl'.length + hi'.length ≤ i + 1 → decide (0 < lo'.length + fl'.length) = (decide (0 < lo.length + fl.length) || (tgt xs b p && lt2 (gA rk p.1) (some r) || (!tgt xs b p && (neg xs p && decide (b = 0))))) → decide (hi'.length = 0) = (decide (hi.length = 0) && (!tgt xs b p || lt2 (gA rk p.1) (some r))) →
          ∃ δ2, (b__law_can_be_1 [v (.list (fs.map eFF)), v (.list (aL xs)), v (.int (k : Int)), v (.list (aL rk)), v (.int r), v (.str (wd l)), v (.list (arcs.map eArc)), some (.own lo), some (.own fl), some (.own hi), v (.int (p.1 : Int)), v (.int p.2)] = some (.nx δ2) ∨ b__law_can_be_1 [v (.list (fs.map eFF)), v (.list (aL xs)), v (.int (k : Int)), v (.list (aL rk)), v (.int r), v (.str (wd l)), v (.list (arcs.map eArc)), some (.own lo), some (.own fl), some (.own hi), v (.int (p.1 : Int)), v (.int p.2)] = some (.ct δ2)) ∧ ∃ (lo' fl' hi' : List D) (a10 a11 : Option DV), δ2 = [v (.list (fs.map eFF)), v (.list (aL xs)), v (.int (k : Int)), v (.list (aL rk)), v (.int r), v (.str (wd l)), v (.list (arcs.map eArc)), some (.own lo'), some (.own fl'), some (.own hi'), a10, a11] ∧ lo'.length + fl'.length + hi'.length ≤ i + 1 ∧ decide (0 < lo'.length + fl'.length) = (decide (0 < lo.length + fl.length) || (tgt xs b p && lt2 (gA rk p.1) (some r) || (!tgt xs b p && (neg xs p && decide (b = 0))))) ∧ decide (hi'.length = 0) = (decide (hi.length = 0) && (!tgt xs b p || lt2 (gA rk p.1) (some r))) :=
        fun lo' fl' hi' e1 e2 e3 e4 => ⟨_, .inl e1, lo', fl', hi', _, _, rfl, e2, e3, e4⟩
      cases hxj : gA xs p.1 with
      | none =>
        have t1 : tgt xs b p = false := by unfold tgt; rw [hxj]
        have t2 : neg xs p = false := by unfold neg; rw [hxj]
        rw [hxj] at xj
        refine fin lo fl hi (by simp -implicitDefEqProofs [b__law_can_be_1, xj]) (by omega) (by rw [t1, t2]; simp) (by rw [t1]; simp)
      | some a =>
        rw [hxj] at xj
        by_cases c : a + p.2 = b
        · have t1 : tgt xs b p = true := by unfold tgt; rw [hxj]; exact decide_eq_true c
          obtain ⟨o, hrj⟩ : ∃ o, gA rk p.1 = o := ⟨_, rfl⟩
          cases o with
          | none =>
            have t3 : lt2 (gA rk p.1) (some r) = false := by rw [hrj]; rfl
            rw [hrj] at rj
            refine fin lo fl (hi ++ [.int (p.1 : Int)]) (by simp -implicitDefEqProofs [b__law_can_be_1, xj, xk, c, rj, gApp_o c3]) (by rw [List.length_append]; simp; omega) (by rw [t1, t3]; simp) (by rw [t1, t3]; simp)
          | some w =>
            rw [hrj] at rj
            by_cases c4 : w < r
            · have t3 : lt2 (gA rk p.1) (some r) = true := by rw [hrj]; exact decide_eq_true c4
              refine fin (lo ++ [.int (p.1 : Int)]) fl hi (by simp -implicitDefEqProofs [b__law_can_be_1, xj, xk, c, rj, c4, gApp_o c1]) (by rw [List.length_append]; simp; omega) (by rw [t1, t3]; simp; omega) (by rw [t1, t3]; simp)
            · have t3 : lt2 (gA rk p.1) (some r) = false := by rw [hrj]; exact decide_eq_false c4
              refine fin lo fl (hi ++ [.int (p.1 : Int)]) (by simp -implicitDefEqProofs [b__law_can_be_1, xj, xk, c, rj, c4, gApp_o c3]) (by rw [List.length_append]; simp; omega) (by rw [t1, t3]; simp) (by rw [t1, t3]; simp)
        · have t1 : tgt xs b p = false := by unfold tgt; rw [hxj]; exact decide_eq_false c
          by_cases c5 : a + p.2 < 0 ∧ b = 0
          · have t2 : neg xs p = true := by unfold neg; rw [hxj]; exact decide_eq_true c5.1
            have c0 : ¬ a + p.2 = 0 := by have := c5.1; omega
            obtain ⟨c5, rfl⟩ := c5
            refine fin lo (fl ++ [.int (p.1 : Int)]) hi (by simp -implicitDefEqProofs [b__law_can_be_1, xj, xk, c, c5, gApp_o c2]) (by rw [List.length_append]; simp; omega) (by rw [t1, t2]; simp; omega) (by rw [t1]; simp)
          · have t2 : (neg xs p && decide (b = 0)) = false := by
              unfold neg; rw [hxj]
              by_cases c6 : a + p.2 < 0
              · have : ¬ b = 0 := fun z => c5 ⟨c6, z⟩
                simp [this]
              · simp [c6]
            refine fin lo fl hi (by
              by_cases c6 : a + p.2 < 0
              · have : ¬ b = 0 := fun z => c5 ⟨c6, z⟩
                simp -implicitDefEqProofs [b__law_can_be_1, xj, xk, c, c6, this]
              · simp -implicitDefEqProofs [b__law_can_be_1, xj, xk, c, c6]) (by omega) (by rw [t1, t2]; simp) (by rw [t1]; simp)
    refine for_go (items_of rfl) e ?_
    refine frz_go rfl ?_
    refine frz_go rfl ?_
    refine frz_go rfl ?_
    dsimp only [List.set]
    rw [Nat.zero_add, List.length_map] at n1 n2 n3
    rw [List.take_length] at n2 n3
    cases l with
    | true =>
      refine ifT_go (by simp -implicitDefEqProofs [wd_least]) (ret_go (ret_end ?_) rfl)
      show _ = some (PyData.bool (arcs.any _))
      rw [← n2]
      simp -implicitDefEqProofs
      omega
    | false =>
      refine chk_go (by simp -implicitDefEqProofs [wd_least]) (ret_end ?_)
      show _ = some (PyData.bool (arcs.all _))
      rw [← n3]
      simp -implicitDefEqProofs
end Law
namespace Law
open PySem PySem.Spec PyProof.Rows L2 Dl
/-! what shows the greatest solution -/
@[simp] theorem dNe_str' {x y : Str} : dNe (.str x) (.str y) = some (.bool (!decide (x = y))) := rfl
def okH (xs hd : LA) (k : Nat) (p : Nat × Int) : Bool := (gA xs p.1).isSome && lt2 (gA hd p.1) (gA hd k)
def heldB (f : FF) (xs hd : LA) (k : Nat) : Bool := match f with
  | .ex true arcs => arcs.any (okH xs hd k)
  | .ex false arcs => arcs.all (okH xs hd k)
  | _ => true
def cellB (f : FF) (xs hd tg : LA) (k : Nat) : Bool := match gA xs k with
  | none => true
  | some b => (gA hd k).isSome && ((gA tg k).isSome && (heldB f xs hd k && canB f xs b tg (gA tg k)))
theorem cellB_none {f : FF} {xs hd tg : LA} {k : Nat} (h : gA xs k = none) : cellB f xs hd tg k = true := by unfold cellB; rw [h]
theorem cellB_some {f : FF} {xs hd tg : LA} {k : Nat} {b : Int} (h : gA xs k = some b) : cellB f xs hd tg k = ((gA hd k).isSome && ((gA tg k).isSome && (heldB f xs hd k && canB f xs b tg (gA tg k)))) := by unfold cellB; rw [h]
def atB (fs : List FF) (xs hd tg : LA) (k : Nat) : Bool := match fs[k]? with
  | some f => cellB f xs hd tg k
  | none => true
def showsB (fs : List FF) (xs hd tg : LA) : Bool := decide (vals fs vF xs = xs) && (List.range fs.length).all (atB fs xs hd tg)
/-- a loop that leaves where something does not hold -/
theorem mForL_chk {gm : D → DS → Option DS} {b : DS → Option Out} {α : Type} (F : α → D) (q : α → Bool) (St : DS → Prop) (r : DV) : ∀ (as : List α) (δ : DS), St δ →
    (∀ a ∈ as, ∀ δ, St δ → ∃ δ1, gm (F a) δ = some δ1 ∧ (q a = false → b δ1 = some (.rt r)) ∧ (q a = true → ∃ δ2, b δ1 = some (.nx δ2) ∧ St δ2)) →
    (as.all q = true → ∃ δ', mForL gm b (as.map F) δ = some (.nx δ') ∧ St δ') ∧ (as.all q = false → mForL gm b (as.map F) δ = some (.rt r))
  | [], δ, h, _ => ⟨fun _ => ⟨δ, rfl, h⟩, (fun e => by cases e)⟩
  | a :: as, δ, h, hs => by
    obtain ⟨δ1, h1, h2, h3⟩ := hs a List.mem_cons_self δ h
    rw [List.map_cons, mForL_cons, h1, List.all_cons]
    show (_ → ∃ δ', fr2 _ (b δ1) = _ ∧ _) ∧ (_ → fr2 _ (b δ1) = _)
    cases hq : q a with
    | false =>
      rw [h2 hq]
      exact ⟨(fun e => by cases e), fun _ => rfl⟩
    | true =>
      obtain ⟨δ2, e2, h4⟩ := h3 hq
      rw [e2, fr2_nx]
      exact mForL_chk F q St r as δ2 h4 fun a ha => hs a (List.mem_cons_of_mem _ ha)
theorem fm_len {α β : Type} (q : α → Bool) (g : α → β) : ∀ xs : List α, (xs.filterMap fun a => if q a = true then some (g a) else none).length = (xs.filter q).length
  | [] => rfl
  | a :: r => by
    rw [List.filterMap_cons, List.filter_cons]
    cases q a with
    | true => simp [fm_len q g r]
    | false => simp [fm_len q g r]
theorem filter_pos {α : Type} (q : α → Bool) (xs : List α) : decide ((xs.filter q).length = 0) = !xs.any q := by
  induction xs with
  | nil => rfl
  | cons a r ih =>
    rw [List.filter_cons, List.any_cons]
    cases q a with
    | true => simp
    | false => simpa using ih
theorem filter_all {α : Type} (q : α → Bool) (xs : List α) : decide ((xs.filter q).length < xs.length) = !xs.all q := by
  induction xs with
  | nil => rfl
  | cons a r ih =>
    have hle := List.length_filter_le q r
    rw [List.filter_cons, List.all_cons]
    cases q a with
    | true => simpa using ih
    | false => simp; omega
theorem lshows_cell {m : Nat} {A S : Int} {fs : List FF} {f : FF} {k : Nat} (hf : fs[k]? = some f) (ho : f.Ok m A S) (hp : f.Pl) {xs hd tg : LA} (hx : xs.length = m) (hh : hd.length = m) (ht : tg.length = m) (hk : k < m) (a5 : Option DV) :
    (cellB f xs hd tg k = false → b__law_shows_1 [v (.list (fs.map eFF)), v (.list (aL xs)), v (.list (aL hd)), v (.list (aL tg)), v (.int (k : Int)), a5, none, none] = some (.rt (.val (.bool false)))) ∧
    (cellB f xs hd tg k = true → ∃ δ2, b__law_shows_1 [v (.list (fs.map eFF)), v (.list (aL xs)), v (.list (aL hd)), v (.list (aL tg)), v (.int (k : Int)), a5, none, none] = some (.nx δ2) ∧ ∃ a4 a5, δ2 = [v (.list (fs.map eFF)), v (.list (aL xs)), v (.list (aL hd)), v (.list (aL tg)), a4, a5, none, none]) := by
  have hfa := ff_at hf
  have xk := gA_at (xs := xs) (i := k) (by omega)
  have hk' := gA_at (xs := hd) (i := k) (by omega)
  have tk := gA_at (xs := tg) (i := k) (by omega)
  obtain ⟨ox, hox⟩ : ∃ o, gA xs k = o := ⟨_, rfl⟩
  rw [hox] at xk
  cases ox with
  | none =>
    rw [cellB_none hox]
    refine ⟨(fun e => by cases e), fun _ => ⟨[v (.list (fs.map eFF)), v (.list (aL xs)), v (.list (aL hd)), v (.list (aL tg)), v (.int (k : Int)), a5, none, none], ?_, _, _, rfl⟩⟩
    simp -implicitDefEqProofs [b__law_shows_1, xk]
  | some b =>
    rw [cellB_some hox]
    obtain ⟨oh, hoh⟩ : ∃ o, gA hd k = o := ⟨_, rfl⟩
    rw [hoh] at hk'
    cases oh with
    | none =>
      rw [hoh]
      refine ⟨fun _ => ?_, (fun e => by cases e)⟩
      simp -implicitDefEqProofs [b__law_shows_1, xk, hk']
    | some h =>
      obtain ⟨ot, hot⟩ : ∃ o, gA tg k = o := ⟨_, rfl⟩
      rw [hot] at tk
      cases ot with
      | none =>
        rw [hoh, hot]
        refine ⟨fun _ => ?_, (fun e => by cases e)⟩
        simp -implicitDefEqProofs [b__law_shows_1, xk, hk', tk]
      | some t =>
        have hcan := canbe_ok hf ho hp hx ht hk hox t
        rw [hoh, hot]
        simp only [Option.isSome_some, Bool.true_and]
        cases f with
        | wh j a q => exact hp.elim
        | amt a =>
          have hcan' : f__law_can_be [.list (fs.map eFF), .list (aL xs), .int (k : Int), .list (aL tg), .int t] = some (.val (.bool true)) := hcan
          refine ⟨(fun e => by cases e), fun _ => ⟨[v (.list (fs.map eFF)), v (.list (aL xs)), v (.list (aL hd)), v (.list (aL tg)), v (.int (k : Int)), a5, none, none], ?_, _, _, rfl⟩⟩
          unfold b__law_shows_1
          refine ifT_end (by simp -implicitDefEqProofs [xk]) ?_
          refine chk_go (by simp -implicitDefEqProofs [hk', tk]) ?_
          refine ifF_go (by simp -implicitDefEqProofs [hfa, eFF]) (next_go ?_)
          simp -implicitDefEqProofs [tk, hcan']
        | ex l arcs =>
          obtain ⟨h0, h6, h2⟩ := ho
          have g1 : atI [PyData.str (wd l), .list (arcs.map eArc)] 1 = some (.list (arcs.map eArc)) := rfl
          have hcol : mLcI (mItems (m2 dIx (m2 dIx (mVar 0) (mVar 4)) (mC (.int 1)))) (gmPair 6 7) (mAndT (mB (m2 dIsNot (m2 dIx (mVar 1) (mVar 6)) (mC .none))) (mAndT (mB (m2 dIsNot (m2 dIx (mVar 2) (mVar 6)) (mC .none))) (mB (m2 dLt (m2 dIx (mVar 2) (mVar 6)) (m2 dIx (mVar 2) (mVar 4)))))) c__law_shows_1 [6, 7] [v (.list (fs.map eFF)), v (.list (aL xs)), v (.list (aL hd)), v (.list (aL tg)), v (.int (k : Int)), a5, none, none] = some ((arcs.filterMap fun p => if okH xs hd k p = true then some (p.1 : Int) else none).map PyData.int) := by
            refine lc_fm (F := eArc) _ (items_of (by simp -implicitDefEqProofs [hfa, eFF, g1])) (by omega) fun p hp => ?_
            have p1 := (h2 p hp).1
            have xj := gA_at (xs := xs) (i := p.1) (by omega)
            have rj := gA_at (xs := hd) (i := p.1) (by omega)
            obtain ⟨o1, ho1⟩ : ∃ o, gA xs p.1 = o := ⟨_, rfl⟩
            obtain ⟨o2, ho2⟩ : ∃ o, gA hd p.1 = o := ⟨_, rfl⟩
            have hok : okH xs hd k p = (o1.isSome && lt2 o2 (some h)) := by unfold okH; rw [ho1, ho2, hoh]
            rw [ho1] at xj
            rw [ho2] at rj
            rw [hok]
            cases o1 with
            | none => simp -implicitDefEqProofs [mLcF, c__law_shows_1, eArc, xj]
            | some a =>
              cases o2 with
              | none => simp -implicitDefEqProofs [mLcF, c__law_shows_1, eArc, xj, rj, lt2]
              | some w =>
                by_cases c : w < h
                · simp -implicitDefEqProofs [mLcF, c__law_shows_1, eArc, xj, rj, hk', lt2, c]
                · simp -implicitDefEqProofs [mLcF, c__law_shows_1, eArc, xj, rj, hk', lt2, c]
          have hlen : (((arcs.filterMap fun p => if okH xs hd k p = true then some (p.1 : Int) else none).map PyData.int).length) = (arcs.filter (okH xs hd k)).length := by rw [List.length_map, fm_len]
          generalize (arcs.filterMap fun p => if okH xs hd k p = true then some (p.1 : Int) else none).map PyData.int = less at hcol hlen
          have q1 := filter_pos (okH xs hd k) arcs
          have q2 := filter_all (okH xs hd k) arcs
          rw [← hlen] at q1 q2
          have hany : arcs.all (okH xs hd k) = true → arcs.any (okH xs hd k) = true := fun e => by
            cases arcs with
            | nil => exact absurd rfl h0
            | cons a r =>
              rw [List.all_cons, Bool.and_eq_true] at e
              rw [List.any_cons, e.1]
              rfl
          have htest : mOrT (mB (m2 dEq (mCall (mCons (mVar 5) mNil) dLen) (mC (.int 0)))) (mAndT (mB (m2 dEq (m2 dIx (m2 dIx (mVar 0) (mVar 4)) (mC (.int 0))) (mC (.str "greatest")))) (mB (m2 dLt (mCall (mCons (mVar 5) mNil) dLen) (mCall (mCons (m2 dIx (m2 dIx (mVar 0) (mVar 4)) (mC (.int 1))) mNil) dLen)))) [v (.list (fs.map eFF)), v (.list (aL xs)), v (.list (aL hd)), v (.list (aL tg)), v (.int (k : Int)), v (.list less), none, none] = some (!heldB (.ex l arcs) xs hd k) := by
            cases l with
            | true =>
              show _ = some (!arcs.any (okH xs hd k))
              have w1 : decide (wd true = "greatest") = false := wd_greatest true
              cases ha : arcs.any (okH xs hd k) with
              | true =>
                have z : ¬ less = [] := fun e => by rw [ha, e] at q1; simp at q1
                simp -implicitDefEqProofs [hfa, eFF, g1, z, w1]
              | false =>
                have z : less = [] := by rw [ha] at q1; simpa using q1
                simp -implicitDefEqProofs [hfa, eFF, g1, z, w1]
            | false =>
              show _ = some (!arcs.all (okH xs hd k))
              have w1 : decide (wd false = "greatest") = true := wd_greatest false
              cases hb : arcs.all (okH xs hd k) with
              | true =>
                have ha := hany hb
                have z : ¬ less = [] := fun e => by rw [ha, e] at q1; simp at q1
                have z2 : ¬ less.length < arcs.length := fun e => by rw [hb] at q2; simp [e] at q2
                simp -implicitDefEqProofs [hfa, eFF, g1, z, z2, w1]
              | false =>
                have z2 : less.length < arcs.length := by rw [hb] at q2; simpa using q2
                simp -implicitDefEqProofs [hfa, eFF, g1, z2, w1]
          have pre : ∀ o, (nSeq (nIf (mOrT (mB (m2 dEq (mCall (mCons (mVar 5) mNil) dLen) (mC (.int 0)))) (mAndT (mB (m2 dEq (m2 dIx (m2 dIx (mVar 0) (mVar 4)) (mC (.int 0))) (mC (.str "greatest")))) (mB (m2 dLt (mCall (mCons (mVar 5) mNil) dLen) (mCall (mCons (m2 dIx (m2 dIx (mVar 0) (mVar 4)) (mC (.int 1))) mNil) dLen))))) (nRet (mC (.bool false))) nNext) (nIf (mNotT (mB (mCallF (mCons (mVar 0) (mCons (mVar 1) (mCons (mVar 4) (mCons (mVar 3) (mCons (m2 dIx (mVar 3) (mVar 4)) mNil))))) f__law_can_be))) (nRet (mC (.bool false))) nNext)) [v (.list (fs.map eFF)), v (.list (aL xs)), v (.list (aL hd)), v (.list (aL tg)), v (.int (k : Int)), v (.list less), none, none] = o → b__law_shows_1 [v (.list (fs.map eFF)), v (.list (aL xs)), v (.list (aL hd)), v (.list (aL tg)), v (.int (k : Int)), a5, none, none] = o := fun o ho => by
            unfold b__law_shows_1
            refine ifT_end (by simp -implicitDefEqProofs [xk]) ?_
            refine chk_go (by simp -implicitDefEqProofs [hk', tk]) ?_
            refine ifT_go (by simp -implicitDefEqProofs [hfa, eFF, wd_amount]) (assoc_go (asg_go (lst_of hcol) ?_))
            exact ho
          cases hhb : heldB (.ex l arcs) xs hd k with
          | false =>
            rw [hhb] at htest
            refine ⟨fun _ => pre _ (ifT_go htest (ret_go (ret_end rfl) rfl)), (fun e => by cases e)⟩
          | true =>
            rw [hhb] at htest
            simp only [Bool.true_and]
            cases hcb : canB (.ex l arcs) xs b tg (some t) with
            | false =>
              rw [hcb] at hcan
              refine ⟨fun _ => pre _ (chk_go htest ?_), (fun e => by cases e)⟩
              simp -implicitDefEqProofs [tk, hcan]
            | true =>
              rw [hcb] at hcan
              refine ⟨fun e => (by cases e), fun _ => ⟨[v (.list (fs.map eFF)), v (.list (aL xs)), v (.list (aL hd)), v (.list (aL tg)), v (.int (k : Int)), v (.list less), none, none], pre _ (chk_go htest ?_), _, _, rfl⟩⟩
              simp -implicitDefEqProofs [tk, hcan]
theorem lshows_ok {A S : Int} {fs : List FF} (hl : fs.length ≤ 1000) (h : ∀ f ∈ fs, f.Ok fs.length A S) (hp : ∀ f ∈ fs, f.Pl) {xs hd tg : LA} (hx : xs.length = fs.length) (hh : hd.length = fs.length) (ht : tg.length = fs.length) :
    f__law_shows [.list (fs.map eFF), .list (aL xs), .list (aL hd), .list (aL tg)] = some (.val (.bool (showsB fs xs hd tg))) := by
  unfold f__law_shows
  refine fnD_rt rfl ?_
  show m__law_shows (startD 8 [.list (fs.map eFF), .list (aL xs), .list (aL hd), .list (aL tg)]) = _
  rw [startD_4]
  dsimp only [List.replicate]
  have e1 := lfvals_ok hl h hx
  unfold m__law_shows showsB
  by_cases hv : vals fs vF xs = xs
  · rw [hv] at e1
    refine chk_go (by simp -implicitDefEqProofs [e1]) ?_
    have q := mForL_chk (gm := gmName 4) (b := b__law_shows_1) (fun k : Nat => PyData.int (k : Int)) (atB fs xs hd tg) (fun δ => ∃ a4 a5, δ = [v (.list (fs.map eFF)), v (.list (aL xs)), v (.list (aL hd)), v (.list (aL tg)), a4, a5, none, none]) (.val (.bool false)) (List.range fs.length) [v (.list (fs.map eFF)), v (.list (aL xs)), v (.list (aL hd)), v (.list (aL tg)), none, none, none, none] ⟨_, _, rfl⟩ fun k hk δ hs => by
      obtain ⟨a4, a5, rfl⟩ := hs
      have hk' := List.mem_range.mp hk
      refine ⟨_, rfl, ?_⟩
      have hf := List.getElem?_eq_getElem hk'
      have q := lshows_cell hf (h _ (List.getElem_mem hk')) (hp _ (List.getElem_mem hk')) hx hh ht hk' a5
      unfold atB
      rw [hf]
      exact q
    have hr : mRng1 (mCons (mCall (mCons (mVar 0) mNil) dLen) mNil) [v (.list (fs.map eFF)), v (.list (aL xs)), v (.list (aL hd)), v (.list (aL tg)), none, none, none, none] = some ((List.range fs.length).map fun k : Nat => PyData.int (k : Int)) := rng_nat (n := fs.length) (by simp -implicitDefEqProofs) (by omega)
    cases hq : (List.range fs.length).all (atB fs xs hd tg) with
    | true =>
      obtain ⟨δ', e, _⟩ := q.1 hq
      refine for_go hr e ?_
      simp -implicitDefEqProofs [hv]
    | false =>
      refine ret_go (r := .val (.bool false)) ?_ (by simp)
      rw [nFor_e, hr]
      exact q.2 hq
  · have hv' : ¬ xs = vals fs vF xs := fun e => hv e.symm
    generalize vals fs vF xs = ys at e1 hv hv'
    refine ifT_go (by simp -implicitDefEqProofs [e1, hv']) (ret_go (ret_end rfl) ?_)
    simp [hv]
end Law
namespace Law
open PySem PySem.Spec PyProof.Rows L2 Dl
theorem sol_ok {m : Nat} {A S : Int} {fs : List FF} (hl : fs.length ≤ 1000) (h : ∀ f ∈ fs, f.Ok m A S) {xs : List (Option Int)} (hx : xs.length = m) : f_is_flat_solution [.list (fs.map eFF), .list (aL xs)] = some (.val (.bool (decide (fs.map (FF.val xs) = xs)))) := by
  unfold f_is_flat_solution
  refine fnD_rt rfl ?_
  show m_is_flat_solution (startD 2 [.list (fs.map eFF), .list (aL xs)]) = _
  rw [startD_2]
  refine ret_end ?_
  have e := flat_values_ok hl h hx
  generalize fs.map (FF.val xs) = ys at e
  rw [m2_e, mCallF_e, mCons_e]
  simp -implicitDefEqProofs only [mVar_0, mVar_s, mCons_e, mNil_e, Option.bind_some, e, Option.map_some, data_own]
  unfold dEq
  rw [eqB_aL]
  rfl
/-! the program: what shows the greatest solution -/
theorem held_ok {m : Nat} {A S : Int} {f : FF} {k : Nat} (ho : f.Ok m A S) (hp : f.Pl) {xs hd : LA} (hx : xs.length = m) (hh : hd.length = m) (hk : k < m) {h : Int} (hhk : gA hd k = some h) (hall : ∀ j, j < m → gA xs j ≠ none → gA hd j ≠ none) :
    f_is_held [eFF f, .list (aL xs), .int (k : Int), .list (aL hd)] = some (.val (.bool (heldB f xs hd k))) := by
  unfold f_is_held
  refine fnD_rt rfl ?_
  show m_is_held (startD 7 [eFF f, .list (aL xs), .int (k : Int), .list (aL hd)]) = _
  rw [startD_4]
  dsimp only [List.replicate]
  unfold m_is_held
  have hk' := gA_at (xs := hd) (i := k) (by omega)
  rw [hhk] at hk'
  cases f with
  | wh j a q => exact hp.elim
  | amt a => exact ifT_go (by simp -implicitDefEqProofs [eFF]) (ret_go (ret_end rfl) rfl)
  | ex l arcs =>
    obtain ⟨h0, h6, h2⟩ := ho
    have g1 : atI [PyData.str (wd l), .list (arcs.map eArc)] 1 = some (.list (arcs.map eArc)) := rfl
    refine chk_go (by simp -implicitDefEqProofs [eFF, wd_amount]) ?_
    have hcol : mLcI (mItems (m2 dIx (mVar 0) (mC (.int 1)))) (gmPair 5 6) mYes c_is_held_1 [5, 6] [v (eFF (.ex l arcs)), v (.list (aL xs)), v (.int (k : Int)), v (.list (aL hd)), none, none, none] = some ((arcs.map (okH xs hd k)).map PyData.bool) := by
      rw [List.map_map]
      refine lc_eq (F := eArc) (items_of (by simp -implicitDefEqProofs [eFF, g1])) (by omega) fun p hp => ?_
      have p1 := (h2 p hp).1
      have xj := gA_at (xs := xs) (i := p.1) (by omega)
      have rj := gA_at (xs := hd) (i := p.1) (by omega)
      obtain ⟨o1, ho1⟩ : ∃ o, gA xs p.1 = o := ⟨_, rfl⟩
      obtain ⟨o2, ho2⟩ : ∃ o, gA hd p.1 = o := ⟨_, rfl⟩
      have hok : okH xs hd k p = (o1.isSome && lt2 o2 (some h)) := by unfold okH; rw [ho1, ho2, hhk]
      have hn := hall p.1 p1
      rw [ho1, ho2] at hn
      rw [ho1] at xj
      rw [ho2] at rj
      show _ = some (some (PyData.bool (okH xs hd k p)))
      rw [hok]
      cases o1 with
      | none => simp -implicitDefEqProofs [mLcF, c_is_held_1, eArc, xj]
      | some a =>
        cases o2 with
        | none => exact absurd rfl (hn (fun z => by cases z))
        | some w => simp -implicitDefEqProofs [mLcF, c_is_held_1, eArc, xj, rj, hk', lt2]
    refine asg_go (lst_of hcol) ?_
    dsimp only [List.set]
    refine ret_end ?_
    cases l with
    | true =>
      show _ = some (PyData.bool (arcs.any _))
      have w1 : decide (wd true = "least") = true := wd_least true
      simp -implicitDefEqProofs only [mIf_e, mB_e, m2_e, mCall_e, mCons_e, mNil_e, mVar_0, mVar_s, mC_e, Option.bind_some, eFF, dIx_t, atI_zero, dEq_str, w1, toB_some, if_true, dAny_map, List.any_map]
      rfl
    | false =>
      show _ = some (PyData.bool (arcs.all _))
      have w1 : decide (wd false = "least") = false := wd_least false
      simp -implicitDefEqProofs only [mIf_e, mB_e, m2_e, mCall_e, mCons_e, mNil_e, mVar_0, mVar_s, mC_e, Option.bind_some, eFF, dIx_t, atI_zero, dEq_str, w1, toB_some, Bool.false_eq_true, if_false, dAll_map, List.all_map]
      rfl
theorem floor_ok {m : Nat} {A S : Int} {l : Bool} {arcs : List (Nat × Int)} {k : Nat} (ho : (FF.ex l arcs).Ok m A S) {xs : LA} (hx : xs.length = m) (hk : k < m) {b : Int} (hb : gA xs k = some b) :
    f_is_on_floor [eFF (.ex l arcs), .list (aL xs), .int (k : Int)] = some (.val (.bool (decide (b = 0) && arcs.any (neg xs)))) := by
  obtain ⟨h0, h6, h2⟩ := ho
  have g1 : atI [PyData.str (wd l), .list (arcs.map eArc)] 1 = some (.list (arcs.map eArc)) := rfl
  have xk := gA_at (xs := xs) (i := k) (by omega)
  rw [hb] at xk
  unfold f_is_on_floor
  refine fnD_rt rfl ?_
  show m_is_on_floor (startD 5 [eFF (.ex l arcs), .list (aL xs), .int (k : Int)]) = _
  rw [startD_3]
  dsimp only [List.replicate]
  unfold m_is_on_floor
  have hcol : mLcI (mItems (m2 dIx (mVar 0) (mC (.int 1)))) (gmPair 3 4) mYes c_is_on_floor_1 [3, 4] [v (eFF (.ex l arcs)), v (.list (aL xs)), v (.int (k : Int)), none, none] = some ((arcs.map (neg xs)).map PyData.bool) := by
    rw [List.map_map]
    refine lc_eq (F := eArc) (items_of (by simp -implicitDefEqProofs [eFF, g1])) (by omega) fun p hp => ?_
    have p1 := (h2 p hp).1
    have xj := gA_at (xs := xs) (i := p.1) (by omega)
    show _ = some (some (PyData.bool (neg xs p)))
    unfold neg
    cases hq : gA xs p.1 with
    | none =>
      rw [hq] at xj
      simp -implicitDefEqProofs [mLcF, c_is_on_floor_1, eArc, xj]
    | some a =>
      rw [hq] at xj
      simp -implicitDefEqProofs [mLcF, c_is_on_floor_1, eArc, xj]
  refine ret_end ?_
  by_cases hz : b = 0
  · subst hz
    rw [mAndV_e, mB_e, mCall_e, mCons_e, lst_of hcol]
    simp -implicitDefEqProofs only [m2_e, mVar_0, mVar_s, mC_e, mNil_e, Option.bind_some, dIx_l, xk, eA_s, dEq_int, decide_true, toB_some, if_true, dAny_map, List.any_map, Bool.true_and]
    rfl
  · simp -implicitDefEqProofs [xk, hz]
theorem free_ok {m : Nat} {A S : Int} {l : Bool} {arcs : List (Nat × Int)} {k : Nat} (ho : (FF.ex l arcs).Ok m A S) {xs : LA} (hx : xs.length = m) (hk : k < m) {b : Int} (hb : gA xs k = some b) :
    f_free_targets [eFF (.ex l arcs), .list (aL xs), .int (k : Int)] = some (.own ((arcs.filterMap fun p => if tgt xs b p = true then some p.1 else none).map fun j : Nat => PyData.int (j : Int))) := by
  obtain ⟨h0, h6, h2⟩ := ho
  have g1 : atI [PyData.str (wd l), .list (arcs.map eArc)] 1 = some (.list (arcs.map eArc)) := rfl
  have xk := gA_at (xs := xs) (i := k) (by omega)
  rw [hb] at xk
  unfold f_free_targets
  refine fnD_rt rfl ?_
  show m_free_targets (startD 5 [eFF (.ex l arcs), .list (aL xs), .int (k : Int)]) = _
  rw [startD_3]
  dsimp only [List.replicate]
  unfold m_free_targets
  refine retO_end (lc_fm (F := eArc) _ (items_of (by simp -implicitDefEqProofs [eFF, g1])) (by omega) fun p hp => ?_)
  have p1 := (h2 p hp).1
  have xj := gA_at (xs := xs) (i := p.1) (by omega)
  unfold tgt
  cases hq : gA xs p.1 with
  | none =>
    rw [hq] at xj
    simp -implicitDefEqProofs [mLcF, c_free_targets_1, eArc, xj]
  | some a =>
    rw [hq] at xj
    by_cases c : a + p.2 = b
    · simp -implicitDefEqProofs [mLcF, c_free_targets_1, eArc, xj, xk, c]
    · simp -implicitDefEqProofs [mLcF, c_free_targets_1, eArc, xj, xk, c]
theorem fm_any {α β : Type} (q : α → Bool) (g : α → β) (r : β → Bool) : ∀ xs : List α, (xs.filterMap fun a => if q a = true then some (g a) else none).any r = xs.any fun a => q a && r (g a)
  | [] => rfl
  | a :: xs => by
    rw [List.filterMap_cons, List.any_cons, ← fm_any q g r xs]
    cases q a <;> simp
theorem fm_all {α β : Type} (q : α → Bool) (g : α → β) (r : β → Bool) : ∀ xs : List α, (xs.filterMap fun a => if q a = true then some (g a) else none).all r = xs.all fun a => !q a || r (g a)
  | [] => rfl
  | a :: xs => by
    rw [List.filterMap_cons, List.all_cons, ← fm_all q g r xs]
    cases q a <;> simp
theorem tight_ok {m : Nat} {A S : Int} {f : FF} {k : Nat} (ho : f.Ok m A S) (hp : f.Pl) {xs tg : LA} (hx : xs.length = m) (ht : tg.length = m) (hk : k < m) {t b : Int} (htk : gA tg k = some t) (hb : gA xs k = some b) (hall : ∀ j, j < m → gA xs j ≠ none → gA tg j ≠ none) :
    f_is_tight [eFF f, .list (aL xs), .int (k : Int), .list (aL tg)] = some (.val (.bool (canB f xs b tg (some t)))) := by
  unfold f_is_tight
  refine fnD_rt rfl ?_
  show m_is_tight (startD 6 [eFF f, .list (aL xs), .int (k : Int), .list (aL tg)]) = _
  rw [startD_4]
  dsimp only [List.replicate]
  unfold m_is_tight
  have tk := gA_at (xs := tg) (i := k) (by omega)
  rw [htk] at tk
  cases f with
  | wh j a q => exact hp.elim
  | amt a => exact ifT_go (by simp -implicitDefEqProofs [eFF]) (ret_go (ret_end rfl) rfl)
  | ex l arcs =>
    have hfr := free_ok ho hx hk hb
    have hfl := floor_ok ho hx hk hb
    obtain ⟨h0, h6, h2⟩ := ho
    refine chk_go (by simp -implicitDefEqProofs [eFF, wd_amount]) ?_
    have hgs : ∀ j ∈ (arcs.filterMap fun p => if tgt xs b p = true then some p.1 else none), j < m ∧ gA xs j ≠ none := fun j hj => by
      obtain ⟨p, hp, e⟩ := List.mem_filterMap.mp hj
      cases ht : tgt xs b p with
      | false => rw [ht] at e; simp at e
      | true =>
        rw [ht] at e
        cases e
        refine ⟨(h2 p hp).1, fun z => ?_⟩
        unfold tgt at ht
        rw [z] at ht
        cases ht
    have hgl : (arcs.filterMap fun p => if tgt xs b p = true then some p.1 else none).length ≤ 6 := Nat.le_trans (List.length_filterMap_le _ _) h6
    have hany := fm_any (tgt xs b) (·.1) (fun j => lt2 (gA tg j) (some t)) arcs
    have halq := fm_all (tgt xs b) (·.1) (fun j => lt2 (gA tg j) (some t)) arcs
    generalize (arcs.filterMap fun p => if tgt xs b p = true then some p.1 else none) = gs at hfr hgs hgl hany halq
    have hcol : mLcI (mItems (mCallF (mCons (mVar 0) (mCons (mVar 1) (mCons (mVar 2) mNil))) f_free_targets)) (gmName 5) mYes c_is_tight_1 [5] [v (eFF (.ex l arcs)), v (.list (aL xs)), v (.int (k : Int)), v (.list (aL tg)), none, none] = some ((gs.map fun j => lt2 (gA tg j) (some t)).map PyData.bool) := by
      rw [List.map_map]
      refine lc_eq (F := fun j : Nat => PyData.int (j : Int)) (items_of (by simp -implicitDefEqProofs only [mCallF_e, mCons_e, mNil_e, mVar_0, mVar_s, Option.bind_some, hfr, Option.map_some, data_own])) (by omega) fun j hj => ?_
      obtain ⟨j1, j2⟩ := hgs j hj
      have rj := gA_at (xs := tg) (i := j) (by omega)
      show _ = some (some (PyData.bool (lt2 (gA tg j) (some t))))
      have hn := hall j j1 j2
      cases hq : gA tg j with
      | none => exact absurd hq hn
      | some w =>
        rw [hq] at rj
        simp -implicitDefEqProofs [mLcF, c_is_tight_1, rj, tk, lt2]
    refine asg_go (lst_of hcol) ?_
    dsimp only [List.set]
    cases l with
    | false =>
      have w1 : decide (wd false = "greatest") = true := wd_greatest false
      refine ifT_go (by simp -implicitDefEqProofs [eFF, w1]) (ret_go (ret_end ?_) rfl)
      show _ = some (PyData.bool (arcs.all _))
      rw [← halq]
      simp -implicitDefEqProofs only [mCall_e, mCons_e, mNil_e, mVar_0, mVar_s, Option.bind_some, dAll_map, List.all_map]
      rfl
    | true =>
      have w1 : decide (wd true = "greatest") = false := wd_greatest true
      refine chk_go (by simp -implicitDefEqProofs [eFF, w1]) (ret_end ?_)
      show _ = some (PyData.bool (arcs.any _))
      have key : (arcs.any fun p => tgt xs b p && lt2 (gA tg p.1) (some t) || (!tgt xs b p && (neg xs p && decide (b = 0)))) = ((decide (b = 0) && arcs.any (neg xs)) || gs.any fun j => lt2 (gA tg j) (some t)) := by
        rw [hany]
        clear hcol hfr hfl h0 h6 h2 hgs hgl hany halq hp
        induction arcs with
        | nil => cases decide (b = 0) <;> rfl
        | cons p r ih =>
          rw [List.any_cons, List.any_cons, List.any_cons, ih]
          have hx : b = 0 → neg xs p = true → tgt xs b p = false := fun hz hn => by
            unfold neg at hn
            unfold tgt
            cases hq : gA xs p.1 with
            | none => rfl
            | some a =>
              rw [hq] at hn
              have : a + p.2 < 0 := of_decide_eq_true hn
              exact decide_eq_false (by omega)
          by_cases hz : b = 0
          · cases hn : neg xs p with
            | true =>
              rw [hx hz hn]
              simp [hz]
            | false =>
              cases tgt xs b p <;> cases lt2 (gA tg p.1) (some t) <;> simp
          · simp [hz]
      rw [key]
      rw [mOrV_e, mB_e, mCallF_e]
      simp -implicitDefEqProofs only [mCall_e, mCons_e, mNil_e, mVar_0, mVar_s, Option.bind_some, hfl, Option.map_some, data_val, toB_some, dAny_map, List.any_map]
      cases (decide (b = 0) && arcs.any (neg xs)) <;> rfl
theorem enum_aL (xs : LA) : enumD 0 (aL xs) = (List.range xs.length).map fun i : Nat => PyData.tuple [.int (i : Int), eA (gA xs i)] := by
  apply List.ext_getElem?
  intro i
  rw [enumD_get, List.getElem?_map, List.getElem?_map]
  by_cases h : i < xs.length
  · rw [gA_get h, List.getElem?_range h, Nat.zero_add]
    rfl
  · rw [List.getElem?_eq_none (by omega), List.getElem?_eq_none (by rw [List.length_range]; omega)]
    rfl
theorem mEnum_of {ms : DS → Option (List D)} {δ : DS} {xs : List D} (h : ms δ = some [.list xs]) : mEnum ms δ = some (enumD 0 xs) := by
  unfold mEnum
  rw [h]
theorem dIn_none (xs : LA) : dIn .none (.list (aL xs)) = some (.bool (decide (none ∈ xs))) := by
  unfold dIn
  rw [inB_l rfl (aL_flat xs), inD_none]
  rfl
theorem shows_ok {A S : Int} {fs : List FF} (hl : fs.length ≤ 1000) (h : ∀ f ∈ fs, f.Ok fs.length A S) (hp : ∀ f ∈ fs, f.Pl) {xs hd tg : LA} (hx : xs.length = fs.length) (hh : hd.length = fs.length) (ht : tg.length = fs.length) :
    f_shows_greatest [.list (fs.map eFF), .list (aL xs), .list (aL hd), .list (aL tg)] = some (.val (.bool (showsB fs xs hd tg))) := by
  unfold f_shows_greatest
  refine fnD_rt rfl ?_
  show m_shows_greatest (startD 7 [.list (fs.map eFF), .list (aL xs), .list (aL hd), .list (aL tg)]) = _
  rw [startD_4]
  dsimp only [List.replicate]
  have e1 := sol_ok hl h hx
  unfold m_shows_greatest showsB
  refine chk_go (by simp -implicitDefEqProofs [hx, hh, ht]) ?_
  have hv0 : decide (fs.map (FF.val xs) = xs) = decide (vals fs vF xs = xs) := rfl
  rw [hv0] at e1
  by_cases hv : vals fs vF xs = xs
  · rw [decide_eq_true hv] at e1 ⊢
    refine chk_go (by simp -implicitDefEqProofs [e1]) ?_
    have hc1 : mLcI (mEnum (mCons (mVar 1) mNil)) (gmPair 5 6) (mB (m2 dIsNot (mVar 6) (mC .none))) c_shows_greatest_1 [5, 6] [v (.list (fs.map eFF)), v (.list (aL xs)), v (.list (aL hd)), v (.list (aL tg)), none, none, none] = some (((List.range fs.length).filterMap fun k => if (gA xs k).isSome = true then some k else none).map fun k : Nat => PyData.int (k : Int)) := by
      refine lc_fm (F := fun i : Nat => PyData.tuple [.int (i : Int), eA (gA xs i)]) _ ?_ (by rw [List.length_range]; omega) fun k hk => ?_
      · rw [mEnum_of (xs := aL xs) rfl, enum_aL, hx]
      · cases gA xs k with
        | none => simp -implicitDefEqProofs [mLcF, c_shows_greatest_1]
        | some a => simp -implicitDefEqProofs [mLcF, c_shows_greatest_1]
    refine asg_go (lst_of hc1) ?_
    dsimp only [List.set]
    have hcs : ∀ k, k ∈ ((List.range fs.length).filterMap fun k => if (gA xs k).isSome = true then some k else none) ↔ k < fs.length ∧ gA xs k ≠ none := fun k => by
      rw [List.mem_filterMap]
      constructor
      · rintro ⟨j, hj, e⟩
        cases hq : gA xs j with
        | none => rw [hq] at e; simp at e
        | some a =>
          rw [hq] at e
          cases e
          exact ⟨List.mem_range.mp hj, fun z => by rw [hq] at z; cases z⟩
      · rintro ⟨h1, h2⟩
        refine ⟨k, List.mem_range.mpr h1, ?_⟩
        cases hq : gA xs k with
        | none => exact absurd hq h2
        | some a => rfl
    have hall := fm_all (fun k => (gA xs k).isSome) id (atB fs xs hd tg) (List.range fs.length)
    have hcl : ((List.range fs.length).filterMap fun k => if (gA xs k).isSome = true then some k else none).length ≤ 1000 := Nat.le_trans (List.length_filterMap_le _ _) (by rw [List.length_range]; exact hl)
    have hall2 : ((List.range fs.length).filterMap fun k => if (gA xs k).isSome = true then some k else none).all (atB fs xs hd tg) = (List.range fs.length).all (atB fs xs hd tg) := by
      rw [show ((List.range fs.length).filterMap fun k => if (gA xs k).isSome = true then some k else none) = ((List.range fs.length).filterMap fun k => if (gA xs k).isSome = true then some (id k) else none) from rfl, hall]
      apply Bool.eq_iff_iff.mpr
      rw [List.all_eq_true, List.all_eq_true]
      constructor
      · intro q k hk
        have := q k hk
        have hk' := List.mem_range.mp hk
        cases hq : gA xs k with
        | none =>
          unfold atB
          rw [List.getElem?_eq_getElem hk']
          exact cellB_none hq
        | some a =>
          rw [hq] at this
          simpa using this
      · intro q k hk
        have := q k hk
        simp [this]
    generalize ((List.range fs.length).filterMap fun k => if (gA xs k).isSome = true then some k else none) = cs at hcs hcl hall2
    have hcH : mLcI (mItems (mVar 4)) (gmName 5) mYes c_shows_greatest_2 [5] [v (.list (fs.map eFF)), v (.list (aL xs)), v (.list (aL hd)), v (.list (aL tg)), v (.list (cs.map fun k : Nat => PyData.int (k : Int))), none, none] = some (aL (cs.map (gA hd))) := by
      show _ = some ((cs.map (gA hd)).map eA)
      rw [List.map_map]
      refine lc_eq (F := fun k : Nat => PyData.int (k : Int)) (items_of rfl) (by omega) fun k hk => ?_
      have rk := gA_at (xs := hd) (i := k) (by have := ((hcs k).mp hk).1; omega)
      simp -implicitDefEqProofs [mLcF, c_shows_greatest_2, rk]
    have hcT : mLcI (mItems (mVar 4)) (gmName 5) mYes c_shows_greatest_3 [5] [v (.list (fs.map eFF)), v (.list (aL xs)), v (.list (aL hd)), v (.list (aL tg)), v (.list (cs.map fun k : Nat => PyData.int (k : Int))), none, none] = some (aL (cs.map (gA tg))) := by
      show _ = some ((cs.map (gA tg)).map eA)
      rw [List.map_map]
      refine lc_eq (F := fun k : Nat => PyData.int (k : Int)) (items_of rfl) (by omega) fun k hk => ?_
      have rk := gA_at (xs := tg) (i := k) (by have := ((hcs k).mp hk).1; omega)
      simp -implicitDefEqProofs [mLcF, c_shows_greatest_3, rk]
    have bad : ∀ k ∈ cs, (gA hd k = none ∨ gA tg k = none) → (List.range fs.length).all (atB fs xs hd tg) = false := fun k hk hn => by
      obtain ⟨k1, k2⟩ := (hcs k).mp hk
      rw [← Bool.not_eq_true, List.all_eq_true]
      intro q
      have q := q k (List.mem_range.mpr k1)
      unfold atB at q
      rw [List.getElem?_eq_getElem k1] at q
      have q : cellB fs[k] xs hd tg k = true := q
      cases hq : gA xs k with
      | none => exact k2 hq
      | some a =>
        rw [cellB_some hq] at q
        rcases hn with e | e
        · rw [e] at q; simp at q
        · rw [e] at q; simp at q
    by_cases hN : none ∈ cs.map (gA hd) ∨ none ∈ cs.map (gA tg)
    · have hf : (List.range fs.length).all (atB fs xs hd tg) = false := by
        rcases hN with e | e
        · obtain ⟨k, hk, e⟩ := List.mem_map.mp e
          exact bad k hk (.inl e)
        · obtain ⟨k, hk, e⟩ := List.mem_map.mp e
          exact bad k hk (.inr e)
      rw [hf]
      refine ifT_go ?_ (ret_go (ret_end rfl) rfl)
      rw [mOrT_e, mB_e, mB_e, m2_e, m2_e, lst_of hcH, lst_of hcT]
      simp -implicitDefEqProofs only [mC_e, Option.bind_some, dIn_none, toB_some]
      by_cases e : none ∈ cs.map (gA hd)
      · rw [decide_eq_true e]; rfl
      · rw [decide_eq_false e, decide_eq_true (hN.resolve_left e)]; rfl
    · have n1 : ¬ none ∈ cs.map (gA hd) := fun e => hN (.inl e)
      have n2 : ¬ none ∈ cs.map (gA tg) := fun e => hN (.inr e)
      refine chk_go ?_ (ret_end ?_)
      · rw [mOrT_e, mB_e, mB_e, m2_e, m2_e, lst_of hcH, lst_of hcT]
        simp -implicitDefEqProofs only [mC_e, Option.bind_some, dIn_none, toB_some]
        rw [decide_eq_false n1, decide_eq_false n2]
        rfl
      · have hH : ∀ j, j < fs.length → gA xs j ≠ none → gA hd j ≠ none := fun j h1 h2 e => n1 (List.mem_map.mpr ⟨j, (hcs j).mpr ⟨h1, h2⟩, e⟩)
        have hT : ∀ j, j < fs.length → gA xs j ≠ none → gA tg j ≠ none := fun j h1 h2 e => n2 (List.mem_map.mpr ⟨j, (hcs j).mpr ⟨h1, h2⟩, e⟩)
        have hc4 : mLcI (mItems (mVar 4)) (gmName 5) mYes c_shows_greatest_4 [5] [v (.list (fs.map eFF)), v (.list (aL xs)), v (.list (aL hd)), v (.list (aL tg)), v (.list (cs.map fun k : Nat => PyData.int (k : Int))), none, none] = some ((cs.map (atB fs xs hd tg)).map PyData.bool) := by
          rw [List.map_map]
          refine lc_eq (F := fun k : Nat => PyData.int (k : Int)) (items_of rfl) (by omega) fun k hk => ?_
          obtain ⟨k1, k2⟩ := (hcs k).mp hk
          have hf := List.getElem?_eq_getElem k1
          have hfa := ff_at hf
          have hho := h _ (List.getElem_mem k1)
          have hpo := hp _ (List.getElem_mem k1)
          obtain ⟨b, hb⟩ : ∃ b, gA xs k = some b := by
            cases hq : gA xs k with
            | none => exact absurd hq k2
            | some b => exact ⟨b, rfl⟩
          obtain ⟨w, hw⟩ : ∃ w, gA hd k = some w := by
            cases hq : gA hd k with
            | none => exact absurd hq (hH k k1 k2)
            | some b => exact ⟨b, rfl⟩
          obtain ⟨t, htt⟩ : ∃ t, gA tg k = some t := by
            cases hq : gA tg k with
            | none => exact absurd hq (hT k k1 k2)
            | some b => exact ⟨b, rfl⟩
          have q1 := held_ok hho hpo hx hh k1 hw hH
          have q2 := tight_ok hho hpo hx ht k1 htt hb hT
          show _ = some (some (PyData.bool (atB fs xs hd tg k)))
          unfold atB
          rw [hf]
          show _ = some (some (PyData.bool (cellB fs[k] xs hd tg k)))
          rw [cellB_some hb, hw, htt]
          simp only [Option.isSome_some, Bool.true_and]
          generalize fs[k] = f at hfa q1 q2
          cases hhb : heldB f xs hd k with
          | false =>
            rw [hhb] at q1
            simp -implicitDefEqProofs [mLcF, c_shows_greatest_4, hfa, q1]
          | true =>
            rw [hhb] at q1
            simp -implicitDefEqProofs [mLcF, c_shows_greatest_4, hfa, q1, q2]
        rw [mCall_e, mCons_e, lst_of hc4]
        simp -implicitDefEqProofs only [mNil_e, Option.bind_some, dAll_map, List.all_map, Bool.true_and]
        rw [← hall2]
        rfl
  · rw [decide_eq_false hv] at e1 ⊢
    refine ifT_go (by simp -implicitDefEqProofs [e1]) (ret_go (ret_end rfl) rfl)
end Law
namespace Law
open PySem PySem.Spec PyProof.Rows L2 Dl
/-! what shows the greatest solution, does -/
theorem vals_at {fs : List FF} {x : LA} (hx : vals fs vF x = x) {k : Nat} (hk : k < fs.length) : gA x k = fs[k].val x := by
  have e : (vals fs vF x)[k]? = some (fs[k].val x) := by
    show (fs.map fun d => vF d x)[k]? = _
    rw [List.getElem?_map, List.getElem?_eq_getElem hk]
    rfl
  rw [hx] at e
  unfold gA
  rw [e]
  rfl
theorem leA_nn {a : Option Int} (h : leA none a = true) : a = none := by
  cases a with
  | none => rfl
  | some n => cases h
theorem lt2_some {a b : Option Int} (h : lt2 a b = true) : ∃ p q, a = some p ∧ b = some q ∧ p < q := by
  cases a with
  | none => cases h
  | some p =>
    cases b with
    | none => cases h
    | some q => exact ⟨p, q, rfl, rfl, of_decide_eq_true h⟩
section
variable {A S B : Int} {fs : List FF} {x g hd tg : LA}
theorem sound_held (h : ∀ f ∈ fs, f.Ok fs.length A S) (hp : ∀ f ∈ fs, f.Pl) (hx : vals fs vF x = x) (hg : vals fs vF g = g) (hl : hd.length = fs.length) (hb : ∀ a ∈ hd, bdA B a)
    (hall : ∀ k, k < fs.length → atB fs x hd tg k = true) : ∀ (N k : Nat) (r : Int), k < fs.length → gA x k ≠ none → gA hd k = some r → r.toNat < N → gA g k ≠ none
  | 0, _, _, _, _, _, hN => absurd hN (Nat.not_lt_zero _)
  | N + 1, k, r, hk, hn, hr, hN => by
    have q := hall k hk
    unfold atB at q
    rw [List.getElem?_eq_getElem hk] at q
    have q : cellB fs[k] x hd tg k = true := q
    obtain ⟨b, hxb⟩ : ∃ b, gA x k = some b := by
      cases e : gA x k with
      | none => exact absurd e hn
      | some b => exact ⟨b, rfl⟩
    rw [cellB_some hxb] at q
    simp only [Bool.and_eq_true] at q
    have hv := vals_at hg hk
    have hvx := vals_at hx hk
    have ho := h _ (List.getElem_mem hk)
    have hpl := hp _ (List.getElem_mem hk)
    have step : ∀ p : Nat × Int, p.1 < fs.length → okH x hd k p = true → gA g p.1 ≠ none := fun p p1 hok => by
      unfold okH at hok
      rw [Bool.and_eq_true, hr] at hok
      obtain ⟨u, w, e1, e2, hlt⟩ := lt2_some hok.2
      cases e2
      have hu : 0 ≤ u := (hb _ (gA_mem (by rw [hl]; exact p1)) u e1).1
      exact sound_held h hp hx hg hl hb hall N p.1 u p1 (fun z => by rw [z] at hok; cases hok.1) e1 (by omega)
    rw [hv]
    generalize fs[k] = f at q hv hvx ho hpl
    cases f with
    | wh j a q => exact hpl.elim
    | amt a =>
      have e : gA x k = a := hvx
      show a ≠ none
      rw [← e]
      exact hn
    | ex l arcs =>
      obtain ⟨h0, h6, h2⟩ := ho
      have n0 : (arcs.map fun p => shA (gA g p.1) p.2) ≠ [] := fun z => h0 (List.map_eq_nil_iff.mp z)
      show oneA l (arcs.map fun p => shA (gA g p.1) p.2) ≠ none
      cases l with
      | true =>
        have q3 : arcs.any (okH x hd k) = true := q.2.2.1
        obtain ⟨p, hpm, hok⟩ := List.any_eq_true.mp q3
        have s := step p (h2 p hpm).1 hok
        intro z
        have := (one_true n0).2 _ (List.mem_map.mpr ⟨p, hpm, rfl⟩)
        rw [z] at this
        have e := leA_nn this
        cases hgp : gA g p.1 with
        | none => exact s hgp
        | some w => rw [hgp] at e; cases e
      | false =>
        have q3 : arcs.all (okH x hd k) = true := q.2.2.1
        intro z
        have hm := (one_false n0).1
        rw [z] at hm
        obtain ⟨p, hpm, e⟩ := List.mem_map.mp hm
        have s := step p (h2 p hpm).1 (List.all_eq_true.mp q3 p hpm)
        cases hgp : gA g p.1 with
        | none => exact s hgp
        | some w => rw [hgp] at e; cases e
theorem sound_tight (h : ∀ f ∈ fs, f.Ok fs.length A S) (hp : ∀ f ∈ fs, f.Pl) (hx : vals fs vF x = x) (hg : vals fs vF g = g) (rx : Row fs.length x) (hl : tg.length = fs.length) (hb : ∀ a ∈ tg, bdA B a)
    (hall : ∀ k, k < fs.length → atB fs x hd tg k = true) (hle : ∀ k, k < fs.length → leA (gA x k) (gA g k) = true) {M : Int} (hM : 0 < M) (hmax : ∀ k, k < fs.length → ∀ b w, gA x k = some b → gA g k = some w → w ≤ b + M) (hfin : ∀ k, k < fs.length → gA x k ≠ none → gA g k ≠ none) :
    ∀ (N k : Nat) (r b : Int), k < fs.length → gA x k = some b → gA g k = some (b + M) → gA tg k = some r → r.toNat < N → False
  | 0, _, _, _, _, _, _, _, hN => absurd hN (Nat.not_lt_zero _)
  | N + 1, k, r, b, hk, hxb, hgb, hr, hN => by
    have q := hall k hk
    unfold atB at q
    rw [List.getElem?_eq_getElem hk] at q
    have q : cellB fs[k] x hd tg k = true := q
    rw [cellB_some hxb] at q
    simp only [Bool.and_eq_true] at q
    have hv := vals_at hg hk
    have hvx := vals_at hx hk
    have ho := h _ (List.getElem_mem hk)
    have hpl := hp _ (List.getElem_mem hk)
    have hb0 : 0 ≤ b := rx.g hk b hxb
    have qc := q.2.2.2
    rw [hr] at qc
    have step : ∀ p : Nat × Int, p.1 < fs.length → ∀ a, gA x p.1 = some a → gA g p.1 = some (a + M) → lt2 (gA tg p.1) (some r) = true → False := fun p p1 a e1 e2 e3 => by
      obtain ⟨u, w, e4, e5, hlt⟩ := lt2_some e3
      cases e5
      have hu : 0 ≤ u := (hb _ (gA_mem (by rw [hl]; exact p1)) u e4).1
      exact sound_tight h hp hx hg rx hl hb hall hle hM hmax hfin N p.1 u a p1 e1 e2 e4 (by omega)
    generalize fs[k] = f at q hv hvx ho hpl qc
    rw [hgb] at hv
    rw [hxb] at hvx
    cases f with
    | wh j a q => exact hpl.elim
    | amt a =>
      have e1 : some (b + M) = a := hv
      have e2 : some b = a := hvx
      rw [← e2] at e1
      have := Option.some.inj e1
      omega
    | ex l arcs =>
      obtain ⟨h0, h6, h2⟩ := ho
      have n0 : ∀ y : LA, (arcs.map fun p => shA (gA y p.1) p.2) ≠ [] := fun y z => h0 (List.map_eq_nil_iff.mp z)
      cases l with
      | true =>
        have hv : some (b + M) = oneA true (arcs.map fun p => shA (gA g p.1) p.2) := hv
        have qc : (arcs.any fun p => tgt x b p && lt2 (gA tg p.1) (some r) || (!tgt x b p && (neg x p && decide (b = 0)))) = true := qc
        obtain ⟨p, hpm, hok⟩ := List.any_eq_true.mp qc
        have p1 := (h2 p hpm).1
        have hge := (one_true (n0 g)).2 _ (List.mem_map.mpr ⟨p, hpm, rfl⟩)
        rw [← hv] at hge
        rw [Bool.or_eq_true, Bool.and_eq_true, Bool.and_eq_true, Bool.and_eq_true] at hok
        rcases hok with ⟨t1, t2⟩ | ⟨_, t2, t3⟩
        · obtain ⟨a, hxa⟩ : ∃ a, gA x p.1 = some a := by
            unfold tgt at t1
            cases e : gA x p.1 with
            | none => rw [e] at t1; cases t1
            | some a => exact ⟨a, rfl⟩
          unfold tgt at t1
          rw [hxa] at t1
          have t1 : a + p.2 = b := of_decide_eq_true t1
          obtain ⟨w, hgw⟩ : ∃ w, gA g p.1 = some w := by
            cases e : gA g p.1 with
            | none => exact absurd e (hfin p.1 p1 (by rw [hxa]; exact fun z => nomatch z))
            | some w => exact ⟨w, rfl⟩
          have hw := hmax p.1 p1 a w hxa hgw
          rw [hgw] at hge
          have hge : b + M ≤ max (w + p.2) 0 := of_decide_eq_true hge
          have : w = a + M := by omega
          rw [this] at hgw
          exact step p p1 a hxa hgw t2
        · have t3 : b = 0 := of_decide_eq_true t3
          obtain ⟨a, hxa⟩ : ∃ a, gA x p.1 = some a := by
            unfold neg at t2
            cases e : gA x p.1 with
            | none => rw [e] at t2; cases t2
            | some a => exact ⟨a, rfl⟩
          unfold neg at t2
          rw [hxa] at t2
          have t2 : a + p.2 < 0 := of_decide_eq_true t2
          obtain ⟨w, hgw⟩ : ∃ w, gA g p.1 = some w := by
            cases e : gA g p.1 with
            | none => exact absurd e (hfin p.1 p1 (by rw [hxa]; exact fun z => nomatch z))
            | some w => exact ⟨w, rfl⟩
          have hw := hmax p.1 p1 a w hxa hgw
          rw [hgw] at hge
          have hge : b + M ≤ max (w + p.2) 0 := of_decide_eq_true hge
          omega
      | false =>
        have hv : some (b + M) = oneA false (arcs.map fun p => shA (gA g p.1) p.2) := hv
        have hvx : some b = oneA false (arcs.map fun p => shA (gA x p.1) p.2) := hvx
        have qc : (arcs.all fun p => !tgt x b p || lt2 (gA tg p.1) (some r)) = true := qc
        have hm := (one_false (n0 g)).1
        rw [← hv] at hm
        obtain ⟨p, hpm, e⟩ := List.mem_map.mp hm
        have p1 := (h2 p hpm).1
        obtain ⟨w, hgw⟩ : ∃ w, gA g p.1 = some w := by
          cases z : gA g p.1 with
          | none => rw [z] at e; cases e
          | some w => exact ⟨w, rfl⟩
        rw [hgw] at e
        have e : max (w + p.2) 0 = b + M := Option.some.inj e
        obtain ⟨a, hxa⟩ : ∃ a, gA x p.1 = some a := by
          cases z : gA x p.1 with
          | none =>
            have := hle p.1 p1
            rw [z, hgw] at this
            cases this
          | some a => exact ⟨a, rfl⟩
        have hw := hmax p.1 p1 a w hxa hgw
        have hge : leA (shA (gA x p.1) p.2) (oneA false (arcs.map fun p => shA (gA x p.1) p.2)) = true := (one_false (n0 x)).2 _ (List.mem_map.mpr ⟨p, hpm, rfl⟩)
        rw [← hvx, hxa] at hge
        have hge : max (a + p.2) 0 ≤ b := of_decide_eq_true hge
        have hab : a + p.2 = b := by omega
        have ht : tgt x b p = true := by
          unfold tgt
          rw [hxa]
          exact decide_eq_true hab
        have hq := List.all_eq_true.mp qc p hpm
        rw [ht] at hq
        have : w = a + M := by omega
        rw [this] at hgw
        exact step p p1 a hxa hgw (by simpa using hq)
theorem shows_sound (h : ∀ f ∈ fs, f.Ok fs.length A S) (hp : ∀ f ∈ fs, f.Pl) (hs : showsB fs x hd tg = true) (hg : vals fs vF g = g) (rx : Row fs.length x) (rg : Row fs.length g) (hle : leL x g)
    (hl1 : hd.length = fs.length) (hb1 : ∀ a ∈ hd, bdA B a) (hl2 : tg.length = fs.length) (hb2 : ∀ a ∈ tg, bdA B a) : x = g := by
  unfold showsB at hs
  rw [Bool.and_eq_true] at hs
  have hx := of_decide_eq_true hs.1
  have hall : ∀ k, k < fs.length → atB fs x hd tg k = true := fun k hk => List.all_eq_true.mp hs.2 k (List.mem_range.mpr hk)
  have hle' : ∀ k, k < fs.length → leA (gA x k) (gA g k) = true := fun k hk => leL.g rx rg hle hk
  have hsome : ∀ k, k < fs.length → gA x k ≠ none → (∃ r, gA hd k = some r) ∧ ∃ r, gA tg k = some r := fun k hk hn => by
    have q := hall k hk
    unfold atB at q
    rw [List.getElem?_eq_getElem hk] at q
    have q : cellB fs[k] x hd tg k = true := q
    cases e : gA x k with
    | none => exact absurd e hn
    | some b =>
      rw [cellB_some e] at q
      simp only [Bool.and_eq_true] at q
      exact ⟨Option.isSome_iff_exists.mp q.1, Option.isSome_iff_exists.mp q.2.1⟩
  have hfin : ∀ k, k < fs.length → gA x k ≠ none → gA g k ≠ none := fun k hk hn => by
    obtain ⟨⟨r, hr⟩, _⟩ := hsome k hk hn
    exact sound_held h hp hx hg hl1 hb1 hall (r.toNat + 1) k r hk hn hr (Nat.lt_succ_self _)
  obtain ⟨ds, hds⟩ : ∃ ds, ds = (List.range fs.length).map fun k => match gA x k, gA g k with
      | some b, some w => w - b
      | _, _ => (0 : Int) := ⟨_, rfl⟩
  obtain ⟨f1, f2, f3⟩ := foldl_max ds 0
  have hmax : ∀ k, k < fs.length → ∀ b w, gA x k = some b → gA g k = some w → w ≤ b + ds.foldl max 0 := fun k hk b w e1 e2 => by
    have : w - b ∈ ds := by
      rw [hds]
      exact List.mem_map.mpr ⟨k, List.mem_range.mpr hk, by rw [e1, e2]⟩
    have := f2 _ this
    omega
  generalize ds.foldl max 0 = M at f1 f2 f3 hmax
  have hM : M = 0 := by
    rcases f3 with e | e
    · exact e
    · by_cases hz : 0 < M
      · rw [hds] at e
        obtain ⟨k, hk, e⟩ := List.mem_map.mp e
        have hk := List.mem_range.mp hk
        cases e1 : gA x k with
        | none => rw [e1] at e; simp at e; omega
        | some b =>
          cases e2 : gA g k with
          | none => rw [e1, e2] at e; simp at e; omega
          | some w =>
            rw [e1, e2] at e
            have e : w - b = M := e
            obtain ⟨_, r, hr⟩ := hsome k hk (by rw [e1]; exact fun z => nomatch z)
            exact (sound_tight h hp hx hg rx hl2 hb2 hall hle' hz hmax hfin (r.toNat + 1) k r b hk e1 (by rw [e2]; congr 1; omega) hr (Nat.lt_succ_self _)).elim
      · omega
  subst hM
  apply leL_anti rx.len rg.len hle
  intro i a b ha hb
  have hi : i < fs.length := by
    rw [← rg.len]
    exact (List.getElem?_eq_some_iff.mp ha).1
  have ga : gA g i = a := by unfold gA; rw [ha]; rfl
  have gb : gA x i = b := by unfold gA; rw [hb]; rfl
  have q := hle' i hi
  have qf := hfin i hi
  have qm := hmax i hi
  rw [ga, gb] at q
  rw [ga, gb] at qf
  cases b with
  | none => exact leA_none a
  | some b =>
    cases a with
    | none => exact absurd rfl (qf (fun z => nomatch z))
    | some a =>
      have := qm b a gb ga
      exact decide_eq_true (by omega)
end
end Law
namespace Law
open PySem PySem.Spec PyProof.Rows L2 Dl
/-! the law's least amounts: some amounts -/
theorem mForL_bk {gm : D → DS → Option DS} {b : DS → Option Out} (P : DS → Prop) : ∀ (ds : List D) (δ : DS), P δ →
    (∀ d δ, d ∈ ds → P δ → ∃ δ1, gm d δ = some δ1 ∧ ∃ δ2, (b δ1 = some (.nx δ2) ∨ b δ1 = some (.bk δ2)) ∧ P δ2) → ∃ δ', mForL gm b ds δ = some (.nx δ') ∧ P δ'
  | [], δ, h, _ => ⟨δ, rfl, h⟩
  | d :: ds, δ, h, hs => by
    obtain ⟨δ1, h1, δ2, h2, h3⟩ := hs d δ List.mem_cons_self h
    rw [mForL_cons, h1]
    show ∃ δ', fr2 _ (b δ1) = _ ∧ _
    rcases h2 with h2 | h2
    · rw [h2, fr2_nx]
      exact mForL_bk P ds δ2 h3 fun d δ hd hp => hs d δ (List.mem_cons_of_mem _ hd) hp
    · rw [h2, fr2_bk]
      exact ⟨δ2, rfl, h3⟩
theorem dPick1_max (n : Int) (ns : List Int) : dPick1 max [.list (.int n :: ns.map PyData.int)] = some (.int (ns.foldl max n)) := by
  show (match asIs ((n :: ns).map PyData.int) with | some (n :: r) => some (PyData.int (r.foldl max n)) | _ => none) = _
  rw [asIs_map]
theorem dCat_l {xs ys : List D} (h : xs.length + ys.length ≤ 1000000) : dCat (.list xs) (.list ys) = some (xs ++ ys) := by
  have hc : xs.length + ys.length ≤ cap := by unfold cap; omega
  show (if xs.length + ys.length ≤ cap then some (xs ++ ys) else none) = _
  rw [if_pos hc]
def gAmt : FF → Option Int
  | .amt a => some (a.getD 0)
  | _ => none
def shs : FF → List Int
  | .ex _ arcs => arcs.map (·.2)
  | _ => []
theorem lleast_ok {A S : Int} {fs : List FF} (hm : fs.length ≤ 100) (h : ∀ f ∈ fs, f.Ok fs.length A S) (hA0 : 0 ≤ A) (hA : A ≤ 100000) (hS0 : 0 ≤ S) (hS : S ≤ 100000) :
    ∃ xs : LA, xs.length = fs.length ∧ (∀ a ∈ xs, bdA 100000000 a) ∧ f__law_flat_least [.list (fs.map eFF)] = some (.val (.list (aL xs))) := by
  have hcol : mLcI (mItems (mVar 0)) (gmName 3) (mB (m2 dEq (m2 dIx (mVar 3) (mC (.int 0))) (mC (.str "amount")))) c__law_flat_least_1 [3] [v (.list (fs.map eFF)), none, none, none, none, none, none, none, none, none] = some ((fs.filterMap gAmt).map PyData.int) := by
    refine lc_fm (F := eFF) gAmt (items_of rfl) (by omega) fun f _ => ?_
    cases f with
    | amt a =>
      have h1 : ∀ d : D, atI [PyData.str "amount", d] 1 = some d := fun d => rfl
      cases a with
      | none => simp -implicitDefEqProofs [mLcF, c__law_flat_least_1, eFF, gAmt, h1]
      | some n =>
        by_cases hn : n = 0
        · subst hn
          simp -implicitDefEqProofs [mLcF, c__law_flat_least_1, eFF, gAmt, h1]
        · simp -implicitDefEqProofs [mLcF, c__law_flat_least_1, eFF, gAmt, h1, hn]
    | wh j a k => simp -implicitDefEqProofs [mLcF, c__law_flat_least_1, eFF, gAmt, wn1]
    | ex l arcs => simp -implicitDefEqProofs [mLcF, c__law_flat_least_1, eFF, gAmt, wd_amount]
  have hns : ∀ n ∈ fs.filterMap gAmt, 0 ≤ n ∧ n ≤ A := fun n hn => by
    obtain ⟨f, hf, e⟩ := List.mem_filterMap.mp hn
    have := h f hf
    cases f with
    | amt a =>
      cases a with
      | none => cases e; exact ⟨by decide, hA0⟩
      | some k => cases e; exact this k rfl
    | wh j a k => cases e
    | ex l arcs => cases e
  have hlen : (fs.filterMap gAmt).length ≤ 1000 := Nat.le_trans (List.length_filterMap_le _ _) (by omega)
  generalize fs.filterMap gAmt = ns at hcol hns hlen
  obtain ⟨f1, f2, f3⟩ := foldl_max ns 0
  obtain ⟨b0, hb0⟩ : ∃ b0, b0 = 1 + ns.foldl max 0 := ⟨_, rfl⟩
  have hb1 : 1 ≤ b0 ∧ b0 ≤ 1 + A := by
    rcases f3 with e | e
    · omega
    · have := hns _ e
      omega
  -- the bound
  obtain ⟨δ', hloop, b, a3, a8, a9, rfl, hbd0, hbd1⟩ : ∃ δ', mForL (gmName 3) b__law_flat_least_1 (fs.map eFF) [v (.list (fs.map eFF)), v (.list (iL ns)), v (.int b0), none, none, none, none, none, none, none] = some (.nx δ') ∧ (∃ b a3 a8 a9, δ' = [v (.list (fs.map eFF)), v (.list (iL ns)), v (.int b), a3, none, none, none, none, a8, a9] ∧ 1 ≤ b ∧ b ≤ 1 + A + S * ((0 + (fs.map eFF).length : Nat) : Int)) := by
    refine mForL_inv (fun i δ => ∃ b a3 a8 a9, δ = [v (.list (fs.map eFF)), v (.list (iL ns)), v (.int b), a3, none, none, none, none, a8, a9] ∧ 1 ≤ b ∧ b ≤ 1 + A + S * (i : Int)) _ 0 _ ⟨b0, _, _, _, rfl, by omega, by omega⟩ fun i d δ hd hp => ?_
    obtain ⟨b, a3, a8, a9, rfl, p1, p2⟩ := hp
    obtain ⟨f, hf, rfl⟩ : ∃ f ∈ fs, d = eFF f := by
      obtain ⟨f, h1, h2⟩ := List.mem_map.mp (List.mem_of_getElem? hd)
      exact ⟨f, h1, h2.symm⟩
    have hex : S * ((0 + i + 1 : Nat) : Int) = S * ((0 + i : Nat) : Int) + S := by rw [Int.natCast_succ, Int.mul_add, Int.mul_one]
    refine ⟨_, rfl, ?_⟩
    show ∃ δ2, (b__law_flat_least_1 [v (.list (fs.map eFF)), v (.list (iL ns)), v (.int b), v (eFF f), none, none, none, none, a8, a9] = _ ∨ _) ∧ _
    have ho := h f hf
    cases f with
    | amt a => exact ⟨[v (.list (fs.map eFF)), v (.list (iL ns)), v (.int b), v (eFF (.amt a)), none, none, none, none, a8, a9], .inl (by simp -implicitDefEqProofs [b__law_flat_least_1, eFF, wn5, wn6]), b, _, _, _, rfl, p1, by omega⟩
    | wh j a k => exact ⟨[v (.list (fs.map eFF)), v (.list (iL ns)), v (.int b), v (eFF (.wh j a k)), none, none, none, none, a8, a9], .inl (by simp -implicitDefEqProofs [b__law_flat_least_1, eFF, wn3, wn4]), b, _, _, _, rfl, p1, by omega⟩
    | ex l arcs =>
      obtain ⟨h0, h6, h2⟩ := ho
      have g1 : atI [PyData.str (wd l), .list (arcs.map eArc)] 1 = some (.list (arcs.map eArc)) := rfl
      have hcc : mLcI (mItems (m2 dIx (mVar 3) (mC (.int 1)))) (gmPair 8 9) mYes c__law_flat_least_2 [8, 9] [v (.list (fs.map eFF)), v (.list (iL ns)), v (.int b), v (eFF (.ex l arcs)), none, none, none, none, a8, a9] = some ((arcs.map (·.2)).map PyData.int) := by
        rw [List.map_map]
        exact lc_eq (F := eArc) (items_of (by simp -implicitDefEqProofs [eFF, g1])) (by omega) fun p hp => by simp -implicitDefEqProofs [mLcF, c__law_flat_least_2, eArc]
      have hsh : ∀ c ∈ arcs.map (·.2), -S ≤ c ∧ c ≤ S := fun c hc => by
        obtain ⟨p, hp, rfl⟩ := List.mem_map.mp hc
        exact (h2 p hp).2
      have hsl : (arcs.map (·.2)).length ≤ 6 := by rw [List.length_map]; exact h6
      generalize arcs.map (·.2) = cs at hcc hsh hsl
      obtain ⟨q1, q2, q3⟩ := foldl_max cs 0
      have hq : 0 ≤ cs.foldl max 0 ∧ cs.foldl max 0 ≤ S := by
        refine ⟨q1, ?_⟩
        rcases q3 with e | e
        · omega
        · exact (hsh _ e).2
      have hcat : dCat (.list [.int 0]) (.list (iL cs)) = some (.int 0 :: iL cs) := dCat_l (by rw [List.length_map]; simp; omega)
      have hpk := dPick1_max 0 cs
      generalize cs.foldl max 0 = w at hpk hq
      have hw : decide (wd l = "least") = true ∨ decide (wd l = "least") = false ∧ decide (wd l = "greatest") = true := by cases l <;> simp [wd_least, wd_greatest]
      refine ⟨[v (.list (fs.map eFF)), v (.list (iL ns)), v (.int (b + w)), v (eFF (.ex l arcs)), none, none, none, none, a8, a9], .inl ?_, _, _, _, _, rfl, by omega, by omega⟩
      unfold b__law_flat_least_1
      refine ifT_end ?_ ?_
      · rcases hw with hw | ⟨hw, hw2⟩
        · simp -implicitDefEqProofs [eFF, hw]
        · simp -implicitDefEqProofs [eFF, hw, hw2]
      · rw [nAsg_e, m2_e, mCall_e, mCons_e, mLst_e, m2O_e, mLst_e, lst_of hcc]
        simp -implicitDefEqProofs only [mVar_0, mVar_s, mCons_e, mNil_e, mC_e, Option.bind_some, Option.map_some, hcat, hpk, dAdd_i, List.set_cons_succ, List.set_cons_zero, mLst_e]
  have hbig : b ≤ 20000000 := by
    have e : (0 + (fs.map eFF).length : Nat) = fs.length := by rw [List.length_map]; omega
    rw [e] at hbd1
    have : S * (fs.length : Int) ≤ 100000 * 100 := Int.mul_le_mul hS (by omega) (by omega) (by omega)
    omega
  -- rounds
  have hz : mLcI (mItems (mVar 0)) (gmName 3) mYes c__law_flat_least_3 [3] [v (.list (fs.map eFF)), v (.list (iL ns)), v (.int b), a3, none, none, none, none, a8, a9] = some (aL (List.replicate fs.length (some 0))) := by
    rw [← const_aL]
    exact lc_eq (F := eFF) (items_of rfl) (by omega) fun f _ => rfl
  obtain ⟨δ', hl2, xs, a3', a5, a6, a7, rfl, x1, x2⟩ : ∃ δ', mForL (gmName 5) b__law_flat_least_3 (rngD 0 20000) [v (.list (fs.map eFF)), v (.list (iL ns)), v (.int b), a3, v (.list (aL (List.replicate fs.length (some 0)))), none, none, none, a8, a9] = some (.nx δ') ∧ (∃ xs a3 a5 a6 a7, δ' = [v (.list (fs.map eFF)), v (.list (iL ns)), v (.int b), a3, v (.list (aL xs)), a5, a6, a7, a8, a9] ∧ xs.length = fs.length ∧ ∀ a ∈ xs, bdA 50000000 a) := by
    refine mForL_bk (fun δ => ∃ xs a3 a5 a6 a7, δ = [v (.list (fs.map eFF)), v (.list (iL ns)), v (.int b), a3, v (.list (aL xs)), a5, a6, a7, a8, a9] ∧ xs.length = fs.length ∧ ∀ a ∈ xs, bdA 50000000 a) _ _ ⟨_, _, _, _, _, rfl, List.length_replicate, fun a ha => by
      rw [List.eq_of_mem_replicate ha]
      exact bdA0 (by decide)⟩ fun d δ hd hp => ?_
    obtain ⟨xs, a3, a5, a6, a7, rfl, x1, x2⟩ := hp
    refine ⟨_, rfl, ?_⟩
    show ∃ δ2, (b__law_flat_least_3 [v (.list (fs.map eFF)), v (.list (iL ns)), v (.int b), a3, v (.list (aL xs)), v d, a6, a7, a8, a9] = _ ∨ _) ∧ _
    have e1 := lfvals_ok (by omega) h x1
    have hr : (vals fs vF xs).length = fs.length := List.length_map ..
    have hv : ∀ a ∈ vals fs vF xs, bdA (50000000 + S) a := fun a ha => by
      obtain ⟨f, hf, rfl⟩ := List.mem_map.mp ha
      exact FF.bd (h f hf) x1 x2 hS0 (by omega) (by decide)
    generalize vals fs vF xs = q at e1 hr hv
    obtain ⟨δ3, hl3, ys, a7', rfl, y1, y2⟩ : ∃ δ', mForL (gmName 7) b__law_flat_least_2 (aL q) [v (.list (fs.map eFF)), v (.list (iL ns)), v (.int b), a3, v (.list (aL xs)), v d, some (.own []), a7, a8, a9] = some (.nx δ') ∧ (∃ ys a7, δ' = [v (.list (fs.map eFF)), v (.list (iL ns)), v (.int b), a3, v (.list (aL xs)), v d, some (.own (aL ys)), a7, a8, a9] ∧ ys.length = 0 + (aL q).length ∧ ∀ a ∈ ys, bdA 50000000 a) := by
      refine mForL_inv (fun i δ => ∃ ys a7, δ = [v (.list (fs.map eFF)), v (.list (iL ns)), v (.int b), a3, v (.list (aL xs)), v d, some (.own (aL ys)), a7, a8, a9] ∧ ys.length = i ∧ ∀ a ∈ ys, bdA 50000000 a) _ 0 _ ⟨[], _, rfl, rfl, fun a h => (by cases h)⟩ fun i d' δ hd hp => ?_
      obtain ⟨ys, a7, rfl, y1, y2⟩ := hp
      obtain ⟨a, ha, rfl⟩ : ∃ a ∈ q, d' = eA a := by
        obtain ⟨f, h1, h2⟩ := List.mem_map.mp (List.mem_of_getElem? hd)
        exact ⟨f, h1, h2.symm⟩
      have hi : i < (aL q).length := (List.getElem?_eq_some_iff.mp hd).1
      rw [List.length_map] at hi
      have hc : (aL ys).length ≤ cap := aL_cap (by omega)
      refine ⟨_, rfl, ?_⟩
      show ∃ δ2, (b__law_flat_least_2 [v (.list (fs.map eFF)), v (.list (iL ns)), v (.int b), a3, v (.list (aL xs)), v d, some (.own (aL ys)), v (eA a), a8, a9] = _ ∨ _) ∧ _
      have fin : ∀ o : Option Int, bdA 50000000 o → (∃ ys' a7', [v (.list (fs.map eFF)), v (.list (iL ns)), v (.int b), a3, v (.list (aL xs)), v d, some (.own (aL ys ++ [eA o])), v (eA o), a8, a9] = [v (.list (fs.map eFF)), v (.list (iL ns)), v (.int b), a3, v (.list (aL xs)), v d, some (.own (aL ys')), a7', a8, a9] ∧ ys'.length = 0 + i + 1 ∧ ∀ a ∈ ys', bdA 50000000 a) := fun o ho => ⟨ys ++ [o], _, by rw [show aL (ys ++ [o]) = aL ys ++ [eA o] from List.map_append ..], by rw [List.length_append, y1]; rfl, fun a ha => by
        rcases List.mem_append.mp ha with h | h
        · exact y2 a h
        · rw [List.mem_singleton.mp h]; exact ho⟩
      cases a with
      | none => exact ⟨_, .inl (by simp -implicitDefEqProofs [b__law_flat_least_2, gApp_o hc]), fin none bdAn⟩
      | some n =>
        by_cases hn : b < n
        · exact ⟨_, .inl (by simp -implicitDefEqProofs [b__law_flat_least_2, gApp_o hc, hn]), fin none bdAn⟩
        · exact ⟨_, .inl (by simp -implicitDefEqProofs [b__law_flat_least_2, gApp_o hc, hn]), fin (some n) fun k hk => by
            have := hv _ ha k hk
            cases hk
            omega⟩
    rw [List.length_map] at y1
    have s1 : ∀ (bb : DS → Option Out) o, bb [v (.list (fs.map eFF)), v (.list (iL ns)), v (.int b), a3, v (.list (aL xs)), v d, some (.own (aL ys)), a7', a8, a9] = o → nSeq (nAsgO 6 mNil) (nSeq (nFor (mItems (mCallF (mCons (mVar 0) (mCons (mVar 4) mNil)) f__law_flat_values)) (gmName 7) b__law_flat_least_2) bb) [v (.list (fs.map eFF)), v (.list (iL ns)), v (.int b), a3, v (.list (aL xs)), v d, a6, a7, a8, a9] = o := fun bb o hb => by
      refine asgO_go (ds := []) rfl ?_
      dsimp only [List.set]
      exact for_go (items_of (by simp -implicitDefEqProofs only [mCallF_e, mCons_e, mNil_e, mVar_s, mVar_0, Option.bind_some, e1, Option.map_some, data_own])) hl3 hb
    unfold b__law_flat_least_3
    by_cases hq : ys = xs
    · refine ⟨[v (.list (fs.map eFF)), v (.list (iL ns)), v (.int b), a3, v (.list (aL xs)), v d, some (.own (aL ys)), a7', a8, a9], .inr (s1 _ _ ?_), _, _, _, _, _, rfl, x1, x2⟩
      simp -implicitDefEqProofs only [nSeq_e, nIf_e, mBorT_e, thaw_c, thaw_nil, tw_v, tw_o, mB_e, m2_e, mVar_0, mVar_s, Option.bind_some, dEq_aL, hq, decide_true, toB_some, if_true, nBrk_e, nx2_bk]
    · refine ⟨[v (.list (fs.map eFF)), v (.list (iL ns)), v (.int b), a3, v (.list (aL ys)), v d, v (.list (aL ys)), a7', a8, a9], .inl (s1 _ _ ?_), _, _, _, _, _, rfl, by omega, y2⟩
      refine chk_go ?_ ?_
      · simp -implicitDefEqProofs [hq]
      · rw [nFrz_e, frz_e rfl]
        dsimp only [List.set]
        simp -implicitDefEqProofs
  refine ⟨xs, x1, fun a ha => (x2 a ha).mono (by decide), ?_⟩
  unfold f__law_flat_least
  refine fnD_rt rfl ?_
  show m__law_flat_least (startD 10 [.list (fs.map eFF)]) = _
  rw [startD_1]
  dsimp only [List.replicate]
  unfold m__law_flat_least
  refine asg_go (lst_of hcol) ?_
  dsimp only [List.set]
  have hcat : dCat (.list [.int 0]) (.list (iL ns)) = some (.int 0 :: iL ns) := dCat_l (by rw [List.length_map]; simp; omega)
  refine asg_go (d := .int b0) (by
    have hpk := dPick1_max 0 ns
    simp -implicitDefEqProofs only [m2_e, mCall_e, mCons_e, mNil_e, mLst_e, m2O_e, mVar_0, mVar_s, mC_e, Option.bind_some, Option.map_some, hcat, hpk, dAdd_i, hb0]) ?_
  dsimp only [List.set]
  refine for_go (items_of rfl) hloop ?_
  refine asg_go (lst_of hz) ?_
  dsimp only [List.set]
  refine for_go (ds := rngD 0 20000) (by simp -implicitDefEqProofs only [mRng1_e, mCons_e, mNil_e, mC_e, Option.bind_some, rng20000]) hl2 ?_
  exact ret_end rfl
/-! the law's ranks: some ranks -/
def Rk (n : Nat) (B : Int) (rk : LA) : Prop := rk.length = n ∧ ∀ a ∈ rk, bdA B a
theorem Rk.set {n : Nat} {B : Int} {rk : LA} (h : Rk n B rk) {k : Nat} {o : Option Int} (ho : bdA B o) : Rk n B (rk.set k o) := ⟨by rw [List.length_set, h.1], fun a ha => by
  rcases List.mem_or_eq_of_mem_set ha with e | e
  · exact h.2 a e
  · rw [e]; exact ho⟩
theorem aL_set (rk : LA) (k : Nat) (t : Int) : (aL rk).set k (.int t) = aL (rk.set k (some t)) := by
  show _ = (rk.set k (some t)).map eA
  rw [List.map_set]
  rfl
theorem bd_some {B t : Int} (h0 : 0 ≤ t) (h1 : t ≤ B) : bdA B (some t) := fun n e => by
  cases e
  exact ⟨h0, h1⟩
theorem rng2_nat {n : Nat} {ms : DS → Option (List D)} {δ : DS} (h : ms δ = some [.int 1, .int ((n : Int) + 1)]) (hn : n ≤ 100000) : mRng2 ms δ = some ((List.range n).map fun k : Nat => PyData.int (1 + (k : Int))) := by
  rw [mRng2_e, h]
  show gRng2 (some [PyData.int 1, .int ((n : Int) + 1)]) = _
  have e : gRng2 (some [PyData.int 1, .int ((n : Int) + 1)]) = some (rngD 1 n) := by
    unfold gRng2
    have e1 : (((n : Int) + 1) - 1).toNat = n := by omega
    have e2 : (Int.toNat ((n : Int) + 1 - 1)) ≤ 1000000 := by omega
    simp only [e1]
    split
    · rfl
    · rename_i hz
      exfalso
      apply hz
      unfold okRng
      simp
      omega
  rw [e]
  rfl
theorem cp_aL {δ : DS} {rk : LA} {i : Nat} (h : δ[i]? = some (some (.own (aL rk)))) : mLst (mBorO (mCallO (mCons (mVar i) mNil) dListOf)) δ = some (.list (aL rk)) := by
  have e : mVar i (thaw δ) = some (.list (aL rk)) := by
    unfold mVar
    rw [thaw_get, h]
    rfl
  rw [mLst_e, mBorO_e]
  have e2 : mCallO (mCons (mVar i) mNil) dListOf (thaw δ) = some (aL rk) := by
    show ((mCons (mVar i) mNil (thaw δ)).bind dListOf) = _
    rw [mCons_e, e]
    rfl
  rw [e2, fltO_of (aL_flat rk)]
  rfl
theorem lheld_ex {A S : Int} {fs : List FF} (hl : fs.length ≤ 100) (h : ∀ f ∈ fs, f.Ok fs.length A S) (hp : ∀ f ∈ fs, f.Pl) : ∃ rk : LA, Rk fs.length 1000 rk ∧ f__law_held [.list (fs.map eFF)] = some (.own (aL rk)) := by
  have hrg : ∀ {ms : DS → Option (List D)} {δ : DS}, ms δ = some [.int (fs.length : Int)] → mRng1 ms δ = some ((List.range fs.length).map fun k : Nat => PyData.int (k : Int)) := fun h => rng_nat h (by omega)
  have hz : mLcI (mItems (mVar 0)) (gmName 6) mYes c__law_held_1 [6] [v (.list (fs.map eFF)), none, none, none, none, none, none, none, none] = some (aL (List.replicate fs.length none)) := by
    rw [← const_aL]
    exact lc_eq (F := eFF) (items_of rfl) (by omega) fun f _ => rfl
  obtain ⟨δ', e1, rk, a2, rfl, r1⟩ := mForL_all (gm := gmName 2) (b := b__law_held_1) (fun k : Nat => PyData.int (k : Int)) (fun δ => ∃ rk a2, δ = [v (.list (fs.map eFF)), some (.own (aL rk)), a2, none, none, none, none, none, none] ∧ Rk fs.length 1000 rk) (List.range fs.length) [v (.list (fs.map eFF)), some (.own (aL (List.replicate fs.length none))), none, none, none, none, none, none, none] ⟨_, _, rfl, List.length_replicate, fun a ha => by
      rw [List.eq_of_mem_replicate ha]
      exact bdAn⟩ fun k hk δ hs => by
    obtain ⟨rk, a2, rfl, r1⟩ := hs
    have hk' := List.mem_range.mp hk
    have hf := List.getElem?_eq_getElem hk'
    have hfa := ff_at hf
    have hix : ixN (aL rk).length (k : Int) = some k := by
      have q := ixN_nat (n := (aL rk).length) (i := (k : Int)) (by omega) (by rw [List.length_map, r1.1]; omega)
      rw [Int.toNat_natCast] at q
      exact q
    refine ⟨_, rfl, ?_⟩
    show ∃ δ2, b__law_held_1 [v (.list (fs.map eFF)), some (.own (aL rk)), v (.int (k : Int)), none, none, none, none, none, none] = _ ∧ _
    generalize fs[k] = f at hfa
    have hskip : ∃ δ2, some (Out.nx [v (.list (fs.map eFF)), some (.own (aL rk)), v (.int (k : Int)), none, none, none, none, none, none]) = some (Out.nx δ2) ∧ ∃ rk a2, δ2 = [v (.list (fs.map eFF)), some (.own (aL rk)), a2, none, none, none, none, none, none] ∧ Rk fs.length 1000 rk := ⟨_, rfl, rk, _, rfl, r1⟩
    have hset : ∃ δ2, some (Out.nx [v (.list (fs.map eFF)), some (.own (aL (rk.set k (some 0)))), v (.int (k : Int)), none, none, none, none, none, none]) = some (Out.nx δ2) ∧ ∃ rk a2, δ2 = [v (.list (fs.map eFF)), some (.own (aL rk)), a2, none, none, none, none, none, none] ∧ Rk fs.length 1000 rk := ⟨_, rfl, _, _, rfl, r1.set (bd_some (by decide) (by decide))⟩
    cases f with
    | amt a =>
      have h1 : ∀ d : D, atI [PyData.str "amount", d] 1 = some d := fun d => rfl
      cases a with
      | none => rwa [show b__law_held_1 _ = _ from by simp -implicitDefEqProofs [b__law_held_1, hfa, eFF, h1]; rfl]
      | some n =>
        rwa [show b__law_held_1 [v (.list (fs.map eFF)), some (.own (aL rk)), v (.int (k : Int)), none, none, none, none, none, none] = some (Out.nx [v (.list (fs.map eFF)), some (.own (aL (rk.set k (some 0)))), v (.int (k : Int)), none, none, none, none, none, none]) from by
          unfold b__law_held_1
          refine ifT_end (by simp -implicitDefEqProofs [hfa, eFF, h1]) ?_
          rw [← aL_set]
          simp -implicitDefEqProofs only [nSetI_e, List.getElem?_cons_succ, List.getElem?_cons_zero, mVar_s, mVar_0, mC_e, gSetI_o, hix, Option.map_some, List.set_cons_succ, List.set_cons_zero]]
    | wh j a q => rwa [show b__law_held_1 _ = _ from by simp -implicitDefEqProofs [b__law_held_1, hfa, eFF, wn1]; rfl]
    | ex l arcs => rwa [show b__law_held_1 _ = _ from by simp -implicitDefEqProofs [b__law_held_1, hfa, eFF, wd_amount]; rfl]
  obtain ⟨δ', e2, rk', b2, b3, b4, b5, rfl, r2⟩ := mForL_all (gm := gmName 3) (b := b__law_held_3) (fun k : Nat => PyData.int (1 + (k : Int))) (fun δ => ∃ rk a2 a3 a4 a5, δ = [v (.list (fs.map eFF)), some (.own (aL rk)), a2, a3, a4, a5, none, none, none] ∧ Rk fs.length 1000 rk) (List.range fs.length) [v (.list (fs.map eFF)), some (.own (aL rk)), a2, none, none, none, none, none, none] ⟨_, _, _, _, _, rfl, r1⟩ fun t ht δ hs => by
    obtain ⟨bf, a2, a3, a4, a5, rfl, r1⟩ := hs
    have ht' := List.mem_range.mp ht
    refine ⟨_, rfl, ?_⟩
    show ∃ δ2, b__law_held_3 [v (.list (fs.map eFF)), some (.own (aL bf)), a2, v (.int (1 + (t : Int))), a4, a5, none, none, none] = _ ∧ _
    obtain ⟨δ', e3, rk, a2, a5, rfl, r3⟩ := mForL_all (gm := gmName 2) (b := b__law_held_2) (fun k : Nat => PyData.int (k : Int)) (fun δ => ∃ rk a2 a5, δ = [v (.list (fs.map eFF)), some (.own (aL rk)), a2, v (.int (1 + (t : Int))), v (.list (aL bf)), a5, none, none, none] ∧ Rk fs.length 1000 rk) (List.range fs.length) [v (.list (fs.map eFF)), some (.own (aL bf)), a2, v (.int (1 + (t : Int))), v (.list (aL bf)), a5, none, none, none] ⟨_, _, _, rfl, r1⟩ fun k hk δ hs => by
      obtain ⟨rk, a2, a5, rfl, r3⟩ := hs
      have hk' := List.mem_range.mp hk
      have hf := List.getElem?_eq_getElem hk'
      have hfa := ff_at hf
      have ho := h _ (List.getElem_mem hk')
      have hbk := gA_at (xs := bf) (i := k) (by rw [r1.1]; exact hk')
      have hix : ixN (aL rk).length (k : Int) = some k := by
        have q := ixN_nat (n := (aL rk).length) (i := (k : Int)) (by omega) (by rw [List.length_map, r3.1]; omega)
        rw [Int.toNat_natCast] at q
        exact q
      refine ⟨_, rfl, ?_⟩
      show ∃ δ2, b__law_held_2 [v (.list (fs.map eFF)), some (.own (aL rk)), v (.int (k : Int)), v (.int (1 + (t : Int))), v (.list (aL bf)), a5, none, none, none] = _ ∧ _
      have hpo := hp _ (List.getElem_mem hk')
      generalize fs[k] = f at hfa ho hpo
      have hskip : ∀ a5, ∃ δ2, some (Out.nx [v (.list (fs.map eFF)), some (.own (aL rk)), v (.int (k : Int)), v (.int (1 + (t : Int))), v (.list (aL bf)), a5, none, none, none]) = some (Out.nx δ2) ∧ ∃ rk a2 a5, δ2 = [v (.list (fs.map eFF)), some (.own (aL rk)), a2, v (.int (1 + (t : Int))), v (.list (aL bf)), a5, none, none, none] ∧ Rk fs.length 1000 rk := fun a5 => ⟨_, rfl, rk, _, _, rfl, r3⟩
      have hset : ∀ a5, ∃ δ2, some (Out.nx [v (.list (fs.map eFF)), some (.own (aL (rk.set k (some (1 + (t : Int)))))), v (.int (k : Int)), v (.int (1 + (t : Int))), v (.list (aL bf)), a5, none, none, none]) = some (Out.nx δ2) ∧ ∃ rk a2 a5, δ2 = [v (.list (fs.map eFF)), some (.own (aL rk)), a2, v (.int (1 + (t : Int))), v (.list (aL bf)), a5, none, none, none] ∧ Rk fs.length 1000 rk := fun a5 => ⟨_, rfl, _, _, _, rfl, r3.set (bd_some (by omega) (by omega))⟩
      obtain ⟨o, hob⟩ : ∃ o, gA bf k = o := ⟨_, rfl⟩
      rw [hob] at hbk
      cases o with
      | some w =>
        rw [show b__law_held_2 [v (.list (fs.map eFF)), some (.own (aL rk)), v (.int (k : Int)), v (.int (1 + (t : Int))), v (.list (aL bf)), a5, none, none, none] = some (Out.nx [v (.list (fs.map eFF)), some (.own (aL rk)), v (.int (k : Int)), v (.int (1 + (t : Int))), v (.list (aL bf)), a5, none, none, none]) from by simp -implicitDefEqProofs [b__law_held_2, hbk]]
        exact hskip _
      | none =>
        cases f with
        | amt a =>
          rw [show b__law_held_2 [v (.list (fs.map eFF)), some (.own (aL rk)), v (.int (k : Int)), v (.int (1 + (t : Int))), v (.list (aL bf)), a5, none, none, none] = some (Out.nx [v (.list (fs.map eFF)), some (.own (aL rk)), v (.int (k : Int)), v (.int (1 + (t : Int))), v (.list (aL bf)), a5, none, none, none]) from by simp -implicitDefEqProofs [b__law_held_2, hbk, hfa, eFF]]
          exact hskip _
        | wh j a q => exact hpo.elim
        | ex l arcs =>
          obtain ⟨h0, h6, h2⟩ := ho
          have g1 : atI [PyData.str (wd l), .list (arcs.map eArc)] 1 = some (.list (arcs.map eArc)) := rfl
          have hcol : mLcI (mItems (m2 dIx (m2 dIx (mVar 0) (mVar 2)) (mC (.int 1)))) (gmPair 7 8) (mB (m2 dIsNot (m2 dIx (mVar 4) (mVar 7)) (mC .none))) c__law_held_2 [7, 8] [v (.list (fs.map eFF)), some (.own (aL rk)), v (.int (k : Int)), v (.int (1 + (t : Int))), v (.list (aL bf)), a5, none, none, none] = some ((arcs.filterMap fun p => if (gA bf p.1).isSome = true then some (p.1 : Int) else none).map PyData.int) := by
            refine lc_fm (F := eArc) _ (items_of (by simp -implicitDefEqProofs [hfa, eFF, g1])) (by omega) fun p hp => ?_
            have xj := gA_at (xs := bf) (i := p.1) (by rw [r1.1]; exact (h2 p hp).1)
            cases hq : gA bf p.1 with
            | none => rw [hq] at xj; simp -implicitDefEqProofs [mLcF, c__law_held_2, eArc, xj]
            | some a => rw [hq] at xj; simp -implicitDefEqProofs [mLcF, c__law_held_2, eArc, xj]
          generalize (arcs.filterMap fun p => if (gA bf p.1).isSome = true then some (p.1 : Int) else none).map PyData.int = less at hcol
          obtain ⟨c, hc⟩ : ∃ c, mOrT (mB (m2 dEq (mCall (mCons (mVar 5) mNil) dLen) (mCall (mCons (m2 dIx (m2 dIx (mVar 0) (mVar 2)) (mC (.int 1))) mNil) dLen))) (mAndT (mB (m2 dEq (m2 dIx (m2 dIx (mVar 0) (mVar 2)) (mC (.int 0))) (mC (.str "least")))) (mB (m2 dGt (mCall (mCons (mVar 5) mNil) dLen) (mC (.int 0))))) [v (.list (fs.map eFF)), some (.own (aL rk)), v (.int (k : Int)), v (.int (1 + (t : Int))), v (.list (aL bf)), v (.list less), none, none, none] = some c := by
            by_cases c1 : (less.length : Int) = (arcs.length : Int)
            · exact ⟨true, by simp -implicitDefEqProofs [hfa, eFF, g1, c1]⟩
            · cases l with
              | true =>
                have w1 : decide (wd true = "least") = true := wd_least true
                exact ⟨decide (0 < less.length), by simp -implicitDefEqProofs [hfa, eFF, g1, c1, w1]⟩
              | false =>
                have w1 : decide (wd false = "least") = false := wd_least false
                exact ⟨false, by simp -implicitDefEqProofs [hfa, eFF, g1, c1, w1]⟩
          have pre : ∀ o, (nIf (mOrT (mB (m2 dEq (mCall (mCons (mVar 5) mNil) dLen) (mCall (mCons (m2 dIx (m2 dIx (mVar 0) (mVar 2)) (mC (.int 1))) mNil) dLen))) (mAndT (mB (m2 dEq (m2 dIx (m2 dIx (mVar 0) (mVar 2)) (mC (.int 0))) (mC (.str "least")))) (mB (m2 dGt (mCall (mCons (mVar 5) mNil) dLen) (mC (.int 0)))))) (nSetI 1 (mVar 2) (mVar 3)) nNext [v (.list (fs.map eFF)), some (.own (aL rk)), v (.int (k : Int)), v (.int (1 + (t : Int))), v (.list (aL bf)), v (.list less), none, none, none] = o) → b__law_held_2 [v (.list (fs.map eFF)), some (.own (aL rk)), v (.int (k : Int)), v (.int (1 + (t : Int))), v (.list (aL bf)), a5, none, none, none] = o := fun o ho => by
            unfold b__law_held_2
            refine ifT_end (by simp -implicitDefEqProofs [hbk, hfa, eFF, wd_amount]) (asg_go (lst_of hcol) ho)
          cases c with
          | true =>
            rw [pre _ (ifT_end hc (o := some (.nx [v (.list (fs.map eFF)), some (.own (aL (rk.set k (some (1 + (t : Int)))))), v (.int (k : Int)), v (.int (1 + (t : Int))), v (.list (aL bf)), v (.list less), none, none, none])) (by
              rw [← aL_set]
              simp -implicitDefEqProofs only [nSetI_e, List.getElem?_cons_succ, List.getElem?_cons_zero, mVar_s, mVar_0, gSetI_o, hix, Option.map_some, List.set_cons_succ, List.set_cons_zero]))]
            exact hset _
          | false =>
            rw [pre _ (ifF_end hc nNext_e)]
            exact hskip _
    refine ⟨[v (.list (fs.map eFF)), some (.own (aL rk)), a2, v (.int (1 + (t : Int))), v (.list (aL bf)), a5, none, none, none], ?_, rk, _, _, _, _, rfl, r3⟩
    unfold b__law_held_3
    have hcp : mLst (mBorO (mCallO (mCons (mVar 1) mNil) dListOf)) [v (.list (fs.map eFF)), some (.own (aL bf)), a2, v (.int (1 + (t : Int))), a4, a5, none, none, none] = some (.list (aL bf)) := cp_aL rfl
    refine asg_go hcp ?_
    dsimp only [List.set]
    rw [nFor_e, hrg (by simp -implicitDefEqProofs)]
    exact e3
  refine ⟨rk', r2, ?_⟩
  unfold f__law_held
  refine fnD_rt rfl ?_
  show m__law_held (startD 9 [.list (fs.map eFF)]) = _
  rw [startD_1]
  dsimp only [List.replicate]
  unfold m__law_held
  refine asgO_go hz ?_
  dsimp only [List.set]
  refine for_go (hrg (by simp -implicitDefEqProofs)) e1 ?_
  refine for_go (rng2_nat (n := fs.length) (by simp -implicitDefEqProofs) (by omega)) e2 ?_
  exact retX_end rfl
theorem ltight_ex {A S : Int} {fs : List FF} (hl : fs.length ≤ 100) (h : ∀ f ∈ fs, f.Ok fs.length A S) (hp : ∀ f ∈ fs, f.Pl) {xs : LA} (hx : xs.length = fs.length) : ∃ rk : LA, Rk fs.length 1000 rk ∧ f__law_tight [.list (fs.map eFF), .list (aL xs)] = some (.own (aL rk)) := by
  have hrg : ∀ {ms : DS → Option (List D)} {δ : DS}, ms δ = some [.int (fs.length : Int)] → mRng1 ms δ = some ((List.range fs.length).map fun k : Nat => PyData.int (k : Int)) := fun h => rng_nat h (by omega)
  have hz : mLcI (mItems (mVar 0)) (gmName 6) mYes c__law_tight_1 [6] [v (.list (fs.map eFF)), v (.list (aL xs)), none, none, none, none, none] = some (aL (List.replicate fs.length none)) := by
    rw [← const_aL]
    exact lc_eq (F := eFF) (items_of rfl) (by omega) fun f _ => rfl
  obtain ⟨δ', e1, rk, a3, rfl, r1⟩ := mForL_all (gm := gmName 3) (b := b__law_tight_1) (fun k : Nat => PyData.int (k : Int)) (fun δ => ∃ rk a3, δ = [v (.list (fs.map eFF)), v (.list (aL xs)), some (.own (aL rk)), a3, none, none, none] ∧ Rk fs.length 1000 rk) (List.range fs.length) [v (.list (fs.map eFF)), v (.list (aL xs)), some (.own (aL (List.replicate fs.length none))), none, none, none, none] ⟨_, _, rfl, List.length_replicate, fun a ha => by
      rw [List.eq_of_mem_replicate ha]
      exact bdAn⟩ fun k hk δ hs => by
    obtain ⟨rk, a3, rfl, r1⟩ := hs
    have hk' := List.mem_range.mp hk
    have hf := List.getElem?_eq_getElem hk'
    have hfa := ff_at hf
    have hpo := hp _ (List.getElem_mem hk')
    have xk := gA_at (xs := xs) (i := k) (by omega)
    have hix : ixN (aL rk).length (k : Int) = some k := by
      have q := ixN_nat (n := (aL rk).length) (i := (k : Int)) (by omega) (by rw [List.length_map, r1.1]; omega)
      rw [Int.toNat_natCast] at q
      exact q
    refine ⟨_, rfl, ?_⟩
    show ∃ δ2, b__law_tight_1 [v (.list (fs.map eFF)), v (.list (aL xs)), some (.own (aL rk)), v (.int (k : Int)), none, none, none] = _ ∧ _
    generalize fs[k] = f at hfa hpo
    have hskip : b__law_tight_1 [v (.list (fs.map eFF)), v (.list (aL xs)), some (.own (aL rk)), v (.int (k : Int)), none, none, none] = some (.nx [v (.list (fs.map eFF)), v (.list (aL xs)), some (.own (aL rk)), v (.int (k : Int)), none, none, none]) → ∃ δ2, b__law_tight_1 [v (.list (fs.map eFF)), v (.list (aL xs)), some (.own (aL rk)), v (.int (k : Int)), none, none, none] = some (Out.nx δ2) ∧ ∃ rk a3, δ2 = [v (.list (fs.map eFF)), v (.list (aL xs)), some (.own (aL rk)), a3, none, none, none] ∧ Rk fs.length 1000 rk := fun e => ⟨_, e, rk, _, rfl, r1⟩
    cases f with
    | wh j a q => exact hpo.elim
    | ex l arcs => exact hskip (by simp -implicitDefEqProofs [b__law_tight_1, hfa, eFF, wd_amount])
    | amt a =>
      obtain ⟨o, ho⟩ : ∃ o, gA xs k = o := ⟨_, rfl⟩
      rw [ho] at xk
      cases o with
      | none => exact hskip (by simp -implicitDefEqProofs [b__law_tight_1, hfa, eFF, xk])
      | some n =>
        refine ⟨[v (.list (fs.map eFF)), v (.list (aL xs)), some (.own (aL (rk.set k (some 0)))), v (.int (k : Int)), none, none, none], ?_, _, _, rfl, r1.set (bd_some (by decide) (by decide))⟩
        unfold b__law_tight_1
        refine ifT_end (by simp -implicitDefEqProofs [hfa, eFF, xk]) ?_
        rw [← aL_set]
        simp -implicitDefEqProofs only [nSetI_e, List.getElem?_cons_succ, List.getElem?_cons_zero, mVar_s, mVar_0, mC_e, gSetI_o, hix, Option.map_some, List.set_cons_succ, List.set_cons_zero]
  obtain ⟨δ', e2, rk', b3, b4, b5, rfl, r2⟩ := mForL_all (gm := gmName 4) (b := b__law_tight_3) (fun k : Nat => PyData.int (1 + (k : Int))) (fun δ => ∃ rk a3 a4 a5, δ = [v (.list (fs.map eFF)), v (.list (aL xs)), some (.own (aL rk)), a3, a4, a5, none] ∧ Rk fs.length 1000 rk) (List.range fs.length) [v (.list (fs.map eFF)), v (.list (aL xs)), some (.own (aL rk)), a3, none, none, none] ⟨_, _, _, _, rfl, r1⟩ fun t ht δ hs => by
    obtain ⟨bf, a3, a4, a5, rfl, r1⟩ := hs
    have ht' := List.mem_range.mp ht
    refine ⟨_, rfl, ?_⟩
    show ∃ δ2, b__law_tight_3 [v (.list (fs.map eFF)), v (.list (aL xs)), some (.own (aL bf)), a3, v (.int (1 + (t : Int))), a5, none] = _ ∧ _
    obtain ⟨δ', e3, rk, a3, rfl, r3⟩ := mForL_all (gm := gmName 3) (b := b__law_tight_2) (fun k : Nat => PyData.int (k : Int)) (fun δ => ∃ rk a3, δ = [v (.list (fs.map eFF)), v (.list (aL xs)), some (.own (aL rk)), a3, v (.int (1 + (t : Int))), v (.list (aL bf)), none] ∧ Rk fs.length 1000 rk) (List.range fs.length) [v (.list (fs.map eFF)), v (.list (aL xs)), some (.own (aL bf)), a3, v (.int (1 + (t : Int))), v (.list (aL bf)), none] ⟨_, _, rfl, r1⟩ fun k hk δ hs => by
      obtain ⟨rk, a3, rfl, r3⟩ := hs
      have hk' := List.mem_range.mp hk
      have hf := List.getElem?_eq_getElem hk'
      have hfa := ff_at hf
      have ho := h _ (List.getElem_mem hk')
      have hpo := hp _ (List.getElem_mem hk')
      have hbk := gA_at (xs := bf) (i := k) (by rw [r1.1]; exact hk')
      have xk := gA_at (xs := xs) (i := k) (by omega)
      have hix : ixN (aL rk).length (k : Int) = some k := by
        have q := ixN_nat (n := (aL rk).length) (i := (k : Int)) (by omega) (by rw [List.length_map, r3.1]; omega)
        rw [Int.toNat_natCast] at q
        exact q
      refine ⟨_, rfl, ?_⟩
      show ∃ δ2, b__law_tight_2 [v (.list (fs.map eFF)), v (.list (aL xs)), some (.own (aL rk)), v (.int (k : Int)), v (.int (1 + (t : Int))), v (.list (aL bf)), none] = _ ∧ _
      have hskip : b__law_tight_2 [v (.list (fs.map eFF)), v (.list (aL xs)), some (.own (aL rk)), v (.int (k : Int)), v (.int (1 + (t : Int))), v (.list (aL bf)), none] = some (.nx [v (.list (fs.map eFF)), v (.list (aL xs)), some (.own (aL rk)), v (.int (k : Int)), v (.int (1 + (t : Int))), v (.list (aL bf)), none]) → ∃ δ2, b__law_tight_2 [v (.list (fs.map eFF)), v (.list (aL xs)), some (.own (aL rk)), v (.int (k : Int)), v (.int (1 + (t : Int))), v (.list (aL bf)), none] = some (Out.nx δ2) ∧ ∃ rk a3, δ2 = [v (.list (fs.map eFF)), v (.list (aL xs)), some (.own (aL rk)), a3, v (.int (1 + (t : Int))), v (.list (aL bf)), none] ∧ Rk fs.length 1000 rk := fun e => ⟨_, e, rk, _, rfl, r3⟩
      obtain ⟨o, hob⟩ : ∃ o, gA bf k = o := ⟨_, rfl⟩
      rw [hob] at hbk
      cases o with
      | some w => exact hskip (by simp -implicitDefEqProofs [b__law_tight_2, hbk])
      | none =>
        obtain ⟨o, hxo⟩ : ∃ o, gA xs k = o := ⟨_, rfl⟩
        rw [hxo] at xk
        cases o with
        | none => exact hskip (by simp -implicitDefEqProofs [b__law_tight_2, hbk, xk])
        | some n =>
          have hcan := canbe_ok hf ho hpo hx r1.1 hk' hxo (1 + (t : Int))
          generalize canB fs[k] xs n bf (some (1 + (t : Int))) = c at hcan
          cases c with
          | false => exact hskip (by simp -implicitDefEqProofs [b__law_tight_2, hbk, xk, hcan])
          | true =>
            refine ⟨[v (.list (fs.map eFF)), v (.list (aL xs)), some (.own (aL (rk.set k (some (1 + (t : Int)))))), v (.int (k : Int)), v (.int (1 + (t : Int))), v (.list (aL bf)), none], ?_, _, _, rfl, r3.set (bd_some (by omega) (by omega))⟩
            unfold b__law_tight_2
            refine ifT_end (by simp -implicitDefEqProofs [hbk, xk, hcan]) ?_
            rw [← aL_set]
            simp -implicitDefEqProofs only [nSetI_e, List.getElem?_cons_succ, List.getElem?_cons_zero, mVar_s, mVar_0, gSetI_o, hix, Option.map_some, List.set_cons_succ, List.set_cons_zero]
    refine ⟨[v (.list (fs.map eFF)), v (.list (aL xs)), some (.own (aL rk)), a3, v (.int (1 + (t : Int))), v (.list (aL bf)), none], ?_, rk, _, _, _, rfl, r3⟩
    unfold b__law_tight_3
    refine asg_go (cp_aL rfl) ?_
    dsimp only [List.set]
    rw [nFor_e, hrg (by simp -implicitDefEqProofs)]
    exact e3
  refine ⟨rk', r2, ?_⟩
  unfold f__law_tight
  refine fnD_rt rfl ?_
  show m__law_tight (startD 7 [.list (fs.map eFF), .list (aL xs)]) = _
  rw [startD_2]
  dsimp only [List.replicate]
  unfold m__law_tight
  refine asgO_go hz ?_
  dsimp only [List.set]
  refine for_go (hrg (by simp -implicitDefEqProofs)) e1 ?_
  refine for_go (rng2_nat (n := fs.length) (by simp -implicitDefEqProofs) (by omega)) e2 ?_
  exact retX_end rfl
end Law
namespace Law
open PySem PySem.Spec PyProof.Rows L2 Dl
/-! open conditions -/
abbrev LN := List Nat
abbrev nL (ps : LN) : List D := ps.map fun k : Nat => PyData.int (k : Int)
theorem nL_iL (ps : LN) : nL ps = iL (ps.map fun k : Nat => (k : Int)) := by
  show _ = (ps.map _).map _
  rw [List.map_map]
  rfl
theorem cast_inj : ∀ {a b : LN}, a.map (fun k : Nat => (k : Int)) = b.map (fun k : Nat => (k : Int)) → a = b
  | [], [], _ => rfl
  | [], _ :: _, h => by cases h
  | _ :: _, [], h => by cases h
  | x :: a, y :: b, h => by
    injection h with h1 h2
    rw [cast_inj h2, Int.ofNat.inj h1]
theorem dEq_nL (a b : LN) : dEq (.list (nL a)) (.list (nL b)) = some (.bool (decide (a = b))) := by
  rw [nL_iL, nL_iL, Flt.int.list.dEq (by decide) _ _ (fun x z => by cases z)]
  congr 2
  exact decide_eq_decide.mpr ⟨cast_inj, fun e => by rw [e]⟩
theorem dNe_nL (a b : LN) : dNe (.list (nL a)) (.list (nL b)) = some (.bool (!decide (a = b))) := by
  rw [nL_iL, nL_iL, Flt.int.list.dNe (by decide) _ _ (fun x z => by cases z)]
  congr 3
  exact decide_eq_decide.mpr ⟨cast_inj, fun e => by rw [e]⟩
theorem inD_int (i : Int) : ∀ cs : List Int, inD (.int i) (iL cs) = decide (i ∈ cs)
  | [] => rfl
  | c :: cs => by
    have ih := inD_int i cs
    unfold inD at ih ⊢
    show ((PyData.int c :: iL cs).any fun e => PyData.eqv e (PyData.int i)) = _
    rw [List.any_cons, ih, PyData.eqv]
    by_cases h1 : c = i
    · subst h1
      simp
    · have h2 : ¬ i = c := fun z => h1 z.symm
      simp [h1, h2]
theorem in_cast {k : Nat} {ps : LN} : ((k : Int) ∈ ps.map fun k : Nat => (k : Int)) ↔ k ∈ ps := ⟨fun h => by
  obtain ⟨a, h1, h2⟩ := List.mem_map.mp h
  rw [← Int.ofNat.inj h2]; exact h1, fun h => List.mem_map.mpr ⟨k, h, rfl⟩⟩
theorem inB_nL (k : Nat) (ps : LN) : inB (.int (k : Int)) (.list (nL ps)) = some (decide (k ∈ ps)) := by
  rw [nL_iL, inB_l rfl (by
    rw [List.all_eq_true]
    intro d hd
    obtain ⟨a, _, rfl⟩ := List.mem_map.mp hd
    rfl), inD_int]
  exact congrArg some (decide_eq_decide.mpr in_cast)
theorem dIn_nL (k : Nat) (ps : LN) : dIn (.int (k : Int)) (.list (nL ps)) = some (.bool (decide (k ∈ ps))) := by
  unfold dIn
  rw [inB_nL]
  rfl
theorem dNotIn_nL (k : Nat) (ps : LN) : dNotIn (.int (k : Int)) (.list (nL ps)) = some (.bool (!decide (k ∈ ps))) := by
  unfold dNotIn
  rw [inB_nL]
  rfl
theorem dInK_nL (k : Nat) (ps : LN) : dInK (.int (k : Int)) (.dict ((setI (ps.map fun k : Nat => (k : Int))).map prT)) = some (.bool (decide (k ∈ ps))) := by
  rw [dInK_setI]
  congr 2
  exact decide_eq_decide.mpr in_cast
theorem dNInK_nL (k : Nat) (ps : LN) : dNInK (.int (k : Int)) (.dict ((setI (ps.map fun k : Nat => (k : Int))).map prT)) = some (.bool (!decide (k ∈ ps))) := by
  rw [dNInK_setI]
  congr 3
  exact decide_eq_decide.mpr in_cast
theorem mDs_nL {mi : DS → Option (List D)} {gm : D → DS → Option DS} {mt : DS → Option Bool} {mk : DS → Option D} {vs : List Nat} {δ : DS} {ps : LN} (h : mLcI mi gm mt mk vs δ = some (nL ps)) : mDs mi gm mt mk vs δ = some (.dict ((setI (ps.map fun k : Nat => (k : Int))).map prT)) := mDs_of (by rw [h, nL_iL])
def FF.isWh : FF → Bool
  | .wh _ _ _ => true
  | _ => false
def whAt (fs : List FF) (k : Nat) : Bool := match fs[k]? with
  | some f => f.isWh
  | none => false
def conds (fs : List FF) : LN := (List.range fs.length).filter (whAt fs)
def opF (b : Bool) : FF → FF
  | .wh _ _ k => if b = true then .ex false [(k, 0)] else .amt (some 0)
  | .amt a => .amt a
  | .ex l arcs => .ex l arcs
def opn (fs : List FF) (ps : LN) : List FF := fs.mapIdx fun k f => opF (decide (k ∈ ps)) f
theorem opn_len (fs : List FF) (ps : LN) : (opn fs ps).length = fs.length := List.length_mapIdx
theorem opn_at (fs : List FF) (ps : LN) (k : Nat) : (opn fs ps)[k]? = fs[k]?.map (opF (decide (k ∈ ps))) := List.getElem?_mapIdx
theorem opF_ok {m : Nat} {A S : Int} {f : FF} (h : f.Ok m A S) (hA : 0 ≤ A) (hS : 0 ≤ S) (b : Bool) : (opF b f).Ok m A S := by
  cases f with
  | amt a => exact h
  | ex l arcs => exact h
  | wh j a k =>
    cases b with
    | true =>
      refine ⟨(fun z => by cases z), Nat.le_of_ble_eq_true rfl, fun p hp => ?_⟩
      rw [List.mem_singleton.mp hp]
      exact ⟨h.2.1, by show -S ≤ 0; omega, hS⟩
    | false =>
      intro n e
      cases e
      exact ⟨Int.le_refl _, hA⟩
theorem opF_pl (b : Bool) (f : FF) : (opF b f).Pl := by
  cases f with
  | amt a => trivial
  | ex l arcs => trivial
  | wh j a k => cases b <;> trivial
theorem opn_mem {fs : List FF} {ps : LN} {f : FF} (h : f ∈ opn fs ps) : ∃ k g, fs[k]? = some g ∧ f = opF (decide (k ∈ ps)) g := by
  obtain ⟨k, hk⟩ := List.mem_iff_getElem?.mp h
  rw [opn_at] at hk
  obtain ⟨g, h1, h2⟩ := Option.map_eq_some_iff.mp hk
  exact ⟨k, g, h1, h2.symm⟩
theorem opn_ok {m : Nat} {A S : Int} {fs : List FF} (h : ∀ f ∈ fs, f.Ok m A S) (hA : 0 ≤ A) (hS : 0 ≤ S) (ps : LN) : ∀ f ∈ opn fs ps, f.Ok m A S := fun f hf => by
  obtain ⟨k, g, h1, rfl⟩ := opn_mem hf
  exact opF_ok (h g (List.mem_of_getElem? h1)) hA hS _
theorem opn_pl (fs : List FF) (ps : LN) : ∀ f ∈ opn fs ps, f.Pl := fun f hf => by
  obtain ⟨k, g, h1, rfl⟩ := opn_mem hf
  exact opF_pl _ _
theorem eFF_word (f : FF) : ∃ w : Str, ∃ r, eFF f = .tuple (.str w :: r) ∧ decide (w = "when") = f.isWh := by
  cases f with
  | amt a => exact ⟨_, _, rfl, wn2⟩
  | wh j a k => exact ⟨_, _, rfl, rfl⟩
  | ex l arcs => exact ⟨_, _, rfl, wd_when l⟩
theorem fm_filter {α : Type} (q : α → Bool) : ∀ xs : List α, (xs.filterMap fun a => if q a = true then some a else none) = xs.filter q
  | [] => rfl
  | a :: r => by
    rw [List.filterMap_cons, List.filter_cons]
    cases q a with
    | true => simp [fm_filter q r]
    | false => simp [fm_filter q r]
theorem whAt_some {fs : List FF} {k : Nat} {f : FF} (h : fs[k]? = some f) : whAt fs k = f.isWh := by unfold whAt; rw [h]
theorem conds_mem {fs : List FF} {k : Nat} (h : k ∈ conds fs) : k < fs.length ∧ ∃ j a t, fs[k]? = some (.wh j a t) := by
  obtain ⟨h1, h2⟩ := List.mem_filter.mp h
  have hk := List.mem_range.mp h1
  refine ⟨hk, ?_⟩
  rw [whAt_some (List.getElem?_eq_getElem hk)] at h2
  cases hf : fs[k] with
  | amt a => rw [hf] at h2; cases h2
  | ex l arcs => rw [hf] at h2; cases h2
  | wh j a t => exact ⟨j, a, t, by rw [List.getElem?_eq_getElem hk, hf]⟩
theorem mem_conds {fs : List FF} {k : Nat} {j : Nat} {a : Int} {t : Nat} (h : fs[k]? = some (.wh j a t)) : k ∈ conds fs := by
  refine List.mem_filter.mpr ⟨List.mem_range.mpr (List.getElem?_eq_some_iff.mp h).1, ?_⟩
  rw [whAt_some h]
  rfl
theorem enum_ff (fs : List FF) : enumD 0 (fs.map eFF) = (List.range fs.length).map fun i : Nat => PyData.tuple [.int (i : Int), eFF (fs.getD i (.amt none))] := by
  apply List.ext_getElem?
  intro i
  rw [enumD_get, List.getElem?_map, List.getElem?_map]
  by_cases h : i < fs.length
  · rw [List.getElem?_eq_getElem h, List.getElem?_range h, Nat.zero_add]
    show _ = some (PyData.tuple [.int (i : Int), eFF (fs.getD i (.amt none))])
    rw [List.getD_eq_getElem?_getD, List.getElem?_eq_getElem h]
    rfl
  · rw [List.getElem?_eq_none (by omega), List.getElem?_eq_none (by rw [List.length_range]; omega)]
    rfl
theorem getD_at {fs : List FF} {i : Nat} {f : FF} (h : fs[i]? = some f) : fs.getD i (.amt none) = f := by rw [List.getD_eq_getElem?_getD, h]; rfl
theorem conds_ok {fs : List FF} (hl : fs.length ≤ 1000) : f_conditions_of [.list (fs.map eFF)] = some (.own (nL (conds fs))) := by
  unfold f_conditions_of
  refine fnD_rt rfl ?_
  show m_conditions_of (startD 3 [.list (fs.map eFF)]) = _
  rw [startD_1]
  dsimp only [List.replicate]
  refine retO_end ?_
  unfold conds
  rw [← fm_filter]
  refine lc_fm (as := List.range fs.length) (F := fun i : Nat => PyData.tuple [.int (i : Int), eFF (fs.getD i (.amt none))]) (fun i => if whAt fs i = true then some i else none) (G := fun k : Nat => PyData.int (k : Int)) ((mEnum_of (xs := fs.map eFF) rfl).trans (congrArg some (enum_ff fs))) (by rw [List.length_range]; omega) fun i hi => ?_
  have hi := List.mem_range.mp hi
  obtain ⟨w, r, e1, e2⟩ := eFF_word fs[i]
  rw [getD_at (List.getElem?_eq_getElem hi), whAt_some (List.getElem?_eq_getElem hi), e1, ← e2]
  by_cases hw : w = "when"
  · simp -implicitDefEqProofs [mLcF, c_conditions_of_1, hw]
  · simp -implicitDefEqProofs [mLcF, c_conditions_of_1, hw]
theorem lconds_ok {fs : List FF} (hl : fs.length ≤ 1000) : f__law_conditions [.list (fs.map eFF)] = some (.own (nL (conds fs))) := by
  unfold f__law_conditions
  refine fnD_rt rfl ?_
  show m__law_conditions (startD 2 [.list (fs.map eFF)]) = _
  rw [startD_1]
  dsimp only [List.replicate]
  refine retO_end ?_
  unfold conds
  rw [← fm_filter]
  refine lc_fm (as := List.range fs.length) (F := fun i : Nat => PyData.int (i : Int)) (fun i => if whAt fs i = true then some i else none) (G := fun k : Nat => PyData.int (k : Int)) (rng_nat (n := fs.length) (by simp -implicitDefEqProofs) (by omega)) (by rw [List.length_range]; omega) fun i hi => ?_
  have hi := List.mem_range.mp hi
  have ha := ff_at (List.getElem?_eq_getElem hi)
  obtain ⟨w, r, e1, e2⟩ := eFF_word fs[i]
  rw [whAt_some (List.getElem?_eq_getElem hi), ← e2]
  rw [e1] at ha
  by_cases hw : w = "when"
  · simp -implicitDefEqProofs [mLcF, c__law_conditions_1, hw, ha]
  · simp -implicitDefEqProofs [mLcF, c__law_conditions_1, hw, ha]
theorem dIn_wdT (l : Bool) : dIn (.str (wd l)) (.tuple [.str "least", .str "greatest"]) = some (.bool true) := by cases l <;> rfl
theorem dIn_amT : dIn (.str "amount") (.tuple [.str "least", .str "greatest"]) = some (.bool false) := rfl
theorem copied_ex (l : Bool) (arcs : List (Nat × Int)) : f_copied [eFF (.ex l arcs)] = some (.val (eFF (.ex l arcs))) := by
  unfold f_copied
  refine fnD_rt rfl ?_
  show m_copied (startD 1 [eFF (.ex l arcs)]) = _
  rw [startD_1]
  dsimp only [List.replicate]
  have g1 : atI [PyData.str (wd l), .list (arcs.map eArc)] 1 = some (.list (arcs.map eArc)) := rfl
  have hl : dListOf [.list (arcs.map eArc)] = some (arcs.map eArc) := rfl
  simp -implicitDefEqProofs [m_copied, eFF, dIn_wdT, g1, hl]
theorem copied_am (a : Option Int) : f_copied [eFF (.amt a)] = some (.val (eFF (.amt a))) := by
  unfold f_copied
  refine fnD_rt rfl ?_
  show m_copied (startD 1 [eFF (.amt a)]) = _
  rw [startD_1]
  dsimp only [List.replicate]
  simp -implicitDefEqProofs [m_copied, eFF, dIn_amT]
theorem opF_ok' (f : FF) (b : Bool) (hb : ∀ l arcs, f = .ex l arcs → arcs.length ≤ 1000) : f_opened_formula [eFF f, .bool b] = some (.val (eFF (opF b f))) := by
  unfold f_opened_formula
  refine fnD_rt rfl ?_
  show m_opened_formula (startD 2 [eFF f, .bool b]) = _
  rw [startD_2]
  dsimp only [List.replicate]
  unfold m_opened_formula
  cases f with
  | amt a =>
    refine chk_go (by simp -implicitDefEqProofs [eFF]) ?_
    exact retC_end rfl (copied_am a)
  | wh j a k =>
    have g3 : atI [PyData.str "when", .int (j : Int), .int a, .int (k : Int)] 3 = some (.int k) := rfl
    cases b <;> simp -implicitDefEqProofs [eFF, opF, wn1, g3, wd, eArc, mTru, truD]
  | ex l arcs =>
    refine chk_go (by simp -implicitDefEqProofs [eFF, wd_when]) ?_
    exact retC_end rfl (copied_ex l arcs)
theorem opened_ok {m : Nat} {A S : Int} {fs : List FF} (hl : fs.length ≤ 1000) (h : ∀ f ∈ fs, f.Ok m A S) {ps : LN} (hp : ps.length ≤ 1000) : f_opened [.list (fs.map eFF), .list (nL ps)] = some (.own ((opn fs ps).map eFF)) := by
  unfold f_opened
  refine fnD_rt rfl ?_
  show m_opened (startD 6 [.list (fs.map eFF), .list (nL ps)]) = _
  rw [startD_2]
  dsimp only [List.replicate]
  unfold m_opened
  refine asg_go (mDs_nL (ps := ps) ?_) ?_
  · exact lc_eq (F := fun k : Nat => PyData.int (k : Int)) (items_of rfl) (by omega) fun k _ => by simp -implicitDefEqProofs [mLcF, c_opened_1]
  dsimp only [List.set]
  refine retO_end ?_
  have e : (opn fs ps).map eFF = (List.range fs.length).map fun i : Nat => eFF (opF (decide (i ∈ ps)) (fs.getD i (.amt none))) := by
    apply List.ext_getElem?
    intro i
    rw [List.getElem?_map, List.getElem?_map, opn_at]
    by_cases h : i < fs.length
    · rw [List.getElem?_eq_getElem h, List.getElem?_range h]
      show _ = some (eFF (opF _ (fs.getD i (.amt none))))
      rw [getD_at (List.getElem?_eq_getElem h)]
      rfl
    · rw [List.getElem?_eq_none (by omega), List.getElem?_eq_none (by rw [List.length_range]; omega)]
      rfl
  rw [e]
  refine lc_eq (as := List.range fs.length) (F := fun i : Nat => PyData.tuple [.int (i : Int), eFF (fs.getD i (.amt none))]) ((mEnum_of (xs := fs.map eFF) rfl).trans (congrArg some (enum_ff fs))) (by rw [List.length_range]; omega) fun i hi => ?_
  have hi := List.mem_range.mp hi
  have hg := getD_at (List.getElem?_eq_getElem hi)
  have hf := opF_ok' (fs.getD i (.amt none)) (decide (i ∈ ps)) (fun l arcs e => by
    have := h _ (List.getElem_mem hi)
    rw [← hg, e] at this
    have := this.2.1
    omega)
  have hk := dInK_nL i ps
  rw [hg] at hf ⊢
  simp -implicitDefEqProofs [mLcF, c_opened_2, hk, hf]
theorem take_snoc {α : Type} {xs : List α} {i : Nat} {a : α} (h : xs[i]? = some a) : xs.take (i + 1) = xs.take i ++ [a] := by
  rw [List.take_add_one, h]
  rfl
theorem lopened_ok {m : Nat} {A S : Int} {fs : List FF} (hl : fs.length ≤ 1000) (h : ∀ f ∈ fs, f.Ok m A S) {ps : LN} : f__law_opened [.list (fs.map eFF), .list (nL ps)] = some (.own ((opn fs ps).map eFF)) := by
  have hloop : ∃ δ', mForL (gmName 3) b__law_opened_1 ((List.range fs.length).map fun k : Nat => PyData.int (k : Int)) [v (.list (fs.map eFF)), v (.list (nL ps)), some (.own []), none] = some (.nx δ') ∧ ∃ a3, δ' = [v (.list (fs.map eFF)), v (.list (nL ps)), some (.own (((opn fs ps).take (0 + ((List.range fs.length).map fun k : Nat => PyData.int (k : Int)).length)).map eFF)), a3] := by
    refine mForL_inv (fun i δ => ∃ a3, δ = [v (.list (fs.map eFF)), v (.list (nL ps)), some (.own (((opn fs ps).take i).map eFF)), a3]) _ 0 _ ⟨none, rfl⟩ fun i d δ hd hp => ?_
    obtain ⟨a3, rfl⟩ := hp
    obtain ⟨hi, rfl⟩ : i < fs.length ∧ d = .int (i : Int) := by
      rw [List.getElem?_map] at hd
      obtain ⟨j, h1, h2⟩ := Option.map_eq_some_iff.mp hd
      have := (List.getElem?_eq_some_iff.mp h1).1
      rw [List.length_range] at this
      rw [List.getElem?_range this] at h1
      cases h1
      exact ⟨this, h2.symm⟩
    rw [Nat.zero_add]
    have ho : (opn fs ps)[i]? = some (opF (decide (i ∈ ps)) fs[i]) := by rw [opn_at, List.getElem?_eq_getElem hi]; rfl
    have ha := ff_at (List.getElem?_eq_getElem hi)
    have hcap : (((opn fs ps).take i).map eFF).length ≤ cap := by
      rw [List.length_map, List.length_take]
      unfold cap
      omega
    have hap : ∀ (mm : DS → Option D), mm [v (.list (fs.map eFF)), v (.list (nL ps)), some (.own (((opn fs ps).take i).map eFF)), v (.int (i : Int))] = some (eFF (opF (decide (i ∈ ps)) fs[i])) → nApp 2 mm [v (.list (fs.map eFF)), v (.list (nL ps)), some (.own (((opn fs ps).take i).map eFF)), v (.int (i : Int))] = some (.nx [v (.list (fs.map eFF)), v (.list (nL ps)), some (.own (((opn fs ps).take (i + 1)).map eFF)), v (.int (i : Int))]) := fun mm e => by
      rw [app_end (ds := ((opn fs ps).take i).map eFF) rfl e hcap, take_snoc ho, List.map_append]
      rfl
    refine ⟨[v (.list (fs.map eFF)), v (.list (nL ps)), some (.own (((opn fs ps).take i).map eFF)), v (.int (i : Int))], rfl, _, .inl ?_, v (.int (i : Int)), rfl⟩
    unfold b__law_opened_1
    cases hf : fs[i] with
    | amt a =>
      rw [hf] at ha hap
      refine ifF_end ?_ (hap _ ?_)
      · simp -implicitDefEqProofs [ha, eFF, wn2]
      · simp -implicitDefEqProofs [ha, opF]
    | ex l arcs =>
      rw [hf] at ha hap
      refine ifF_end ?_ (hap _ ?_)
      · simp -implicitDefEqProofs [ha, eFF, wd_when]
      · simp -implicitDefEqProofs [ha, opF]
    | wh j a k =>
      rw [hf] at ha hap
      have g3 : atI [PyData.str "when", .int (j : Int), .int a, .int (k : Int)] 3 = some (.int k) := rfl
      have hin := dIn_nL i ps
      refine ifT_end ?_ (hap _ ?_)
      · simp -implicitDefEqProofs [ha, eFF]
      · by_cases hm : i ∈ ps
        · simp -implicitDefEqProofs [ha, eFF, g3, hin, hm, opF, wd, eArc]
          rfl
        · simp -implicitDefEqProofs [ha, eFF, g3, hin, hm, opF]
          rfl
  obtain ⟨δ', e, a3, rfl⟩ := hloop
  rw [Nat.zero_add, List.length_map, List.length_range, List.take_of_length_le (by rw [opn_len]; exact Nat.le_refl _)] at e
  unfold f__law_opened
  refine fnD_rt rfl ?_
  show m__law_opened (startD 4 [.list (fs.map eFF), .list (nL ps)]) = _
  rw [startD_2]
  dsimp only [List.replicate]
  unfold m__law_opened
  refine asgO_go (ds := []) rfl ?_
  dsimp only [List.set]
  refine for_go (rng_nat (n := fs.length) (by simp -implicitDefEqProofs) (by omega)) e ?_
  exact retX_end rfl
end Law
namespace Law
open PySem PySem.Spec PyProof.Rows L2 Dl
/-! papers -/
abbrev ST := LN × LA × LA × LA
def eSt (s : ST) : D := .tuple [.list (nL s.1), .list (aL s.2.1), .list (aL s.2.2.1), .list (aL s.2.2.2)]
abbrev eP (p : List ST) : List D := p.map eSt
def lenB (n : Nat) (s : ST) : Bool := decide (s.2.1.length = n) && (decide (s.2.2.1.length = n) && decide (s.2.2.2.length = n))
def missB (fs : List FF) (x : LA) (k : Nat) : Bool := match fs[k]? with
  | some (.wh j a _) => !leA (some a) (gA x j)
  | _ => true
def stepB (fs : List FF) (bp : LN) (bx : LA) (ps : LN) : Bool := decide (ps = bp.filter fun k => decide (k ∈ ps)) && (decide (ps.length < bp.length) && bp.all fun k => decide (k ∈ ps) || missB fs bx k)
def stB (fs : List FF) (s : ST) : Bool := lenB fs.length s && showsB (opn fs s.1) s.2.1 s.2.2.1 s.2.2.2
def preB (fs : List FF) (p : List ST) (i : Nat) (s : ST) : Bool := match i with
  | 0 => true
  | j + 1 => match p[j]? with
    | none => false
    | some b => stepB fs b.1 b.2.1 s.1
def qB (fs : List FF) (p : List ST) (i : Nat) : Bool := match p[i]? with
  | none => false
  | some s => stB fs s && preB fs p i s
def lastB (fs : List FF) (p : List ST) : Bool := match p[p.length - 1]? with
  | none => false
  | some s => decide (vals fs vF s.2.1 = s.2.1)
def rightB (fs : List FF) (p : List ST) : Bool := match p with
  | [] => false
  | s :: _ => decide (s.1 = conds fs) && ((List.range p.length).all (qB fs p) && lastB fs p)
theorem qB_some {fs : List FF} {p : List ST} {i : Nat} {s : ST} (h : p[i]? = some s) : qB fs p i = (stB fs s && preB fs p i s) := by unfold qB; rw [h]
theorem mForL_chkI {gm : D → DS → Option DS} {b : DS → Option Out} (Q : Nat → Bool) (St : Nat → DS → Prop) (r : DV) : ∀ (ds : List D) (k : Nat) (δ : DS), St k δ → (∀ j, j < k → Q j = true) →
    (∀ i d δ, ds[i]? = some d → (∀ j, j < k + i → Q j = true) → St (k + i) δ → ∃ δ1, gm d δ = some δ1 ∧ (Q (k + i) = false → b δ1 = some (.rt r)) ∧ (Q (k + i) = true → ∃ δ2, b δ1 = some (.nx δ2) ∧ St (k + i + 1) δ2)) →
    ((∀ i, i < ds.length → Q (k + i) = true) → ∃ δ', mForL gm b ds δ = some (.nx δ') ∧ St (k + ds.length) δ') ∧ ((∃ i, i < ds.length ∧ Q (k + i) = false) → mForL gm b ds δ = some (.rt r))
  | [], k, δ, h, _, _ => ⟨fun _ => ⟨δ, rfl, h⟩, fun ⟨i, h, _⟩ => absurd h (Nat.not_lt_zero _)⟩
  | d :: ds, k, δ, h, hq, hs => by
    obtain ⟨δ1, h1, h2, h3⟩ := hs 0 d δ rfl hq h
    rw [Nat.add_zero] at h2 h3
    rw [mForL_cons, h1]
    show (_ → ∃ δ', fr2 _ (b δ1) = _ ∧ _) ∧ (_ → fr2 _ (b δ1) = _)
    cases hk : Q k with
    | false =>
      rw [h2 hk]
      exact ⟨(fun e => by have := e 0 (Nat.zero_lt_succ _); rw [Nat.add_zero, hk] at this; cases this), fun _ => rfl⟩
    | true =>
      obtain ⟨δ2, e2, h4⟩ := h3 hk
      rw [e2, fr2_nx]
      have ih := mForL_chkI Q St r ds (k + 1) δ2 h4 (fun j hj => by
        by_cases e : j = k
        · rw [e]; exact hk
        · exact hq j (by omega)) fun i d' δ hd hj hp => by
          have e : k + 1 + i = k + (i + 1) := by omega
          rw [e] at hj hp ⊢
          exact hs (i + 1) d' δ hd hj hp
      refine ⟨fun e => ?_, fun ⟨i, hi, e⟩ => ?_⟩
      · obtain ⟨δ', q1, q2⟩ := ih.1 fun i hi => by
          have := e (i + 1) (Nat.succ_lt_succ hi)
          rw [show k + 1 + i = k + (i + 1) by omega]
          exact this
        refine ⟨δ', q1, ?_⟩
        rw [List.length_cons, show k + (ds.length + 1) = k + 1 + ds.length by omega]
        exact q2
      · cases i with
        | zero => rw [Nat.add_zero, hk] at e; cases e
        | succ i => exact ih.2 ⟨i, Nat.lt_of_succ_lt_succ hi, by rw [show k + 1 + i = k + (i + 1) by omega]; exact e⟩
/-- the loop of all places, from 0 -/
theorem mForL_chk0 {gm : D → DS → Option DS} {b : DS → Option Out} (Q : Nat → Bool) (St : DS → Prop) (r : DV) (ds : List D) (δ : DS) (h : St δ)
    (hs : ∀ i d δ, ds[i]? = some d → (∀ j, j < i → Q j = true) → St δ → ∃ δ1, gm d δ = some δ1 ∧ (Q i = false → b δ1 = some (.rt r)) ∧ (Q i = true → ∃ δ2, b δ1 = some (.nx δ2) ∧ St δ2)) :
    ((List.range ds.length).all Q = true → ∃ δ', mForL gm b ds δ = some (.nx δ') ∧ St δ') ∧ ((List.range ds.length).all Q = false → mForL gm b ds δ = some (.rt r)) := by
  have q := mForL_chkI Q (fun _ δ => St δ) r ds 0 δ h (fun j hj => absurd hj (Nat.not_lt_zero _)) fun i d δ hd hj hp => by
    rw [Nat.zero_add] at hj ⊢
    exact hs i d δ hd hj hp
  refine ⟨fun e => q.1 fun i hi => ?_, fun e => q.2 ?_⟩
  · rw [Nat.zero_add]
    exact List.all_eq_true.mp e i (List.mem_range.mpr hi)
  · obtain ⟨i, hi, hq⟩ := List.all_eq_false.mp e
    exact ⟨i, List.mem_range.mp hi, by rw [Nat.zero_add]; exact Bool.eq_false_iff.mpr hq⟩
/-- what has gone before leaves conditions alone -/
theorem places_in {fs : List FF} {p : List ST} {s0 : ST} (h0 : p[0]? = some s0) (hc : s0.1 = conds fs) : ∀ (i : Nat) (s : ST), p[i]? = some s → (∀ j, j ≤ i → qB fs p j = true) → ∀ k ∈ s.1, k ∈ conds fs
  | 0, s, hs, _, k, hk => by
    rw [h0] at hs
    cases hs
    rw [← hc]
    exact hk
  | i + 1, s, hs, hq, k, hk => by
    have q := hq (i + 1) (Nat.le_refl _)
    rw [qB_some hs, Bool.and_eq_true] at q
    have q2 := q.2
    unfold preB at q2
    cases hb : p[i]? with
    | none => simp only [hb] at q2; cases q2
    | some b =>
      simp only [hb] at q2
      unfold stepB at q2
      rw [Bool.and_eq_true] at q2
      have e := of_decide_eq_true q2.1
      rw [e] at hk
      exact places_in h0 hc i b hb (fun j hj => hq j (Nat.le_succ_of_le hj)) k (List.mem_filter.mp hk).1
theorem len_of_q {fs : List FF} {p : List ST} {i : Nat} {s : ST} (h : p[i]? = some s) (hq : qB fs p i = true) : s.2.1.length = fs.length := by
  rw [qB_some h, Bool.and_eq_true] at hq
  have q := hq.1
  unfold stB lenB at q
  rw [Bool.and_eq_true, Bool.and_eq_true] at q
  exact of_decide_eq_true q.1.1
theorem wh_at {fs : List FF} {k : Nat} {j : Nat} {a : Int} {t : Nat} (h : fs[k]? = some (.wh j a t)) : atI (fs.map eFF) (k : Int) = some (.tuple [.str "when", .int (j : Int), .int a, .int (t : Int)]) := ff_at h
theorem filter_all' {α : Type} [DecidableEq α] (q : α → Bool) (xs : List α) : decide (xs.filter q = xs) = xs.all q := by
  cases h : xs.all q with
  | true => exact decide_eq_true (List.filter_eq_self.mpr (List.all_eq_true.mp h))
  | false =>
    refine decide_eq_false fun e => ?_
    obtain ⟨a, ha, hq⟩ := List.all_eq_false.mp h
    exact hq (List.filter_eq_self.mp e a ha)
theorem missed_ok {m : Nat} {A S : Int} {fs : List FF} (h : ∀ f ∈ fs, f.Ok m A S) {cs : LN} (hc : ∀ k ∈ cs, k ∈ conds fs) (hl : cs.length ≤ 1000) {x : LA} (hx : x.length = m) : f_missed_conditions [.list (fs.map eFF), .list (nL cs), .list (aL x)] = some (.own (nL (cs.filter (missB fs x)))) := by
  unfold f_missed_conditions
  refine fnD_rt rfl ?_
  show m_missed_conditions (startD 4 [.list (fs.map eFF), .list (nL cs), .list (aL x)]) = _
  rw [startD_3]
  dsimp only [List.replicate]
  refine retO_end ?_
  rw [← fm_filter]
  refine lc_fm (as := cs) (F := fun k : Nat => PyData.int (k : Int)) (fun k => if missB fs x k = true then some k else none) (G := fun k : Nat => PyData.int (k : Int)) (items_of rfl) (by omega) fun k hk => ?_
  obtain ⟨_, j, a, t, hf⟩ := conds_mem (hc k hk)
  have g0 := wh_at hf
  have g1 : atI [PyData.str "when", .int (j : Int), .int a, .int (t : Int)] 1 = some (.int j) := rfl
  have g2 : atI [PyData.str "when", .int (j : Int), .int a, .int (t : Int)] 2 = some (.int a) := rfl
  have ho := h _ (List.mem_of_getElem? hf)
  have x1 := gA_at (xs := x) (i := j) (by rw [hx]; exact ho.1)
  have ha : f_at_most [.int a, eA (gA x j)] = some (.val (.bool (leA (some a) (gA x j)))) := at_most_ok (some a) (gA x j)
  have hm : missB fs x k = !leA (some a) (gA x j) := by unfold missB; rw [hf]
  rw [hm]
  cases hb : leA (some a) (gA x j) <;> rw [hb] at ha <;> simp -implicitDefEqProofs [mLcF, c_missed_conditions_1, g0, g1, g2, x1, ha]
theorem closes_ok {m : Nat} {A S : Int} {fs : List FF} (h : ∀ f ∈ fs, f.Ok m A S) {bp ps : LN} {bx b2 b3 : LA} (hc : ∀ k ∈ bp, k ∈ conds fs) (hl : bp.length ≤ 1000) (hl2 : ps.length ≤ 1000) (hx : bx.length = m) :
    f_closes_more [.list (fs.map eFF), eSt (bp, bx, b2, b3), .list (nL ps)] = some (.val (.bool (stepB fs bp bx ps))) := by
  unfold f_closes_more
  refine fnD_rt rfl ?_
  show m_closes_more (startD 6 [.list (fs.map eFF), eSt (bp, bx, b2, b3), .list (nL ps)]) = _
  rw [startD_3]
  dsimp only [List.replicate]
  unfold m_closes_more
  refine asg_go (mDs_nL (ps := ps) ?_) ?_
  · exact lc_eq (F := fun k : Nat => PyData.int (k : Int)) (items_of rfl) (by omega) fun k _ => by simp -implicitDefEqProofs [mLcF, c_closes_more_1]
  dsimp only [List.set]
  have e0 : atI [PyData.list (nL bp), .list (aL bx), .list (aL b2), .list (aL b3)] 0 = some (.list (nL bp)) := rfl
  have e1 : atI [PyData.list (nL bp), .list (aL bx), .list (aL b2), .list (aL b3)] 1 = some (.list (aL bx)) := rfl
  have hin : ∀ a4 : Option DV, mLcI (mItems (m2 dIx (mVar 1) (mC (.int 0)))) (gmName 5) (mB (m2 dInK (mVar 5) (mVar 3))) c_closes_more_1 [5] [v (.list (fs.map eFF)), v (eSt (bp, bx, b2, b3)), v (.list (nL ps)), v (.dict ((setI (ps.map fun k : Nat => (k : Int))).map prT)), a4, none] = some (nL (bp.filter fun k => decide (k ∈ ps))) := fun a4 => by
    rw [← fm_filter]
    refine lc_fm (as := bp) (F := fun k : Nat => PyData.int (k : Int)) (fun k => if decide (k ∈ ps) = true then some k else none) (G := fun k : Nat => PyData.int (k : Int)) (items_of (by simp -implicitDefEqProofs [eSt, e0])) (by omega) fun k hk => ?_
    have hd := dInK_nL k ps
    by_cases hm : k ∈ ps <;> simp -implicitDefEqProofs [mLcF, c_closes_more_1, hd, hm]
  have hout : mLcI (mItems (m2 dIx (mVar 1) (mC (.int 0)))) (gmName 5) (mB (m2 dNInK (mVar 5) (mVar 3))) c_closes_more_1 [5] [v (.list (fs.map eFF)), v (eSt (bp, bx, b2, b3)), v (.list (nL ps)), v (.dict ((setI (ps.map fun k : Nat => (k : Int))).map prT)), none, none] = some (nL (bp.filter fun k => !decide (k ∈ ps))) := by
    rw [← fm_filter]
    refine lc_fm (as := bp) (F := fun k : Nat => PyData.int (k : Int)) (fun k => if (!decide (k ∈ ps)) = true then some k else none) (G := fun k : Nat => PyData.int (k : Int)) (items_of (by simp -implicitDefEqProofs [eSt, e0])) (by omega) fun k hk => ?_
    have hd := dNInK_nL k ps
    by_cases hm : k ∈ ps <;> simp -implicitDefEqProofs [mLcF, c_closes_more_1, hd, hm]
  have hq := lst_of (hin none)
  have hne := dNe_nL ps (bp.filter fun k => decide (k ∈ ps))
  have hle : (bp.filter fun k => decide (k ∈ ps)).length ≤ bp.length := List.length_filter_le _ _
  unfold stepB
  by_cases c1 : ps = bp.filter fun k => decide (k ∈ ps)
  · rw [decide_eq_true c1] at hne ⊢
    by_cases c2 : ps.length < bp.length
    · refine chk_go ?_ ?_
      · rw [mOrT_e, mB_e, m2_e, hq]
        have : ¬ ((ps.length : Int) = (bp.length : Int)) := by omega
        simp -implicitDefEqProofs [hne, eSt, e0, this]
      refine asg_go (lst_of hout) ?_
      dsimp only [List.set]
      have hm := missed_ok h (cs := bp.filter fun k => !decide (k ∈ ps)) (fun k hk => hc k (List.mem_filter.mp hk).1) (Nat.le_trans (List.length_filter_le _ _) hl) hx
      refine ret_end ?_
      have hall : (bp.filter fun k => !decide (k ∈ ps)).all (missB fs bx) = bp.all fun k => decide (k ∈ ps) || missB fs bx k := by
        rw [List.all_filter]
        congr 1
        funext k
        cases decide (k ∈ ps) <;> rfl
      have he := dEq_nL ((bp.filter fun k => !decide (k ∈ ps)).filter (missB fs bx)) (bp.filter fun k => !decide (k ∈ ps))
      rw [filter_all', hall] at he
      simp -implicitDefEqProofs only [m2_e, mCallF_e, mCons_e, mNil_e, mVar_0, mVar_s, mC_e, Option.bind_some, eSt, dIx_t, e1, hm, he, Option.map_some, data_own, decide_eq_true c2, Bool.true_and]
    · have c3 : ¬ (ps.length < bp.length) := c2
      rw [← c1] at hle
      have c4 : (ps.length : Int) = (bp.length : Int) := by omega
      refine ret_go (r := .val (.bool false)) (ifT_end ?_ rfl) ?_
      · rw [mOrT_e, mB_e, m2_e, hq]
        simp -implicitDefEqProofs [hne, eSt, e0, c4]
      · rw [decide_eq_false c3]
        rfl
  · rw [decide_eq_false c1] at hne ⊢
    refine ret_go (r := .val (.bool false)) (ifT_end ?_ rfl) rfl
    rw [mOrT_e, mB_e, m2_e, hq]
    simp -implicitDefEqProofs [hne]
end Law
namespace Law
open PySem PySem.Spec PyProof.Rows L2 Dl
/-! are papers right -/
theorem atI_last {α : Type} {xs : List α} {a : α} (h : xs[xs.length - 1]? = some a) : atI xs (-1) = some a := by
  have hn : 0 < xs.length := by
    cases xs with
    | nil => cases h
    | cons _ _ => exact Nat.succ_pos _
  unfold atI ixN
  rw [if_neg (by decide), if_pos (by omega)]
  show xs[(-1 + (xs.length : Int)).toNat]? = _
  rw [show (-1 + (xs.length : Int)).toNat = xs.length - 1 by omega]
  exact h
theorem shows_len {fs : List FF} {s : ST} (h : lenB fs.length s = false) : f_shows_greatest [.list (fs.map eFF), .list (aL s.2.1), .list (aL s.2.2.1), .list (aL s.2.2.2)] = some (.val (.bool false)) := by
  unfold f_shows_greatest
  refine fnD_rt rfl ?_
  show m_shows_greatest (startD 7 [.list (fs.map eFF), .list (aL s.2.1), .list (aL s.2.2.1), .list (aL s.2.2.2)]) = _
  rw [startD_4]
  dsimp only [List.replicate]
  unfold m_shows_greatest
  refine ret_go (r := .val (.bool false)) (ifT_end ?_ rfl) rfl
  unfold lenB at h
  by_cases h1 : s.2.1.length = fs.length
  · by_cases h2 : s.2.2.1.length = fs.length
    · by_cases h3 : s.2.2.2.length = fs.length
      · simp [h1, h2, h3] at h
      · simp -implicitDefEqProofs [h1, h2, h3]
        omega
    · simp -implicitDefEqProofs [h1, h2]
      omega
  · simp -implicitDefEqProofs [h1]
    omega
section
variable {A S : Int} {fs : List FF}
theorem pshow_ok (hl : fs.length ≤ 1000) (h : ∀ f ∈ fs, f.Ok fs.length A S) (hA : 0 ≤ A) (hS : 0 ≤ S) (s : ST) : f_shows_greatest [.list ((opn fs s.1).map eFF), .list (aL s.2.1), .list (aL s.2.2.1), .list (aL s.2.2.2)] = some (.val (.bool (stB fs s))) := by
  unfold stB
  cases hb : lenB fs.length s with
  | false =>
    rw [shows_len (by rw [opn_len]; exact hb)]
    rfl
  | true =>
    have hb' := hb
    unfold lenB at hb'
    rw [Bool.and_eq_true, Bool.and_eq_true] at hb'
    have q := shows_ok (fs := opn fs s.1) (by rw [opn_len]; exact hl) (by rw [opn_len]; exact opn_ok h hA hS s.1) (opn_pl fs s.1) (by rw [opn_len]; exact of_decide_eq_true hb'.1) (by rw [opn_len]; exact of_decide_eq_true hb'.2.1) (by rw [opn_len]; exact of_decide_eq_true hb'.2.2)
    rw [q]
    rfl
theorem lshow_ok' (hl : fs.length ≤ 1000) (h : ∀ f ∈ fs, f.Ok fs.length A S) (hA : 0 ≤ A) (hS : 0 ≤ S) (s : ST) (hb : lenB fs.length s = true) : f__law_shows [.list ((opn fs s.1).map eFF), .list (aL s.2.1), .list (aL s.2.2.1), .list (aL s.2.2.2)] = some (.val (.bool (showsB (opn fs s.1) s.2.1 s.2.2.1 s.2.2.2))) := by
  have hb' := hb
  unfold lenB at hb'
  rw [Bool.and_eq_true, Bool.and_eq_true] at hb'
  exact lshows_ok (fs := opn fs s.1) (by rw [opn_len]; exact hl) (by rw [opn_len]; exact opn_ok h hA hS s.1) (opn_pl fs s.1) (by rw [opn_len]; exact of_decide_eq_true hb'.1) (by rw [opn_len]; exact of_decide_eq_true hb'.2.1) (by rw [opn_len]; exact of_decide_eq_true hb'.2.2)
theorem pp_at {p : List ST} {i : Nat} {s : ST} (h : p[i]? = some s) : atI (eP p) (i : Int) = some (eSt s) := atI_nat (by rw [List.getElem?_map, h]; rfl)
theorem enum_P (p : List ST) : enumD 0 (eP p) = (List.range p.length).map fun i : Nat => PyData.tuple [.int (i : Int), eSt (p.getD i ([], [], [], []))] := by
  apply List.ext_getElem?
  intro i
  rw [enumD_get, List.getElem?_map, List.getElem?_map]
  by_cases h : i < p.length
  · rw [List.getElem?_eq_getElem h, List.getElem?_range h, Nat.zero_add, ]
    show _ = some (PyData.tuple [.int (i : Int), eSt (p.getD i ([], [], [], []))])
    rw [List.getD_eq_getElem?_getD, List.getElem?_eq_getElem h]
    rfl
  · rw [List.getElem?_eq_none (by omega), List.getElem?_eq_none (by rw [List.length_range]; omega)]
    rfl
theorem pre_zero {p : List ST} {s : ST} : preB fs p 0 s = true := rfl
theorem pre_succ {p : List ST} {i : Nat} {b s : ST} (h : p[i]? = some b) : preB fs p (i + 1) s = stepB fs b.1 b.2.1 s.1 := by
  show (match p[i]? with | none => false | some b => stepB fs b.1 b.2.1 s.1) = _
  rw [h]
theorem isgp_ok (hl : fs.length ≤ 1000) (h : ∀ f ∈ fs, f.Ok fs.length A S) (hA : 0 ≤ A) (hS : 0 ≤ S) {p : List ST} (hpl : ∀ s ∈ p, s.1.length ≤ 1000) : f_is_greatest_paper [.list (fs.map eFF), .list (eP p)] = some (.val (.bool (rightB fs p))) := by
  unfold f_is_greatest_paper
  refine fnD_rt rfl ?_
  show m_is_greatest_paper (startD 7 [.list (fs.map eFF), .list (eP p)]) = _
  rw [startD_2]
  dsimp only [List.replicate]
  unfold m_is_greatest_paper
  cases p with
  | nil =>
    refine ret_go (r := .val (.bool false)) (ifT_end ?_ rfl) rfl
    have : truD (.list []) = some false := rfl
    simp -implicitDefEqProofs [toTru, this]
  | cons s0 rest =>
    generalize hp : s0 :: rest = p at hpl
    have h0 : p[0]? = some s0 := by rw [← hp]; rfl
    have hr : rightB fs p = (decide (s0.1 = conds fs) && ((List.range p.length).all (qB fs p) && lastB fs p)) := by rw [← hp]; rfl
    have ht : truD (.list (eP p)) = some true := by rw [← hp]; rfl
    have hc := conds_ok (fs := fs) hl
    have p0 : atI (eP p) 0 = some (eSt s0) := pp_at h0
    have e0 : ∀ s : ST, atI [PyData.list (nL s.1), .list (aL s.2.1), .list (aL s.2.2.1), .list (aL s.2.2.2)] 0 = some (.list (nL s.1)) := fun s => rfl
    have e1 : ∀ s : ST, atI [PyData.list (nL s.1), .list (aL s.2.1), .list (aL s.2.2.1), .list (aL s.2.2.2)] 1 = some (.list (aL s.2.1)) := fun s => rfl
    have hne := dNe_nL s0.1 (conds fs)
    rw [hr]
    have hcnd : mOrT (mNotT (mTru (mVar 1))) (mB (m2 dNe (m2 dIx (m2 dIx (mVar 1) (mC (.int 0))) (mC (.int 0))) (mCallF (mCons (mVar 0) mNil) f_conditions_of))) [v (.list (fs.map eFF)), v (.list (eP p)), none, none, none, none, none] = some (!decide (s0.1 = conds fs)) := by
      simp -implicitDefEqProofs [toTru, ht, p0, eSt, e0, hc, hne]
    by_cases c0 : s0.1 = conds fs
    · rw [decide_eq_true c0] at hcnd ⊢
      refine chk_go hcnd ?_
      have hloop := mForL_chk0 (gm := gmNest 2 (gmQuad 3 4 5 6)) (b := b_is_greatest_paper_1) (qB fs p) (fun δ => ∃ a2 a3 a4 a5 a6 : Option DV, δ = [v (.list (fs.map eFF)), v (.list (eP p)), a2, a3, a4, a5, a6]) (.val (.bool false)) (enumD 0 (eP p)) [v (.list (fs.map eFF)), v (.list (eP p)), none, none, none, none, none] ⟨_, _, _, _, _, rfl⟩ fun i d δ hd hj hst => by
        obtain ⟨a2, a3, a4, a5, a6, rfl⟩ := hst
        rw [enum_P, List.getElem?_map] at hd
        obtain ⟨i', hi1, rfl⟩ := Option.map_eq_some_iff.mp hd
        have hi := (List.getElem?_eq_some_iff.mp hi1).1
        rw [List.length_range] at hi
        rw [List.getElem?_range hi] at hi1
        cases hi1
        have hs : p[i]? = some p[i] := List.getElem?_eq_getElem hi
        have hgd : p.getD i ([], [], [], []) = p[i] := by rw [List.getD_eq_getElem?_getD, hs]; rfl
        rw [hgd]
        have hsl := hpl _ (List.getElem_mem hi)
        generalize p[i] = s at hs hsl
        have hop := opened_ok (ps := s.1) hl h hsl
        have hsh := pshow_ok hl h hA hS s
        rw [qB_some hs]
        refine ⟨[v (.list (fs.map eFF)), v (.list (eP p)), v (.int (i : Int)), v (.list (nL s.1)), v (.list (aL s.2.1)), v (.list (aL s.2.2.1)), v (.list (aL s.2.2.2))], rfl, ?_⟩
        have hpre : mAndT (mB (m2 dGt (mVar 2) (mC (.int 0)))) (mNotT (mB (mCallF (mCons (mVar 0) (mCons (m2 dIx (mVar 1) (m2 dSub (mVar 2) (mC (.int 1)))) (mCons (mVar 3) mNil))) f_closes_more))) [v (.list (fs.map eFF)), v (.list (eP p)), v (.int (i : Int)), v (.list (nL s.1)), v (.list (aL s.2.1)), v (.list (aL s.2.2.1)), v (.list (aL s.2.2.2))] = some (!preB fs p i s) := by
          cases i with
          | zero => simp -implicitDefEqProofs [pre_zero]
          | succ j =>
            have hb : p[j]? = some p[j] := List.getElem?_eq_getElem (by omega)
            have hbl := hpl _ (List.getElem_mem (show j < p.length by omega))
            have hbin := places_in h0 c0 j p[j] hb fun i hi => hj i (by omega)
            have hbx := len_of_q hb (hj j (by omega))
            rw [pre_succ hb]
            have hat := pp_at hb
            generalize p[j] = b at hb hbl hbin hbx hat
            have hcl := closes_ok (b2 := b.2.2.1) (b3 := b.2.2.2) h (bp := b.1) (ps := s.1) (bx := b.2.1) hbin hbl hsl hbx
            have hcl' : f_closes_more [.list (fs.map eFF), eSt b, .list (nL s.1)] = some (.val (.bool (stepB fs b.1 b.2.1 s.1))) := hcl
            have hsub : ((j + 1 : Nat) : Int) - 1 = (j : Int) := by omega
            have hgt : decide ((0 : Int) < ((j + 1 : Nat) : Int)) = true := decide_eq_true (by omega)
            simp -implicitDefEqProofs only [mAndT_e, mNotT_e, mB_e, m2_e, mC_e, mCallF_e, mCons_e, mNil_e, mVar_0, mVar_s, Option.bind_some, Option.map_some, dGt_i, hgt, toB_some, dSub_i, hsub, dIx_l, hat, hcl', data_val, if_true]
        have hshow : mNotT (mB (mCallF (mCons (mCallF (mCons (mVar 0) (mCons (mVar 3) mNil)) f_opened) (mCons (mVar 4) (mCons (mVar 5) (mCons (mVar 6) mNil)))) f_shows_greatest)) [v (.list (fs.map eFF)), v (.list (eP p)), v (.int (i : Int)), v (.list (nL s.1)), v (.list (aL s.2.1)), v (.list (aL s.2.2.1)), v (.list (aL s.2.2.2))] = some (!stB fs s) := by
          simp -implicitDefEqProofs only [mNotT_e, mB_e, mCallF_e, mCons_e, mNil_e, mVar_0, mVar_s, Option.bind_some, Option.map_some, hop, hsh, data_own, data_val, toB_some]
        constructor
        · intro hq
          unfold b_is_greatest_paper_1
          by_cases c1 : preB fs p i s = true
          · rw [c1] at hpre
            rw [c1, Bool.and_true] at hq
            rw [hq] at hshow
            exact chk_go hpre (ifT_end hshow rfl)
          · rw [Bool.eq_false_iff.mpr c1] at hpre
            exact ret_go (r := .val (.bool false)) (ifT_end hpre rfl) rfl
        · intro hq
          rw [Bool.and_eq_true] at hq
          rw [hq.2] at hpre
          rw [hq.1] at hshow
          exact ⟨_, by unfold b_is_greatest_paper_1; exact chk_go hpre (ifF_end hshow rfl), _, _, _, _, _, rfl⟩
      rw [enumD_len, List.length_map] at hloop
      by_cases c1 : (List.range p.length).all (qB fs p) = true
      · obtain ⟨δ', e, a2, a3, a4, a5, a6, rfl⟩ := hloop.1 c1
        rw [c1]
        refine for_go (mEnum_of (xs := eP p) rfl) e ?_
        have hpn : 0 < p.length := by rw [← hp]; exact Nat.succ_pos _
        have hs : p[p.length - 1]? = some p[p.length - 1] := List.getElem?_eq_getElem (by omega)
        have hq := List.all_eq_true.mp c1 (p.length - 1) (List.mem_range.mpr (by omega))
        have hx := len_of_q hs hq
        have hla : lastB fs p = decide (vals fs vF p[p.length - 1].2.1 = p[p.length - 1].2.1) := by unfold lastB; rw [hs]
        rw [hla]
        generalize p[p.length - 1] = s at hs hx
        have hat : atI (eP p) (-1) = some (eSt s) := atI_last (by rw [List.length_map, List.getElem?_map, hs]; rfl)
        refine retC_end (ds := [.list (fs.map eFF), .list (aL s.2.1)]) ?_ (sol_ok hl h hx)
        have hneg : dNeg (.int 1) = some (.int (-1)) := rfl
        simp -implicitDefEqProofs only [mCons_e, mNil_e, mVar_0, mVar_s, m2_e, m1_e, mC_e, Option.bind_some, Option.map_some, hneg, dIx_l, hat, eSt, dIx_t, e1]
      · rw [Bool.eq_false_iff.mpr c1]
        refine ret_go (r := .val (.bool false)) ?_ rfl
        rw [nFor_e, mEnum_of (xs := eP p) rfl]
        exact hloop.2 (Bool.eq_false_iff.mpr c1)
    · rw [decide_eq_false c0] at hcnd ⊢
      exact ret_go (r := .val (.bool false)) (ifT_end hcnd rfl) rfl
end
end Law
namespace Law
open PySem PySem.Spec PyProof.Rows L2 Dl
/-! the law's look at papers -/
section
variable {A S : Int} {fs : List FF}
theorem lens3 {n : Nat} {s : ST} : decide ([(s.2.1.length : Int), (s.2.2.1.length : Int), (s.2.2.2.length : Int)] = [(n : Int), (n : Int), (n : Int)]) = lenB n s := by
  unfold lenB
  by_cases h1 : s.2.1.length = n
  · by_cases h2 : s.2.2.1.length = n
    · by_cases h3 : s.2.2.2.length = n
      · simp [h1, h2, h3]
      · have : ¬ ((s.2.2.2.length : Int) = (n : Int)) := by omega
        simp [h1, h2, h3, this]
    · have : ¬ ((s.2.2.1.length : Int) = (n : Int)) := by omega
      simp [h1, h2, this]
  · have : ¬ ((s.2.1.length : Int) = (n : Int)) := by omega
    simp [h1, this]
theorem lright_ok (hl : fs.length ≤ 1000) (h : ∀ f ∈ fs, f.Ok fs.length A S) (hA : 0 ≤ A) (hS : 0 ≤ S) {p : List ST} (hpl : ∀ s ∈ p, s.1.length ≤ 1000) (hpp : p.length ≤ 1000) : f__law_right [.list (fs.map eFF), .list (eP p)] = some (.val (.bool (rightB fs p))) := by
  unfold f__law_right
  refine fnD_rt rfl ?_
  show m__law_right (startD 11 [.list (fs.map eFF), .list (eP p)]) = _
  rw [startD_2]
  dsimp only [List.replicate]
  unfold m__law_right
  cases p with
  | nil => exact ret_go (r := .val (.bool false)) (ifT_end (by simp -implicitDefEqProofs) rfl) rfl
  | cons s0 rest =>
    generalize hp : s0 :: rest = p at hpl hpp
    have h0 : p[0]? = some s0 := by rw [← hp]; rfl
    have hr : rightB fs p = (decide (s0.1 = conds fs) && ((List.range p.length).all (qB fs p) && lastB fs p)) := by rw [← hp]; rfl
    have hpn : 0 < p.length := by rw [← hp]; exact Nat.succ_pos _
    have hc := lconds_ok (fs := fs) hl
    have p0 : atI (eP p) 0 = some (eSt s0) := pp_at h0
    have e0 : ∀ s : ST, atI [PyData.list (nL s.1), .list (aL s.2.1), .list (aL s.2.2.1), .list (aL s.2.2.2)] 0 = some (.list (nL s.1)) := fun s => rfl
    have e1 : ∀ s : ST, atI [PyData.list (nL s.1), .list (aL s.2.1), .list (aL s.2.2.1), .list (aL s.2.2.2)] 1 = some (.list (aL s.2.1)) := fun s => rfl
    have hne := dNe_nL s0.1 (conds fs)
    rw [hr]
    have hcnd : mOrT (mB (m2 dEq (mCall (mCons (mVar 1) mNil) dLen) (mC (.int 0)))) (mB (m2 dNe (m2 dIx (m2 dIx (mVar 1) (mC (.int 0))) (mC (.int 0))) (mCallF (mCons (mVar 0) mNil) f__law_conditions))) [v (.list (fs.map eFF)), v (.list (eP p)), none, none, none, none, none, none, none, none, none] = some (!decide (s0.1 = conds fs)) := by
      have : ¬ p = [] := fun z => by rw [z] at hpn; exact absurd hpn (Nat.lt_irrefl 0)
      simp -implicitDefEqProofs [this, p0, eSt, e0, hc, hne]
    by_cases c0 : s0.1 = conds fs
    · rw [decide_eq_true c0] at hcnd ⊢
      refine chk_go hcnd ?_
      have hloop := mForL_chk0 (gm := gmName 2) (b := b__law_right_2) (qB fs p) (fun δ => ∃ a2 a3 a4 a5 a6 a7 a8 a9 a10 : Option DV, δ = [v (.list (fs.map eFF)), v (.list (eP p)), a2, a3, a4, a5, a6, a7, a8, a9, a10]) (.val (.bool false)) ((List.range p.length).map fun k : Nat => PyData.int (k : Int)) [v (.list (fs.map eFF)), v (.list (eP p)), none, none, none, none, none, none, none, none, none] ⟨_, _, _, _, _, _, _, _, _, rfl⟩ fun i d δ hd hj hst => by
        obtain ⟨a2, a3, a4, a5, a6, a7, a8, a9, a10, rfl⟩ := hst
        rw [List.getElem?_map] at hd
        obtain ⟨i', hi1, rfl⟩ := Option.map_eq_some_iff.mp hd
        have hi := (List.getElem?_eq_some_iff.mp hi1).1
        rw [List.length_range] at hi
        rw [List.getElem?_range hi] at hi1
        cases hi1
        have hs : p[i]? = some p[i] := List.getElem?_eq_getElem hi
        have hsl := hpl _ (List.getElem_mem hi)
        generalize p[i] = s at hs hsl
        have hat := pp_at hs
        have hop := lopened_ok (ps := s.1) hl h
        rw [qB_some hs]
        refine ⟨[v (.list (fs.map eFF)), v (.list (eP p)), v (.int (i : Int)), a3, a4, a5, a6, a7, a8, a9, a10], rfl, ?_⟩
        have hlen : mB (m2 dNe (mLst (mLcI (mItems (mLst (mCons (mVar 4) (mCons (mVar 5) (mCons (mVar 6) mNil))))) (gmName 10) mYes c__law_right_1 [10])) (mLst (mCons (mCall (mCons (mVar 0) mNil) dLen) (mCons (mCall (mCons (mVar 0) mNil) dLen) (mCons (mCall (mCons (mVar 0) mNil) dLen) mNil))))) [v (.list (fs.map eFF)), v (.list (eP p)), v (.int (i : Int)), v (.list (nL s.1)), v (.list (aL s.2.1)), v (.list (aL s.2.2.1)), v (.list (aL s.2.2.2)), a7, a8, a9, a10] = some (!lenB fs.length s) := by
          have hlc : mLcI (mItems (mLst (mCons (mVar 4) (mCons (mVar 5) (mCons (mVar 6) mNil))))) (gmName 10) mYes c__law_right_1 [10] [v (.list (fs.map eFF)), v (.list (eP p)), v (.int (i : Int)), v (.list (nL s.1)), v (.list (aL s.2.1)), v (.list (aL s.2.2.1)), v (.list (aL s.2.2.2)), a7, a8, a9, a10] = some (iL [(s.2.1.length : Int), (s.2.2.1.length : Int), (s.2.2.2.length : Int)]) :=
            lc_eq (as := [s.2.1, s.2.2.1, s.2.2.2]) (F := fun x : LA => PyData.list (aL x)) (G := fun x : LA => PyData.int (x.length : Int)) rfl (show 3 ≤ 1000000 by decide) fun x _ => by simp -implicitDefEqProofs [mLcF, c__law_right_1]
          have hn3 : mLst (mCons (mCall (mCons (mVar 0) mNil) dLen) (mCons (mCall (mCons (mVar 0) mNil) dLen) (mCons (mCall (mCons (mVar 0) mNil) dLen) mNil))) [v (.list (fs.map eFF)), v (.list (eP p)), v (.int (i : Int)), v (.list (nL s.1)), v (.list (aL s.2.1)), v (.list (aL s.2.2.1)), v (.list (aL s.2.2.2)), a7, a8, a9, a10] = some (.list (iL [(fs.length : Int), (fs.length : Int), (fs.length : Int)])) := by
            simp -implicitDefEqProofs
          have hne3 : dNe (.list (iL [(s.2.1.length : Int), (s.2.2.1.length : Int), (s.2.2.2.length : Int)])) (.list (iL [(fs.length : Int), (fs.length : Int), (fs.length : Int)])) = some (.bool (!lenB fs.length s)) := by
            rw [← lens3]
            exact Flt.int.list.dNe (by decide) _ _ (fun x z => by cases z)
          rw [mB_e, m2_e, lst_of hlc, hn3]
          rw [Option.bind_some, Option.bind_some, hne3]
          rfl
        have hgo : ∀ (b : DS → Option Out) (o : Option Out), b [v (.list (fs.map eFF)), v (.list (eP p)), v (.int (i : Int)), v (.list (nL s.1)), v (.list (aL s.2.1)), v (.list (aL s.2.2.1)), v (.list (aL s.2.2.2)), a7, a8, a9, a10] = o → nSeq (nAsgG (gmQuad 3 4 5 6) (m2 dIx (mVar 1) (mVar 2))) b [v (.list (fs.map eFF)), v (.list (eP p)), v (.int (i : Int)), a3, a4, a5, a6, a7, a8, a9, a10] = o := fun b o hb => by
          refine asgG_go (d := eSt s) ?_ rfl hb
          simp -implicitDefEqProofs only [m2_e, mVar_0, mVar_s, Option.bind_some, dIx_l, hat]
        cases hlb : lenB fs.length s with
        | false =>
          rw [hlb] at hlen
          have hst : stB fs s = false := by unfold stB; rw [hlb]; rfl
          refine ⟨fun _ => ?_, fun hq => (by rw [hst] at hq; cases hq)⟩
          unfold b__law_right_2
          exact hgo _ _ (ret_go (r := .val (.bool false)) (ifT_end hlen rfl) rfl)
        | true =>
          rw [hlb] at hlen
          have hsh := lshow_ok' hl h hA hS s hlb
          have hst : stB fs s = showsB (opn fs s.1) s.2.1 s.2.2.1 s.2.2.2 := by unfold stB; rw [hlb]; rfl
          rw [← hst] at hsh
          have hshow : ∀ b7 b8 b9 b10 : Option DV, mNotT (mB (mCallF (mCons (mCallF (mCons (mVar 0) (mCons (mVar 3) mNil)) f__law_opened) (mCons (mVar 4) (mCons (mVar 5) (mCons (mVar 6) mNil)))) f__law_shows)) [v (.list (fs.map eFF)), v (.list (eP p)), v (.int (i : Int)), v (.list (nL s.1)), v (.list (aL s.2.1)), v (.list (aL s.2.2.1)), v (.list (aL s.2.2.2)), b7, b8, b9, b10] = some (!stB fs s) := fun b7 b8 b9 b10 => by
            simp -implicitDefEqProofs only [mNotT_e, mB_e, mCallF_e, mCons_e, mNil_e, mVar_0, mVar_s, Option.bind_some, Option.map_some, hop, hsh, data_own, data_val, toB_some]
          have hmid : ∀ (b : DS → Option Out), ((preB fs p i s = true → ∃ b7 b8 b9 : Option DV, nSeq (nIf (mB (m2 dGt (mVar 2) (mC (.int 0)))) (nSeq (nPar 7 8 (mCons (m2 dIx (m2 dIx (mVar 1) (m2 dSub (mVar 2) (mC (.int 1)))) (mC (.int 0))) (mCons (m2 dIx (m2 dIx (mVar 1) (m2 dSub (mVar 2) (mC (.int 1)))) (mC (.int 1))) mNil)))
      (nSeq (nIf (mOrT (mB (m2 dGe (mCall (mCons (mVar 3) mNil) dLen) (mCall (mCons (mVar 7) mNil) dLen))) (mB (m2 dNe (mVar 3) (mLst (mLcI (mItems (mVar 7)) (gmName 9) (mB (m2 dIn (mVar 9) (mVar 3))) c__law_right_2 [9]))))) (nRet (mC (.bool false))) nNext)
      (nFor (mItems (mVar 7)) (gmName 9) b__law_right_1))) nNext) b [v (.list (fs.map eFF)), v (.list (eP p)), v (.int (i : Int)), v (.list (nL s.1)), v (.list (aL s.2.1)), v (.list (aL s.2.2.1)), v (.list (aL s.2.2.2)), a7, a8, a9, a10] = b [v (.list (fs.map eFF)), v (.list (eP p)), v (.int (i : Int)), v (.list (nL s.1)), v (.list (aL s.2.1)), v (.list (aL s.2.2.1)), v (.list (aL s.2.2.2)), b7, b8, b9, a10]) ∧ (preB fs p i s = false → nSeq (nIf (mB (m2 dGt (mVar 2) (mC (.int 0)))) (nSeq (nPar 7 8 (mCons (m2 dIx (m2 dIx (mVar 1) (m2 dSub (mVar 2) (mC (.int 1)))) (mC (.int 0))) (mCons (m2 dIx (m2 dIx (mVar 1) (m2 dSub (mVar 2) (mC (.int 1)))) (mC (.int 1))) mNil)))
      (nSeq (nIf (mOrT (mB (m2 dGe (mCall (mCons (mVar 3) mNil) dLen) (mCall (mCons (mVar 7) mNil) dLen))) (mB (m2 dNe (mVar 3) (mLst (mLcI (mItems (mVar 7)) (gmName 9) (mB (m2 dIn (mVar 9) (mVar 3))) c__law_right_2 [9]))))) (nRet (mC (.bool false))) nNext)
      (nFor (mItems (mVar 7)) (gmName 9) b__law_right_1))) nNext) b [v (.list (fs.map eFF)), v (.list (eP p)), v (.int (i : Int)), v (.list (nL s.1)), v (.list (aL s.2.1)), v (.list (aL s.2.2.1)), v (.list (aL s.2.2.2)), a7, a8, a9, a10] = some (.rt (.val (.bool false))))) := fun b => by
            cases i with
            | zero => exact ⟨fun _ => ⟨a7, a8, a9, ifF_go (by simp -implicitDefEqProofs) (next_go rfl)⟩, fun z => (by rw [pre_zero] at z; cases z)⟩
            | succ j =>
              have hb : p[j]? = some p[j] := List.getElem?_eq_getElem (by omega)
              have hbl := hpl _ (List.getElem_mem (show j < p.length by omega))
              have hbin := places_in h0 c0 j p[j] hb fun i hi => hj i (by omega)
              have hbx := len_of_q hb (hj j (by omega))
              rw [pre_succ hb]
              have hbt := pp_at hb
              generalize p[j] = bb at hb hbl hbin hbx hbt
              have hsub : ((j + 1 : Nat) : Int) - 1 = (j : Int) := by omega
              have hgt : decide ((0 : Int) < ((j + 1 : Nat) : Int)) = true := decide_eq_true (by omega)
              have hin : mLcI (mItems (mVar 7)) (gmName 9) (mB (m2 dIn (mVar 9) (mVar 3))) c__law_right_2 [9] [v (.list (fs.map eFF)), v (.list (eP p)), v (.int ((j + 1 : Nat) : Int)), v (.list (nL s.1)), v (.list (aL s.2.1)), v (.list (aL s.2.2.1)), v (.list (aL s.2.2.2)), v (.list (nL bb.1)), v (.list (aL bb.2.1)), a9, a10] = some (nL (bb.1.filter fun k => decide (k ∈ s.1))) := by
                rw [← fm_filter]
                refine lc_fm (as := bb.1) (F := fun k : Nat => PyData.int (k : Int)) (fun k => if decide (k ∈ s.1) = true then some k else none) (G := fun k : Nat => PyData.int (k : Int)) (items_of rfl) (by omega) fun k hk => ?_
                have hd := dIn_nL k s.1
                by_cases hm : k ∈ s.1 <;> simp -implicitDefEqProofs [mLcF, c__law_right_2, hd, hm]
              have hnq := dNe_nL s.1 (bb.1.filter fun k => decide (k ∈ s.1))
              have hcc : mOrT (mB (m2 dGe (mCall (mCons (mVar 3) mNil) dLen) (mCall (mCons (mVar 7) mNil) dLen))) (mB (m2 dNe (mVar 3) (mLst (mLcI (mItems (mVar 7)) (gmName 9) (mB (m2 dIn (mVar 9) (mVar 3))) c__law_right_2 [9])))) [v (.list (fs.map eFF)), v (.list (eP p)), v (.int ((j + 1 : Nat) : Int)), v (.list (nL s.1)), v (.list (aL s.2.1)), v (.list (aL s.2.2.1)), v (.list (aL s.2.2.2)), v (.list (nL bb.1)), v (.list (aL bb.2.1)), a9, a10] = some (!(decide (s.1 = bb.1.filter fun k => decide (k ∈ s.1)) && decide (s.1.length < bb.1.length))) := by
                rw [mOrT_e, mB_e, mB_e, m2_e (g := dNe), lst_of hin]
                by_cases c2 : s.1.length < bb.1.length
                · have : ¬ ((bb.1.length : Int) ≤ (s.1.length : Int)) := by omega
                  simp -implicitDefEqProofs [hnq, this, c2]
                · have : ((bb.1.length : Int) ≤ (s.1.length : Int)) := by omega
                  simp -implicitDefEqProofs [this, c2]
              have hfor := mForL_chk (gm := gmName 9) (b := b__law_right_1) (fun k : Nat => PyData.int (k : Int)) (fun k => decide (k ∈ s.1) || missB fs bb.2.1 k) (fun δ => ∃ b9 : Option DV, δ = [v (.list (fs.map eFF)), v (.list (eP p)), v (.int ((j + 1 : Nat) : Int)), v (.list (nL s.1)), v (.list (aL s.2.1)), v (.list (aL s.2.2.1)), v (.list (aL s.2.2.2)), v (.list (nL bb.1)), v (.list (aL bb.2.1)), b9, a10]) (.val (.bool false)) bb.1 [v (.list (fs.map eFF)), v (.list (eP p)), v (.int ((j + 1 : Nat) : Int)), v (.list (nL s.1)), v (.list (aL s.2.1)), v (.list (aL s.2.2.1)), v (.list (aL s.2.2.2)), v (.list (nL bb.1)), v (.list (aL bb.2.1)), a9, a10] ⟨a9, rfl⟩ fun k hk δ hst2 => by
                obtain ⟨b9, rfl⟩ := hst2
                refine ⟨[v (.list (fs.map eFF)), v (.list (eP p)), v (.int ((j + 1 : Nat) : Int)), v (.list (nL s.1)), v (.list (aL s.2.1)), v (.list (aL s.2.2.1)), v (.list (aL s.2.2.2)), v (.list (nL bb.1)), v (.list (aL bb.2.1)), v (.int (k : Int)), a10], rfl, ?_⟩
                obtain ⟨_, jj, a, t, hf⟩ := conds_mem (hbin k hk)
                have g0 := wh_at hf
                have g1 : atI [PyData.str "when", .int (jj : Int), .int a, .int (t : Int)] 1 = some (.int jj) := rfl
                have g2 : atI [PyData.str "when", .int (jj : Int), .int a, .int (t : Int)] 2 = some (.int a) := rfl
                have ho := h _ (List.mem_of_getElem? hf)
                have x1 := gA_at (xs := bb.2.1) (i := jj) (by rw [hbx]; exact ho.1)
                have ha : f__law_at_most [.int a, eA (gA bb.2.1 jj)] = some (.val (.bool (leA (some a) (gA bb.2.1 jj)))) := law_at_most_ok (some a) (gA bb.2.1 jj)
                have hm : missB fs bb.2.1 k = !leA (some a) (gA bb.2.1 jj) := by unfold missB; rw [hf]
                have hd := dNotIn_nL k s.1
                have hc2 : mAndT (mB (m2 dNotIn (mVar 9) (mVar 3))) (mB (mCallF (mCons (m2 dIx (m2 dIx (mVar 0) (mVar 9)) (mC (.int 2))) (mCons (m2 dIx (mVar 8) (m2 dIx (m2 dIx (mVar 0) (mVar 9)) (mC (.int 1)))) mNil)) f__law_at_most)) [v (.list (fs.map eFF)), v (.list (eP p)), v (.int ((j + 1 : Nat) : Int)), v (.list (nL s.1)), v (.list (aL s.2.1)), v (.list (aL s.2.2.1)), v (.list (aL s.2.2.2)), v (.list (nL bb.1)), v (.list (aL bb.2.1)), v (.int (k : Int)), a10] = some (!(decide (k ∈ s.1) || missB fs bb.2.1 k)) := by
                  rw [hm]
                  by_cases hk2 : k ∈ s.1
                  · simp -implicitDefEqProofs [hd, hk2]
                  · simp -implicitDefEqProofs [hd, hk2, g0, g1, g2, x1, ha]
                constructor
                · intro e
                  rw [e] at hc2
                  exact ifT_end hc2 rfl
                · intro e
                  rw [e] at hc2
                  exact ⟨_, ifF_end hc2 rfl, v (.int (k : Int)), rfl⟩
              have hgo2 : ∀ (bo : DS → Option Out) (o : Option Out), bo [v (.list (fs.map eFF)), v (.list (eP p)), v (.int ((j + 1 : Nat) : Int)), v (.list (nL s.1)), v (.list (aL s.2.1)), v (.list (aL s.2.2.1)), v (.list (aL s.2.2.2)), v (.list (nL bb.1)), v (.list (aL bb.2.1)), a9, a10] = o → nSeq (nPar 7 8 (mCons (m2 dIx (m2 dIx (mVar 1) (m2 dSub (mVar 2) (mC (.int 1)))) (mC (.int 0))) (mCons (m2 dIx (m2 dIx (mVar 1) (m2 dSub (mVar 2) (mC (.int 1)))) (mC (.int 1))) mNil))) bo [v (.list (fs.map eFF)), v (.list (eP p)), v (.int ((j + 1 : Nat) : Int)), v (.list (nL s.1)), v (.list (aL s.2.1)), v (.list (aL s.2.2.1)), v (.list (aL s.2.2.2)), a7, a8, a9, a10] = o := fun bo o hb => by
                refine par_go (x := .list (nL bb.1)) (y := .list (aL bb.2.1)) ?_ hb
                simp -implicitDefEqProofs only [mCons_e, mNil_e, m2_e, mVar_0, mVar_s, mC_e, Option.bind_some, Option.map_some, dSub_i, hsub, dIx_l, hbt, eSt, dIx_t, e0, e1]
              unfold stepB
              rw [← Bool.and_assoc]
              by_cases c1 : (decide (s.1 = bb.1.filter fun k => decide (k ∈ s.1)) && decide (s.1.length < bb.1.length)) = true
              · rw [c1] at hcc ⊢
                rw [Bool.true_and]
                constructor
                · intro ht
                  obtain ⟨δ', ef, b9, rfl⟩ := hfor.1 ht
                  refine ⟨v (.list (nL bb.1)), v (.list (aL bb.2.1)), b9, ifT_go (by simp -implicitDefEqProofs [hgt]) (assoc_go (hgo2 _ _ (assoc_go (chk_go hcc ?_))))⟩
                  exact for_go (ds := nL bb.1) rfl ef rfl
                · intro ht
                  refine ifT_go (by simp -implicitDefEqProofs [hgt]) (assoc_go (hgo2 _ _ (assoc_go (chk_go hcc ?_))))
                  refine ret_go (r := .val (.bool false)) ?_ rfl
                  rw [nFor_e]
                  exact hfor.2 ht
              · have c1 := Bool.eq_false_iff.mpr c1
                rw [c1] at hcc ⊢
                refine ⟨fun z => (by rw [Bool.false_and] at z; cases z), fun _ => ?_⟩
                exact ifT_go (by simp -implicitDefEqProofs [hgt]) (assoc_go (hgo2 _ _ (assoc_go (ret_go (r := .val (.bool false)) (ifT_end hcc rfl) rfl))))
          constructor
          · intro hq
            unfold b__law_right_2
            refine hgo _ _ (chk_go hlen ?_)
            cases hpb : preB fs p i s with
            | false => exact (hmid _).2 hpb
            | true =>
              obtain ⟨b7, b8, b9, e⟩ := (hmid (nIf (mNotT (mB (mCallF (mCons (mCallF (mCons (mVar 0) (mCons (mVar 3) mNil)) f__law_opened) (mCons (mVar 4) (mCons (mVar 5) (mCons (mVar 6) mNil)))) f__law_shows))) (nRet (mC (.bool false))) nNext)).1 hpb
              rw [e]
              rw [hpb, Bool.and_true] at hq
              refine ifT_end ?_ rfl
              rw [hshow, hq]
              rfl
          · intro hq
            rw [Bool.and_eq_true] at hq
            obtain ⟨b7, b8, b9, e⟩ := (hmid (nIf (mNotT (mB (mCallF (mCons (mCallF (mCons (mVar 0) (mCons (mVar 3) mNil)) f__law_opened) (mCons (mVar 4) (mCons (mVar 5) (mCons (mVar 6) mNil)))) f__law_shows))) (nRet (mC (.bool false))) nNext)).1 hq.2
            refine ⟨[v (.list (fs.map eFF)), v (.list (eP p)), v (.int (i : Int)), v (.list (nL s.1)), v (.list (aL s.2.1)), v (.list (aL s.2.2.1)), v (.list (aL s.2.2.2)), b7, b8, b9, a10], ?_, _, _, _, _, _, _, _, _, _, rfl⟩
            unfold b__law_right_2
            refine hgo _ _ (chk_go hlen ?_)
            rw [e]
            refine ifF_end ?_ rfl
            rw [hshow, hq.1]
            rfl
      rw [List.length_map, List.length_range] at hloop
      have hrng : mRng1 (mCons (mCall (mCons (mVar 1) mNil) dLen) mNil) [v (.list (fs.map eFF)), v (.list (eP p)), none, none, none, none, none, none, none, none, none] = some ((List.range p.length).map fun k : Nat => PyData.int (k : Int)) := rng_nat (by simp -implicitDefEqProofs) (by omega)
      by_cases c1 : (List.range p.length).all (qB fs p) = true
      · obtain ⟨δ', e, a2, a3, a4, a5, a6, a7, a8, a9, a10, rfl⟩ := hloop.1 c1
        rw [c1]
        refine for_go hrng e ?_
        have hs : p[p.length - 1]? = some p[p.length - 1] := List.getElem?_eq_getElem (by omega)
        have hq := List.all_eq_true.mp c1 (p.length - 1) (List.mem_range.mpr (by omega))
        have hx := len_of_q hs hq
        have hla : lastB fs p = decide (p[p.length - 1].2.1 = vals fs vF p[p.length - 1].2.1) := by
          unfold lastB
          rw [hs]
          exact decide_eq_decide.mpr ⟨Eq.symm, Eq.symm⟩
        rw [hla]
        generalize p[p.length - 1] = s at hs hx
        have hat : atI (eP p) (-1) = some (eSt s) := atI_last (by rw [List.length_map, List.getElem?_map, hs]; rfl)
        have hneg : dNeg (.int 1) = some (.int (-1)) := rfl
        have hv := lfvals_ok hl h hx
        refine ret_end ?_
        simp -implicitDefEqProofs only [mCallF_e, mCons_e, mNil_e, mVar_0, mVar_s, m2_e, m1_e, mC_e, Option.bind_some, Option.map_some, hneg, dIx_l, hat, eSt, dIx_t, e1, hv, data_own, dEq_aL]
        rfl
      · rw [Bool.eq_false_iff.mpr c1]
        refine ret_go (r := .val (.bool false)) ?_ rfl
        rw [nFor_e, hrng]
        exact hloop.2 (Bool.eq_false_iff.mpr c1)
    · rw [decide_eq_false c0] at hcnd ⊢
      exact ret_go (r := .val (.bool false)) (ifT_end hcnd rfl) rfl
end
end Law
namespace Law
open PySem PySem.Spec PyProof.Rows L2 Dl
/-! the law's stages -/
theorem mForL_bkI {gm : D → DS → Option DS} {b : DS → Option Out} (P : Nat → DS → Prop) : ∀ (ds : List D) (k : Nat) (δ : DS), P k δ →
    (∀ i d δ, ds[i]? = some d → P (k + i) δ → ∃ δ1, gm d δ = some δ1 ∧ ∃ δ2, (b δ1 = some (.nx δ2) ∨ b δ1 = some (.bk δ2)) ∧ P (k + i + 1) δ2) → ∃ δ' j, mForL gm b ds δ = some (.nx δ') ∧ P j δ' ∧ j ≤ k + ds.length ∧ k ≤ j ∧ (ds ≠ [] → k < j)
  | [], k, δ, h, _ => ⟨δ, k, rfl, h, Nat.le_refl _, Nat.le_refl _, fun z => absurd rfl z⟩
  | d :: ds, k, δ, h, hs => by
    obtain ⟨δ1, h1, δ2, h2, h3⟩ := hs 0 d δ rfl h
    rw [mForL_cons, h1]
    show ∃ δ' j, fr2 _ (b δ1) = _ ∧ _
    rcases h2 with h2 | h2
    · rw [h2, fr2_nx]
      obtain ⟨δ', j, q1, q2, q3, q4, _⟩ := mForL_bkI P ds (k + 1) δ2 h3 fun i d' δ hd hp => by
        have e : k + 1 + i = k + (i + 1) := by omega
        rw [e] at hp ⊢
        exact hs (i + 1) d' δ hd hp
      exact ⟨δ', j, q1, q2, by rw [List.length_cons]; omega, by omega, fun _ => by omega⟩
    · rw [h2, fr2_bk]
      exact ⟨δ2, k + 1, rfl, h3, by rw [List.length_cons]; omega, by omega, fun _ => by omega⟩
theorem FF.Ok.mono {m : Nat} {A S C : Int} {f : FF} (h : f.Ok m A S) (hc : A ≤ C) : f.Ok m C S := by
  cases f with
  | amt a =>
    intro n e
    have := h n e
    omega
  | wh j a k => exact ⟨h.1, h.2.1, h.2.2.1, Int.le_trans h.2.2.2 hc⟩
  | ex l arcs => exact h
theorem brk_go {c : DS → Option Bool} {b : DS → Option Out} {δ : DS} (h : c δ = some true) : nSeq (nIf c nBrk nNext) b δ = some (.bk δ) := by
  rw [nSeq_e, nIf_e, h]
  rfl
/-- what all sheets here are like -/
structure Flat52 (fs : List FF) : Prop where
  lo : 1 ≤ fs.length
  hi : fs.length ≤ 14
  ok : ∀ f ∈ fs, f.Ok fs.length 1000 4
def Gd (n : Nat) (s : ST) : Prop := (s.1.length ≤ n ∧ ∀ k ∈ s.1, k < n) ∧ Rk n 1000000000 s.2.1 ∧ Rk n 1000000000 s.2.2.1 ∧ Rk n 1000000000 s.2.2.2
theorem Rk.mono {n : Nat} {B C : Int} {xs : LA} (h : Rk n B xs) (hc : B ≤ C) : Rk n C xs := ⟨h.1, fun a ha => (h.2 a ha).mono hc⟩
theorem conds_len (fs : List FF) : (conds fs).length ≤ fs.length := by
  have := List.length_filter_le (whAt fs) (List.range fs.length)
  rw [List.length_range] at this
  exact this
section
variable {fs : List FF}
theorem Flat52.opn (F : Flat52 fs) (ps : LN) : ∀ f ∈ Law.opn fs ps, f.Ok (Law.opn fs ps).length 1000 4 := by
  rw [opn_len]
  exact opn_ok F.ok (by decide) (by decide) ps
theorem Flat52.sheet (F : Flat52 fs) : Sheet fs.length 1000 4 fs vF := ff_sheet F.ok (by decide) (by decide) (by decide) (by decide)
theorem Flat52.osheet (F : Flat52 fs) (ps : LN) : Sheet (Law.opn fs ps).length 1000 4 (Law.opn fs ps) vF := ff_sheet (F.opn ps) (by decide) (by decide) (by decide) (by decide)
theorem settle_bd {n : Nat} (h : n ≤ 14) : n * (1000 + 4 * (n : Int) + 1).toNat ≤ 20000 := by
  have : (1000 + 4 * (n : Int) + 1).toNat ≤ 1057 := by omega
  exact Nat.le_trans (Nat.mul_le_mul h this) (by decide)
theorem Flat52.ogs (F : Flat52 fs) (ps : LN) : Rk fs.length 1000000000 (gsol (Law.opn fs ps)) := by
  obtain ⟨gr, gfix, gfin, gmax⟩ := greatest_settles (F.osheet ps) (n := 20000) (by rw [opn_len]; exact settle_bd F.hi)
  have hl := F.hi
  have e := opn_len fs ps
  refine ⟨gr.len.trans e, fun a ha n q => ⟨gr.nn a ha n q, ?_⟩⟩
  have := gfin a ha n q
  rw [e] at this
  omega
theorem stage_ok (F : Flat52 fs) {ps : LN} (h1 : ps.length ≤ fs.length) (h2 : ∀ k ∈ ps, k < fs.length) : ∃ s : ST, s.1 = ps ∧ Gd fs.length s ∧ f__law_stage [.list (fs.map eFF), .list (nL ps)] = some (.val (eSt s)) := by
  have hi := F.hi
  have hlo := F.lo
  have e := opn_len fs ps
  have hop := lopened_ok (ps := ps) (by omega) F.ok
  have hg := lgreat_ok (by rw [e]; omega) (F.opn ps)
  obtain ⟨hd, hdr, hheld⟩ := lheld_ex (by rw [e]; omega) (F.opn ps) (opn_pl fs ps)
  have hx := F.ogs ps
  obtain ⟨tg, tgr, htight⟩ := ltight_ex (by rw [e]; omega) (F.opn ps) (opn_pl fs ps) (xs := gsol (Law.opn fs ps)) (by rw [e]; exact hx.1)
  rw [e] at hdr tgr
  refine ⟨(ps, gsol (Law.opn fs ps), hd, tg), rfl, ⟨⟨h1, h2⟩, hx, hdr.mono (by decide), tgr.mono (by decide)⟩, ?_⟩
  generalize gsol (Law.opn fs ps) = x at hg htight
  unfold f__law_stage
  refine fnD_rt rfl ?_
  show m__law_stage (startD 4 [.list (fs.map eFF), .list (nL ps)]) = _
  rw [startD_2]
  dsimp only [List.replicate]
  unfold m__law_stage
  refine asg_go (d := .list ((Law.opn fs ps).map eFF)) (by simp -implicitDefEqProofs only [mCallF_e, mCons_e, mNil_e, mVar_0, mVar_s, Option.bind_some, hop, Option.map_some, data_own]) ?_
  dsimp only [List.set]
  refine asg_go (d := .list (aL x)) (by simp -implicitDefEqProofs only [mCallF_e, mCons_e, mNil_e, mVar_0, mVar_s, Option.bind_some, hg, Option.map_some, data_val]) ?_
  dsimp only [List.set]
  refine ret_end ?_
  simp -implicitDefEqProofs only [mTup_e, mCallF_e, mCons_e, mNil_e, mVar_0, mVar_s, Option.bind_some, hheld, htight, Option.map_some, data_own]
  rfl
def eLX (r : LN × LA) : D := .tuple [.list (nL r.1), .list (aL r.2)]
/-- conditions at which a list is reached, or missed -/
theorem left_ok (F : Flat52 fs) {ps : LN} (hl : ps.length ≤ fs.length) (hc : ∀ k ∈ ps, k ∈ conds fs) {x : LA} (hx : x.length = fs.length) (b : Bool) {δ : DS} {iw iq : Nat} {c : DS → Option D} {mt : DS → Option Bool}
    (hit : mItems (mVar iw) δ = some (nL ps)) (hstep : ∀ k ∈ ps, ∀ j a t, fs[k]? = some (.wh j a t) → mLcF (gmName iq) mt c (wipeD δ [iq]) (.int (k : Int)) = some (if (leA (some a) (gA x j) == b) = true then some (.int (k : Int)) else none)) :
    mLcI (mItems (mVar iw)) (gmName iq) mt c [iq] δ = some (nL (ps.filter fun k => missB fs x k == !b)) := by
  have hi := F.hi
  rw [← fm_filter]
  refine lc_fm (as := ps) (F := fun k : Nat => PyData.int (k : Int)) (fun k => if (missB fs x k == !b) = true then some k else none) (G := fun k : Nat => PyData.int (k : Int)) hit (by omega) fun k hk => ?_
  obtain ⟨_, j, a, t, hf⟩ := conds_mem (hc k hk)
  rw [hstep k hk j a t hf]
  have hm : missB fs x k = !leA (some a) (gA x j) := by unfold missB; rw [hf]
  rw [hm]
  cases leA (some a) (gA x j) <;> cases b <;> rfl
theorem stages_ok (F : Flat52 fs) : ∃ rs : List (LN × LA), rs ≠ [] ∧ rs.length ≤ 16 ∧ (∀ r ∈ rs, r.1.length ≤ fs.length ∧ ∀ k ∈ r.1, k < fs.length) ∧ f__law_stages [.list (fs.map eFF)] = some (.own (rs.map eLX)) := by
  have hi := F.hi
  have hlo := F.lo
  have hc := lconds_ok (fs := fs) (by omega)
  have hloop : ∃ δ' j, mForL (gmName 3) b__law_stages_1 ((List.range (fs.length + 2)).map fun k : Nat => PyData.int (k : Int)) [v (.list (fs.map eFF)), v (.list (nL (conds fs))), some (.own []), none, none, none, none] = some (.nx δ') ∧ (∃ (ps : LN) (rs : List (LN × LA)) (a3 a4 a5 a6 : Option DV), δ' = [v (.list (fs.map eFF)), v (.list (nL ps)), some (.own (rs.map eLX)), a3, a4, a5, a6] ∧ ps.length ≤ fs.length ∧ (∀ k ∈ ps, k ∈ conds fs) ∧ rs.length = j ∧ ∀ r ∈ rs, r.1.length ≤ fs.length ∧ ∀ k ∈ r.1, k < fs.length) ∧ j ≤ 0 + ((List.range (fs.length + 2)).map fun k : Nat => PyData.int (k : Int)).length ∧ 0 ≤ j ∧ (((List.range (fs.length + 2)).map fun k : Nat => PyData.int (k : Int)) ≠ [] → 0 < j) := by
    refine mForL_bkI (fun j δ => ∃ (ps : LN) (rs : List (LN × LA)) (a3 a4 a5 a6 : Option DV), δ = [v (.list (fs.map eFF)), v (.list (nL ps)), some (.own (rs.map eLX)), a3, a4, a5, a6] ∧ ps.length ≤ fs.length ∧ (∀ k ∈ ps, k ∈ conds fs) ∧ rs.length = j ∧ ∀ r ∈ rs, r.1.length ≤ fs.length ∧ ∀ k ∈ r.1, k < fs.length) _ 0 _ ⟨conds fs, [], none, none, none, none, rfl, conds_len fs, fun k hk => hk, rfl, fun r hr => (by cases hr)⟩ fun i d δ hd hp => ?_
    obtain ⟨ps, rs, a3, a4, a5, a6, rfl, h1, h2, h3, h4⟩ := hp
    have hop := lopened_ok (ps := ps) (by omega) F.ok
    have hg := lgreat_ok (by rw [opn_len]; omega) (F.opn ps)
    have hx := F.ogs ps
    generalize gsol (Law.opn fs ps) = x at hg hx
    have hil := (List.getElem?_eq_some_iff.mp hd).1
    rw [List.length_map, List.length_range] at hil
    refine ⟨[v (.list (fs.map eFF)), v (.list (nL ps)), some (.own (rs.map eLX)), v d, a4, a5, a6], rfl, ?_⟩
    have hcap : (rs.map eLX).length ≤ cap := by
      rw [List.length_map, h3]
      unfold cap
      omega
    have hap : rs.map eLX ++ [eLX (ps, x)] = (rs ++ [(ps, x)]).map eLX := by rw [List.map_append]; rfl
    have hleft := left_ok F h1 h2 hx.1 true (δ := [v (.list (fs.map eFF)), v (.list (nL ps)), some (.own ((rs ++ [(ps, x)]).map eLX)), v d, v (.list (aL x)), a5, a6]) (iw := 1) (iq := 6) (c := c__law_stages_1) (mt := mB (mCallF (mCons (m2 dIx (m2 dIx (mVar 0) (mVar 6)) (mC (.int 2))) (mCons (m2 dIx (mVar 4) (m2 dIx (m2 dIx (mVar 0) (mVar 6)) (mC (.int 1)))) mNil)) f__law_at_most)) rfl fun k hk j a t hf => by
        have g0 := wh_at hf
        have g1 : atI [PyData.str "when", .int (j : Int), .int a, .int (t : Int)] 1 = some (.int j) := rfl
        have g2 : atI [PyData.str "when", .int (j : Int), .int a, .int (t : Int)] 2 = some (.int a) := rfl
        have ho := F.ok _ (List.mem_of_getElem? hf)
        have x1 := gA_at (xs := x) (i := j) (by rw [hx.1]; exact ho.1)
        have ha : f__law_at_most [.int a, eA (gA x j)] = some (.val (.bool (leA (some a) (gA x j)))) := law_at_most_ok (some a) (gA x j)
        cases hb : leA (some a) (gA x j) <;> rw [hb] at ha <;> simp -implicitDefEqProofs [mLcF, c__law_stages_1, g0, g1, g2, x1, ha]
    have hfl : (ps.filter fun k => missB fs x k == !true).length ≤ fs.length := Nat.le_trans (List.length_filter_le _ _) h1
    have hfm : ∀ k ∈ ps.filter fun k => missB fs x k == !true, k ∈ conds fs := fun k hk => h2 k (List.mem_filter.mp hk).1
    generalize (ps.filter fun k => missB fs x k == !true) = qs at hleft hfl hfm
    have hg2 : ∀ r ∈ rs ++ [(ps, x)], r.1.length ≤ fs.length ∧ ∀ k ∈ r.1, k < fs.length := fun r hr => by
      rcases List.mem_append.mp hr with q | q
      · exact h4 r q
      · rw [List.mem_singleton.mp q]; exact ⟨h1, fun k hk => (conds_mem (h2 k hk)).1⟩
    have hlen2 : (rs ++ [(ps, x)]).length = 0 + i + 1 := by rw [List.length_append, h3]; rfl
    have hb : ∀ o : Option Out, nSeq (nIf (mB (m2 dEq (mVar 5) (mVar 1))) nBrk nNext) (nAsg 1 (mVar 5)) [v (.list (fs.map eFF)), v (.list (nL ps)), some (.own ((rs ++ [(ps, x)]).map eLX)), v d, v (.list (aL x)), v (.list (nL qs)), a6] = o → b__law_stages_1 [v (.list (fs.map eFF)), v (.list (nL ps)), some (.own (rs.map eLX)), v d, a4, a5, a6] = o := fun o ho => by
      unfold b__law_stages_1
      refine asg_go (d := .list (aL x)) (by simp -implicitDefEqProofs only [mCallF_e, mCons_e, mNil_e, mVar_0, mVar_s, Option.bind_some, hop, hg, Option.map_some, data_own, data_val]) ?_
      dsimp only [List.set]
      refine app_go (d := eLX (ps, x)) rfl rfl hcap ?_
      dsimp only [List.set]
      rw [hap]
      exact asg_go (lst_of hleft) ho
    have heq := dEq_nL qs ps
    by_cases hc2 : qs = ps
    · refine ⟨[v (.list (fs.map eFF)), v (.list (nL ps)), some (.own ((rs ++ [(ps, x)]).map eLX)), v d, v (.list (aL x)), v (.list (nL qs)), a6], .inr (hb _ ?_), ps, _, _, _, _, _, rfl, h1, h2, hlen2, hg2⟩
      rw [decide_eq_true hc2] at heq
      exact brk_go (by simp -implicitDefEqProofs [heq])
    · refine ⟨[v (.list (fs.map eFF)), v (.list (nL qs)), some (.own ((rs ++ [(ps, x)]).map eLX)), v d, v (.list (aL x)), v (.list (nL qs)), a6], .inl (hb _ ?_), qs, _, _, _, _, _, rfl, hfl, hfm, hlen2, hg2⟩
      refine chk_go ?_ rfl
      simp -implicitDefEqProofs [heq, hc2]
  obtain ⟨δ', j, e, ⟨ps, rs, a3, a4, a5, a6, rfl, h1, h2, h3, h4⟩, j1, _, j2⟩ := hloop
  rw [List.length_map, List.length_range] at j1
  have j3 := j2 (fun z => by have := congrArg List.length z; rw [List.length_map, List.length_range] at this; simp at this)
  refine ⟨rs, fun z => by rw [z] at h3; simp at h3; omega, by omega, h4, ?_⟩
  unfold f__law_stages
  refine fnD_rt rfl ?_
  show m__law_stages (startD 7 [.list (fs.map eFF)]) = _
  rw [startD_1]
  dsimp only [List.replicate]
  unfold m__law_stages
  refine asg_go (d := .list (nL (conds fs))) (by simp -implicitDefEqProofs only [mCallF_e, mCons_e, mNil_e, mVar_0, mVar_s, Option.bind_some, hc, Option.map_some, data_own]) ?_
  dsimp only [List.set]
  refine asgO_go (ds := []) rfl ?_
  dsimp only [List.set]
  refine for_go (rng_nat (n := fs.length + 2) (by simp -implicitDefEqProofs) (by omega)) e ?_
  exact retX_end rfl
theorem obo_ok (F : Flat52 fs) : ∃ p : List ST, p ≠ [] ∧ p.length ≤ 16 ∧ (∀ s ∈ p, Gd fs.length s) ∧ f__law_one_by_one [.list (fs.map eFF)] = some (.own (eP p)) := by
  have hi := F.hi
  have hlo := F.lo
  have hc := lconds_ok (fs := fs) (by omega)
  have hloop : ∃ δ' j, mForL (gmName 3) b__law_one_by_one_1 ((List.range (fs.length + 2)).map fun k : Nat => PyData.int (k : Int)) [v (.list (fs.map eFF)), v (.list (nL (conds fs))), some (.own []), none, none, none, none] = some (.nx δ') ∧ (∃ (ps : LN) (rs : List ST) (a3 a4 a5 a6 : Option DV), δ' = [v (.list (fs.map eFF)), v (.list (nL ps)), some (.own (eP rs)), a3, a4, a5, a6] ∧ ps.length ≤ fs.length ∧ (∀ k ∈ ps, k ∈ conds fs) ∧ rs.length = j ∧ ∀ r ∈ rs, Gd fs.length r) ∧ j ≤ 0 + ((List.range (fs.length + 2)).map fun k : Nat => PyData.int (k : Int)).length ∧ 0 ≤ j ∧ (((List.range (fs.length + 2)).map fun k : Nat => PyData.int (k : Int)) ≠ [] → 0 < j) := by
    refine mForL_bkI (fun j δ => ∃ (ps : LN) (rs : List ST) (a3 a4 a5 a6 : Option DV), δ = [v (.list (fs.map eFF)), v (.list (nL ps)), some (.own (eP rs)), a3, a4, a5, a6] ∧ ps.length ≤ fs.length ∧ (∀ k ∈ ps, k ∈ conds fs) ∧ rs.length = j ∧ ∀ r ∈ rs, Gd fs.length r) _ 0 _ ⟨conds fs, [], none, none, none, none, rfl, conds_len fs, fun k hk => hk, rfl, fun r hr => (by cases hr)⟩ fun i d δ hd hp => ?_
    obtain ⟨ps, rs, a3, a4, a5, a6, rfl, h1, h2, h3, h4⟩ := hp
    obtain ⟨s, rfl, hgs, hst⟩ := stage_ok F h1 fun k hk => (conds_mem (h2 k hk)).1
    have hx := hgs.2.1
    have hil := (List.getElem?_eq_some_iff.mp hd).1
    rw [List.length_map, List.length_range] at hil
    refine ⟨[v (.list (fs.map eFF)), v (.list (nL s.1)), some (.own (eP rs)), v d, a4, a5, a6], rfl, ?_⟩
    have hcap : (eP rs).length ≤ cap := by
      rw [List.length_map, h3]
      unfold cap
      omega
    have hap : eP rs ++ [eSt s] = eP (rs ++ [s]) := by
      show _ = (rs ++ [s]).map eSt
      rw [List.map_append]
      rfl
    have e1 : atI [PyData.list (nL s.1), .list (aL s.2.1), .list (aL s.2.2.1), .list (aL s.2.2.2)] 1 = some (.list (aL s.2.1)) := rfl
    have hleft := left_ok F h1 h2 hx.1 false (δ := [v (.list (fs.map eFF)), v (.list (nL s.1)), some (.own (eP (rs ++ [s]))), v d, v (eSt s), a5, a6]) (iw := 1) (iq := 6) (c := c__law_one_by_one_1) (mt := mNotT (mB (mCallF (mCons (m2 dIx (m2 dIx (mVar 0) (mVar 6)) (mC (.int 2))) (mCons (m2 dIx (m2 dIx (mVar 4) (mC (.int 1))) (m2 dIx (m2 dIx (mVar 0) (mVar 6)) (mC (.int 1)))) mNil)) f__law_at_most))) rfl fun k hk j a t hf => by
        have g0 := wh_at hf
        have g1 : atI [PyData.str "when", .int (j : Int), .int a, .int (t : Int)] 1 = some (.int j) := rfl
        have g2 : atI [PyData.str "when", .int (j : Int), .int a, .int (t : Int)] 2 = some (.int a) := rfl
        have ho := F.ok _ (List.mem_of_getElem? hf)
        have x1 := gA_at (xs := s.2.1) (i := j) (by rw [hx.1]; exact ho.1)
        have ha : f__law_at_most [.int a, eA (gA s.2.1 j)] = some (.val (.bool (leA (some a) (gA s.2.1 j)))) := law_at_most_ok (some a) (gA s.2.1 j)
        cases hb : leA (some a) (gA s.2.1 j) <;> rw [hb] at ha <;> simp -implicitDefEqProofs [mLcF, c__law_one_by_one_1, eSt, e1, g0, g1, g2, x1, ha]
    have hfm : ∀ k ∈ s.1.filter fun k => missB fs s.2.1 k == !false, k ∈ conds fs := fun k hk => h2 k (List.mem_filter.mp hk).1
    have hfl : (s.1.filter fun k => missB fs s.2.1 k == !false).length ≤ fs.length := Nat.le_trans (List.length_filter_le _ _) h1
    generalize (s.1.filter fun k => missB fs s.2.1 k == !false) = qs at hleft hfl hfm
    have hg2 : ∀ r ∈ rs ++ [s], Gd fs.length r := fun r hr => by
      rcases List.mem_append.mp hr with q | q
      · exact h4 r q
      · rw [List.mem_singleton.mp q]; exact hgs
    have hlen2 : (rs ++ [s]).length = 0 + i + 1 := by rw [List.length_append, h3]; rfl
    have hb : ∀ o : Option Out, nSeq (nIf (mB (m2 dEq (mCall (mCons (mVar 5) mNil) dLen) (mC (.int 0)))) nBrk nNext) (nAsg 1 (mLst (mLcI (mItems (mVar 1)) (gmName 6) (mB (m2 dNe (mVar 6) (m2 dIx (mVar 5) (m1 dNeg (mC (.int 1)))))) c__law_one_by_one_1 [6]))) [v (.list (fs.map eFF)), v (.list (nL s.1)), some (.own (eP (rs ++ [s]))), v d, v (eSt s), v (.list (nL qs)), a6] = o → b__law_one_by_one_1 [v (.list (fs.map eFF)), v (.list (nL s.1)), some (.own (eP rs)), v d, a4, a5, a6] = o := fun o ho => by
      unfold b__law_one_by_one_1
      refine asg_go (d := eSt s) (by simp -implicitDefEqProofs only [mCallF_e, mCons_e, mNil_e, mVar_0, mVar_s, Option.bind_some, hst, Option.map_some, data_val]) ?_
      dsimp only [List.set]
      refine app_go (d := eSt s) rfl rfl hcap ?_
      dsimp only [List.set]
      rw [hap]
      exact asg_go (lst_of hleft) ho
    by_cases hc2 : qs = []
    · refine ⟨[v (.list (fs.map eFF)), v (.list (nL s.1)), some (.own (eP (rs ++ [s]))), v d, v (eSt s), v (.list (nL qs)), a6], .inr (hb _ ?_), s.1, _, _, _, _, _, rfl, h1, h2, hlen2, hg2⟩
      exact brk_go (by simp -implicitDefEqProofs [hc2])
    · have hqn : 0 < qs.length := List.length_pos_iff.mpr hc2
      have hq1 : qs[qs.length - 1]? = some qs[qs.length - 1] := List.getElem?_eq_getElem (by omega)
      have hat : atI (nL qs) (-1) = some (.int (qs[qs.length - 1] : Int)) := atI_last (by rw [List.length_map, List.getElem?_map, hq1]; rfl)
      generalize qs[qs.length - 1] = g at hat
      have hneg : dNeg (.int 1) = some (.int (-1)) := rfl
      have hlc : mLcI (mItems (mVar 1)) (gmName 6) (mB (m2 dNe (mVar 6) (m2 dIx (mVar 5) (m1 dNeg (mC (.int 1)))))) c__law_one_by_one_1 [6] [v (.list (fs.map eFF)), v (.list (nL s.1)), some (.own (eP (rs ++ [s]))), v d, v (eSt s), v (.list (nL qs)), a6] = some (nL (s.1.filter fun k => !decide (k = g))) := by
        rw [← fm_filter]
        refine lc_fm (as := s.1) (F := fun k : Nat => PyData.int (k : Int)) (fun k => if (!decide (k = g)) = true then some k else none) (G := fun k : Nat => PyData.int (k : Int)) (items_of rfl) (by omega) fun k hk => ?_
        by_cases hkg : k = g
        · subst hkg
          simp -implicitDefEqProofs [mLcF, c__law_one_by_one_1, hat]
        · have : ¬ ((k : Int) = (g : Int)) := by omega
          simp -implicitDefEqProofs [mLcF, c__law_one_by_one_1, hat, hkg, this]
      refine ⟨[v (.list (fs.map eFF)), v (.list (nL (s.1.filter fun k => !decide (k = g)))), some (.own (eP (rs ++ [s]))), v d, v (eSt s), v (.list (nL qs)), a6], .inl (hb _ ?_), _, _, _, _, _, _, rfl, Nat.le_trans (List.length_filter_le _ _) h1, fun k hk => h2 k (List.mem_filter.mp hk).1, hlen2, hg2⟩
      refine chk_go ?_ ?_
      · simp -implicitDefEqProofs [hc2]
      · rw [nAsg_e, lst_of hlc]
        rfl
  obtain ⟨δ', j, e, ⟨ps, rs, a3, a4, a5, a6, rfl, h1, h2, h3, h4⟩, j1, _, j2⟩ := hloop
  rw [List.length_map, List.length_range] at j1
  have j3 := j2 (fun z => by have := congrArg List.length z; rw [List.length_map, List.length_range] at this; simp at this)
  refine ⟨rs, fun z => by rw [z] at h3; simp at h3; omega, by omega, h4, ?_⟩
  unfold f__law_one_by_one
  refine fnD_rt rfl ?_
  show m__law_one_by_one (startD 7 [.list (fs.map eFF)]) = _
  rw [startD_1]
  dsimp only [List.replicate]
  unfold m__law_one_by_one
  refine asg_go (d := .list (nL (conds fs))) (by simp -implicitDefEqProofs only [mCallF_e, mCons_e, mNil_e, mVar_0, mVar_s, Option.bind_some, hc, Option.map_some, data_own]) ?_
  dsimp only [List.set]
  refine asgO_go (ds := []) rfl ?_
  dsimp only [List.set]
  refine for_go (rng_nat (n := fs.length + 2) (by simp -implicitDefEqProofs) (by omega)) e ?_
  exact retX_end rfl
end
end Law
namespace Law
open PySem PySem.Spec PyProof.Rows L2 Dl
/-! rows of conditions -/
theorem row_ok52 (es : List Int) (hl : es.length = 5) (hb : ∀ d ∈ es, 0 ≤ d ∧ d < 1000) : ∃ fs : List FF, Flat52 fs ∧ f__law_row [.list (iL es)] = some (.own (fs.map eFF)) := by
  obtain ⟨a0, _, _, i0⟩ := at_dr hl hb (i := 0) (by decide)
  obtain ⟨a1, _, _, i1⟩ := at_dr hl hb (i := 1) (by decide)
  obtain ⟨a2, _, _, i2⟩ := at_dr hl hb (i := 2) (by decide)
  obtain ⟨a3, _, _, i3⟩ := at_dr hl hb (i := 3) (by decide)
  obtain ⟨a4, _, _, i4⟩ := at_dr hl hb (i := 4) (by decide)
  have j0 : atI (iL es) 0 = some (.int a0) := i0
  have j1 : atI (iL es) 1 = some (.int a1) := i1
  have j2 : atI (iL es) 2 = some (.int a2) := i2
  have j3 : atI (iL es) 3 = some (.int a3) := i3
  have j4 : atI (iL es) 4 = some (.int a4) := i4
  obtain ⟨m0, hm0, hmd⟩ : ∃ m : Nat, m < 12 ∧ a0 % 12 = (m : Int) := ⟨(a0 % 12).toNat, by omega, by omega⟩
  have hadd : (1 : Int) + (m0 : Int) = ((m0 + 1 : Nat) : Int) := by omega
  obtain ⟨b, hb1, hb2, hat⟩ : ∃ b : Int, 1 ≤ b ∧ b ≤ 299 ∧ atI [PyData.int 1, .int 299, .int 13] (a4 % 3) = some (.int b) := by
    have h : a4 % 3 = 0 ∨ a4 % 3 = 1 ∨ a4 % 3 = 2 := by omega
    rcases h with h | h | h <;> rw [h]
    · exact ⟨1, by decide, by decide, rfl⟩
    · exact ⟨299, by decide, by decide, rfl⟩
    · exact ⟨13, by decide, by decide, rfl⟩
  unfold f__law_row
  suffices H : ∃ fs : List FF, Flat52 fs ∧ m__law_row [v (.list (iL es)), none, none, none, none, none] = some (.rt (.own (fs.map eFF))) by
    obtain ⟨fs, h1, h2⟩ := H
    refine ⟨fs, h1, fnD_rt rfl ?_⟩
    show m__law_row (startD 6 [.list (iL es)]) = _
    rw [startD_1]
    dsimp only [List.replicate]
    exact h2
  have hgo : ∀ (bb : DS → Option Out) (o : Option Out), bb [v (.list (iL es)), v (.int ((m0 + 1 : Nat) : Int)), v (.int b), none, none, none] = o → nSeq (nAsg 1 (m2 dAdd (mC (.int 1)) (m2 dMod (mCall (mCons (m2 dIx (mVar 0) (mC (.int 0))) mNil) dInt) (mC (.int 12))))) (nSeq (nAsg 2 (m2 dIx (mLst (mCons (mC (.int 1)) (mCons (mC (.int 299)) (mCons (mC (.int 13)) mNil)))) (m2 dMod (mCall (mCons (m2 dIx (mVar 0) (mC (.int 4))) mNil) dInt) (mC (.int 3))))) bb) [v (.list (iL es)), none, none, none, none, none] = o := fun bb o h => by
    refine asg_go (d := .int ((m0 + 1 : Nat) : Int)) (by simp -implicitDefEqProofs only [m2_e, mC_e, mCall_e, mCons_e, mNil_e, mVar_s, mVar_0, Option.bind_some, dIx_l, j0, dInt_i, dMod_i (show (0 : Int) < 12 by decide), hmd, dAdd_i, hadd]) ?_
    dsimp only [List.set]
    refine asg_go (d := .int b) ?_ h
    rw [m2_e, mLst_e]
    simp -implicitDefEqProofs only [m2_e, mC_e, mCall_e, mCons_e, mNil_e, mVar_s, mVar_0, Option.bind_some, Option.map_some, dIx_l, j4, dInt_i, dMod_i (show (0 : Int) < 3 by decide), hat]
  unfold m__law_row
  by_cases c3 : 1 < a3 % 4
  · obtain ⟨o, ho, hmo⟩ : ∃ o : Option Int, (∀ n, o = some n → 0 ≤ n ∧ n ≤ 1000) ∧ ∀ a3' : Option DV, m2 dIx (mLst (mCons (m2 dMul (mC (.int 2)) (mVar 2)) (mCons (mC .none) mNil))) (m2 dMod (mCall (mCons (m2 dIx (mVar 0) (mC (.int 1))) mNil) dInt) (mC (.int 2))) [v (.list (iL es)), v (.int ((m0 + 1 : Nat) : Int)), v (.int b), a3', none, none] = some (eA o) := by
      have hmul : dMul (.int 2) (.int b) = some (.int (2 * b)) := dMul_l (by decide) (by decide)
      by_cases c1 : a1 % 2 = 0
      · refine ⟨some (2 * b), (fun n e => by cases e; omega), fun a3' => ?_⟩
        simp -implicitDefEqProofs [hmul, j1, c1]
      · have c2 : a1 % 2 = 1 := by omega
        refine ⟨none, (fun n e => by cases e), fun a3' => ?_⟩
        simp -implicitDefEqProofs [hmul, j1, c2]
        rfl
    have hrow : mLcI (mRng1 (mCons (mVar 1) mNil)) (gmName 5) mYes c__law_row_1 [5] [v (.list (iL es)), v (.int ((m0 + 1 : Nat) : Int)), v (.int b), none, none, none] = some (((List.range (m0 + 1)).map fun k => FF.wh k b (m0 + 2)).map eFF) := by
      rw [List.map_map]
      refine lc_eq (F := fun k : Nat => PyData.int (k : Int)) (rng_nat (n := m0 + 1) rfl (by omega)) (by rw [List.length_range]; omega) fun k hk => ?_
      have hs : ((m0 + 1 : Nat) : Int) + 1 = ((m0 + 2 : Nat) : Int) := by omega
      simp -implicitDefEqProofs only [mLcF, mYes, c__law_row_1, gmName, wipeD_cons, wipeD_nil, List.set, mTup_e, mCons_e, mNil_e, mC_e, mVar_0, mVar_s, m2_e, Option.bind_some, Option.map_some, dAdd_i, hs, if_true, Function.comp, eFF]
    refine ⟨[FF.amt (some 0)] ++ ((List.range (m0 + 1)).map fun k => FF.wh k b (m0 + 2)) ++ [FF.amt o], ⟨?_, ?_, ?_⟩, ?_⟩
    · simp
    · simp
      omega
    · have hlen : ([FF.amt (some 0)] ++ ((List.range (m0 + 1)).map fun k => FF.wh k b (m0 + 2)) ++ [FF.amt o]).length = m0 + 3 := by
        rw [List.length_append, List.length_append, List.length_map, List.length_range]
        simp
        omega
      rw [hlen]
      intro f hf
      rcases List.mem_append.mp hf with q | q
      · rcases List.mem_append.mp q with q | q
        · rw [List.mem_singleton.mp q]
          intro n e
          cases e
          exact ⟨by decide, by decide⟩
        · obtain ⟨k, hk, rfl⟩ := List.mem_map.mp q
          have := List.mem_range.mp hk
          exact ⟨by omega, by omega, by omega, by omega⟩
      · rw [List.mem_singleton.mp q]
        exact ho
    · refine hgo _ _ (ret_go (r := .own (([FF.amt (some 0)] ++ ((List.range (m0 + 1)).map fun k => FF.wh k b (m0 + 2)) ++ [FF.amt o]).map eFF)) (ifT_end (by simp -implicitDefEqProofs [j3, c3]) ?_) rfl)
      refine asg_go (lst_of hrow) ?_
      dsimp only [List.set]
      refine retO_end ?_
      have hlr : (((List.range (m0 + 1)).map fun k => FF.wh k b (m0 + 2)).map eFF).length = m0 + 1 := by rw [List.length_map, List.length_map, List.length_range]
      generalize ((List.range (m0 + 1)).map fun k => FF.wh k b (m0 + 2)) = rows at hlr
      have c1 : dCat (.list [eFF (.amt (some 0))]) (.list (rows.map eFF)) = some ([eFF (.amt (some 0))] ++ rows.map eFF) := dCat_l (by rw [hlr]; simp; omega)
      have c2 : dCat (.list ([eFF (.amt (some 0))] ++ rows.map eFF)) (.list [eFF (.amt o)]) = some ([eFF (.amt (some 0))] ++ rows.map eFF ++ [eFF (.amt o)]) := dCat_l (by rw [List.length_append, hlr]; simp; omega)
      have e1 : mLst (mCons (mTup (mCons (mC (.str "amount")) (mCons (mC (.int 0)) mNil))) mNil) [v (.list (iL es)), v (.int ((m0 + 1 : Nat) : Int)), v (.int b), v (.list (rows.map eFF)), none, none] = some (.list [eFF (.amt (some 0))]) := rfl
      have e2 : mLst (mCons (mTup (mCons (mC (.str "amount")) (mCons (m2 dIx (mLst (mCons (m2 dMul (mC (.int 2)) (mVar 2)) (mCons (mC .none) mNil))) (m2 dMod (mCall (mCons (m2 dIx (mVar 0) (mC (.int 1))) mNil) dInt) (mC (.int 2)))) mNil))) mNil) [v (.list (iL es)), v (.int ((m0 + 1 : Nat) : Int)), v (.int b), v (.list (rows.map eFF)), none, none] = some (.list [eFF (.amt o)]) := by
        rw [mLst_e, mCons_e, mTup_e, mCons_e, mCons_e, hmo]
        rfl
      have e3 : mVar 3 [v (.list (iL es)), v (.int ((m0 + 1 : Nat) : Int)), v (.int b), v (.list (rows.map eFF)), none, none] = some (.list (rows.map eFF)) := rfl
      rw [m2O_e, mLst_e, m2O_e, e1, e3, e2]
      simp -implicitDefEqProofs only [Option.bind_some, Option.map_some, c1, c2]
      rw [List.map_append, List.map_append]
      rfl
  · have hmul1 : dMul (.int (a1 % 4)) (.int b) = some (.int (a1 % 4 * b)) := dMul_l (by omega) (by omega)
    have h4b : 0 ≤ a1 % 4 * b ∧ a1 % 4 * b ≤ 1000 := by
      have h1 : a1 % 4 = 0 ∨ a1 % 4 = 1 ∨ a1 % 4 = 2 ∨ a1 % 4 = 3 := by omega
      rcases h1 with h1 | h1 | h1 | h1 <;> rw [h1] <;> omega
    have hloop : ∃ δ', mForL (gmName 5) b__law_row_1 ((List.range (m0 + 1)).map fun k : Nat => PyData.int (k : Int)) [v (.list (iL es)), v (.int ((m0 + 1 : Nat) : Int)), v (.int b), none, some (.own [eFF (.amt (some (a1 % 4 * b)))]), none] = some (.nx δ') ∧ (∃ (fs : List FF) (a5 : Option DV), δ' = [v (.list (iL es)), v (.int ((m0 + 1 : Nat) : Int)), v (.int b), none, some (.own (fs.map eFF)), a5] ∧ fs.length = (0 + ((List.range (m0 + 1)).map fun k : Nat => PyData.int (k : Int)).length) + 1 ∧ ∀ f ∈ fs, f.Ok (m0 + 2) 1000 4) := by
      refine mForL_inv (fun i δ => ∃ (fs : List FF) (a5 : Option DV), δ = [v (.list (iL es)), v (.int ((m0 + 1 : Nat) : Int)), v (.int b), none, some (.own (fs.map eFF)), a5] ∧ fs.length = i + 1 ∧ ∀ f ∈ fs, f.Ok (m0 + 2) 1000 4) _ 0 _ ⟨[.amt (some (a1 % 4 * b))], none, rfl, rfl, fun f hf => by
        rw [List.mem_singleton.mp hf]
        intro n e
        cases e
        exact h4b⟩ fun i d δ hd hp => ?_
      obtain ⟨fs, a5, rfl, h1, h2⟩ := hp
      obtain ⟨hi, rfl⟩ : i < m0 + 1 ∧ d = .int (i : Int) := by
        rw [List.getElem?_map] at hd
        obtain ⟨j, h1, h2⟩ := Option.map_eq_some_iff.mp hd
        have := (List.getElem?_eq_some_iff.mp h1).1
        rw [List.length_range] at this
        rw [List.getElem?_range this] at h1
        cases h1
        exact ⟨this, h2.symm⟩
      have hcap : (fs.map eFF).length ≤ cap := by
        rw [List.length_map, h1]
        unfold cap
        omega
      obtain ⟨c, hc1, hc2, hce⟩ : ∃ c : Int, 0 < c ∧ c ≤ 1000 ∧ m2 dMul (m2 dAdd (mC (.int 1)) (m2 dMod (mCall (mCons (m2 dAdd (m2 dIx (mVar 0) (mC (.int 2))) (m2 dMul (mC (.int 5)) (mVar 5))) mNil) dInt) (mC (.int 3)))) (mVar 2) [v (.list (iL es)), v (.int ((m0 + 1 : Nat) : Int)), v (.int b), none, some (.own (fs.map eFF)), v (.int (i : Int))] = some (.int c) := by
        have hm5 : dMul (.int 5) (.int (i : Int)) = some (.int (5 * (i : Int))) := dMul_l (by decide) (by decide)
        have hr : ∃ r : Int, 0 ≤ r ∧ r < 3 ∧ (a2 + 5 * (i : Int)) % 3 = r := ⟨_, by omega, by omega, rfl⟩
        obtain ⟨r, r0, r3, hr⟩ := hr
        have hm : dMul (.int (1 + r)) (.int b) = some (.int ((1 + r) * b)) := dMul_l (by omega) (by omega)
        refine ⟨(1 + r) * b, ?_, ?_, ?_⟩
        · exact Int.mul_pos (by omega) (by omega)
        · have h1 : r = 0 ∨ r = 1 ∨ r = 2 := by omega
          rcases h1 with h1 | h1 | h1 <;> rw [h1] <;> omega
        · simp -implicitDefEqProofs only [m2_e, mC_e, mCall_e, mCons_e, mNil_e, mVar_s, mVar_0, Option.bind_some, dIx_l, j2, hm5, dAdd_i, dInt_i, dMod_i (show (0 : Int) < 3 by decide), hr, hm]
      obtain ⟨t, ht, hte⟩ : ∃ t : Nat, t < m0 + 2 ∧ m2 dIx (mLst (mCons (mC (.int 0)) (mCons (mVar 5) mNil))) (m2 dMod (mCall (mCons (m2 dIx (mVar 0) (mC (.int 3))) mNil) dInt) (mC (.int 2))) [v (.list (iL es)), v (.int ((m0 + 1 : Nat) : Int)), v (.int b), none, some (.own (fs.map eFF)), v (.int (i : Int))] = some (.int (t : Int)) := by
        by_cases c1 : a3 % 2 = 0
        · refine ⟨0, by omega, ?_⟩
          simp -implicitDefEqProofs [j3, c1]
        · have c2 : a3 % 2 = 1 := by omega
          refine ⟨i, by omega, ?_⟩
          simp -implicitDefEqProofs [j3, c2]
          rfl
      refine ⟨[v (.list (iL es)), v (.int ((m0 + 1 : Nat) : Int)), v (.int b), none, some (.own (fs.map eFF)), v (.int (i : Int))], rfl, [v (.list (iL es)), v (.int ((m0 + 1 : Nat) : Int)), v (.int b), none, some (.own (fs.map eFF ++ [eFF (.wh i c t)])), v (.int (i : Int))], .inl ?_, fs ++ [.wh i c t], _, by rw [List.map_append]; rfl, by rw [List.length_append, h1]; rfl, fun f hf => ?_⟩
      · unfold b__law_row_1
        refine app_end (d := eFF (.wh i c t)) rfl ?_ hcap
        rw [mTup_e, mCons_e, mCons_e, mCons_e, mCons_e, hce, hte]
        rfl
      · rcases List.mem_append.mp hf with q | q
        · exact h2 f q
        · rw [List.mem_singleton.mp q]
          exact ⟨by omega, ht, hc1, hc2⟩
    obtain ⟨δ', e, fs, a5, rfl, h1, h2⟩ := hloop
    rw [List.length_map, List.length_range] at h1
    have hn : fs.length = m0 + 2 := by omega
    refine ⟨fs, ⟨by omega, by omega, by rw [hn]; exact h2⟩, ?_⟩
    refine hgo _ _ (chk_go (by simp -implicitDefEqProofs [j3]; omega) ?_)
    refine asgO_go (ds := [eFF (.amt (some (a1 % 4 * b)))]) ?_ ?_
    · simp -implicitDefEqProofs only [mCons_e, mNil_e, mTup_e, mC_e, m2_e, mCall_e, mVar_s, mVar_0, Option.bind_some, Option.map_some, dIx_l, j1, dInt_i, dMod_i (show (0 : Int) < 4 by decide), hmul1, eFF, eA_s]
    dsimp only [List.set]
    refine for_go (rng_nat (n := m0 + 1) rfl (by omega)) e ?_
    exact retX_end rfl
end Law
namespace Law
open PySem PySem.Spec PyProof.Rows L2 Dl
theorem cut_pre {α : Type} (xs : List α) {k : Nat} (h : k ≤ xs.length) : cutD xs none (some (k : Int)) = xs.take k := by
  unfold Dl.cutD
  rw [HT.sIx_nat, Nat.min_eq_left h]
  rfl
theorem cut_suf {α : Type} (xs : List α) {k : Nat} (h : k ≤ xs.length) : cutD xs (some (k : Int)) none = xs.drop k := by
  unfold Dl.cutD
  rw [HT.sIx_nat, Nat.min_eq_left h]
  show (xs.drop k).take (xs.length - k) = _
  rw [List.take_of_length_le]
  rw [List.length_drop]
  exact Nat.le_refl _
def spl (xs : LA) (k : Nat) (o : Option Int) : LA := xs.take k ++ [o] ++ xs.drop (k + 1)
theorem Rk.spl {n : Nat} {B : Int} {xs : LA} (h : Rk n B xs) {k : Nat} (hk : k < n) {o : Option Int} (ho : bdA B o) : Rk n B (spl xs k o) := by
  refine ⟨?_, fun a ha => ?_⟩
  · show (xs.take k ++ [o] ++ xs.drop (k + 1)).length = n
    have := h.1
    rw [List.length_append, List.length_append, List.length_take, List.length_drop]
    simp
    omega
  · have ha : a ∈ xs.take k ++ [o] ++ xs.drop (k + 1) := ha
    rcases List.mem_append.mp ha with q | q
    · rcases List.mem_append.mp q with q | q
      · exact h.2 a (List.mem_of_mem_take q)
      · rw [List.mem_singleton.mp q]; exact ho
    · exact h.2 a (List.mem_of_mem_drop q)
/-- xs[:at] + [one] + xs[at + 1:] -/
theorem spl_ok {δ : DS} {i j l : Nat} {xs : LA} {k : Nat} {o : Option Int} (hi : mVar i δ = some (.list (aL xs))) (hj : mVar j δ = some (.int (k : Int))) (hl : mVar l δ = some (eA o)) (hk : k < xs.length) (hx : xs.length ≤ 1000) :
    mLst (m2O dCat (mLst (m2O dCat (mLst (mSlL (mVar i) mNoP (mP (mVar j)))) (mLst (mCons (mVar l) mNil)))) (mLst (mSlL (mVar i) (mP (m2 dAdd (mVar j) (mC (.int 1)))) mNoP))) δ = some (.list (aL (spl xs k o))) := by
  have e1 : cutD (aL xs) none (some (k : Int)) = aL (xs.take k) := by
    rw [cut_pre _ (by rw [List.length_map]; omega)]
    exact List.map_take.symm
  have e2 : cutD (aL xs) (some ((k : Int) + 1)) none = aL (xs.drop (k + 1)) := by
    have := cut_suf (aL xs) (k := k + 1) (by rw [List.length_map]; omega)
    exact this.trans List.map_drop.symm
  have c1 : dCat (.list (aL (xs.take k))) (.list [eA o]) = some (aL (xs.take k) ++ [eA o]) := dCat_l (by rw [List.length_map, List.length_take]; simp; omega)
  have c2 : dCat (.list (aL (xs.take k) ++ [eA o])) (.list (aL (xs.drop (k + 1)))) = some (aL (xs.take k) ++ [eA o] ++ aL (xs.drop (k + 1))) := dCat_l (by rw [List.length_append, List.length_map, List.length_take, List.length_map, List.length_drop]; simp; omega)
  have e3 : aL (spl xs k o) = aL (xs.take k) ++ [eA o] ++ aL (xs.drop (k + 1)) := by
    show (xs.take k ++ [o] ++ xs.drop (k + 1)).map eA = _
    rw [List.map_append, List.map_append]
    rfl
  rw [e3]
  simp -implicitDefEqProofs only [mLst_e, m2O_e, mSlL_e, mP_e, mNoP_e, m2_e, mC_e, mCons_e, mNil_e, hi, hj, hl, toP_some, gSlL_some, Option.bind_some, Option.map_some, dAdd_i, e1, e2, c1, c2]
/-! other papers -/
def WL (xs : LA) : Prop := xs.length ≤ 15 ∧ ∀ a ∈ xs, bdA 1000000000 a
def Wk (s : ST) : Prop := (s.1.length ≤ 15 ∧ ∀ k ∈ s.1, k < 100) ∧ WL s.2.1 ∧ WL s.2.2.1 ∧ WL s.2.2.2
def Tk (t : List ST) : Prop := t.length ≤ 33 ∧ ∀ s ∈ t, Wk s
abbrev eT (t : List ST) : D := .list (eP t)
theorem Rk.wl {n : Nat} {B : Int} {xs : LA} (h : Rk n B xs) (hn : n ≤ 14) (hB : B ≤ 1000000000) : WL xs := ⟨by rw [h.1]; omega, fun a ha => (h.2 a ha).mono hB⟩
theorem Gd.wk {n : Nat} {s : ST} (h : Gd n s) (hn : n ≤ 14) : Wk s := ⟨⟨by have := h.1.1; omega, fun k hk => by have := h.1.2 k hk; omega⟩, h.2.1.wl hn (Int.le_refl _), h.2.2.1.wl hn (Int.le_refl _), h.2.2.2.wl hn (Int.le_refl _)⟩
theorem cutP (p : List ST) (lo hi : Option Int) : cutD (eP p) lo hi = eP (cutD p lo hi) := cutD_map eSt p lo hi
theorem cut_le {α : Type} (xs : List α) (lo hi : Option Int) : (Dl.cutD xs lo hi).length ≤ xs.length := by
  unfold Dl.cutD
  refine Nat.le_trans (List.length_take_le' _ _) ?_
  rw [List.length_drop]
  exact Nat.sub_le _ _
theorem Tk.cut {t : List ST} (h : Tk t) (lo hi : Option Int) : Tk (cutD t lo hi) := ⟨Nat.le_trans (cut_le t lo hi) h.1, fun s hs => h.2 s (cutD_mem hs)⟩
theorem WL.cut {t : LA} (h : WL t) (lo hi : Option Int) : WL (cutD t lo hi) := ⟨Nat.le_trans (cut_le t lo hi) h.1, fun s hs => h.2 s (cutD_mem hs)⟩
theorem eP_app (a b : List ST) : eP (a ++ b) = eP a ++ eP b := List.map_append
theorem cat_ok {a b : List D} (h : a.length + b.length ≤ 1000) : dCat (.list a) (.list b) = some (a ++ b) := dCat_l (by omega)
section
variable {p : List ST} {D0 : Option DV} {k : Nat}
/-- p[:at] + [one] + p[at + 1:] -/
theorem splP (hp : p.length ≤ 16) {δ : DS} {s : ST} (h0 : mVar 0 δ = some (.list (eP p))) (h2 : mVar 2 δ = some (.int (k : Int))) (h10 : mVar 10 δ = some (eSt s)) :
    mLst (m2O dCat (mLst (m2O dCat (mLst (mSlL (mVar 0) mNoP (mP (mVar 2)))) (mLst (mCons (mVar 10) mNil)))) (mLst (mSlL (mVar 0) (mP (m2 dAdd (mVar 2) (mC (.int 1)))) mNoP))) δ = some (eT (cutD p none (some (k : Int)) ++ [s] ++ cutD p (some ((k : Int) + 1)) none)) := by
  have l1 : (cutD p none (some (k : Int))).length ≤ 16 := Nat.le_trans (cut_le _ _ _) hp
  have l2 : (cutD p (some ((k : Int) + 1)) none).length ≤ 16 := Nat.le_trans (cut_le _ _ _) hp
  have c1 : dCat (.list (eP (cutD p none (some (k : Int))))) (.list [eSt s]) = some (eP (cutD p none (some (k : Int))) ++ [eSt s]) := cat_ok (by simp; omega)
  have c2 : dCat (.list (eP (cutD p none (some (k : Int))) ++ [eSt s])) (.list (eP (cutD p (some ((k : Int) + 1)) none))) = some (eP (cutD p none (some (k : Int))) ++ [eSt s] ++ eP (cutD p (some ((k : Int) + 1)) none)) := cat_ok (by rw [List.length_append]; simp; omega)
  have e : eP (cutD p none (some (k : Int)) ++ [s] ++ cutD p (some ((k : Int) + 1)) none) = eP (cutD p none (some (k : Int))) ++ [eSt s] ++ eP (cutD p (some ((k : Int) + 1)) none) := by rw [eP_app, eP_app]; rfl
  rw [show eT (cutD p none (some (k : Int)) ++ [s] ++ cutD p (some ((k : Int) + 1)) none) = PyData.list (eP (cutD p none (some (k : Int)) ++ [s] ++ cutD p (some ((k : Int) + 1)) none)) from rfl, e]
  simp -implicitDefEqProofs only [mLst_e, m2O_e, mSlL_e, mP_e, mNoP_e, m2_e, mC_e, mCons_e, mNil_e, h0, h2, h10, toP_some, gSlL_some, Option.bind_some, Option.map_some, dAdd_i, cutP, c1, c2]
theorem Tk.spl (hp : p.length ≤ 16) (hw : ∀ s ∈ p, Wk s) {s : ST} (hs : Wk s) (lo hi : Option Int) : Tk (cutD p none lo ++ [s] ++ cutD p hi none) := by
  have l1 := cut_le p none lo
  have l2 := cut_le p hi none
  refine ⟨by rw [List.length_append, List.length_append, List.length_singleton]; omega, fun u hu => ?_⟩
  rcases List.mem_append.mp hu with q | q
  · rcases List.mem_append.mp q with q | q
    · exact hw u (cutD_mem q)
    · rw [List.mem_singleton.mp q]; exact hs
  · exact hw u (cutD_mem q)
theorem oloop (hp : p.length ≤ 16) (hw : ∀ s ∈ p, Wk s) (a3 a4 a5 a6 a8 a9 : Option DV) (ss : List ST) (hs : ∀ s ∈ ss, Wk s) (hsl : ss.length ≤ 10) (ts : List (List ST)) (htl : ts.length ≤ 100) (ht : ∀ t ∈ ts, Tk t) (a10 : Option DV) :
    ∃ (ts' : List (List ST)) (b10 : Option DV), mForL (gmName 10) b__law_others_1 (eP ss) [v (.list (eP p)), D0, v (.int (k : Int)), a3, a4, a5, a6, some (.own (ts.map eT)), a8, a9, a10] = some (.nx [v (.list (eP p)), D0, v (.int (k : Int)), a3, a4, a5, a6, some (.own (ts'.map eT)), a8, a9, b10]) ∧ ts'.length = ts.length + ss.length ∧ ∀ t ∈ ts', Tk t := by
  obtain ⟨δ', e, ts', b10, rfl, h1, h2⟩ := mForL_inv (gm := gmName 10) (b := b__law_others_1) (fun i δ => ∃ (ts' : List (List ST)) (b10 : Option DV), δ = [v (.list (eP p)), D0, v (.int (k : Int)), a3, a4, a5, a6, some (.own (ts'.map eT)), a8, a9, b10] ∧ ts'.length = ts.length + i ∧ ∀ t ∈ ts', Tk t) (eP ss) 0 [v (.list (eP p)), D0, v (.int (k : Int)), a3, a4, a5, a6, some (.own (ts.map eT)), a8, a9, a10] ⟨ts, a10, rfl, rfl, ht⟩ fun i d δ hd hP => by
    obtain ⟨ts', b10, rfl, h1, h2⟩ := hP
    obtain ⟨s, hsm, rfl⟩ : ∃ s ∈ ss, d = eSt s := by
      obtain ⟨s, h1, h2⟩ := List.mem_map.mp (List.mem_of_getElem? hd)
      exact ⟨s, h1, h2.symm⟩
    have hil := (List.getElem?_eq_some_iff.mp hd).1
    rw [List.length_map] at hil
    refine ⟨[v (.list (eP p)), D0, v (.int (k : Int)), a3, a4, a5, a6, some (.own (ts'.map eT)), a8, a9, v (eSt s)], rfl, [v (.list (eP p)), D0, v (.int (k : Int)), a3, a4, a5, a6, some (.own (ts'.map eT ++ [eT (cutD p none (some (k : Int)) ++ [s] ++ cutD p (some ((k : Int) + 1)) none)])), a8, a9, v (eSt s)], .inl ?_, ts' ++ [cutD p none (some (k : Int)) ++ [s] ++ cutD p (some ((k : Int) + 1)) none], _, by rw [List.map_append]; rfl, by rw [List.length_append, h1]; rfl, fun t hm => ?_⟩
    · unfold b__law_others_1
      refine app_end rfl (splP hp rfl rfl rfl) ?_
      rw [List.length_map, h1]
      unfold cap
      omega
    · rcases List.mem_append.mp hm with q | q
      · exact h2 t q
      · rw [List.mem_singleton.mp q]
        exact Tk.spl hp hw (hs s hsm) _ _
  rw [List.length_map, Nat.zero_add] at h1
  exact ⟨ts', b10, e, h1, h2⟩
end
theorem nL_app (a b : LN) : nL (a ++ b) = nL a ++ nL b := List.map_append
theorem cutN (p : LN) (lo hi : Option Int) : cutD (nL p) lo hi = nL (cutD p lo hi) := cutD_map (fun k : Nat => PyData.int (k : Int)) p lo hi
theorem cutA2 (p : LA) (lo hi : Option Int) : cutD (aL p) lo hi = aL (cutD p lo hi) := cutD_map eA p lo hi
theorem others_ok {n : Nat} (hn1 : 1 ≤ n) (hn : n ≤ 14) {p : List ST} (hp0 : p ≠ []) (hp : p.length ≤ 16) (hg : ∀ s ∈ p, Gd n s) (es : List Int) (hl : es.length = 3) (hb : ∀ d ∈ es, 0 ≤ d ∧ d < 1000) :
    ∃ ts : List (List ST), ts.length = 16 ∧ (∀ t ∈ ts, Tk t) ∧ f__law_others [.list (eP p), .list (iL es)] = some (.own (ts.map eT)) := by
  have hw : ∀ s ∈ p, Wk s := fun s hs => (hg s hs).wk hn
  obtain ⟨a0, _, _, i0⟩ := at_dr hl hb (i := 0) (by decide)
  obtain ⟨a1, _, _, i1⟩ := at_dr hl hb (i := 1) (by decide)
  obtain ⟨a2, _, _, i2⟩ := at_dr hl hb (i := 2) (by decide)
  have j0 : atI (iL es) 0 = some (.int a0) := i0
  have j1 : atI (iL es) 1 = some (.int a1) := i1
  have j2 : atI (iL es) 2 = some (.int a2) := i2
  have hpn : 0 < p.length := List.length_pos_iff.mpr hp0
  obtain ⟨at0, hat0, hatm⟩ := mod_natD a0 hpn
  have hs : p[at0]? = some p[at0] := List.getElem?_eq_getElem hat0
  have hgs := hg _ (List.getElem_mem hat0)
  have hat := pp_at hs
  generalize p[at0] = s at hs hgs hat
  obtain ⟨⟨hpl, hpm⟩, hx, hh, ht⟩ := hgs
  obtain ⟨k, hk, hkm⟩ := mod_natD a1 (m := n) (by omega)
  obtain ⟨o, ho, hmo⟩ : ∃ o : Option Int, bdA 1000000000 o ∧ ∀ δ : DS, mVar 1 δ = some (.list (iL es)) → m2 dIx (mLst (mCons (mC .none) (mCons (mC (.int 0)) (mCons (mC (.int 2)) (mCons (mC (.int 40)) mNil))))) (m2 dMod (mCall (mCons (m2 dIx (mVar 1) (mC (.int 2))) mNil) dInt) (mC (.int 4))) δ = some (eA o) := by
    have h4 : a2 % 4 = 0 ∨ a2 % 4 = 1 ∨ a2 % 4 = 2 ∨ a2 % 4 = 3 := by omega
    rcases h4 with h4 | h4 | h4 | h4
    · exact ⟨none, bdAn, fun δ hδ => by simp -implicitDefEqProofs [hδ, j2, h4]⟩
    · exact ⟨some 0, bdA0 (by decide), fun δ hδ => by simp -implicitDefEqProofs [hδ, j2, h4]; rfl⟩
    · exact ⟨some 2, bd_some (by decide) (by decide), fun δ hδ => by simp -implicitDefEqProofs [hδ, j2, h4]; rfl⟩
    · exact ⟨some 40, bd_some (by decide) (by decide), fun δ hδ => by simp -implicitDefEqProofs [hδ, j2, h4]; rfl⟩
  -- the first six
  have lP : ∀ lo hi, (eP (cutD p lo hi)).length ≤ 16 := fun lo hi => by rw [List.length_map]; exact Nat.le_trans (cut_le _ _ _) hp
  have tp : Tk p := ⟨by omega, hw⟩
  have c1 : dCat (.list (eP (cutD p none (some (at0 : Int))))) (.list (eP (cutD p (some ((at0 : Int) + 1)) none))) = some (eP (cutD p none (some (at0 : Int)) ++ cutD p (some ((at0 : Int) + 1)) none)) := by
    rw [eP_app]
    have := lP none (some (at0 : Int))
    have := lP (some ((at0 : Int) + 1)) none
    exact cat_ok (by omega)
  have c2 : dCat (.list (eP (cutD p none (some ((at0 : Int) + 1))))) (.list (eP (cutD p (some (at0 : Int)) none))) = some (eP (cutD p none (some ((at0 : Int) + 1)) ++ cutD p (some (at0 : Int)) none)) := by
    rw [eP_app]
    have := lP none (some ((at0 : Int) + 1))
    have := lP (some (at0 : Int)) none
    exact cat_ok (by omega)
  have tcat : ∀ a b c d, Tk (cutD p a b ++ cutD p c d) := fun a b c d => by
    have l1 := cut_le p a b
    have l2 := cut_le p c d
    refine ⟨by rw [List.length_append]; omega, fun u hu => ?_⟩
    rcases List.mem_append.mp hu with q | q
    · exact hw u (cutD_mem q)
    · exact hw u (cutD_mem q)
  obtain ⟨ts, hts⟩ : ∃ ts : List (List ST), ts = [p, cutD p (some 1) none, cutD p none (some (-1)), cutD p none (some (at0 : Int)) ++ cutD p (some ((at0 : Int) + 1)) none, cutD p none (some ((at0 : Int) + 1)) ++ cutD p (some (at0 : Int)) none, p.reverse] := ⟨_, rfl⟩
  have t6 : ts.length = 6 := by rw [hts]; rfl
  have t0 : ∀ t ∈ ts, Tk t := by
    rw [hts]
    intro t htm
    simp only [List.mem_cons, List.not_mem_nil, or_false] at htm
    rcases htm with rfl | rfl | rfl | rfl | rfl | rfl
    · exact tp
    · exact tp.cut _ _
    · exact tp.cut _ _
    · exact tcat _ _ _ _
    · exact tcat _ _ _ _
    · exact ⟨by rw [List.length_reverse]; omega, fun s hs => hw s (List.mem_reverse.mp hs)⟩
  have hneg : dNeg (.int 1) = some (.int (-1)) := rfl
  have hrevP : mRev (mVar 0) [v (.list (eP p)), v (.list (iL es)), v (.int (at0 : Int)), v (.list (nL s.1)), v (.list (aL s.2.1)), v (.list (aL s.2.2.1)), v (.list (aL s.2.2.2)), none, none, none, none] = some (eP p.reverse) := by
    rw [mRev_e (ds := eP p) rfl]
    exact congrArg some List.map_reverse.symm
  have hsix : (mCons (mVar 0) (mCons (mLst (mSlL (mVar 0) (mP (mC (.int 1))) mNoP)) (mCons (mLst (mSlL (mVar 0) mNoP (mP (m1 dNeg (mC (.int 1)))))) (mCons (mLst (m2O dCat (mLst (mSlL (mVar 0) mNoP (mP (mVar 2)))) (mLst (mSlL (mVar 0) (mP (m2 dAdd (mVar 2) (mC (.int 1)))) mNoP)))) (mCons (mLst (m2O dCat (mLst (mSlL (mVar 0) mNoP (mP (m2 dAdd (mVar 2) (mC (.int 1)))))) (mLst (mSlL (mVar 0) (mP (mVar 2)) mNoP)))) (mCons (mLst (mRev (mVar 0))) mNil)))))) [v (.list (eP p)), v (.list (iL es)), v (.int (at0 : Int)), v (.list (nL s.1)), v (.list (aL s.2.1)), v (.list (aL s.2.2.1)), v (.list (aL s.2.2.2)), none, none, none, none] = some (ts.map eT) := by
    rw [hts]
    simp -implicitDefEqProofs only [mCons_e, mNil_e, mLst_e, m2O_e, mSlL_e, mP_e, mNoP_e, m1_e, m2_e, mC_e, mVar_0, mVar_s, toP_some, gSlL_some, Option.bind_some, Option.map_some, dAdd_i, hneg, cutP, c1, c2, hrevP]
    rfl
  clear hts
  unfold f__law_others
  suffices H : ∃ ts : List (List ST), ts.length = 16 ∧ (∀ t ∈ ts, Tk t) ∧ m__law_others [v (.list (eP p)), v (.list (iL es)), none, none, none, none, none, none, none, none, none] = some (.rt (.own (ts.map eT))) by
    obtain ⟨ts, h1, h2, h3⟩ := H
    refine ⟨ts, h1, h2, fnD_rt rfl ?_⟩
    show m__law_others (startD 11 [.list (eP p), .list (iL es)]) = _
    rw [startD_2]
    dsimp only [List.replicate]
    exact h3
  have wx := hx.wl hn (Int.le_refl _)
  have wh := hh.wl hn (Int.le_refl _)
  have wt := ht.wl hn (Int.le_refl _)
  have wp : s.1.length ≤ 15 ∧ ∀ k ∈ s.1, k < 100 := ⟨by omega, fun k hk => by have := hpm k hk; omega⟩
  -- the loops
  have w1 : Wk (s.1 ++ [k], s.2) := ⟨⟨by rw [List.length_append, List.length_singleton]; omega, fun j hj => by
    rcases List.mem_append.mp hj with q | q
    · exact wp.2 j q
    · rw [List.mem_singleton.mp q]; omega⟩, wx, wh, wt⟩
  have w2 : Wk (cutD s.1 (some 1) none, s.2) := ⟨⟨Nat.le_trans (cut_le _ _ _) wp.1, fun j hj => wp.2 j (cutD_mem hj)⟩, wx, wh, wt⟩
  have w3 : Wk (s.1.reverse, s.2) := ⟨⟨by rw [List.length_reverse]; exact wp.1, fun j hj => wp.2 j (List.mem_reverse.mp hj)⟩, wx, wh, wt⟩
  have w4 : Wk (s.1, spl s.2.1 k o, s.2.2) := ⟨wp, (hx.spl hk ho).wl hn (Int.le_refl _), wh, wt⟩
  have w5 : Wk (s.1, s.2.1, spl s.2.2.1 k o, s.2.2.2) := ⟨wp, wx, (hh.spl hk ho).wl hn (Int.le_refl _), wt⟩
  have w6 : Wk (s.1, s.2.1, s.2.2.1, spl s.2.2.2 k o) := ⟨wp, wx, wh, (ht.spl hk ho).wl hn (Int.le_refl _)⟩
  have w7 : Wk (s.1, cutD s.2.1 none (some (-1)), s.2.2) := ⟨wp, wx.cut _ _, wh, wt⟩
  have w8 : Wk (s.1, s.2.1, s.2.2.1 ++ [some 0], s.2.2.2) := ⟨wp, wx, ⟨by rw [List.length_append, List.length_singleton, hh.1]; omega, fun a ha => by
    rcases List.mem_append.mp ha with q | q
    · exact wh.2 a q
    · rw [List.mem_singleton.mp q]; exact bdA0 (by decide)⟩, wt⟩
  have w9 : Wk (s.1, s.2.1, s.2.2.1, cutD s.2.2.2 (some 1) none) := ⟨wp, wx, wh, wt.cut _ _⟩
  have w10 : Wk (s.1, s.2.1, s.2.2.2, s.2.2.1) := ⟨wp, wx, wt, wh⟩
  obtain ⟨us1, b1, e1, u1, g1⟩ := oloop (D0 := v (.list (iL es))) (k := at0) hp hw (v (.list (nL s.1))) (v (.list (aL s.2.1))) (v (.list (aL s.2.2.1))) (v (.list (aL s.2.2.2))) (v (.int (k : Int))) (v (eA o)) [(s.1 ++ [k], s.2), (cutD s.1 (some 1) none, s.2), (s.1.reverse, s.2)] (by
    intro u hu
    simp only [List.mem_cons, List.not_mem_nil, or_false] at hu
    rcases hu with rfl | rfl | rfl
    · exact w1
    · exact w2
    · exact w3) (show 3 ≤ 10 by decide) ts (by omega) t0 none
  obtain ⟨us2, b2, e2, u2, g2⟩ := oloop (D0 := v (.list (iL es))) (k := at0) hp hw (v (.list (nL s.1))) (v (.list (aL s.2.1))) (v (.list (aL s.2.2.1))) (v (.list (aL s.2.2.2))) (v (.int (k : Int))) (v (eA o)) [(s.1, spl s.2.1 k o, s.2.2), (s.1, s.2.1, spl s.2.2.1 k o, s.2.2.2)] (by
    intro u hu
    simp only [List.mem_cons, List.not_mem_nil, or_false] at hu
    rcases hu with rfl | rfl
    · exact w4
    · exact w5) (show 2 ≤ 10 by decide) us1 (by rw [u1, t6]; exact Nat.le_of_ble_eq_true rfl) g1 b1
  obtain ⟨us3, b3, e3, u3, g3⟩ := oloop (D0 := v (.list (iL es))) (k := at0) hp hw (v (.list (nL s.1))) (v (.list (aL s.2.1))) (v (.list (aL s.2.2.1))) (v (.list (aL s.2.2.2))) (v (.int (k : Int))) (v (eA o)) [(s.1, s.2.1, s.2.2.1, spl s.2.2.2 k o), (s.1, cutD s.2.1 none (some (-1)), s.2.2)] (by
    intro u hu
    simp only [List.mem_cons, List.not_mem_nil, or_false] at hu
    rcases hu with rfl | rfl
    · exact w6
    · exact w7) (show 2 ≤ 10 by decide) us2 (by rw [u2, u1, t6]; exact Nat.le_of_ble_eq_true rfl) g2 b2
  obtain ⟨us4, b4, e4, u4, g4⟩ := oloop (D0 := v (.list (iL es))) (k := at0) hp hw (v (.list (nL s.1))) (v (.list (aL s.2.1))) (v (.list (aL s.2.2.1))) (v (.list (aL s.2.2.2))) (v (.int (k : Int))) (v (eA o)) [(s.1, s.2.1, s.2.2.1 ++ [some 0], s.2.2.2), (s.1, s.2.1, s.2.2.1, cutD s.2.2.2 (some 1) none), (s.1, s.2.1, s.2.2.2, s.2.2.1)] (by
    intro u hu
    simp only [List.mem_cons, List.not_mem_nil, or_false] at hu
    rcases hu with rfl | rfl | rfl
    · exact w8
    · exact w9
    · exact w10) (show 3 ≤ 10 by decide) us3 (by rw [u3, u2, u1, t6]; exact Nat.le_of_ble_eq_true rfl) g3 b3
  refine ⟨us4, by rw [u4, u3, u2, u1, t6]; rfl, g4, ?_⟩
  unfold m__law_others
  refine asg_go (d := .int (at0 : Int)) (by
    have hl2 : ((eP p).length : Int) = (p.length : Int) := by rw [List.length_map]
    simp -implicitDefEqProofs only [m2_e, mC_e, mCall_e, mCons_e, mNil_e, mVar_s, mVar_0, Option.bind_some, dIx_l, j0, dInt_i, dLen_l, hl2, hatm]) ?_
  dsimp only [List.set]
  refine asgG_go (d := eSt s) (by simp -implicitDefEqProofs only [m2_e, mVar_0, mVar_s, Option.bind_some, dIx_l, hat]) rfl ?_
  dsimp only [List.set]
  refine asgO_go hsix ?_
  dsimp only [List.set]
  refine asg_go (d := .int (k : Int)) (by
    have hl2 : ((aL s.2.1).length : Int) = (n : Int) := by rw [List.length_map, hx.1]
    simp -implicitDefEqProofs only [m2_e, mC_e, mCall_e, mCons_e, mNil_e, mVar_s, mVar_0, Option.bind_some, dIx_l, j1, dInt_i, dLen_l, hl2, hkm]) ?_
  dsimp only [List.set]
  refine asg_go (hmo _ rfl) ?_
  dsimp only [List.set]
  have hxl : s.2.1.length ≤ 1000 := by rw [hx.1]; omega
  have hhl : s.2.2.1.length ≤ 1000 := by rw [hh.1]; omega
  have htl : s.2.2.2.length ≤ 1000 := by rw [ht.1]; omega
  have cp : dCat (.list (nL s.1)) (.list [.int (k : Int)]) = some (nL (s.1 ++ [k])) := by
    rw [nL_app]
    exact cat_ok (by rw [List.length_map]; simp; omega)
  have ch : dCat (.list (aL s.2.2.1)) (.list [.int 0]) = some (aL (s.2.2.1 ++ [some 0])) := by
    rw [show aL (s.2.2.1 ++ [some 0]) = aL s.2.2.1 ++ [PyData.int 0] from List.map_append]
    exact cat_ok (by rw [List.length_map, hh.1]; simp; omega)
  refine for_go ?_ e1 ?_
  · have hrev : mRev (mVar 3) [v (.list (eP p)), v (.list (iL es)), v (.int (at0 : Int)), v (.list (nL s.1)), v (.list (aL s.2.1)), v (.list (aL s.2.2.1)), v (.list (aL s.2.2.2)), some (.own (ts.map eT)), v (.int (k : Int)), v (eA o), none] = some (nL s.1.reverse) := by
      rw [mRev_e (ds := nL s.1) rfl]
      exact congrArg some List.map_reverse.symm
    simp -implicitDefEqProofs only [mItems_e, mCons_e, mNil_e, mTup_e, mLst_e, m2O_e, mSlL_e, mP_e, mNoP_e, mC_e, mVar_0, mVar_s, toP_some, gSlL_some, Option.bind_some, Option.map_some, cp, cutN, hrev]
    rfl
  refine for_go ?_ e2 ?_
  · have hs4 := spl_ok (δ := [v (.list (eP p)), v (.list (iL es)), v (.int (at0 : Int)), v (.list (nL s.1)), v (.list (aL s.2.1)), v (.list (aL s.2.2.1)), v (.list (aL s.2.2.2)), some (.own (us1.map eT)), v (.int (k : Int)), v (eA o), b1]) (i := 4) (j := 8) (l := 9) (xs := s.2.1) (k := k) (o := o) rfl rfl rfl (by rw [hx.1]; exact hk) hxl
    have hs5 := spl_ok (δ := [v (.list (eP p)), v (.list (iL es)), v (.int (at0 : Int)), v (.list (nL s.1)), v (.list (aL s.2.1)), v (.list (aL s.2.2.1)), v (.list (aL s.2.2.2)), some (.own (us1.map eT)), v (.int (k : Int)), v (eA o), b1]) (i := 5) (j := 8) (l := 9) (xs := s.2.2.1) (k := k) (o := o) rfl rfl rfl (by rw [hh.1]; exact hk) hhl
    have q1 : mTup (mCons (mVar 3) (mCons (mLst (m2O dCat (mLst (m2O dCat (mLst (mSlL (mVar 4) mNoP (mP (mVar 8)))) (mLst (mCons (mVar 9) mNil)))) (mLst (mSlL (mVar 4) (mP (m2 dAdd (mVar 8) (mC (.int 1)))) mNoP)))) (mCons (mVar 5) (mCons (mVar 6) mNil)))) [v (.list (eP p)), v (.list (iL es)), v (.int (at0 : Int)), v (.list (nL s.1)), v (.list (aL s.2.1)), v (.list (aL s.2.2.1)), v (.list (aL s.2.2.2)), some (.own (us1.map eT)), v (.int (k : Int)), v (eA o), b1] = some (eSt (s.1, spl s.2.1 k o, s.2.2)) := by
      rw [mTup_e, mCons_e, mCons_e, hs4]
      rfl
    have q2 : mTup (mCons (mVar 3) (mCons (mVar 4) (mCons (mLst (m2O dCat (mLst (m2O dCat (mLst (mSlL (mVar 5) mNoP (mP (mVar 8)))) (mLst (mCons (mVar 9) mNil)))) (mLst (mSlL (mVar 5) (mP (m2 dAdd (mVar 8) (mC (.int 1)))) mNoP)))) (mCons (mVar 6) mNil)))) [v (.list (eP p)), v (.list (iL es)), v (.int (at0 : Int)), v (.list (nL s.1)), v (.list (aL s.2.1)), v (.list (aL s.2.2.1)), v (.list (aL s.2.2.2)), some (.own (us1.map eT)), v (.int (k : Int)), v (eA o), b1] = some (eSt (s.1, s.2.1, spl s.2.2.1 k o, s.2.2.2)) := by
      rw [mTup_e, mCons_e, mCons_e, mCons_e, hs5]
      rfl
    rw [mItems_e, mLst_e, mCons_e, q1, mCons_e, q2]
    rfl
  refine for_go ?_ e3 ?_
  · have hsp := spl_ok (δ := [v (.list (eP p)), v (.list (iL es)), v (.int (at0 : Int)), v (.list (nL s.1)), v (.list (aL s.2.1)), v (.list (aL s.2.2.1)), v (.list (aL s.2.2.2)), some (.own (us2.map eT)), v (.int (k : Int)), v (eA o), b2]) (i := 6) (j := 8) (l := 9) (xs := s.2.2.2) (k := k) (o := o) rfl rfl rfl (by rw [ht.1]; exact hk) htl
    rw [mItems_e, mLst_e, mCons_e, mTup_e, mCons_e, mCons_e, mCons_e, mCons_e, hsp]
    simp -implicitDefEqProofs only [mCons_e, mNil_e, mTup_e, mLst_e, mSlL_e, mP_e, mNoP_e, m1_e, mC_e, mVar_0, mVar_s, toP_some, gSlL_some, Option.bind_some, Option.map_some, hneg, cutA2]
    rfl
  refine for_go ?_ e4 ?_
  · simp -implicitDefEqProofs only [mItems_e, mCons_e, mNil_e, mTup_e, mLst_e, m2O_e, mSlL_e, mP_e, mNoP_e, mC_e, mVar_0, mVar_s, toP_some, gSlL_some, Option.bind_some, Option.map_some, ch, cutA2]
    rfl
  exact retX_end rfl
end Law
namespace Law
open PySem PySem.Spec PyProof.Rows L2 Dl
/-! a right paper ends at the greatest solution -/
section
variable {fs : List FF}
theorem Flat52.gs (F : Flat52 fs) : Row fs.length (gsol fs) ∧ vals fs vF (gsol fs) = gsol fs ∧ ∀ y, Row fs.length y → leL y (vals fs vF y) → leL y (gsol fs) := by
  obtain ⟨gr, gfix, _, gmax⟩ := greatest_settles F.sheet (n := 20000) (settle_bd F.hi)
  exact ⟨gr, gfix, gmax⟩
theorem shA_zero {a : Option Int} (h : nnA a) : shA a 0 = a := by
  cases a with
  | none => rfl
  | some n =>
    have := h n rfl
    show some (max (n + 0) 0) = some n
    congr 1
    omega
theorem one_single (l : Bool) (a : Option Int) : oneA l [a] = a := by
  have q := oneA_mem (l := l) (ys := [a]) (fun z => by cases z)
  exact List.mem_singleton.mp q
theorem row_nn {m : Nat} {xs : LA} (r : Row m xs) (i : Nat) (h : i < m) : nnA (gA xs i) := r.nn _ (gA_mem (by rw [r.len]; exact h))
theorem opn_pre (F : Flat52 fs) {g : LA} (rg : Row fs.length g) (hg : vals fs vF g = g) {ps : LN} (hm : ∀ k ∈ conds fs, k ∉ ps → missB fs g k = true) : leL g (vals (opn fs ps) vF g) := by
  intro i a b ha hb
  have hi : i < fs.length := by rw [← rg.len]; exact (List.getElem?_eq_some_iff.mp ha).1
  have hf : fs[i]? = some fs[i] := List.getElem?_eq_getElem hi
  have ok := F.ok _ (List.mem_of_getElem? hf)
  have ha2 : a = fs[i].val g := by
    rw [← hg] at ha
    unfold vals at ha
    rw [List.getElem?_map, hf] at ha
    exact (Option.some.inj ha).symm
  have hb2 : b = (opF (decide (i ∈ ps)) fs[i]).val g := by
    unfold vals at hb
    rw [List.getElem?_map, opn_at, hf] at hb
    exact (Option.some.inj hb).symm
  generalize fs[i] = f at hf ok ha2 hb2
  cases f with
  | amt o => rw [ha2, hb2]; exact leA_refl _
  | ex l arcs => rw [ha2, hb2]; exact leA_refl _
  | wh j t k =>
    obtain ⟨o1, o2, o3, o4⟩ := ok
    have nk := row_nn rg k o2
    have hav : a = if leA (some t) (gA g j) = true then gA g k else some 0 := ha2
    by_cases hp : i ∈ ps
    · have hbv : b = gA g k := by
        rw [hb2, decide_eq_true hp]
        show oneA false [shA (gA g k) 0] = _
        rw [one_single, shA_zero nk]
      rw [hav, hbv]
      split
      · exact leA_refl _
      · cases hq : gA g k with
        | none => rfl
        | some n => exact decide_eq_true (nk n hq)
    · have hbv : b = some 0 := by
        rw [hb2, decide_eq_false hp]
        rfl
      have hmi := hm i (mem_conds hf) hp
      have : leA (some t) (gA g j) = false := by
        unfold missB at hmi
        rw [hf] at hmi
        simpa using hmi
      rw [hav, hbv, this]
      exact leA_refl _
theorem stage_sound (F : Flat52 fs) {s : ST} (hs : stB fs s = true) (hw : Wk s) {g : LA} (rg : Row fs.length g) (hpre : leL g (vals (opn fs s.1) vF g)) : Row fs.length s.2.1 ∧ leL g s.2.1 := by
  have e := opn_len fs s.1
  unfold stB at hs
  rw [Bool.and_eq_true] at hs
  obtain ⟨hl, hsh⟩ := hs
  unfold lenB at hl
  rw [Bool.and_eq_true, Bool.and_eq_true] at hl
  have l1 := of_decide_eq_true hl.1
  have l2 := of_decide_eq_true hl.2.1
  have l3 := of_decide_eq_true hl.2.2
  have rx : Row fs.length s.2.1 := ⟨l1, fun a ha => (hw.2.1.2 a ha).nn⟩
  have hv : vals (opn fs s.1) vF s.2.1 = s.2.1 := by
    have q := hsh
    unfold showsB at q
    rw [Bool.and_eq_true] at q
    exact of_decide_eq_true q.1
  obtain ⟨Gr, Gfix, _, Gmax⟩ := greatest_settles (F.osheet s.1) (n := 20000) (by rw [opn_len]; exact settle_bd F.hi)
  have hgG := Gmax g (by rw [e]; exact rg) hpre
  have hxG := Gmax s.2.1 (by rw [e]; exact rx) (by rw [hv]; exact leL_refl _)
  have q := shows_sound (F.opn s.1) (opn_pl fs s.1) hsh Gfix (by rw [e]; exact rx) Gr hxG (by rw [e]; exact l2) (fun a ha => hw.2.2.1.2 a ha) (by rw [e]; exact l3) (fun a ha => hw.2.2.2.2 a ha)
  exact ⟨rx, by rw [q]; exact hgG⟩
theorem miss_anti (F : Flat52 fs) {g x : LA} (rg : Row fs.length g) (rx : Row fs.length x) (hle : leL g x) {k : Nat} (hk : k ∈ conds fs) (h : missB fs x k = true) : missB fs g k = true := by
  obtain ⟨_, j, a, t, hf⟩ := conds_mem hk
  have ok := F.ok _ (List.mem_of_getElem? hf)
  unfold missB at h ⊢
  rw [hf] at h ⊢
  have hj : j < fs.length := ok.1
  have hle2 := hle j _ _ (gA_get (by rw [rg.len]; exact hj)) (gA_get (by rw [rx.len]; exact hj))
  show (!leA (some a) (gA g j)) = true
  have h : (!leA (some a) (gA x j)) = true := h
  cases hq : leA (some a) (gA g j) with
  | false => rfl
  | true =>
    rw [leA_trans hq hle2] at h
    cases h
theorem paper_inv (F : Flat52 fs) {p : List ST} (hw : ∀ s ∈ p, Wk s) {s0 : ST} (h0 : p[0]? = some s0) (hc : s0.1 = conds fs) (hq : ∀ j, j < p.length → qB fs p j = true) {g : LA} (rg : Row fs.length g) (hg : vals fs vF g = g) :
    ∀ (i : Nat) (s : ST), p[i]? = some s → (Row fs.length s.2.1 ∧ leL g s.2.1) ∧ ∀ k ∈ conds fs, k ∉ s.1 → missB fs g k = true
  | 0, s, hs => by
    have hq0 := hq 0 (List.getElem?_eq_some_iff.mp hs).1
    rw [qB_some hs, Bool.and_eq_true] at hq0
    rw [h0] at hs
    cases hs
    have hm : ∀ k ∈ conds fs, k ∉ s0.1 → missB fs g k = true := fun k hk hn => absurd (by rw [hc]; exact hk) hn
    exact ⟨stage_sound F hq0.1 (hw _ (List.mem_of_getElem? h0)) rg (opn_pre F rg hg hm), hm⟩
  | i + 1, s, hs => by
    have hi := (List.getElem?_eq_some_iff.mp hs).1
    have hb : p[i]? = some p[i] := List.getElem?_eq_getElem (by omega)
    have ih := paper_inv F hw h0 hc hq rg hg i p[i] hb
    have hq0 := hq (i + 1) hi
    rw [qB_some hs, Bool.and_eq_true, pre_succ hb] at hq0
    generalize p[i] = b at hb ih hq0
    have hst := hq0.2
    unfold stepB at hst
    rw [Bool.and_eq_true, Bool.and_eq_true] at hst
    have hall := List.all_eq_true.mp hst.2.2
    have hm : ∀ k ∈ conds fs, k ∉ s.1 → missB fs g k = true := fun k hk hn => by
      by_cases hkb : k ∈ b.1
      · have := hall k hkb
        rw [decide_eq_false hn, Bool.false_or] at this
        exact miss_anti F rg ih.1.1 ih.1.2 hk this
      · exact ih.2 k hk hkb
    exact ⟨stage_sound F hq0.1 (hw _ (List.mem_of_getElem? hs)) rg (opn_pre F rg hg hm), hm⟩
theorem right_sound (F : Flat52 fs) {p : List ST} (hw : ∀ s ∈ p, Wk s) (hr : rightB fs p = true) : ∃ s : ST, p[p.length - 1]? = some s ∧ s.2.1 = gsol fs := by
  cases p with
  | nil => cases hr
  | cons s0 rest =>
    obtain ⟨rg, hg, gmax⟩ := F.gs
    generalize gsol fs = g at rg hg gmax
    have h : (decide (s0.1 = conds fs) && ((List.range (s0 :: rest).length).all (qB fs (s0 :: rest)) && lastB fs (s0 :: rest))) = true := hr
    rw [Bool.and_eq_true, Bool.and_eq_true] at h
    obtain ⟨h1, h2, h3⟩ := h
    generalize hp : s0 :: rest = p at hw h2 h3
    have h0 : p[0]? = some s0 := by rw [← hp]; rfl
    have hpn : 0 < p.length := by rw [← hp]; exact Nat.succ_pos _
    have hs : p[p.length - 1]? = some p[p.length - 1] := List.getElem?_eq_getElem (by omega)
    have hi := paper_inv F hw h0 (of_decide_eq_true h1) (fun j hj => List.all_eq_true.mp h2 j (List.mem_range.mpr hj)) rg hg _ _ hs
    refine ⟨_, hs, ?_⟩
    unfold lastB at h3
    rw [hs] at h3
    have hv := of_decide_eq_true h3
    exact leL_anti hi.1.1.len rg.len (gmax _ hi.1.1 (by rw [hv]; exact leL_refl _)) hi.1.2
end
end Law
namespace Law
open PySem PySem.Spec PyProof.Rows L2 Dl
/-! the law -/
theorem shw_pl {ps : LN} (h : ps.length ≤ 15 ∧ ∀ k ∈ ps, k < 100) : Shw (.list (nL ps)) 1 947 := by
  have q := shw_list (shw_all (ds := nL ps) (dep := 0) (n := 61) fun d hd => by
    obtain ⟨k, hk, rfl⟩ := List.mem_map.mp hd
    have := h.2 k hk
    exact shw_int60 (by omega))
  rw [List.length_map] at q
  have := h.1
  exact q.mono (Nat.le_refl _) (by omega)
theorem shw_wl {xs : LA} (h : WL xs) : Shw (.list (aL xs)) 1 947 := by
  have := h.1
  exact (shw_rowB h.2 (by decide)).mono (Nat.le_refl _) (by omega)
theorem shw_st {s : ST} (h : Wk s) : Shw (eSt s) 2 3799 := by
  exact (shw_tup (shw_cons (shw_pl h.1) (shw_cons (shw_wl h.2.1) (shw_cons (shw_wl h.2.2.1) (shw_cons (shw_wl h.2.2.2) shw_nil))))).mono (Nat.le_refl _) (by decide)
theorem shw_t {t : List ST} (h : Tk t) : Shw (eT t) 3 125500 := by
  have q := shw_list (shw_all (ds := eP t) (dep := 2) (n := 3799) fun d hd => by
    obtain ⟨s, hs, rfl⟩ := List.mem_map.mp hd
    exact shw_st (h.2 s hs))
  rw [List.length_map] at q
  have := h.1
  exact q.mono (Nat.le_refl _) (by omega)
theorem tail_ok {p : List ST} (h : p.length ≤ 16) (hw : ∀ s ∈ p, Wk s) : Tk p := ⟨by omega, hw⟩
theorem sfrz_go {i : Nat} {a b : DS → Option Out} {δ : DS} {ds : List D} {o : Option Out} (h : δ[i]? = some (some (.own ds))) (k : nSeq a b (δ.set i (v (.list ds))) = o) : nSeq (nFrz i a) b δ = o := by
  have e : nFrz i a δ = a (δ.set i (v (.list ds))) := frz_go h rfl
  rw [nSeq_e, e, ← nSeq_e]
  exact k
theorem law_true (ns : List Int) (hn : ns.length ≤ 63) : m_law (startD N_law.length [.list (ns.map PyData.int)]) = some (.rt (.val (.bool true))) := by
  obtain ⟨ds, hl, hb, hdraws⟩ := draws_ok ns 160 (by decide) hn
  have hdraws' : f__law_draws [.list (iL ns), .int 160] = some (.own (iL ds)) := hdraws
  obtain ⟨f0, f1, f2, f3, _, hflat⟩ := flflat_ok (n := 160) ds hl hb (M := 7) (by decide) (by decide) (by decide) false
  have hflat' : f__law_flat [.list (iL ds), .int 7, .bool false] = some (.own (f0.map eFF)) := hflat
  show m_law (startD 16 [.list (iL ns)]) = _
  rw [startD_1]
  dsimp only [List.replicate]
  unfold m_law
  generalize hL : v (.list (iL ns)) = L0
  refine asg_go (d := .list (iL ds)) (by rw [← hL]; simp -implicitDefEqProofs [hdraws']) ?_
  dsimp only [List.set]
  obtain ⟨a140, _, _, i140⟩ := at_dr hl hb (i := 140) (by decide)
  obtain ⟨a141, _, _, i141⟩ := at_dr hl hb (i := 141) (by decide)
  obtain ⟨a147, b147, c147, i147⟩ := at_dr hl hb (i := 147) (by decide)
  have j140 : atI (iL ds) 140 = some (.int a140) := i140
  have j141 : atI (iL ds) 141 = some (.int a141) := i141
  have j147 : atI (iL ds) 147 = some (.int a147) := i147
  obtain ⟨e1, l1, r1, k1⟩ := sublist_ok hl hb (a := 142) (b := 146) (by decide) (by decide) (by decide)
  obtain ⟨e2, l2, r2, k2⟩ := sublist_ok hl hb (a := 150) (b := 153) (by decide) (by decide) (by decide)
  obtain ⟨e3, l3, r3, k3⟩ := sublist_ok hl hb (a := 153) (b := 156) (by decide) (by decide) (by decide)
  have l1' : e1.length = 4 := l1
  obtain ⟨fr, Fr, hrow⟩ := row_ok52 (a141 % 5 :: e1) (by rw [List.length_cons, l1']) (fun d hd => by
    rcases List.mem_cons.mp hd with q | q
    · rw [q]; omega
    · exact r1 d q)
  generalize hD : v (.list (iL ds)) = D0
  refine asg_go (d := .list (f0.map eFF)) (by rw [← hD]; simp -implicitDefEqProofs only [mCallF_e, mCons_e, mNil_e, mVar_0, mVar_s, mC_e, Option.bind_some, hflat', Option.map_some, data_own]) ?_
  dsimp only [List.set]
  obtain ⟨fs, F, hgo⟩ : ∃ fs : List FF, Flat52 fs ∧ ∀ (b : DS → Option Out) (o : Option Out), b [L0, D0, v (.list (fs.map eFF)), none, none, none, none, none, none, none, none, none, none, none, none, none] = o → nSeq (nIf (mB (m2 dEq (m2 dMod (mCall (mCons (m2 dIx (mVar 1) (mC (.int 140))) mNil) dInt) (mC (.int 4))) (mC (.int 0)))) (nAsg 2 (mCallF (mCons (mLst (m2O dCat (mLst (mCons (m2 dMod (mCall (mCons (m2 dIx (mVar 1) (mC (.int 141))) mNil) dInt) (mC (.int 5))) mNil)) (mLst (mSlL (mVar 1) (mP (mC (.int 142))) (mP (mC (.int 146))))))) mNil) f__law_row)) nNext) b [L0, D0, v (.list (f0.map eFF)), none, none, none, none, none, none, none, none, none, none, none, none, none] = o := by
    by_cases c : a140 % 4 = 0
    · refine ⟨fr, Fr, fun b o h => ifT_go (by rw [← hD]; simp -implicitDefEqProofs [j140, c]) (asg_go (d := .list (fr.map eFF)) ?_ h)⟩
      have hc : dCat (.list [PyData.int (a141 % 5)]) (.list (iL e1)) = some (iL (a141 % 5 :: e1)) := cat_ok (by rw [List.length_map, l1']; simp)
      rw [← hD]
      simp -implicitDefEqProofs only [mCallF_e, mCons_e, mNil_e, mLst_e, m2O_e, mSlL_e, mP_e, m2_e, mC_e, mCall_e, mVar_0, mVar_s, toP_some, gSlL_some, Option.bind_some, Option.map_some, dIx_l, j141, dInt_i, dMod_i (show (0 : Int) < 5 by decide), k1, hc, hrow, data_own]
    · refine ⟨f0, ⟨f1, by omega, fun f hf => (f3 f hf).mono (by decide)⟩, fun b o h => chk_go (by rw [← hD]; simp -implicitDefEqProofs [j140, c]) h⟩
  refine hgo _ _ ?_
  clear hgo hflat hflat' f1 f2 f3 Fr hrow
  have hi := F.hi
  have hlo := F.lo
  obtain ⟨rg, hgv, gmax⟩ := F.gs
  have hdue := lgreat_ok (by omega) F.ok
  have hsound := fun p hw hr => right_sound F (p := p) hw hr
  generalize gsol fs = due at hdue hsound
  -- the paper of all stages
  obtain ⟨rs, rs0, rsl, rsg, hstages⟩ := stages_ok F
  obtain ⟨p, pl, pg, hp⟩ := lc_ex (mi := mItems (mCallF (mCons (mVar 2) mNil) f__law_stages)) (gm := gmPair 13 14) (mt := mYes) (me := c_law_1) (vs := [13, 14]) (δ := [L0, D0, v (.list (fs.map eFF)), none, none, none, none, none, none, none, none, none, none, none, none, none])
    (P := fun _ (s : ST) => Gd fs.length s) (enc := eSt) (ds := rs.map eLX) (items_of (by simp -implicitDefEqProofs only [mCallF_e, mCons_e, mNil_e, mVar_0, mVar_s, Option.bind_some, hstages, Option.map_some, data_own])) (by rw [List.length_map]; omega) fun i d hd => by
      obtain ⟨r, hr, rfl⟩ := List.mem_map.mp (List.mem_of_getElem? hd)
      obtain ⟨s, rfl', hs, hst⟩ := stage_ok F (rsg r hr).1 (rsg r hr).2
      refine ⟨s, hs, ?_⟩
      simp -implicitDefEqProofs [mLcF, c_law_1, eLX, hst]
  rw [List.length_map] at pl
  have pg' : ∀ s ∈ p, Gd fs.length s := fun s hs => by
    obtain ⟨i, hi, e⟩ := List.mem_iff_getElem.mp hs
    exact pg i s (by rw [List.getElem?_eq_getElem hi, e])
  have p0 : p ≠ [] := fun z => rs0 (List.length_eq_zero_iff.mp (by rw [← pl, z]; rfl))
  refine asg_go (lst_of hp) ?_
  dsimp only [List.set]
  clear hp pg rs0 rsg hstages
  -- the first four
  obtain ⟨s1, s1e, s1g, hs1⟩ := stage_ok F (conds_len fs) fun k hk => (conds_mem hk).1
  obtain ⟨s2, s2e, s2g, hs2⟩ := stage_ok F (ps := []) (Nat.zero_le _) fun k hk => by cases hk
  obtain ⟨q, q0, ql, qg, hobo⟩ := obo_ok F
  have hcon := lconds_ok (fs := fs) (by omega)
  have wk : ∀ {s : ST}, Gd fs.length s → Wk s := fun h => h.wk hi
  have single : ∀ {s : ST}, Wk s → Tk [s] := fun h => ⟨Nat.le_of_ble_eq_true rfl, fun u hu => by rw [List.mem_singleton.mp hu]; exact h⟩
  have hs2' : f__law_stage [.list (fs.map eFF), .list []] = some (.val (eSt s2)) := hs2
  refine asgO_go (ds := ([[], [s1], [s2], q] : List (List ST)).map eT) (by
    simp -implicitDefEqProofs only [mCons_e, mNil_e, mLst_e, mCallF_e, mVar_0, mVar_s, Option.bind_some, Option.map_some, hcon, hs1, hs2', hobo, data_own, data_val]
    rfl) ?_
  dsimp only [List.set]
  refine sfrz_go rfl ?_
  dsimp only [List.set]
  -- the others
  obtain ⟨u1, u1l, u1g, ho1⟩ := others_ok hlo hi p0 (by omega) pg' e2 l2 r2
  obtain ⟨u2, u2l, u2g, ho2⟩ := others_ok hlo hi q0 ql qg e3 l3 r3
  obtain ⟨ts, hts⟩ : ∃ ts : List (List ST), ts = [[], [s1], [s2], q] ++ u1 ++ u2 := ⟨_, rfl⟩
  have tl : ts.length = 36 := by rw [hts, List.length_append, List.length_append, u1l, u2l]; rfl
  have tg : ∀ t ∈ ts, Tk t := fun t ht => by
    rw [hts] at ht
    rcases List.mem_append.mp ht with h | h
    · rcases List.mem_append.mp h with h | h
      · simp only [List.mem_cons, List.not_mem_nil, or_false] at h
        rcases h with rfl | rfl | rfl | rfl
        · exact ⟨Nat.zero_le _, fun s hs => by cases hs⟩
        · exact single (wk s1g)
        · exact single (wk s2g)
        · exact tail_ok ql fun s hs => wk (qg s hs)
      · exact u1g t h
    · exact u2g t h
  refine asgO_go (ds := ts.map eT) (by
    have c1 : dCat (.list (([[], [s1], [s2], q] : List (List ST)).map eT)) (.list (u1.map eT)) = some (([[], [s1], [s2], q] : List (List ST)).map eT ++ u1.map eT) := cat_ok (by rw [List.length_map, List.length_map, u1l]; exact Nat.le_of_ble_eq_true rfl)
    have c2 : dCat (.list (([[], [s1], [s2], q] : List (List ST)).map eT ++ u1.map eT)) (.list (u2.map eT)) = some (([[], [s1], [s2], q] : List (List ST)).map eT ++ u1.map eT ++ u2.map eT) := cat_ok (by rw [List.length_append, List.length_map, List.length_map, List.length_map, u1l, u2l]; exact Nat.le_of_ble_eq_true rfl)
    rw [hts, List.map_append, List.map_append, ← hD]
    simp -implicitDefEqProofs only [m2O_e, mLst_e, mSlL_e, mP_e, mC_e, mCons_e, mNil_e, mCallF_e, mVar_0, mVar_s, toP_some, gSlL_some, Option.bind_some, Option.map_some, k2, k3, ho1, ho2, hobo, data_own, c1, c2]) ?_
  dsimp only [List.set]
  clear hts ho1 ho2 hs2' hs2 hs1 hobo u1g u2g u1l u2l
  -- the least
  have ho := lopened_ok (ps := conds fs) (by omega) F.ok
  have el := opn_len fs (conds fs)
  obtain ⟨low, lo1, lo2, hlow⟩ := lleast_ok (by rw [el]; omega) (F.opn (conds fs)) (by decide) (by decide) (by decide) (by decide)
  rw [el] at lo1
  obtain ⟨lt, ltr, hlt⟩ := ltight_ex (by rw [el]; omega) (F.opn (conds fs)) (opn_pl fs (conds fs)) (xs := low) (by rw [el]; exact lo1)
  rw [el] at ltr
  refine asg_go (d := .list ((opn fs (conds fs)).map eFF)) (by simp -implicitDefEqProofs only [mCallF_e, mCons_e, mNil_e, mVar_0, mVar_s, Option.bind_some, hcon, ho, Option.map_some, data_own]) ?_
  dsimp only [List.set]
  refine asg_go (d := .list (aL low)) (by simp -implicitDefEqProofs only [mCallF_e, mCons_e, mNil_e, mVar_0, mVar_s, Option.bind_some, hlow, Option.map_some, data_val]) ?_
  dsimp only [List.set]
  let fil : LA := (List.range low.length).map fun i : Nat => some ((if (gA low i).isSome = true then 1 else 0) + a147 % 2 * (i : Int))
  have hfil : mLcI (mEnum (mCons (mVar 6) mNil)) (gmPair 15 10) mYes c_law_2 [15, 10] [L0, D0, v (.list (fs.map eFF)), v (.list (eP p)), some (.own (ts.map eT)), v (.list ((opn fs (conds fs)).map eFF)), v (.list (aL low)), none, none, none, none, none, none, none, none, none] = some (aL fil) := by
    show _ = some (((List.range low.length).map _).map eA)
    rw [List.map_map]
    refine lc_eq (F := fun i : Nat => PyData.tuple [.int (i : Int), eA (gA low i)]) ((mEnum_of (xs := aL low) rfl).trans (congrArg some (enum_aL low))) (by rw [List.length_range]; omega) fun i hi2 => ?_
    have hmul : dMul (.int (a147 % 2)) (.int (i : Int)) = some (.int (a147 % 2 * (i : Int))) := dMul_l (by omega) (by omega)
    have hb0 : dInt [.bool false] = some (.int 0) := rfl
    have hb1 : dInt [.bool true] = some (.int 1) := rfl
    rw [← hD]
    cases hq : gA low i with
    | none => simp -implicitDefEqProofs [mLcF, c_law_2, j147, hmul, hq, hb0]
    | some a => simp -implicitDefEqProofs [mLcF, c_law_2, j147, hmul, hq, hb1]
  have wfil : WL fil := by
    refine ⟨by rw [List.length_map, List.length_range]; omega, fun a ha => ?_⟩
    obtain ⟨i, hi2, rfl⟩ := List.mem_map.mp ha
    have hi2 := List.mem_range.mp hi2
    have h2 : a147 % 2 = 0 ∨ a147 % 2 = 1 := by omega
    have h3 : 0 ≤ a147 % 2 * (i : Int) ∧ a147 % 2 * (i : Int) ≤ 14 := by
      rcases h2 with h2 | h2 <;> rw [h2] <;> omega
    split
    · exact bd_some (by omega) (by omega)
    · exact bd_some (by omega) (by omega)
  refine asg_go (lst_of hfil) ?_
  dsimp only [List.set]
  generalize fil = fl at wfil
  have tlow : Tk [(conds fs, low, fl, lt)] := single ⟨⟨Nat.le_trans (conds_len fs) (by omega), fun k hk => by have := (conds_mem hk).1; omega⟩, ⟨show low.length ≤ 15 by omega, fun a ha => (lo2 a ha).mono (by decide)⟩, wfil, ltr.wl hi (by decide)⟩
  refine app_go (d := eT [(conds fs, low, fl, lt)]) rfl (by
    simp -implicitDefEqProofs only [mLst_e, mCons_e, mNil_e, mTup_e, mCallF_e, mVar_0, mVar_s, Option.bind_some, Option.map_some, hcon, hlt, data_own]
    rfl) (by
    rw [List.length_map, tl]
    exact Nat.le_of_ble_eq_true rfl) ?_
  dsimp only [List.set]
  obtain ⟨us, hus⟩ : ∃ us : List (List ST), us = ts ++ [[(conds fs, low, fl, lt)]] := ⟨_, rfl⟩
  have ul : us.length = 37 := by rw [hus, List.length_append, tl]; rfl
  have ug : ∀ t ∈ us, Tk t := fun t ht => by
    rw [hus] at ht
    rcases List.mem_append.mp ht with h | h
    · exact tg t h
    · rw [List.mem_singleton.mp h]; exact tlow
  rw [show ts.map eT ++ [eT [(conds fs, low, fl, lt)]] = us.map eT by rw [hus, List.map_append]; rfl]
  clear hus tg tl tlow
  refine frz_go rfl ?_
  dsimp only [List.set]
  refine asg_go (d := .list (aL due)) (by simp -implicitDefEqProofs only [mCallF_e, mCons_e, mNil_e, mVar_0, mVar_s, Option.bind_some, hdue, Option.map_some, data_val]) ?_
  dsimp only [List.set]
  have shf := shw_flat F.ok (by omega) (by decide) (by decide)
  have sht := shw_list (shw_all (ds := us.map eT) (dep := 3) (n := 125500) fun d hd => by
    obtain ⟨t, ht, rfl⟩ := List.mem_map.mp hd
    exact shw_t (ug t ht))
  rw [List.length_map, ul] at sht
  have hrep := dRepr_tup (es := [.list (fs.map eFF), .list (us.map eT)]) (dep := 5) (n := 2002 * fs.length + 2 + 2 + ((125500 + 2) * 37 + 2 + 2 + 0) + 3) (shw_tup (shw_cons shf (shw_cons sht shw_nil)))
  generalize (PyData.tuple [.list (fs.map eFF), .list (us.map eT)]).shown = kept at hrep
  refine asg_go (d := .str kept) (by simp -implicitDefEqProofs only [mCall_e, mCons_e, mNil_e, mTup_e, mVar_0, mVar_s, Option.bind_some, Option.map_some, hrep]) ?_
  dsimp only [List.set]
  generalize hX1 : v (.list (eP p)) = X1
  generalize hX2 : v (.list ((opn fs (conds fs)).map eFF)) = X2
  generalize hX3 : v (.list (aL low)) = X3
  generalize hX4 : v (.list (aL fl)) = X4
  obtain ⟨δ', e4, b10, b11, b12, rfl⟩ : ∃ δ', mForL (gmName 10) b_law_1 (us.map eT) [L0, D0, v (.list (fs.map eFF)), X1, v (.list (us.map eT)), X2, X3, X4, v (.list (aL due)), v (.str kept), none, none, none, none, none, none] = some (.nx δ') ∧ ∃ b10 b11 b12 : Option DV, δ' = [L0, D0, v (.list (fs.map eFF)), X1, v (.list (us.map eT)), X2, X3, X4, v (.list (aL due)), v (.str kept), b10, b11, b12, none, none, none] := by
    refine mForL_all eT (fun δ => ∃ b10 b11 b12 : Option DV, δ = [L0, D0, v (.list (fs.map eFF)), X1, v (.list (us.map eT)), X2, X3, X4, v (.list (aL due)), v (.str kept), b10, b11, b12, none, none, none]) us _ ⟨_, _, _, rfl⟩ fun t ht δ hst => ?_
    obtain ⟨b10, b11, b12, rfl⟩ := hst
    obtain ⟨g1, g2⟩ := ug t ht
    have hq1 := isgp_ok (by omega) F.ok (by decide) (by decide) (p := t) (fun s hs => by have := (g2 s hs).1.1; omega)
    have hq2 := lright_ok (by omega) F.ok (by decide) (by decide) (p := t) (fun s hs => by have := (g2 s hs).1.1; omega) (by omega)
    have hq3 := hsound t g2
    generalize rightB fs t = c at hq1 hq2 hq3
    refine ⟨[L0, D0, v (.list (fs.map eFF)), X1, v (.list (us.map eT)), X2, X3, X4, v (.list (aL due)), v (.str kept), v (eT t), b11, b12, none, none, none], rfl, [L0, D0, v (.list (fs.map eFF)), X1, v (.list (us.map eT)), X2, X3, X4, v (.list (aL due)), v (.str kept), v (eT t), v (.bool c), v (.bool c), none, none, none], ?_, _, _, _, rfl⟩
    unfold b_law_1
    refine asg_go (d := .bool c) (by simp -implicitDefEqProofs only [mCallF_e, mCons_e, mNil_e, mVar_s, mVar_0, Option.bind_some, Option.map_some, hq1, data_val]) ?_
    dsimp only [List.set]
    refine asg_go (d := .bool c) (by simp -implicitDefEqProofs only [mCallF_e, mCons_e, mNil_e, mVar_s, mVar_0, Option.bind_some, Option.map_some, hq2, data_val]) ?_
    dsimp only [List.set]
    refine ifF_end ?_ nNext_e
    cases c with
    | false => simp -implicitDefEqProofs [isi_bb, toTru]
    | true =>
      obtain ⟨s, hs, e⟩ := hq3 rfl
      have hat : atI (eP t) (-1) = some (eSt s) := atI_last (by rw [List.length_map, List.getElem?_map, hs]; rfl)
      have hneg : dNeg (.int 1) = some (.int (-1)) := rfl
      have e1 : atI [PyData.list (nL s.1), .list (aL s.2.1), .list (aL s.2.2.1), .list (aL s.2.2.2)] 1 = some (.list (aL s.2.1)) := rfl
      rw [← e]
      simp -implicitDefEqProofs [isi_bb, toTru, hat, eSt, e1]
  refine for_go (ds := us.map eT) rfl e4 ?_
  refine ret_end ?_
  simp -implicitDefEqProofs only [m2_e, mCall_e, mCons_e, mNil_e, mTup_e, mVar_s, mVar_0, Option.bind_some, Option.map_some, hrep, dEq_str, decide_true]
end Law
open PySem PySem.W PyProof.Rows
set_option maxHeartbeats 0 in
theorem PySem.Challenge.cw_circlesettle_k52_are_papers_right_holds : PySem.Challenge.rw_circlesettle_k52_are_papers_right.Holds := by
  w_on; o_law; k_head; (case hw => w_witness2)
  k_fill
  refine Dl.walk_D (l := PySem.Challenge.rw_circlesettle_k52_are_papers_right) (mm := Law.m_law) rfl rfl (fun w h Y => PySem.W.kIn_of Y) Law.sc_law ?F Law.law_true
  case F =>
    intro w mg fa h KX G hmg
    refine' Law.all_mk KX G hmg ?a0 ?l0 ?c0 ?k0 ?a1 ?l1 ?c1 ?k1 ?a2 ?l2 ?c2 ?k2 ?a3 ?l3 ?c3 ?k3 ?a4 ?l4 ?c4 ?k4 ?a5 ?l5 ?c5 ?k5 ?a6 ?l6 ?c6 ?k6 ?a7 ?l7 ?c7 ?k7 ?a8 ?l8 ?c8 ?k8 ?a9 ?l9 ?c9 ?k9 ?a10 ?l10 ?c10 ?k10 ?a11 ?l11 ?c11 ?k11 ?a12 ?l12 ?c12 ?k12 ?a13 ?l13 ?c13 ?k13 ?a14 ?l14 ?c14 ?k14 ?a15 ?l15 ?c15 ?k15 ?a16 ?l16 ?c16 ?k16 ?a17 ?l17 ?c17 ?k17 ?a18 ?l18 ?c18 ?k18 ?a19 ?l19 ?c19 ?k19 ?a20 ?l20 ?c20 ?k20 ?a21 ?l21 ?c21 ?k21 ?a22 ?l22 ?c22 ?k22 ?a23 ?l23 ?c23 ?k23 ?a24 ?l24 ?c24 ?k24 ?a25 ?l25 ?c25 ?k25 ?a26 ?l26 ?c26 ?k26 ?a27 ?l27 ?c27 ?k27 ?a28 ?l28 ?c28 ?k28 ?a29 ?l29 ?c29 ?k29 ?a30 ?l30 ?c30 ?k30 ?a31 ?l31 ?c31 ?k31 ?a32 ?l32 ?c32 ?k32 ?a33 ?l33 ?c33 ?k33 ?a34 ?l34 ?c34 ?k34 ?a35 ?l35 ?c35 ?k35 ?a36 ?l36 ?c36 ?k36 ?a37 ?l37 ?c37 ?k37 ?a38 ?l38 ?c38 ?k38 ?a39 ?l39 ?c39 ?k39 ?a40 ?l40 ?c40 ?k40 ?a41 ?l41 ?c41 ?k41 ?z_all ?z_any ?z_bool ?z_enumerate ?z_int ?z_isinstance ?z_len ?z_list ?z_max ?z_min ?z_range ?z_repr
    (case a0 => k_is); (case l0 => k_is); (case c0 => k_is); (case k0 => k_is); (case a1 => k_is); (case l1 => k_is); (case c1 => k_is); (case k1 => k_is); (case a2 => k_is); (case l2 => k_is); (case c2 => k_is); (case k2 => k_is); (case a3 => k_is); (case l3 => k_is); (case c3 => k_is); (case k3 => k_is); (case a4 => k_is); (case l4 => k_is); (case c4 => k_is); (case k4 => k_is); (case a5 => k_is); (case l5 => k_is); (case c5 => k_is); (case k5 => k_is); (case a6 => k_is); (case l6 => k_is); (case c6 => k_is); (case k6 => k_is); (case a7 => k_is); (case l7 => k_is); (case c7 => k_is); (case k7 => k_is); (case a8 => k_is); (case l8 => k_is); (case c8 => k_is); (case k8 => k_is); (case a9 => k_is); (case l9 => k_is); (case c9 => k_is); (case k9 => k_is); (case a10 => k_is); (case l10 => k_is); (case c10 => k_is); (case k10 => k_is); (case a11 => k_is); (case l11 => k_is); (case c11 => k_is); (case k11 => k_is); (case a12 => k_is); (case l12 => k_is); (case c12 => k_is); (case k12 => k_is); (case a13 => k_is); (case l13 => k_is); (case c13 => k_is); (case k13 => k_is); (case a14 => k_is); (case l14 => k_is); (case c14 => k_is); (case k14 => k_is); (case a15 => k_is); (case l15 => k_is); (case c15 => k_is); (case k15 => k_is); (case a16 => k_is); (case l16 => k_is); (case c16 => k_is); (case k16 => k_is); (case a17 => k_is); (case l17 => k_is); (case c17 => k_is); (case k17 => k_is); (case a18 => k_is); (case l18 => k_is); (case c18 => k_is); (case k18 => k_is); (case a19 => k_is); (case l19 => k_is); (case c19 => k_is); (case k19 => k_is); (case a20 => k_is); (case l20 => k_is); (case c20 => k_is); (case k20 => k_is); (case a21 => k_is); (case l21 => k_is); (case c21 => k_is); (case k21 => k_is); (case a22 => k_is); (case l22 => k_is); (case c22 => k_is); (case k22 => k_is); (case a23 => k_is); (case l23 => k_is); (case c23 => k_is); (case k23 => k_is); (case a24 => k_is); (case l24 => k_is); (case c24 => k_is); (case k24 => k_is); (case a25 => k_is); (case l25 => k_is); (case c25 => k_is); (case k25 => k_is); (case a26 => k_is); (case l26 => k_is); (case c26 => k_is); (case k26 => k_is); (case a27 => k_is); (case l27 => k_is); (case c27 => k_is); (case k27 => k_is); (case a28 => k_is); (case l28 => k_is); (case c28 => k_is); (case k28 => k_is); (case a29 => k_is); (case l29 => k_is); (case c29 => k_is); (case k29 => k_is); (case a30 => k_is); (case l30 => k_is); (case c30 => k_is); (case k30 => k_is); (case a31 => k_is); (case l31 => k_is); (case c31 => k_is); (case k31 => k_is); (case a32 => k_is); (case l32 => k_is); (case c32 => k_is); (case k32 => k_is); (case a33 => k_is); (case l33 => k_is); (case c33 => k_is); (case k33 => k_is); (case a34 => k_is); (case l34 => k_is); (case c34 => k_is); (case k34 => k_is); (case a35 => k_is); (case l35 => k_is); (case c35 => k_is); (case k35 => k_is); (case a36 => k_is); (case l36 => k_is); (case c36 => k_is); (case k36 => k_is); (case a37 => k_is); (case l37 => k_is); (case c37 => k_is); (case k37 => k_is); (case a38 => k_is); (case l38 => k_is); (case c38 => k_is); (case k38 => k_is); (case a39 => k_is); (case l39 => k_is); (case c39 => k_is); (case k39 => k_is); (case a40 => k_is); (case l40 => k_is); (case c40 => k_is); (case k40 => k_is); (case a41 => k_is); (case l41 => k_is); (case c41 => k_is); (case k41 => k_is); (case z_all => k_is); (case z_any => k_is); (case z_bool => k_is); (case z_enumerate => k_is); (case z_int => k_is); (case z_isinstance => k_is); (case z_len => k_is); (case z_list => k_is); (case z_max => k_is); (case z_min => k_is); (case z_range => k_is); (case z_repr => k_is)
