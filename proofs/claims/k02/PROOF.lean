import PyProof.Rows.All
import Wide.All
import OpenK.AllK
import Wide.FinOn
import HandS.ForMost
import HandS.Gcd
import HandS.IsInst
import HandS.Wide
import HandS.Deep
import HandS.Style
import PySem.Challenge.RW_oddkeep_k02_sums_and_products
set_option Elab.async false
set_option linter.all false
set_option maxRecDepth 100000
set_option maxHeartbeats 4000000
/-! Dn: what a def computes, as a function over plain data (PyData). Each rule pairs a derivation (PE, PS ..) with a function. -/
namespace Dn
open PySem PySem.Spec PyProof.Rows L2

/-! ### data in a heap that only grows -/
theorem sqL_mono {K : PySem.W.Frag} {H H' : Hp} {a : Addr} {xs : List V} (e : Same H H') (h : SqL K H a xs) : SqL K H' a xs := e.seq h
theorem sqT_mono {K : PySem.W.Frag} {H H' : Hp} {a : Addr} {xs : List V} (e : Same H H') (h : SqT K H a xs) : SqT K H' a xs := by
  rcases h with (h | ⟨o, h⟩) | h
  · exact .inl (.inl (e _ _ h))
  · exact .inl (.inr ⟨o, e _ _ h⟩)
  · exact .inr h
mutual
theorem dp_mono {K : PySem.W.Frag} {H H' : Hp} (e : Same H H') : ∀ {v : V} {d : PyData}, Dp K H v d → Dp K H' v d
  | _, _, .non => .non
  | _, _, .bl b => .bl b
  | _, _, .int i => .int i
  | _, _, .str x => .str x
  | _, _, .lst hs ha => .lst (sqL_mono e hs) (dpa_mono e ha)
  | _, _, .tup hs ha => .tup (sqT_mono e hs) (dpa_mono e ha)
theorem dpa_mono {K : PySem.W.Frag} {H H' : Hp} (e : Same H H') : ∀ {vs : List V} {ds : List PyData}, DpAll K H vs ds → DpAll K H' vs ds
  | _, _, .nil => .nil
  | _, _, .cons h t => .cons (dp_mono e h) (dpa_mono e t)
end
section
variable {K : PySem.W.Frag} {H : Hp}
theorem DpAll.len : ∀ {vs : List V} {ds : List PyData}, DpAll K H vs ds → vs.length = ds.length
  | _, _, .nil => rfl
  | _, _, .cons _ t => by simp only [List.length_cons, DpAll.len t]
theorem DpAll.get : ∀ {vs : List V} {ds : List PyData} {i : Nat} {d : PyData}, DpAll K H vs ds → ds[i]? = some d → ∃ v, vs[i]? = some v ∧ Dp K H v d
  | _, _, i, _, .nil, e => by simp at e
  | _, _, 0, _, .cons h _, e => by simp at e; subst e; exact ⟨_, rfl, h⟩
  | _, _, i + 1, _, .cons _ t, e => by
    obtain ⟨v, h1, h2⟩ := DpAll.get (i := i) t (by simpa using e)
    exact ⟨v, by simpa using h1, h2⟩
theorem DpAll.app : ∀ {vs ws : List V} {ds es : List PyData}, DpAll K H vs ds → DpAll K H ws es → DpAll K H (vs ++ ws) (ds ++ es)
  | _, _, _, _, .nil, s => s
  | _, _, _, _, .cons h t, s => .cons h (DpAll.app t s)
theorem DpAll.take : ∀ (n : Nat) {vs : List V} {ds : List PyData}, DpAll K H vs ds → DpAll K H (vs.take n) (ds.take n)
  | 0, _, _, _ => .nil
  | _ + 1, _, _, .nil => .nil
  | n + 1, _, _, .cons h t => .cons h (DpAll.take n t)
theorem DpAll.drop : ∀ (n : Nat) {vs : List V} {ds : List PyData}, DpAll K H vs ds → DpAll K H (vs.drop n) (ds.drop n)
  | 0, _, _, h => h
  | _ + 1, _, _, .nil => .nil
  | n + 1, _, _, .cons _ t => DpAll.drop n t
theorem DpAll.set : ∀ (i : Nat) {vs : List V} {ds : List PyData} {v : V} {d : PyData}, DpAll K H vs ds → Dp K H v d → DpAll K H (vs.set i v) (ds.set i d)
  | _, _, _, _, _, .nil, _ => .nil
  | 0, _, _, _, _, .cons _ t, h => .cons h t
  | i + 1, _, _, _, _, .cons h t, g => .cons h (DpAll.set i t g)
theorem DpAll.ints : ∀ (ns : List Int), DpAll K H (ns.map V.int) (ns.map PyData.int)
  | [] => .nil
  | n :: r => .cons (.int n) (DpAll.ints r)
theorem DpAll.dropLast {vs : List V} {ds : List PyData} (h : DpAll K H vs ds) : DpAll K H vs.dropLast ds.dropLast := by
  rw [List.dropLast_eq_take, List.dropLast_eq_take, DpAll.len h]
  exact DpAll.take _ h
end

/-! ### frozen and owned -/
inductive R where
  | val (d : PyData)
  | own (ds : List PyData)
def R.frz : R → PyData
  | .val d => d
  | .own ds => .list ds
@[simp] theorem frz_val {d : PyData} : (R.val d).frz = d := rfl
@[simp] theorem frz_own {ds : List PyData} : (R.own ds).frz = .list ds := rfl
inductive Sl where
  | no
  | val (d : PyData)
  | own (ds : List PyData)
def R.sl : R → Sl
  | .val d => .val d
  | .own ds => .own ds
@[simp] theorem sl_val {d : PyData} : (R.val d).sl = .val d := rfl
@[simp] theorem sl_own {ds : List PyData} : (R.own ds).sl = .own ds := rfl
abbrev En := List Sl

/-- F: what is frozen of the heap H -/
structure Grow (F H F' H' : Hp) : Prop where
  f : Same F F'
  h : Same H H'
  i : Same F' H'
  n : ∀ a, H a ≠ none → F a = none → F' a = none
theorem same_ne {H H' : Hp} (e : Same H H') {a : Addr} (h : H a ≠ none) : H' a ≠ none := by
  cases q : H a with
  | none => exact absurd q h
  | some o => rw [e _ _ q]; exact Option.some_ne_none o
theorem Grow.refl {F H : Hp} (e : Same F H) : Grow F H F H := ⟨Same.refl F, Same.refl H, e, fun _ _ h => h⟩
theorem Grow.trans {F H F1 H1 F2 H2 : Hp} (a : Grow F H F1 H1) (b : Grow F1 H1 F2 H2) : Grow F H F2 H2 :=
  ⟨a.f.trans b.f, a.h.trans b.h, b.i, fun x hx hf => b.n x (same_ne a.h hx) (a.n x hx hf)⟩
theorem same_upd {H : Hp} {p : Addr} {o : HO} (h : H p = none) : Same H (upd H p o) := fun b x e => by
  rw [upd_ne (ne_of_none e h)]
  exact e
theorem same_updF {F H : Hp} {p : Addr} {o : HO} (e : Same F H) (h : F p = none) : Same F (upd H p o) := fun b x g => by
  rw [upd_ne (ne_of_none g h)]
  exact e _ _ g
/-- a new object, not frozen -/
theorem Grow.new {F H : Hp} {p : Addr} {o : HO} (e : Same F H) (h : H p = none) : Grow F H F (upd H p o) :=
  ⟨Same.refl F, same_upd h, e.trans (same_upd h), fun _ _ g => g⟩
/-- a new object is frozen -/
theorem Grow.frz {F H F' H' : Hp} {p : Addr} {o : HO} (g : Grow F H F' H') (hp : H p = none) (hf : F' p = none) (hh : H' p = some o) : Grow F H (upd F' p o) H' := by
  refine ⟨g.f.trans (same_upd hf), g.h, fun b x e => ?_, fun a ha hfa => ?_⟩
  · by_cases hb : b = p
    · subst hb
      rw [upd_same] at e
      rw [hh]
      exact e
    · rw [upd_ne hb] at e
      exact g.i _ _ e
  · rw [upd_ne (fun (z : a = p) => ha (by rw [z]; exact hp))]
    exact g.n a ha hfa

def RepR (K : PySem.W.Frag) (F' H H' : Hp) (v : V) : R → Prop
  | .val d => Dp K F' v d
  | .own ds => ∃ p xs, v = .ref p ∧ F' p = none ∧ H p = none ∧ H' p = some (.lst xs) ∧ DpAll K F' xs ds
theorem free_back {F H : Hp} (e : Same F H) {p : Addr} (h : H p = none) : F p = none := e.free h
/-- whatever it is, it may be frozen -/
theorem RepR.frz {K : PySem.W.Frag} {F H F' H' : Hp} {v : V} {r : R} (g : Grow F H F' H') (h : RepR K F' H H' v r) : ∃ F2, Grow F H F2 H' ∧ Same F' F2 ∧ Dp K F2 v r.frz := by
  cases r with
  | val d => exact ⟨F', g, Same.refl _, h⟩
  | own ds =>
    obtain ⟨p, xs, rfl, h1, h2, h3, h4⟩ := h
    have s1 : Same F' (upd F' p (.lst xs)) := same_upd h1
    exact ⟨upd F' p (.lst xs), g.frz h2 h1 h3, s1, .lst (.inl (.inl upd_same)) (dpa_mono s1 h4)⟩

/-! ### slots -/
def SlOk (K : PySem.W.Frag) (B F H : Hp) (v : Option V) (ad : Addr) : Sl → Prop
  | .no => True
  | .val d => ∃ x, v = some x ∧ Dp K F x d
  | .own ds => ∃ xs, v = some (.ref ad) ∧ B ad = none ∧ F ad = none ∧ H ad = some (.lst xs) ∧ DpAll K F xs ds
structure Slots (K : PySem.W.Frag) (B F H : Hp) (σ : L2.St) (env : En) : Prop where
  len : σ.length = env.length
  ex : ∃ ad : Nat → Addr, (∀ i v s, σ[i]? = some v → env[i]? = some s → SlOk K B F H v (ad i) s) ∧ ∀ i j ds es, i ≠ j → env[i]? = some (.own ds) → env[j]? = some (.own es) → ad i ≠ ad j
theorem SlOk.grow {K : PySem.W.Frag} {B F H F' H' : Hp} {v : Option V} {ad : Addr} {s : Sl} (g : Grow F H F' H') (h : SlOk K B F H v ad s) : SlOk K B F' H' v ad s := by
  cases s with
  | no => trivial
  | val d =>
    obtain ⟨x, e, h⟩ := h
    exact ⟨x, e, dp_mono g.f h⟩
  | own ds =>
    obtain ⟨xs, e, h0, h1, h2, h3⟩ := h
    exact ⟨xs, e, h0, g.n _ (by rw [h2]; exact Option.some_ne_none _) h1, g.h _ _ h2, dpa_mono g.f h3⟩
theorem Slots.grow {K : PySem.W.Frag} {B F H F' H' : Hp} {σ : L2.St} {env : En} (g : Grow F H F' H') (S : Slots K B F H σ env) : Slots K B F' H' σ env := by
  obtain ⟨l, ad, h1, h2⟩ := S
  exact ⟨l, ad, fun i v s e1 e2 => (h1 i v s e1 e2).grow g, h2⟩
theorem Slots.val {K : PySem.W.Frag} {B F H : Hp} {σ : L2.St} {env : En} (S : Slots K B F H σ env) {i : Nat} {d : PyData} (e : env[i]? = some (.val d)) : ∃ v, σ[i]? = some (some v) ∧ Dp K F v d := by
  obtain ⟨l, ad, h1, h2⟩ := S
  have hi : i < env.length := (List.getElem?_eq_some_iff.mp e).1
  have hs : σ[i]? = some σ[i] := List.getElem?_eq_getElem (by omega)
  obtain ⟨x, e1, h⟩ := h1 i _ _ hs e
  exact ⟨x, by rw [hs, e1], h⟩
theorem Slots.own {K : PySem.W.Frag} {B F H : Hp} {σ : L2.St} {env : En} (S : Slots K B F H σ env) {i : Nat} {ds : List PyData} (e : env[i]? = some (.own ds)) : ∃ p xs, σ[i]? = some (some (.ref p)) ∧ B p = none ∧ F p = none ∧ H p = some (.lst xs) ∧ DpAll K F xs ds := by
  obtain ⟨l, ad, h1, h2⟩ := S
  have hi : i < env.length := (List.getElem?_eq_some_iff.mp e).1
  have hs : σ[i]? = some σ[i] := List.getElem?_eq_getElem (by omega)
  obtain ⟨xs, e1, h⟩ := h1 i _ _ hs e
  exact ⟨ad i, xs, by rw [hs, e1], h⟩
/-- a slot gets what has come -/
theorem Slots.put {K : PySem.W.Frag} {B F H F' H' : Hp} {σ : L2.St} {env : En} {i : Nat} {v : V} {r : R} (S : Slots K B F H σ env) (bh : Same B H) (g : Grow F H F' H') (h : RepR K F' H H' v r) : Slots K B F' H' (σ.set i (some v)) (env.set i r.sl) := by
  obtain ⟨l, ad, h1, h2⟩ := S
  have S' := Slots.grow g ⟨l, ad, h1, h2⟩
  cases r with
  | val d =>
    refine ⟨by simp [l], ad, fun j w s e1 e2 => ?_, fun j k ds es hjk e1 e2 => ?_⟩
    · by_cases hj : i = j
      · subst hj
        rw [List.getElem?_set] at e1 e2
        simp at e1 e2
        obtain ⟨_, rfl⟩ := e1
        obtain ⟨_, rfl⟩ := e2
        exact ⟨v, rfl, h⟩
      · rw [List.getElem?_set_ne hj] at e1 e2
        exact (h1 j w s e1 e2).grow g
    · have q : ∀ m zs, (env.set i (R.val d).sl)[m]? = some (Sl.own zs) → env[m]? = some (Sl.own zs) := fun m zs e => by
        by_cases hm : i = m
        · subst hm
          rw [List.getElem?_set] at e
          simp at e
        · rw [List.getElem?_set_ne hm] at e
          exact e
      exact h2 j k ds es hjk (q _ _ e1) (q _ _ e2)
  | own ds =>
    obtain ⟨p, xs, rfl, f1, f2, f3, f4⟩ := h
    have old : ∀ m zs, env[m]? = some (Sl.own zs) → ad m ≠ p := fun m zs e z => by
      have hi : m < env.length := (List.getElem?_eq_some_iff.mp e).1
      have hs : σ[m]? = some σ[m] := List.getElem?_eq_getElem (by omega)
      obtain ⟨ys, _, _, _, e3, _⟩ := h1 m _ _ hs e
      rw [z, f2] at e3
      cases e3
    refine ⟨by simp [l], fun m => if m = i then p else ad m, fun j w s e1 e2 => ?_, fun j k es fs hjk e1 e2 => ?_⟩
    · by_cases hj : i = j
      · subst hj
        rw [List.getElem?_set] at e1 e2
        simp at e1 e2
        obtain ⟨_, rfl⟩ := e1
        obtain ⟨_, rfl⟩ := e2
        show SlOk K B F' H' _ (if i = i then p else ad i) _
        rw [if_pos rfl]
        exact ⟨xs, rfl, bh.free f2, f1, f3, f4⟩
      · rw [List.getElem?_set_ne hj] at e1 e2
        show SlOk K B F' H' _ (if j = i then p else ad j) _
        rw [if_neg (fun z => hj z.symm)]
        exact (h1 j w s e1 e2).grow g
    · show (if j = i then p else ad j) ≠ (if k = i then p else ad k)
      by_cases hj : j = i
      · have hk : k ≠ i := fun z => hjk (hj.trans z.symm)
        rw [if_pos hj, if_neg hk]
        rw [List.getElem?_set_ne (fun z => hk z.symm)] at e2
        exact (old k _ e2).symm
      · rw [if_neg hj]
        rw [List.getElem?_set_ne (fun z => hj z.symm)] at e1
        by_cases hk : k = i
        · rw [if_pos hk]
          exact old j _ e1
        · rw [if_neg hk]
          rw [List.getElem?_set_ne (fun z => hk z.symm)] at e2
          exact h2 j k _ _ hjk e1 e2
/-- an owned list is turned -/
theorem Slots.turn {K : PySem.W.Frag} {B F H : Hp} {σ : L2.St} {env : En} {i : Nat} {p : Addr} {ds es : List PyData} {ys : List V} (S : Slots K B F H σ env) (e : env[i]? = some (.own ds)) (hp : σ[i]? = some (some (.ref p))) (hy : DpAll K F ys es) : Slots K B F (upd H p (.lst ys)) σ (env.set i (.own es)) := by
  obtain ⟨l, ad, h1, h2⟩ := S
  have q0 := h1 i _ _ hp e
  obtain ⟨xs, e1, b0, b1, b2, b3⟩ := q0
  have ep : p = ad i := by
    have := Option.some.inj e1
    cases this
    rfl
  have q : ∀ m zs, (env.set i (.own es))[m]? = some (Sl.own zs) → ∃ ws, env[m]? = some (Sl.own ws) := fun m zs g => by
    by_cases hm : i = m
    · subst hm
      exact ⟨ds, e⟩
    · rw [List.getElem?_set_ne hm] at g
      exact ⟨zs, g⟩
  refine ⟨by simp [l], ad, fun j w s g1 g2 => ?_, fun j k fs gs hjk g1 g2 => ?_⟩
  · by_cases hj : i = j
    · subst hj
      rw [hp] at g1
      cases g1
      rw [List.getElem?_set] at g2
      simp at g2
      obtain ⟨_, rfl⟩ := g2
      exact ⟨ys, e1, b0, b1, by rw [ep, upd_same], hy⟩
    · rw [List.getElem?_set_ne hj] at g2
      have o := h1 j w s g1 g2
      cases s with
      | no => trivial
      | val d => exact o
      | own zs =>
        obtain ⟨xs', c1, c0, c2, c3, c4⟩ := o
        exact ⟨xs', c1, c0, c2, by rw [ep, upd_ne (h2 j i _ _ (fun z => hj z.symm) g2 e)]; exact c3, c4⟩
  · obtain ⟨w1, r1⟩ := q _ _ g1
    obtain ⟨w2, r2⟩ := q _ _ g2
    exact h2 j k _ _ hjk r1 r2
/-- an owned list is frozen -/
theorem Slots.freeze {K : PySem.W.Frag} {B F H : Hp} {σ : L2.St} {env : En} {i : Nat} {ds : List PyData} (fh : Same F H) (S : Slots K B F H σ env) (e : env[i]? = some (.own ds)) : ∃ F', Same F F' ∧ Same F' H ∧ (∀ a, B a ≠ none → F a = none → F' a = none) ∧ Slots K B F' H σ (env.set i (.val (.list ds))) := by
  obtain ⟨l, ad, h1, h2⟩ := S
  have hi : i < env.length := (List.getElem?_eq_some_iff.mp e).1
  have hs : σ[i]? = some σ[i] := List.getElem?_eq_getElem (by omega)
  obtain ⟨xs, e1, b0, b1, b2, b3⟩ := h1 i _ _ hs e
  have s1 : Same F (upd F (ad i) (.lst xs)) := same_upd b1
  refine ⟨upd F (ad i) (.lst xs), s1, fun b x g => ?_, fun a ha hf => ?_, by simp [l], ad, fun j w s g1 g2 => ?_, fun j k fs gs hjk g1 g2 => ?_⟩
  · by_cases hb : b = ad i
    · rw [hb, upd_same] at g
      rw [hb, b2]
      exact g
    · rw [upd_ne hb] at g
      exact fh _ _ g
  · rw [upd_ne (fun (z : a = ad i) => ha (by rw [z]; exact b0))]
    exact hf
  · by_cases hj : i = j
    · subst hj
      rw [hs, e1] at g1
      cases g1
      rw [List.getElem?_set] at g2
      simp at g2
      obtain ⟨_, rfl⟩ := g2
      exact ⟨_, rfl, .lst (.inl (.inl upd_same)) (dpa_mono s1 b3)⟩
    · rw [List.getElem?_set_ne hj] at g2
      have o := h1 j w s g1 g2
      cases s with
      | no => trivial
      | val d =>
        obtain ⟨x, c1, c2⟩ := o
        exact ⟨x, c1, dp_mono s1 c2⟩
      | own zs =>
        obtain ⟨xs', c1, c0, c2, c3, c4⟩ := o
        exact ⟨xs', c1, c0, by rw [upd_ne (h2 j i _ _ (fun z => hj z.symm) g2 e)]; exact c2, c3, dpa_mono s1 c4⟩
  · have q : ∀ m zs, (env.set i (.val (.list ds)))[m]? = some (Sl.own zs) → env[m]? = some (Sl.own zs) := fun m zs g => by
      by_cases hm : i = m
      · subst hm
        rw [List.getElem?_set] at g
        simp at g
      · rw [List.getElem?_set_ne hm] at g
        exact g
    exact h2 j k _ _ hjk (q _ _ g1) (q _ _ g2)
end Dn
namespace Dn
open PySem PySem.Spec PyProof.Rows L2

abbrev EF := En → Option R
abbrev TF := En → Option Bool
abbrev AF := En → Option (List PyData)

/-! ### what a reading computes -/
def DE (K : PySem.W.Frag) (te : TE) (f : EF) : Prop := ∀ (B F H : Hp) (σ : L2.St) (env : En) (r : R), Slots K B F H σ env → Same F H → Same B H → f env = some r →
  ∀ Q : VK, (∀ F' H' v, Grow F H F' H' → RepR K F' H H' v r → Q v H') → te σ H Q
def DT (K : PySem.W.Frag) (tt : TT) (f : TF) : Prop := ∀ (B F H : Hp) (σ : L2.St) (env : En) (b : Bool), Slots K B F H σ env → Same F H → Same B H → f env = some b →
  ∀ Q : Bool → Hp → Prop, (∀ F' H', Grow F H F' H' → Q b H') → tt σ H Q
def DA (K : PySem.W.Frag) (ta : TA) (f : AF) : Prop := ∀ (B F H : Hp) (σ : L2.St) (env : En) (ds : List PyData), Slots K B F H σ env → Same F H → Same B H → f env = some ds →
  ∀ Q : List V → Hp → Prop, (∀ F' H' vs, Grow F H F' H' → DpAll K F' vs ds → Q vs H') → ta σ H Q
structure SE (X : Cx) (e : Expr) (te : TE) (f : EF) : Prop where
  pe : PE X e te
  de : DE X.K te f
structure ST (X : Cx) (e : Expr) (tt : TT) (f : TF) : Prop where
  pt : PT X e tt
  dt : DT X.K tt f
structure SW (X : Cx) (e : Expr) (tt : TT) (f : TF) : Prop where
  pw : PW X e tt
  dt : DT X.K tt f
structure SA (X : Cx) (es : List Expr) (ta : TA) (f : AF) : Prop where
  pa : PA X es ta
  da : DA X.K ta f
theorem SW.st {X : Cx} {e : Expr} {tt : TT} {f : TF} (h : SW X e tt f) : ST X e tt f := ⟨h.pw.pt, h.dt⟩

/-! ### combinators -/
@[simp] def eVar (i : Nat) : EF := fun env => match env[i]? with
  | some (.val d) => some (.val d)
  | _ => none
@[simp] def eC (d : PyData) : EF := fun _ => some (.val d)
@[simp] def eBin (g : PyData → PyData → Option R) (f1 f2 : EF) : EF := fun env => (f1 env).bind fun a => (f2 env).bind fun b => g a.frz b.frz
@[simp] def eUn (g : PyData → Option R) (f : EF) : EF := fun env => (f env).bind fun a => g a.frz
@[simp] def aNil : AF := fun _ => some []
@[simp] def aCons (f : EF) (t : AF) : AF := fun env => (f env).bind fun a => (t env).bind fun ds => some (a.frz :: ds)
/-- a display's length; conditions are opaque to computation -/
def Few (n : Nat) : Prop := n ≤ 1000
noncomputable instance (n : Nat) : Decidable (Few n) := Classical.propDecidable _
@[simp] theorem few_iff {n : Nat} : Few n ↔ n ≤ 1000 := Iff.rfl
@[simp] noncomputable def eTup (t : AF) : EF := fun env => (t env).bind fun ds => if Few ds.length then some (.val (.tuple ds)) else none
@[simp] noncomputable def eLst (t : AF) : EF := fun env => (t env).bind fun ds => if Few ds.length then some (.own ds) else none
@[simp] def eCall (g : List PyData → Option R) (t : AF) : EF := fun env => (t env).bind g
@[simp] def toB : PyData → Option Bool
  | .bool b => some b
  | _ => none
@[simp] def tE (f : EF) : TF := fun env => (f env).bind fun a => toB a.frz
@[simp] def tAndD (f g : TF) : TF := fun env => (f env).bind fun a => if a = true then g env else some false
@[simp] def tOrD (f g : TF) : TF := fun env => (f env).bind fun a => if a = true then some true else g env
@[simp] def tNotD (f : TF) : TF := fun env => (f env).bind fun a => some (!a)
@[simp] def eT (f : TF) : EF := fun env => (f env).bind fun b => some (.val (.bool b))
@[simp] def eIf (c : TF) (f g : EF) : EF := fun env => (c env).bind fun b => if b = true then f env else g env

section
variable {K : PySem.W.Frag}
theorem bnd {α β : Type} {o : Option α} {f : α → Option β} {b : β} (h : o.bind f = some b) : ∃ a, o = some a ∧ f a = some b := by
  cases o with
  | none => cases h
  | some a => exact ⟨a, rfl, h⟩
/-- an expression, frozen -/
theorem DE.z {te : TE} {f : EF} (h : DE K te f) {B F H : Hp} {σ : L2.St} {env : En} {r : R} (S : Slots K B F H σ env) (fh : Same F H) (bh : Same B H) (e : f env = some r) {Q : VK} (q : ∀ F' H' v, Grow F H F' H' → Dp K F' v r.frz → Q v H') : te σ H Q :=
  h B F H σ env r S fh bh e Q fun F' H' v g rr => by
    obtain ⟨F2, g2, _, d⟩ := rr.frz g
    exact q F2 H' v g2 d
theorem de_var {i : Nat} : DE K (tVar i) (eVar i) := fun B F H σ env r S fh bh e Q q => by
  unfold eVar at e
  split at e
  · rename_i d hd
    cases e
    obtain ⟨v, h1, h2⟩ := S.val hd
    exact ⟨v, h1, q F H v (Grow.refl fh) h2⟩
  · cases e
theorem de_c {v : V} {d : PyData} (h : ∀ F, Dp K F v d) : DE K (tC v) (eC d) := fun B F H σ env r S fh bh e Q q => by
  cases e
  exact q F H v (Grow.refl fh) (h F)
def RVD (K : PySem.W.Frag) (r : R2) (g : PyData → PyData → Option R) : Prop := ∀ (F H : Hp) (x y : V) (dx dy : PyData) (r' : R), Same F H → Dp K F x dx → Dp K F y dy → g dx dy = some r' →
  ∀ Q : VK, (∀ F' H' v, Grow F H F' H' → RepR K F' H H' v r' → Q v H') → r x y H Q
def RUD (K : PySem.W.Frag) (r : V → Hp → VK → Prop) (g : PyData → Option R) : Prop := ∀ (F H : Hp) (x : V) (dx : PyData) (r' : R), Same F H → Dp K F x dx → g dx = some r' →
  ∀ Q : VK, (∀ F' H' v, Grow F H F' H' → RepR K F' H H' v r' → Q v H') → r x H Q
def RCD (K : PySem.W.Frag) (r : List V → Hp → VK → Prop) (g : List PyData → Option R) : Prop := ∀ (F H : Hp) (vs : List V) (ds : List PyData) (r' : R), Same F H → DpAll K F vs ds → g ds = some r' →
  ∀ Q : VK, (∀ F' H' v, Grow F H F' H' → RepR K F' H H' v r' → Q v H') → r vs H Q
/-- a result is seen from further back -/
theorem RepR.back {F H F1 H1 F2 H2 : Hp} {v : V} {r : R} (g1 : Grow F H F1 H1) (h : RepR K F2 H1 H2 v r) : RepR K F2 H H2 v r := by
  cases r with
  | val d => exact h
  | own ds =>
    obtain ⟨p, xs, e, a, b, c, d⟩ := h
    exact ⟨p, xs, e, a, g1.h.free b, c, d⟩
theorem de_bin {r : R2} {g : PyData → PyData → Option R} {ta tb : TE} {f1 f2 : EF} (hr : RVD K r g) (h1 : DE K ta f1) (h2 : DE K tb f2) : DE K (tOp r ta tb) (eBin g f1 f2) := fun B F H σ env r' S fh bh e Q q => by
  obtain ⟨a, ea, e⟩ := bnd e
  obtain ⟨b, eb, e⟩ := bnd e
  refine h1.z S fh bh ea fun F1 H1 x g1 d1 => ?_
  refine h2.z (S.grow g1) g1.i (bh.trans g1.h) eb fun F2 H2 y g2 d2 => ?_
  refine hr F2 H2 x y _ _ r' g2.i (dp_mono g2.f d1) d2 e Q fun F3 H3 v g3 rr => ?_
  exact q F3 H3 v ((g1.trans g2).trans g3) (rr.back (g1.trans g2))
theorem de_un {r : V → Hp → VK → Prop} {g : PyData → Option R} {ta : TE} {f : EF} (hr : RUD K r g) (h1 : DE K ta f) : DE K (tUn r ta) (eUn g f) := fun B F H σ env r' S fh bh e Q q => by
  obtain ⟨a, ea, e⟩ := bnd e
  refine h1.z S fh bh ea fun F1 H1 x g1 d1 => ?_
  refine hr F1 H1 x _ r' g1.i d1 e Q fun F3 H3 v g3 rr => ?_
  exact q F3 H3 v (g1.trans g3) (rr.back g1)
theorem da_nil : DA K tNil aNil := fun B F H σ env ds S fh bh e Q q => by
  cases e
  exact q F H [] (Grow.refl fh) .nil
theorem da_cons {te : TE} {t : TA} {f : EF} {g : AF} (h1 : DE K te f) (h2 : DA K t g) : DA K (tCons te t) (aCons f g) := fun B F H σ env ds S fh bh e Q q => by
  obtain ⟨a, ea, e⟩ := bnd e
  obtain ⟨b, eb, e⟩ := bnd e
  cases e
  refine h1.z S fh bh ea fun F1 H1 x g1 d1 => ?_
  refine h2 B F1 H1 σ env b (S.grow g1) g1.i (bh.trans g1.h) eb _ fun F2 H2 vs g2 d2 => ?_
  exact q F2 H2 (x :: vs) (g1.trans g2) (.cons (dp_mono g2.f d1) d2)
theorem sz1000 {n : Nat} (h : n ≤ 1000) : n ≤ sizeLine := Nat.le_of_lt (small1000 h)
theorem de_tup {t : TA} {g : AF} (h : DA K t g) : DE K (tTup t) (eTup g) := fun B F H σ env r S fh bh e Q q => by
  obtain ⟨ds, ea, e⟩ := bnd e
  split at e
  · rename_i hl
    cases e
    refine h B F H σ env ds S fh bh ea _ fun F1 H1 vs g1 d1 => ⟨by rw [DpAll.len d1]; exact sz1000 hl, fun p hp => ?_⟩
    have g2 : Grow F H F1 (upd H1 p (.tup vs)) := g1.trans (Grow.new g1.i hp)
    have hf : F1 p = none := g1.i.free hp
    exact q _ _ _ (g2.frz (g1.h.free hp) hf upd_same) (.tup (.inl (.inl upd_same)) (dpa_mono (same_upd hf) d1))
  · cases e
theorem de_lst {t : TA} {g : AF} (h : DA K t g) : DE K (tLst t) (eLst g) := fun B F H σ env r S fh bh e Q q => by
  obtain ⟨ds, ea, e⟩ := bnd e
  split at e
  · rename_i hl
    cases e
    refine h B F H σ env ds S fh bh ea _ fun F1 H1 vs g1 d1 => ⟨by rw [DpAll.len d1]; exact sz1000 hl, fun p hp => ?_⟩
    have g2 : Grow F H F1 (upd H1 p (.lst vs)) := g1.trans (Grow.new g1.i hp)
    exact q _ _ _ g2 ⟨p, vs, rfl, g1.i.free hp, g1.h.free hp, upd_same, d1⟩
  · cases e
theorem de_cb {r : List V → Hp → VK → Prop} {g : List PyData → Option R} {t : TA} {a : AF} (hr : RCD K r g) (h : DA K t a) : DE K (tCB r t) (eCall g a) := fun B F H σ env r' S fh bh e Q q => by
  obtain ⟨ds, ea, e⟩ := bnd e
  refine h B F H σ env ds S fh bh ea _ fun F1 H1 vs g1 d1 => ?_
  refine hr F1 H1 vs ds r' g1.i d1 e Q fun F3 H3 v g3 rr => ?_
  exact q F3 H3 v (g1.trans g3) (rr.back g1)
theorem toB_some {d : PyData} {b : Bool} (h : toB d = some b) : d = .bool b := by
  cases d <;> cases h
  rfl
theorem dt_test {te : TE} {f : EF} (h : DE K te f) : DT K (tTest te) (tE f) := fun B F H σ env b S fh bh e Q q => by
  obtain ⟨a, ea, e⟩ := bnd e
  refine h.z S fh bh ea fun F1 H1 x g1 d1 => ?_
  rw [toB_some e] at d1
  cases d1
  exact ⟨b, rfl, q F1 H1 g1⟩
theorem dt_B {te : TE} {f : EF} (h : DE K te f) : DT K (tB te) (tE f) := dt_test h
theorem dt_and {t u : TT} {f g : TF} (h1 : DT K t f) (h2 : DT K u g) : DT K (tAnd t u) (tAndD f g) := fun B F H σ env b S fh bh e Q q => by
  obtain ⟨a, ea, e⟩ := bnd e
  refine h1 B F H σ env a S fh bh ea _ fun F1 H1 g1 => ?_
  cases a with
  | true => exact iteT (h2 B F1 H1 σ env b (S.grow g1) g1.i (bh.trans g1.h) e Q fun F2 H2 g2 => q F2 H2 (g1.trans g2))
  | false =>
    cases e
    exact iteF (q F1 H1 g1)
theorem dt_or {t u : TT} {f g : TF} (h1 : DT K t f) (h2 : DT K u g) : DT K (tOr t u) (tOrD f g) := fun B F H σ env b S fh bh e Q q => by
  obtain ⟨a, ea, e⟩ := bnd e
  refine h1 B F H σ env a S fh bh ea _ fun F1 H1 g1 => ?_
  cases a with
  | false => exact iteF (h2 B F1 H1 σ env b (S.grow g1) g1.i (bh.trans g1.h) e Q fun F2 H2 g2 => q F2 H2 (g1.trans g2))
  | true =>
    cases e
    exact iteT (q F1 H1 g1)
theorem dt_not {t : TT} {f : TF} (h1 : DT K t f) : DT K (tNot t) (tNotD f) := fun B F H σ env b S fh bh e Q q => by
  obtain ⟨a, ea, e⟩ := bnd e
  cases e
  exact h1 B F H σ env a S fh bh ea _ fun F1 H1 g1 => q F1 H1 g1
/-- and, or, not as values -/
theorem de_andV {ta tb : TE} {f g : EF} (h1 : DE K ta f) (h2 : DE K tb g) : DE K (tAndV ta tb) (eIf (tE f) g (eC (.bool false))) := fun B F H σ env r S fh bh e Q q => by
  obtain ⟨a, ea, e⟩ := bnd e
  obtain ⟨w, ew, ea⟩ := bnd ea
  refine h1.z S fh bh ew fun F1 H1 x g1 d1 => ?_
  rw [toB_some ea] at d1
  cases d1
  refine ⟨a, rfl, ?_⟩
  cases a with
  | true => exact iteT (h2 B F1 H1 σ env r (S.grow g1) g1.i (bh.trans g1.h) e Q fun F2 H2 v g2 rr => q F2 H2 v (g1.trans g2) (rr.back g1))
  | false =>
    cases e
    exact iteF (q F1 H1 _ g1 (.bl false))
theorem de_orV {ta tb : TE} {f g : EF} (h1 : DE K ta f) (h2 : DE K tb g) : DE K (tOrV ta tb) (eIf (tE f) (eC (.bool true)) g) := fun B F H σ env r S fh bh e Q q => by
  obtain ⟨a, ea, e⟩ := bnd e
  obtain ⟨w, ew, ea⟩ := bnd ea
  refine h1.z S fh bh ew fun F1 H1 x g1 d1 => ?_
  rw [toB_some ea] at d1
  cases d1
  refine ⟨a, rfl, ?_⟩
  cases a with
  | false => exact iteF (h2 B F1 H1 σ env r (S.grow g1) g1.i (bh.trans g1.h) e Q fun F2 H2 v g2 rr => q F2 H2 v (g1.trans g2) (rr.back g1))
  | true =>
    cases e
    exact iteT (q F1 H1 _ g1 (.bl true))
theorem de_notV {ta : TE} {f : EF} (h1 : DE K ta f) : DE K (tNotV ta) (eT (tNotD (tE f))) := fun B F H σ env r S fh bh e Q q => by
  obtain ⟨a, ea, e⟩ := bnd e
  obtain ⟨c, ec, ea⟩ := bnd ea
  obtain ⟨w, ew, ec⟩ := bnd ec
  cases e
  cases ea
  refine h1.z S fh bh ew fun F1 H1 x g1 d1 => ?_
  rw [toB_some ec] at d1
  cases d1
  exact ⟨c, rfl, q F1 H1 _ g1 (.bl _)⟩
theorem de_ifE {c : TT} {ta tb : TE} {t : TF} {f g : EF} (hc : DT K c t) (h1 : DE K ta f) (h2 : DE K tb g) : DE K (tIf c ta tb) (eIf t f g) := fun B F H σ env r S fh bh e Q q => by
  obtain ⟨a, ea, e⟩ := bnd e
  refine hc B F H σ env a S fh bh ea _ fun F1 H1 g1 => ?_
  cases a with
  | true => exact iteT (h1 B F1 H1 σ env r (S.grow g1) g1.i (bh.trans g1.h) e Q fun F2 H2 v g2 rr => q F2 H2 v (g1.trans g2) (rr.back g1))
  | false => exact iteF (h2 B F1 H1 σ env r (S.grow g1) g1.i (bh.trans g1.h) e Q fun F2 H2 v g2 rr => q F2 H2 v (g1.trans g2) (rr.back g1))

/-! ### peeking at owned lists -/
end
@[simp] def unown : Sl → Sl
  | .own ds => .val (.list ds)
  | s => s
@[simp] def flat : PyData → Bool
  | .list _ => false
  | .tuple _ => false
  | .dict _ => false
  | _ => true
@[simp] def flatR : R → Bool
  | .val d => flat d
  | .own ds => ds.all flat
/-- the expression reads owned lists and gives no object, or a new list without objects -/
@[simp] def ePeek (f : EF) : EF := fun env => (f (env.map unown)).bind fun r => if flatR r = true then some r else none
@[simp] def tPeek (f : TF) : TF := fun env => f (env.map unown)
section
variable {K : PySem.W.Frag}
theorem dp_flat {F F' : Hp} {v : V} {d : PyData} (h : Dp K F v d) (hf : flat d = true) : Dp K F' v d := by
  cases h with
  | non => exact .non
  | bl b => exact .bl b
  | int i => exact .int i
  | str x => exact .str x
  | lst _ _ => cases hf
  | tup _ _ => cases hf
theorem dpa_flat {F F' : Hp} : ∀ {vs : List V} {ds : List PyData}, DpAll K F vs ds → ds.all flat = true → DpAll K F' vs ds
  | _, _, .nil, _ => .nil
  | _, _, .cons h t, e => by
    rw [List.all_cons, Bool.and_eq_true] at e
    exact .cons (dp_flat h e.1) (dpa_flat t e.2)
/-- the first n slots are frozen -/
theorem Slots.unownN {B F H : Hp} {σ : L2.St} {env : En} (S : Slots K B F H σ env) (fh : Same F H) : ∀ n : Nat, ∃ (F2 : Hp) (e2 : En), Same F F2 ∧ Same F2 H ∧ Slots K B F2 H σ e2 ∧ e2.length = env.length ∧ ∀ i, e2[i]? = if i < n then (env[i]?).map unown else env[i]?
  | 0 => ⟨F, env, Same.refl F, fh, S, rfl, fun i => by rw [if_neg (Nat.not_lt_zero i)]⟩
  | n + 1 => by
    obtain ⟨F2, e2, a, b, c, d, g⟩ := Slots.unownN S fh n
    have same : (∀ ds, env[n]? ≠ some (.own ds)) → ∀ i, e2[i]? = if i < n + 1 then (env[i]?).map unown else env[i]? := fun hn i => by
      rw [g i]
      by_cases h1 : i < n
      · rw [if_pos h1, if_pos (by omega)]
      · rw [if_neg h1]
        by_cases h2 : i = n
        · subst h2
          rw [if_pos (by omega)]
          cases q : env[i]? with
          | none => rfl
          | some s =>
            cases s with
            | no => rfl
            | val d => rfl
            | own ds => exact absurd q (hn ds)
        · rw [if_neg (by omega)]
    cases q : env[n]? with
    | none => exact ⟨F2, e2, a, b, c, d, same (fun ds z => by rw [q] at z; cases z)⟩
    | some s =>
      cases s with
      | no => exact ⟨F2, e2, a, b, c, d, same (fun ds z => by rw [q] at z; cases z)⟩
      | val x => exact ⟨F2, e2, a, b, c, d, same (fun ds z => by rw [q] at z; cases z)⟩
      | own ds =>
        have q2 : e2[n]? = some (.own ds) := by rw [g n, if_neg (Nat.lt_irrefl n), q]
        obtain ⟨F3, a3, b3, _, c3⟩ := c.freeze b q2
        refine ⟨F3, e2.set n (.val (.list ds)), a.trans a3, b3, c3, by rw [List.length_set, d], fun i => ?_⟩
        by_cases h2 : n = i
        · subst h2
          rw [if_pos (by omega), q, List.getElem?_set_self (List.getElem?_eq_some_iff.mp q2).1]
          rfl
        · rw [List.getElem?_set_ne h2, g i]
          by_cases h1 : i < n
          · rw [if_pos h1, if_pos (by omega)]
          · rw [if_neg h1, if_neg (by omega)]
theorem Slots.unown {B F H : Hp} {σ : L2.St} {env : En} (S : Slots K B F H σ env) (fh : Same F H) : ∃ F2 : Hp, Same F F2 ∧ Same F2 H ∧ Slots K B F2 H σ (env.map Dn.unown) := by
  obtain ⟨F2, e2, a, b, c, d, g⟩ := Slots.unownN S fh env.length
  have e : e2 = env.map Dn.unown := by
    refine List.ext_getElem? fun i => ?_
    rw [g i, List.getElem?_map]
    split
    · rfl
    · rename_i h
      rw [List.getElem?_eq_none (by omega)]
      rfl
  exact ⟨F2, a, b, e ▸ c⟩
theorem de_peek {te : TE} {f : EF} (h : DE K te f) : DE K te (ePeek f) := fun B F H σ env r S fh bh e Q q => by
  obtain ⟨r0, ea, e⟩ := bnd e
  split at e
  · rename_i hf
    cases e
    obtain ⟨F2, a, b, S2⟩ := S.unown fh
    refine h B F2 H σ _ r S2 b bh ea Q fun F3 H3 v g rr => q F H3 v ⟨Same.refl F, g.h, fh.trans g.h, fun _ _ z => z⟩ ?_
    cases r with
    | val d => exact dp_flat (show Dp K F3 v d from rr) hf
    | own ds =>
      obtain ⟨p, xs, e, h1, h2, h3, h4⟩ := rr
      exact ⟨p, xs, e, fh.free h2, h2, h3, dpa_flat h4 hf⟩
  · cases e
theorem dt_peek {tt : TT} {f : TF} (h : DT K tt f) : DT K tt (tPeek f) := fun B F H σ env b S fh bh e Q q => by
  obtain ⟨F2, x, y, S2⟩ := S.unown fh
  exact h B F2 H σ _ b S2 y bh e Q fun F3 H3 g => q F H3 ⟨Same.refl F, g.h, fh.trans g.h, fun _ _ z => z⟩
end
end Dn
namespace Dn
open PySem PySem.Spec PyProof.Rows L2

inductive Out where
  | nx (env : En)
  | rt (r : R)
  | bk (env : En)
  | ct (env : En)
abbrev SF := En → Option Out
/-- the longest list that is made here (not written out: a literal would be unfolded) -/
def Fits (n : Nat) : Prop := n ≤ 100000
noncomputable instance (n : Nat) : Decidable (Fits n) := Classical.propDecidable _
/-- the state within a def: F0, H0 at its entry -/
structure Sta (K : PySem.W.Frag) (F0 H0 F H : Hp) (σ : L2.St) (env : En) : Prop where
  g : Grow F0 H0 F H
  s : Slots K H0 F H σ env
def EndOk (K : PySem.W.Frag) (F0 H0 G : Hp) (D : Ends) : Out → Prop
  | .nx env => ∀ F H σ, Same G F → Sta K F0 H0 F H σ env → D.nx σ H
  | .rt r => ∀ F H v, Grow F0 H0 F H → RepR K F H0 H v r → D.rt v H
  | .bk env => ∀ F H σ, Same G F → Sta K F0 H0 F H σ env → D.bk σ H
  | .ct env => ∀ F H σ, Same G F → Sta K F0 H0 F H σ env → D.ct σ H
theorem EndOk.mono {K : PySem.W.Frag} {F0 H0 G G' : Hp} {D : Ends} {o : Out} (s : Same G G') (h : EndOk K F0 H0 G D o) : EndOk K F0 H0 G' D o := by
  cases o with
  | nx env => exact fun F H σ a b => h F H σ (s.trans a) b
  | rt r => exact h
  | bk env => exact fun F H σ a b => h F H σ (s.trans a) b
  | ct env => exact fun F H σ a b => h F H σ (s.trans a) b
def DS (K : PySem.W.Frag) (ts : TS) (f : SF) : Prop := ∀ (F0 H0 F H : Hp) (σ : L2.St) (env : En) (o : Out), Sta K F0 H0 F H σ env → f env = some o → ∀ D : Ends, EndOk K F0 H0 F D o → ts D σ H
structure SS (X : Cx) (st : Stmt) (ts : TS) (f : SF) : Prop where
  ps : PS X st ts
  ds : DS X.K ts f
structure SSs (X : Cx) (st : List Stmt) (ts : TS) (f : SF) : Prop where
  ps : PSs X st ts
  ds : DS X.K ts f

@[simp] def sNext : SF := fun env => some (.nx env)
def bindO (o : Option Out) (g : SF) : Option Out := match o with
  | some (.nx e) => g e
  | o => o
section
variable {g k : SF} {e : En} {r : R}
@[simp] theorem bindO_nx : bindO (some (.nx e)) g = g e := rfl
@[simp] theorem bindO_rt : bindO (some (.rt r)) g = some (.rt r) := rfl
@[simp] theorem bindO_bk : bindO (some (.bk e)) g = some (.bk e) := rfl
@[simp] theorem bindO_ct : bindO (some (.ct e)) g = some (.ct e) := rfl
@[simp] theorem bindO_no : bindO none g = none := rfl
theorem bindO_ite {c : Prop} [Decidable c] {x y : Option Out} : bindO (if c then x else y) g = if c then bindO x g else bindO y g := by split <;> rfl
/-- behind a loop's turn -/
def turnO (o : Option Out) (k : SF) : Option Out := match o with
  | some (.nx e) => k e
  | some (.ct e) => k e
  | some (.bk e) => some (.nx e)
  | some (.rt r) => some (.rt r)
  | none => none
@[simp] theorem turnO_nx : turnO (some (.nx e)) k = k e := rfl
@[simp] theorem turnO_ct : turnO (some (.ct e)) k = k e := rfl
@[simp] theorem turnO_bk : turnO (some (.bk e)) k = some (.nx e) := rfl
@[simp] theorem turnO_rt : turnO (some (.rt r)) k = some (.rt r) := rfl
@[simp] theorem turnO_no : turnO none k = none := rfl
theorem turnO_ite {c : Prop} [Decidable c] {x y : Option Out} : turnO (if c then x else y) k = if c then turnO x k else turnO y k := by split <;> rfl
end
@[simp] def sSeq (f g : SF) : SF := fun env => bindO (f env) g
@[simp] def sRet (f : EF) : SF := fun env => (f env).bind fun r => some (.rt r)
@[simp] def sRetN : SF := fun _ => some (.rt (.val .none))
@[simp] def sRetOwn (i : Nat) : SF := fun env => match env[i]? with
  | some (.own ds) => some (.rt (.own ds))
  | _ => none
@[simp] def sBreak : SF := fun env => some (.bk env)
@[simp] def sCont : SF := fun env => some (.ct env)
@[simp] def sIf (c : TF) (f g : SF) : SF := fun env => (c env).bind fun b => if b = true then f env else g env
@[simp] def sSet (i : Nat) (f : EF) : SF := fun env => (f env).bind fun r => some (.nx (env.set i r.sl))
@[simp] def sDrop (f : EF) : SF := fun env => (f env).bind fun _ => some (.nx env)
@[simp] noncomputable def sAppend (i : Nat) (f : EF) : SF := fun env => match env[i]? with
  | some (.own ds) => (f env).bind fun r => if Fits (ds.length + 1) then some (.nx (env.set i (.own (ds ++ [r.frz])))) else none
  | _ => none
def ixD (ds : List PyData) (k : Int) : Option Nat := ixN ds.length k
@[simp] def sPut (i : Nat) (fi fv : EF) : SF := fun env => match env[i]? with
  | some (.own ds) => (fv env).bind fun r => (fi env).bind fun k => match k.frz with
    | .int k => (ixN ds.length k).bind fun j => some (.nx (env.set i (.own (ds.set j r.frz))))
    | _ => none
  | _ => none
/-- a ghost's step: an owned list is frozen -/
@[simp] def frzAt (i : Nat) (env : En) : En := match env[i]? with
  | some (.own ds) => env.set i (.val (.list ds))
  | _ => env
@[simp] def sFrz (i : Nat) (f : SF) : SF := fun env => f (frzAt i env)

section
variable {K : PySem.W.Frag} {F0 H0 F H F' H' : Hp} {σ : L2.St} {env : En}
theorem Sta.fh (S : Sta K F0 H0 F H σ env) : Same F H := S.g.i
theorem Sta.bh (S : Sta K F0 H0 F H σ env) : Same H0 H := S.g.h
theorem Sta.grow (S : Sta K F0 H0 F H σ env) (g : Grow F H F' H') : Sta K F0 H0 F' H' σ env := ⟨S.g.trans g, S.s.grow g⟩
theorem DE.at {te : TE} {f : EF} (h : DE K te f) (S : Sta K F0 H0 F H σ env) {r : R} (e : f env = some r) {Q : VK} (q : ∀ F' H' v, Grow F H F' H' → RepR K F' H H' v r → Q v H') : te σ H Q := h H0 F H σ env r S.s S.fh S.bh e Q q
theorem DE.atZ {te : TE} {f : EF} (h : DE K te f) (S : Sta K F0 H0 F H σ env) {r : R} (e : f env = some r) {Q : VK} (q : ∀ F' H' v, Grow F H F' H' → Dp K F' v r.frz → Q v H') : te σ H Q := h.z S.s S.fh S.bh e q
theorem ds_next : DS K tNext sNext := fun F0 H0 F H σ env o S e D q => by
  cases e
  exact q F H σ (Same.refl F) S
theorem ds_seq {t u : TS} {f g : SF} (h1 : DS K t f) (h2 : DS K u g) : DS K (tSeq t u) (sSeq f g) := fun F0 H0 F H σ env o S e D q => by
  unfold sSeq at e
  cases e1 : f env with
  | none =>
    rw [e1, bindO_no] at e
    cases e
  | some o1 =>
    rw [e1] at e
    refine h1 F0 H0 F H σ env o1 S e1 _ ?_
    cases o1 with
    | nx env1 => exact fun F1 H1 σ1 s1 S1 => h2 F0 H0 F1 H1 σ1 env1 o S1 e D (q.mono s1)
    | rt r =>
      rw [bindO_rt] at e
      cases e
      exact q
    | bk env1 =>
      rw [bindO_bk] at e
      cases e
      exact q
    | ct env1 =>
      rw [bindO_ct] at e
      cases e
      exact q
theorem ds_ret {te : TE} {f : EF} (h : DE K te f) : DS K (tRet te) (sRet f) := fun F0 H0 F H σ env o S e D q => by
  obtain ⟨r, er, e⟩ := bnd e
  cases e
  exact h.at S er fun F' H' v g rr => q F' H' v (S.g.trans g) (rr.back S.g)
theorem ds_retN : DS K tRetN sRetN := fun F0 H0 F H σ env o S e D q => by
  cases e
  exact q F H _ S.g .non
theorem ds_retOwn {i : Nat} : DS K (tRet (tVar i)) (sRetOwn i) := fun F0 H0 F H σ env o S e D q => by
  unfold sRetOwn at e
  split at e
  · rename_i ds hd
    cases e
    obtain ⟨p, xs, h1, h0, h2, h3, h4⟩ := S.s.own hd
    exact ⟨_, h1, q F H _ S.g ⟨p, xs, rfl, h2, h0, h3, h4⟩⟩
  · cases e
theorem ds_break : DS K tBreak sBreak := fun F0 H0 F H σ env o S e D q => by
  cases e
  exact q F H σ (Same.refl F) S
theorem ds_cont : DS K tCont sCont := fun F0 H0 F H σ env o S e D q => by
  cases e
  exact q F H σ (Same.refl F) S
theorem ds_if {c : TT} {t u : TS} {b : TF} {f g : SF} (hc : DT K c b) (h1 : DS K t f) (h2 : DS K u g) : DS K (tIfS c t u) (sIf b f g) := fun F0 H0 F H σ env o S e D q => by
  obtain ⟨a, ea, e⟩ := bnd e
  refine hc H0 F H σ env a S.s S.fh S.bh ea _ fun F1 H1 g1 => ?_
  cases a with
  | true => exact iteT (h1 F0 H0 F1 H1 σ env o (S.grow g1) e D (q.mono g1.f))
  | false => exact iteF (h2 F0 H0 F1 H1 σ env o (S.grow g1) e D (q.mono g1.f))
theorem ds_set {te : TE} {f : EF} {i : Nat} (h : DE K te f) : DS K (tAsg te (gName i)) (sSet i f) := fun F0 H0 F H σ env o S e D q => by
  obtain ⟨r, er, e⟩ := bnd e
  cases e
  exact h.at S er fun F' H' v g rr => q F' H' _ g.f ⟨S.g.trans g, S.s.put S.bh g rr⟩
theorem ds_drop {te : TE} {f : EF} (h : DE K te f) : DS K (tDrop te) (sDrop f) := fun F0 H0 F H σ env o S e D q => by
  obtain ⟨r, er, e⟩ := bnd e
  cases e
  exact h.at S er fun F' H' v g rr => q F' H' _ g.f (S.grow g)
/-- an owned list is turned within the def -/
theorem Sta.turn (S : Sta K F0 H0 F H σ env) {i : Nat} {p : Addr} {ds es : List PyData} {ys : List V} (e : env[i]? = some (.own ds)) (hp : σ[i]? = some (some (.ref p))) (hy : DpAll K F ys es) : Sta K F0 H0 F (upd H p (.lst ys)) σ (env.set i (.own es)) := by
  obtain ⟨p', xs, h1, h0, h2, h3, h4⟩ := S.s.own e
  rw [hp] at h1
  cases h1
  exact ⟨⟨S.g.f, same_updF S.bh h0, same_updF S.fh h2, S.g.n⟩, S.s.turn e hp hy⟩
theorem ds_append {te : TE} {f : EF} {i : Nat} (h : DE K te f) : DS K (tDrop (tBM K "list" rAppend (tVar i) (tCons te tNil))) (sAppend i f) := fun F0 H0 F H σ env o S e D q => by
  unfold sAppend at e
  split at e
  · rename_i ds hd
    obtain ⟨r, er, e⟩ := bnd e
    split at e
    · rename_i hl
      cases e
      obtain ⟨p, xs, h1, h0, h2, h3, h4⟩ := S.s.own hd
      refine ⟨_, h1, Or.inl ⟨rfl, _, .inl (.inl h3)⟩, h.atZ S er fun F' H' v g dv => ?_⟩
      have S' := S.grow g
      refine ⟨p, xs, v, rfl, rfl, g.h _ _ h3, by rw [DpAll.len h4]; exact Nat.lt_of_lt_of_le hl (by decide), ?_⟩
      exact q F' _ _ g.f (S'.turn hd h1 (DpAll.app (dpa_mono g.f h4) (.cons dv .nil)))
    · cases e
  · cases e
theorem ds_put {te ti : TE} {fi fv : EF} {i : Nat} (hv : DE K te fv) (hi : DE K ti fi) : DS K (tAsg te (gSub (tVar i) ti rSetL)) (sPut i fi fv) := fun F0 H0 F H σ env o S e D q => by
  unfold sPut at e
  split at e
  · rename_i ds hd
    obtain ⟨r, er, e⟩ := bnd e
    obtain ⟨k, ek, e⟩ := bnd e
    split at e
    · rename_i k' hk
      obtain ⟨j, ej, e⟩ := bnd e
      cases e
      obtain ⟨p, xs, h1, h0, h2, h3, h4⟩ := S.s.own hd
      refine hv.atZ S er fun F1 H1 v g1 dv => ⟨_, h1, ?_⟩
      have S1 := S.grow g1
      refine hi.atZ S1 ek fun F2 H2 kv g2 dk => ?_
      have S2 := S1.grow g2
      rw [hk] at dk
      cases dk
      have ln := DpAll.len h4
      refine ⟨p, xs, _, j, rfl, rfl, g2.h _ _ (g1.h _ _ h3), by rw [ln]; exact ej, ?_⟩
      exact q F2 _ _ (g1.f.trans g2.f) (S2.turn hd h1 (DpAll.set j (dpa_mono (g1.f.trans g2.f) h4) (dp_mono g2.f dv)))
    · cases e
  · cases e
theorem ds_frz {t : TS} {f : SF} {i : Nat} (h : DS K t f) : DS K t (sFrz i f) := fun F0 H0 F H σ env o S e D q => by
  unfold sFrz frzAt at e
  split at e
  · rename_i ds hd
    obtain ⟨F', a, b, c, d⟩ := S.s.freeze S.fh hd
    exact h F0 H0 F' H σ _ o ⟨⟨S.g.f.trans a, S.g.h, b, fun x hx hf => c x hx (S.g.n x hx hf)⟩, d⟩ e D (q.mono a)
  · exact h F0 H0 F H σ _ o S e D q
end

/-! ### targets -/
theorem wipe_set {σ : L2.St} {i : Nat} {x : Option V} : ∀ {vs : List Nat}, wipe (σ.set i x) vs = if i ∈ vs then wipe σ vs else (wipe σ vs).set i x
  | [] => by simp [wipe]
  | w :: vs => by
    unfold wipe
    rw [wipe_set (vs := vs)]
    by_cases h : i ∈ vs
    · rw [if_pos h, if_pos (List.mem_cons_of_mem _ h)]
    · rw [if_neg h]
      by_cases hw : i = w
      · subst hw
        rw [if_pos List.mem_cons_self, List.set_set]
      · rw [if_neg (by simp [hw, h]), List.set_comm _ _ hw]
theorem wipe_set_in {σ : L2.St} {i : Nat} {x : Option V} {vs : List Nat} (h : i ∈ vs) : wipe (σ.set i x) vs = wipe σ vs := by rw [wipe_set, if_pos h]
abbrev GF := PyData → En → Option En
/-- ws: the slots that it stores into -/
def DG (K : PySem.W.Frag) (ws : List Nat) (t : TG) (g : GF) : Prop := ∀ (B F H : Hp) (σ : L2.St) (env env' : En) (v : V) (d : PyData), Slots K B F H σ env → Same F H → Same B H → Dp K F v d → g d env = some env' →
  ∀ Q : L2.St → Hp → Prop, (∀ F' H' σ', Grow F H F' H' → Slots K B F' H' σ' env' → (∀ vs, (∀ i ∈ ws, i ∈ vs) → wipe σ' vs = wipe σ vs) → Q σ' H') → t v σ H Q
@[simp] def gtName (i : Nat) : GF := fun d env => some (env.set i (.val d))
@[simp] def gtTup2 (i j : Nat) : GF := fun d env => match d with
  | .tuple [a, b] => some ((env.set i (.val a)).set j (.val b))
  | _ => none
@[simp] def gtTup3 (i j k : Nat) : GF := fun d env => match d with
  | .tuple [a, b, c] => some (((env.set i (.val a)).set j (.val b)).set k (.val c))
  | _ => none
section
variable {K : PySem.W.Frag}
theorem Slots.putV {B F H : Hp} {σ : L2.St} {env : En} {v : V} {d : PyData} {i : Nat} (S : Slots K B F H σ env) (fh : Same F H) (bh : Same B H) (h : Dp K F v d) : Slots K B F H (σ.set i (some v)) (env.set i (.val d)) := S.put bh (Grow.refl fh) (r := .val d) h
theorem dg_name {i : Nat} : DG K [i] (gName i) (gtName i) := fun B F H σ env env' v d S fh bh h e Q q => by
  cases e
  exact q F H _ (Grow.refl fh) (S.putV fh bh h) fun vs hv => wipe_set_in (hv i (by simp))
theorem dg_tup2 {i j : Nat} : DG K [i, j] (gTup K 2 (gCons (gName i) (gCons (gName j) gNil))) (gtTup2 i j) := fun B F H σ env env' v d S fh bh h e Q q => by
  unfold gtTup2 at e
  split at e
  · cases e
    cases h with
    | tup hs ha =>
      cases ha with
      | cons a1 ha =>
        cases ha with
        | cons a2 ha =>
          cases ha
          refine ⟨_, _, rfl, sqT_mono fh hs, rfl, _, _, rfl, _, _, rfl, rfl, q F H _ (Grow.refl fh) ((S.putV fh bh a1).putV fh bh a2) fun vs hv => ?_⟩
          rw [wipe_set_in (hv j (by simp)), wipe_set_in (hv i (by simp))]
  · cases e
theorem dg_tup3 {i j k : Nat} : DG K [i, j, k] (gTup K 3 (gCons (gName i) (gCons (gName j) (gCons (gName k) gNil)))) (gtTup3 i j k) := fun B F H σ env env' v d S fh bh h e Q q => by
  unfold gtTup3 at e
  split at e
  · cases e
    cases h with
    | tup hs ha =>
      cases ha with
      | cons a1 ha =>
        cases ha with
        | cons a2 ha =>
          cases ha with
          | cons a3 ha =>
            cases ha
            refine ⟨_, _, rfl, sqT_mono fh hs, rfl, _, _, rfl, _, _, rfl, _, _, rfl, rfl, q F H _ (Grow.refl fh) (((S.putV fh bh a1).putV fh bh a2).putV fh bh a3) fun vs hv => ?_⟩
            rw [wipe_set_in (hv k (by simp)), wipe_set_in (hv j (by simp)), wipe_set_in (hv i (by simp))]
  · cases e
@[simp] def sAsg (g : GF) (f : EF) : SF := fun env => (f env).bind fun r => (g r.frz env).bind fun e => some (.nx e)
theorem ds_asg {te : TE} {f : EF} {t : TG} {g : GF} {ws : List Nat} (h : DE K te f) (hg : DG K ws t g) : DS K (tAsg te t) (sAsg g f) := fun F0 H0 F H σ env o S e D q => by
  obtain ⟨r, er, e⟩ := bnd e
  obtain ⟨e1, ee, e⟩ := bnd e
  cases e
  exact h.atZ S er fun F' H' v g1 dv => hg H0 F' H' σ env e1 v _ (S.grow g1).s g1.i (S.grow g1).bh dv ee _ fun F2 H2 σ2 g2 S2 _ => q F2 H2 σ2 (g1.f.trans g2.f) ⟨(S.g.trans g1).trans g2, S2⟩
end

/-! ### what is walked -/
abbrev IF := En → Option (List PyData)
/-- an iterator that gives ds in order, whatever has grown meanwhile -/
def Walks (K : PySem.W.Frag) (F : Hp) (J : It) (ds : List PyData) : Prop := ∀ (i : Nat) (F1 H1 : Hp), Same F F1 → Same F1 H1 →
  (ds[i]? = none → i = ds.length → J.stop i H1) ∧ ∀ d, ds[i]? = some d → J.go i H1 ∧ ∀ x H2, J.yld i H1 x H2 → ∃ F2, Grow F1 H1 F2 H2 ∧ Dp K F2 x d
def DI (K : PySem.W.Frag) (wi : TI) (f : IF) : Prop := ∀ (B F H : Hp) (σ : L2.St) (env : En) (ds : List PyData), Slots K B F H σ env → Same F H → Same B H → f env = some ds →
  ∀ R : It → Hp → Prop, (∀ F' H' J, Grow F H F' H' → Walks K F' J ds → R J H') → wi σ H R
@[simp] def iL (f : EF) : IF := fun env => (f env).bind fun r => match r.frz with
  | .list ds => some ds
  | _ => none
@[simp] def iT (f : EF) : IF := fun env => (f env).bind fun r => match r.frz with
  | .tuple ds => some ds
  | _ => none
def intsFrom (lo : Int) : Nat → List PyData
  | 0 => []
  | n + 1 => .int lo :: intsFrom (lo + 1) n
/-- a range's bounds -/
def InR (n : Int) : Prop := -(2 ^ 62) ≤ n ∧ n < 2 ^ 62
noncomputable instance (n : Int) : Decidable (InR n) := Classical.propDecidable _
@[simp] noncomputable def iR1 (t : AF) : IF := fun env => (t env).bind fun ds => match ds with
  | [.int n] => if InR n then some (intsFrom 0 n.toNat) else none
  | _ => none
@[simp] noncomputable def iR2 (t : AF) : IF := fun env => (t env).bind fun ds => match ds with
  | [.int a, .int b] => if InR a ∧ InR b then some (intsFrom a (b - a).toNat) else none
  | _ => none
theorem intsFrom_len : ∀ (n : Nat) (lo : Int), (intsFrom lo n).length = n
  | 0, _ => rfl
  | n + 1, lo => by
    show (intsFrom (lo + 1) n).length + 1 = n + 1
    rw [intsFrom_len n]
theorem intsFrom_get : ∀ (n : Nat) (lo : Int) (i : Nat), i < n → (intsFrom lo n)[i]? = some (.int (lo + i))
  | 0, _, _, h => absurd h (Nat.not_lt_zero _)
  | n + 1, lo, 0, _ => by
    show some (PyData.int lo) = _
    simp
  | n + 1, lo, i + 1, h => by
    show (intsFrom (lo + 1) n)[i]? = _
    rw [intsFrom_get n (lo + 1) i (by omega)]
    congr 2
    omega
section
variable {K : PySem.W.Frag}
theorem walks_list {F : Hp} {a : Addr} {xs : List V} {ds : List PyData} (h : SqL K F a xs) (hd : DpAll K F xs ds) (uq : ∀ H1, Same F H1 → ∀ ys, SqL K H1 a ys → ys = xs) : Walks K F (Itl K a) ds := fun i F1 H1 s1 s2 => by
  have hl := DpAll.len hd
  refine ⟨fun _ e => ⟨xs, sqL_mono (s1.trans s2) h, by omega⟩, fun d e => ?_⟩
  obtain ⟨v, e1, h1⟩ := DpAll.get hd e
  refine ⟨⟨xs, v, sqL_mono (s1.trans s2) h, e1⟩, fun x H2 y => ?_⟩
  obtain ⟨rfl, y⟩ := y
  have e2 := y xs (sqL_mono (s1.trans s2) h)
  rw [e1] at e2
  cases e2
  exact ⟨F1, Grow.refl s2, dp_mono s1 h1⟩
theorem di_list {tl : TE} {f : EF} (h : DE K tl f) : DI K (iList K tl) (iL f) := fun B F H σ env ds S fh bh e R q => by
  obtain ⟨r, er, e⟩ := bnd e
  refine h.z S fh bh er fun F1 H1 v g d => ?_
  split at e
  · rename_i es he
    cases e
    rw [he] at d
    cases d with
    | lst hs ha =>
      refine ⟨_, rfl, ⟨_, sqL_mono g.i hs⟩, q F1 H1 _ g fun i F2 H2 s1 s2 => ?_⟩
      have hl := DpAll.len ha
      refine ⟨fun _ e => ⟨_, sqL_mono (s1.trans s2) hs, by omega⟩, fun d e => ?_⟩
      obtain ⟨w, e1, h1⟩ := DpAll.get ha e
      refine ⟨⟨_, w, sqL_mono (s1.trans s2) hs, e1⟩, fun x H3 y => ?_⟩
      obtain ⟨rfl, y⟩ := y
      have e2 := y _ (sqL_mono (s1.trans s2) hs)
      rw [e1] at e2
      cases e2
      exact ⟨F2, Grow.refl s2, dp_mono s1 h1⟩
  · cases e
theorem di_tup {tl : TE} {f : EF} (h : DE K tl f) : DI K (iTup K tl) (iT f) := fun B F H σ env ds S fh bh e R q => by
  obtain ⟨r, er, e⟩ := bnd e
  refine h.z S fh bh er fun F1 H1 v g d => ?_
  split at e
  · rename_i es he
    cases e
    rw [he] at d
    cases d with
    | tup hs ha =>
      refine ⟨_, rfl, ⟨_, sqT_mono g.i hs⟩, q F1 H1 _ g fun i F2 H2 s1 s2 => ?_⟩
      have hl := DpAll.len ha
      refine ⟨fun _ e => ⟨_, sqT_mono (s1.trans s2) hs, by omega⟩, fun d e => ?_⟩
      obtain ⟨w, e1, h1⟩ := DpAll.get ha e
      refine ⟨⟨_, w, sqT_mono (s1.trans s2) hs, e1⟩, fun x H3 y => ?_⟩
      obtain ⟨rfl, y⟩ := y
      have e2 := y _ (sqT_mono (s1.trans s2) hs)
      rw [e1] at e2
      cases e2
      exact ⟨F2, Grow.refl s2, dp_mono s1 h1⟩
  · cases e
theorem walks_rng {F : Hp} (lo : Int) (n : Nat) : Walks K F (Itr lo n) (intsFrom lo n) := fun i F1 H1 s1 s2 => by
  refine ⟨fun _ e => by rw [intsFrom_len] at e; exact Nat.le_of_eq e.symm, fun d e => ?_⟩
  have hi : i < n := by
    have := (List.getElem?_eq_some_iff.mp e).1
    rw [intsFrom_len] at this
    exact this
  rw [intsFrom_get n lo i hi] at e
  cases e
  refine ⟨hi, fun x H2 y => ?_⟩
  obtain ⟨rfl, rfl⟩ := y
  exact ⟨F1, Grow.refl s2, .int _⟩
theorem di_r1 {ta : TA} {t : AF} (h : DA K ta t) : DI K (iRng1 ta) (iR1 t) := fun B F H σ env ds S fh bh e R q => by
  obtain ⟨as, ea, e⟩ := bnd e
  split at e
  · split at e
    · rename_i n hn
      cases e
      refine h B F H σ env _ S fh bh ea _ fun F1 H1 vs g d => ?_
      cases d with
      | cons d1 d2 =>
        cases d1
        cases d2
        exact ⟨n, rfl, hn.1, hn.2, q F1 H1 _ g (walks_rng 0 n.toNat)⟩
    · cases e
  · cases e
theorem di_r2 {ta : TA} {t : AF} (h : DA K ta t) : DI K (iRng2 ta) (iR2 t) := fun B F H σ env ds S fh bh e R q => by
  obtain ⟨as, ea, e⟩ := bnd e
  split at e
  · split at e
    · rename_i a b hn
      cases e
      refine h B F H σ env _ S fh bh ea _ fun F1 H1 vs g d => ?_
      cases d with
      | cons d1 d2 =>
        cases d1
        cases d2 with
        | cons d1 d2 =>
          cases d1
          cases d2
          exact ⟨a, b, rfl, ⟨hn.1.1, hn.1.2, hn.2.1, hn.2.2⟩, q F1 H1 _ g (walks_rng a (b - a).toNat)⟩
    · cases e
  · cases e

/-! ### for, while, comprehensions -/
@[simp] def forD (g : GF) (body : SF) : List PyData → SF
  | [], env => some (.nx env)
  | d :: ds, env => (g d env).bind fun e1 => turnO (body e1) (forD g body ds)
@[simp] def sFor (it : IF) (g : GF) (body : SF) : SF := fun env => (it env).bind fun ds => forD g body ds env
theorem ds_for {wi : TI} {it : IF} {t : TG} {g : GF} {ws : List Nat} {tb : TS} {body : SF} (hi : DI K wi it) (hg : DG K ws t g) (hb : DS K tb body) : DS K (tFor wi t tb) (sFor it g body) := fun F0 H0 F H σ env o S e D q => by
  obtain ⟨ds, ed, e⟩ := bnd e
  refine hi H0 F H σ env ds S.s S.fh S.bh ed _ fun F1 H1 J g1 wk => ?_
  refine ⟨fun i m σ2 H2 => ∃ F2 e2, Same F1 F2 ∧ Sta K F0 H0 F2 H2 σ2 e2 ∧ forD g body (ds.drop i) e2 = some o ∧ i + m = ds.length, ⟨ds.length, F1, env, Same.refl F1, S.grow g1, e, by omega⟩, ?_⟩
  rintro i m σ2 H2 ⟨F2, e2, s2, S2, eq, em⟩
  obtain ⟨wn, wg⟩ := wk i F2 H2 s2 S2.fh
  cases hd : ds[i]? with
  | none =>
    have hl : ds.length ≤ i := List.getElem?_eq_none_iff.mp hd
    rw [List.drop_eq_nil_of_le hl] at eq
    cases eq
    exact .inl ⟨wn hd (by omega), q F2 H2 σ2 (g1.f.trans s2) S2⟩
  | some d =>
    obtain ⟨go, yl⟩ := wg d hd
    have hi : i < ds.length := (List.getElem?_eq_some_iff.mp hd).1
    have hdr : ds.drop i = d :: ds.drop (i + 1) := by
      rw [List.drop_eq_getElem_cons hi]
      rw [List.getElem?_eq_getElem hi] at hd
      cases hd
      rfl
    rw [hdr] at eq
    obtain ⟨e3, ee, eq⟩ := bnd eq
    refine .inr ⟨go, fun σ' H' => ∃ F' e', Same F1 F' ∧ Sta K F0 H0 F' H' σ' e' ∧ forD g body (ds.drop (i + 1)) e' = some o, fun σ' H' ⟨F', e', a, b, c⟩ => ⟨m - 1, by omega, F', e', a, b, c, by omega⟩, fun x H' hy => ?_⟩
    obtain ⟨F3, g3, dx⟩ := yl x H' hy
    have S3 := S2.grow g3
    refine hg H0 F3 H' σ2 e2 e3 x d S3.s g3.i S3.bh dx ee _ fun F4 H4 σ4 g4 S4 _ => ?_
    have S5 : Sta K F0 H0 F4 H4 σ4 e3 := ⟨S3.g.trans g4, S4⟩
    have s4 : Same F1 F4 := (s2.trans g3.f).trans g4.f
    cases eb : body e3 with
    | none =>
      rw [eb, turnO_no] at eq
      cases eq
    | some ob =>
      rw [eb] at eq
      refine hb F0 H0 F4 H4 σ4 e3 ob S5 eb _ ?_
      cases ob with
      | nx e4 => exact fun F5 H5 σ5 s5 S5 => ⟨F5, e4, s4.trans s5, S5, eq⟩
      | ct e4 => exact fun F5 H5 σ5 s5 S5 => ⟨F5, e4, s4.trans s5, S5, eq⟩
      | bk e4 =>
        rw [turnO_bk] at eq
        cases eq
        exact fun F5 H5 σ5 s5 S5 => q F5 H5 σ5 (g1.f.trans (s4.trans s5)) S5
      | rt r =>
        rw [turnO_rt] at eq
        cases eq
        exact q
def whileD (c : TF) (body : SF) : Nat → SF
  | 0, _ => none
  | n + 1, env => (c env).bind fun b => if b = true then turnO (body env) (whileD c body n) else some (.nx env)
theorem ds_while {c : TT} {cf : TF} {tb : TS} {body : SF} (n : Nat) (hc : DT K c cf) (hb : DS K tb body) : DS K (tWhile c tb) (whileD cf body n) := fun F0 H0 F H σ env o S e D q => by
  refine ⟨fun m σ2 H2 => ∃ F2 e2, Same F F2 ∧ Sta K F0 H0 F2 H2 σ2 e2 ∧ whileD cf body m e2 = some o, ⟨n, F, env, Same.refl F, S, e⟩, ?_⟩
  rintro m σ2 H2 ⟨F2, e2, s2, S2, eq⟩
  cases m with
  | zero => cases eq
  | succ m =>
    obtain ⟨b, eb, eq⟩ := bnd eq
    refine hc H0 F2 H2 σ2 e2 b S2.s S2.fh S2.bh eb _ fun F3 H3 g3 => ?_
    have S3 := S2.grow g3
    cases b with
    | false =>
      cases eq
      exact iteF (q F3 H3 σ2 (s2.trans g3.f) S3)
    | true =>
      rw [if_pos rfl] at eq
      refine iteT ⟨fun σ' H' => ∃ F' e', Same F F' ∧ Sta K F0 H0 F' H' σ' e' ∧ whileD cf body m e' = some o, fun σ' H' w => ⟨m, Nat.lt_succ_self m, w⟩, ?_⟩
      cases ebd : body e2 with
      | none =>
        rw [ebd, turnO_no] at eq
        cases eq
      | some ob =>
        rw [ebd] at eq
        refine hb F0 H0 F3 H3 σ2 e2 ob S3 ebd _ ?_
        have s4 := s2.trans g3.f
        cases ob with
        | nx e4 => exact fun F5 H5 σ5 s5 S5 => ⟨F5, e4, s4.trans s5, S5, eq⟩
        | ct e4 => exact fun F5 H5 σ5 s5 S5 => ⟨F5, e4, s4.trans s5, S5, eq⟩
        | bk e4 =>
          rw [turnO_bk] at eq
          cases eq
          exact fun F5 H5 σ5 s5 S5 => q F5 H5 σ5 (s4.trans s5) S5
        | rt r =>
          rw [turnO_rt] at eq
          cases eq
          exact q
@[simp] def wipeD (env : En) : List Nat → En
  | [] => env
  | v :: vs => (wipeD env vs).set v .no
theorem Slots.wipe {B F H : Hp} {σ : L2.St} {env : En} (S : Slots K B F H σ env) : ∀ vs : List Nat, Slots K B F H (wipe σ vs) (wipeD env vs)
  | [] => S
  | v :: vs => by
    obtain ⟨l, ad, h1, h2⟩ := Slots.wipe S vs
    refine ⟨?_, ad, fun i w s e1 e2 => ?_, fun i j ds es hij e1 e2 => ?_⟩
    · show ((L2.wipe σ vs).set v none).length = ((wipeD env vs).set v .no).length
      rw [List.length_set, List.length_set, l]
    · have e1 : ((L2.wipe σ vs).set v none)[i]? = some w := e1
      have e2 : ((wipeD env vs).set v .no)[i]? = some s := e2
      by_cases hv : v = i
      · subst hv
        rw [List.getElem?_set] at e2
        simp at e2
        obtain ⟨_, rfl⟩ := e2
        trivial
      · rw [List.getElem?_set_ne hv] at e1 e2
        exact h1 i w s e1 e2
    · have q : ∀ (m : Nat) (zs : List PyData), (wipeD env (v :: vs))[m]? = some (Sl.own zs) → (wipeD env vs)[m]? = some (Sl.own zs) := fun m zs g => by
        have g : ((wipeD env vs).set v .no)[m]? = some (Sl.own zs) := g
        by_cases hm : v = m
        · subst hm
          rw [List.getElem?_set] at g
          simp at g
        · rw [List.getElem?_set_ne hm] at g
          exact g
      exact h2 i j ds es hij (q _ _ e1) (q _ _ e2)
def lcD (vs : List Nat) (g : GF) (c : TF) (f : EF) (env : En) : List PyData → Option (List PyData)
  | [] => some []
  | d :: ds => (g d (wipeD env vs)).bind fun e1 => (c e1).bind fun b => if b = true then (f e1).bind fun r => (lcD vs g c f env ds).bind fun rs => some (r.frz :: rs) else lcD vs g c f env ds
@[simp] noncomputable def eLc (vs : List Nat) (it : IF) (g : GF) (c : TF) (f : EF) : EF := fun env => (it env).bind fun ds => if Fits ds.length then (lcD vs g c f env ds).bind fun rs => some (.own rs) else none
@[simp] def tYesD : TF := fun _ => some true
theorem dt_yes : DT K tYes tYesD := fun B F H σ env b S fh bh e Q q => by
  cases e
  exact q F H (Grow.refl fh)
theorem de_lc {wi : TI} {it : IF} {t : TG} {g : GF} {ws vs : List Nat} {tt : TT} {c : TF} {te : TE} {f : EF} (hi : DI K wi it) (hg : DG K ws t g) (hw : ∀ i ∈ ws, i ∈ vs) (hc : DT K tt c) (he : DE K te f) : DE K (tLc wi t tt te vs) (eLc vs it g c f) := fun B F H σ env r S fh bh e Q q => by
  obtain ⟨ds, ed, e⟩ := bnd e
  split at e
  case isFalse => cases e
  rename_i hlen
  obtain ⟨rs, er, e⟩ := bnd e
  cases e
  refine hi B F H σ env ds S fh bh ed _ fun F1 H1 J g1 wk => ?_
  intro D hD
  have S1 := S.grow g1
  have hFD : F1 D = none := g1.i.free hD
  have gD : Grow F1 H1 F1 (upd H1 D (.lst [])) := Grow.new g1.i hD
  refine ⟨fun i m H2 => ∃ F2 acc bs as rs', Grow F1 H1 F2 H2 ∧ H2 D = some (.lst acc) ∧ F2 D = none ∧ DpAll K F2 acc bs ∧ as.length ≤ i ∧ as.length = bs.length ∧ lcD vs g c f env (ds.drop i) = some rs' ∧ bs ++ rs' = rs ∧ i + m = ds.length ∧ (as : List Nat).length = bs.length, ⟨ds.length, F1, [], [], [], rs, gD, upd_same, hFD, .nil, Nat.le_refl _, rfl, er, rfl, by omega, rfl⟩, ?_⟩
  rintro i m H2 ⟨F2, acc, bs, as, rs', G2, hA, hF2, dA, hal, hab, el, eb, em, _⟩
  have la := DpAll.len dA
  obtain ⟨wn, wg⟩ := wk i F2 H2 G2.f G2.i
  cases hd : ds[i]? with
  | none =>
    have hl : ds.length ≤ i := List.getElem?_eq_none_iff.mp hd
    rw [List.drop_eq_nil_of_le hl] at el
    cases el
    rw [List.append_nil] at eb
    subst eb
    exact .inl ⟨wn hd (by omega), q F2 H2 _ (g1.trans G2) ⟨D, acc, rfl, hF2, g1.h.free hD, hA, dA⟩⟩
  | some d =>
    obtain ⟨go, yl⟩ := wg d hd
    have hi2 : i < ds.length := (List.getElem?_eq_some_iff.mp hd).1
    have hdr : ds.drop i = d :: ds.drop (i + 1) := by
      rw [List.drop_eq_getElem_cons hi2]
      rw [List.getElem?_eq_getElem hi2] at hd
      cases hd
      rfl
    rw [hdr] at el
    obtain ⟨e3, ee, el⟩ := bnd el
    obtain ⟨b, ebt, el⟩ := bnd el
    refine .inr ⟨go, fun H' => ∃ F' acc bs as rs', Grow F1 H1 F' H' ∧ H' D = some (.lst acc) ∧ F' D = none ∧ DpAll K F' acc bs ∧ as.length ≤ i + 1 ∧ as.length = bs.length ∧ lcD vs g c f env (ds.drop (i + 1)) = some rs' ∧ bs ++ rs' = rs ∧ (as : List Nat).length = bs.length,
      fun H' ⟨F', acc, bs, as, rs', a1, a2, a3, a4, a5, a6, a7, a8, a9⟩ => ⟨m - 1, by omega, F', acc, bs, as, rs', a1, a2, a3, a4, a5, a6, a7, a8, by omega, a9⟩, fun x H' hy => ?_⟩
    obtain ⟨F3, g3, dx⟩ := yl x H' hy
    have G3 := G2.trans g3
    have S3 : Slots K B F3 H' (L2.wipe σ vs) (wipeD env vs) := (S1.grow G3).wipe vs
    have bh3 : Same B H' := (bh.trans g1.h).trans G3.h
    refine hg B F3 H' _ _ e3 x d S3 g3.i bh3 dx ee _ fun F4 H4 σ4 g4 S4 hw4 => ⟨?_, ?_⟩
    · rw [hw4 vs hw]
      have w2 : ∀ (us : List Nat) (τ : L2.St), (∀ i ∈ us, ∀ y, τ[i]? = some y → y = none) → L2.wipe τ us = τ := fun us => by
        induction us with
        | nil => exact fun τ _ => rfl
        | cons u us ih =>
          intro τ h
          unfold L2.wipe
          rw [ih τ (fun i hi => h i (List.mem_cons_of_mem _ hi))]
          refine List.ext_getElem? fun j => ?_
          by_cases hj : u = j
          · subst hj
            cases hy : τ[u]? with
            | none => rw [List.getElem?_eq_none (by rw [List.length_set]; exact List.getElem?_eq_none_iff.mp hy)]
            | some y =>
              rw [h u List.mem_cons_self y hy, List.getElem?_set_self (List.getElem?_eq_some_iff.mp hy).1]
          · rw [List.getElem?_set_ne hj]
      refine w2 vs _ fun i hi y hy => ?_
      have w3 : ∀ (us : List Nat), i ∈ us → ∀ y, (L2.wipe σ us)[i]? = some y → y = none := fun us => by
        induction us with
        | nil => intro h; cases h
        | cons u us ih =>
          intro h y hy
          unfold L2.wipe at hy
          by_cases hj : u = i
          · subst hj
            rw [List.getElem?_set] at hy
            simp at hy
            exact hy.2.symm
          · rw [List.getElem?_set_ne hj] at hy
            exact ih (by cases h with
              | head => exact absurd rfl hj
              | tail _ h => exact h) y hy
      exact w3 vs hi y hy
    · have bh4 : Same B H4 := bh3.trans g4.h
      refine hc B F4 H4 σ4 e3 b S4 g4.i bh4 ebt _ fun F5 H5 g5 => ?_
      have G5 := (G3.trans g4).trans g5
      have h25 : Grow F2 H2 F5 H5 := (g3.trans g4).trans g5
      have hD2 : H2 D ≠ none := by rw [hA]; exact Option.some_ne_none _
      cases b with
      | false =>
        rw [if_neg Bool.false_ne_true] at el ⊢
        exact ⟨F5, acc, bs, as, rs', G5, h25.h _ _ hA, h25.n _ hD2 hF2, dpa_mono h25.f dA, by omega, hab, el, eb, hab⟩
      | true =>
        rw [if_pos rfl] at el ⊢
        obtain ⟨r1, er1, el⟩ := bnd el
        obtain ⟨rs1, er2, el⟩ := bnd el
        cases el
        refine he.z (S4.grow g5) g5.i (bh4.trans g5.h) er1 fun F6 H6 y g6 dy => ?_
        have h26 := h25.trans g6
        have G6 := G5.trans g6
        refine ⟨acc, h26.h _ _ hA, by
          rw [la, ← hab]
          exact Nat.lt_of_le_of_lt (Nat.le_trans hal (Nat.le_trans (Nat.le_of_lt hi2) hlen)) (by decide), F6, acc ++ [y], bs ++ [r1.frz], as ++ [0], rs1, ?_, upd_same, h26.n _ hD2 hF2, DpAll.app (dpa_mono h26.f dA) (.cons dy .nil), by rw [List.length_append]; exact Nat.succ_le_succ hal, by rw [List.length_append, List.length_append, hab]; rfl, er2, by rw [List.append_assoc]; exact eb, by rw [List.length_append, List.length_append, hab]; rfl⟩
        have hFD6 : F6 D = none := h26.n _ hD2 hF2
        exact ⟨G6.f, same_updF G6.h hD, same_updF G6.i hFD6, G6.n⟩
end
end Dn
namespace Dn
open PySem PySem.Spec PyProof.Rows L2

/-! ### operators by values -/
def divLim : Nat := 2 ^ 8000
def mulLim : Nat := 2 ^ 400000
theorem OpR.or {X : Cx} {f : Value → Value → Sem Value} {r r' : R2} (h : OpR X f r) (h' : OpR X f r') : OpR X f (fun x y H Q => r x y H Q ∨ r' x y H Q) := by
  intro pins s σ H x y v u Q I rx ry q
  rcases q with q | q
  · exact h pins s σ H x y v u Q I rx ry q
  · exact h' pins s σ H x y v u Q I rx ry q
theorem op_fdivG {X : Cx} : OpR X (binaryOp .FloorDiv) (rI (fun _ j => j ≠ 0 ∧ j.natAbs < divLim) fun i j => .int (i.fdiv j)) := opI fun i j _ _ _ _ _ hc q =>
  floordiv_int hc.1 q (.inl (PyProof.noPylong_of_log2 (Nat.lt_of_lt_of_le (PySem.Flt.log2_lt_of (by decide : 0 < 8000) (show j.natAbs < 2 ^ 8000 from hc.2)) (by decide))))
def MulOk (i j : Int) : Prop := i.natAbs < 2 ^ 64 ∨ j.natAbs < 2 ^ 64 ∨ (i.natAbs < mulLim ∧ j.natAbs < mulLim)
noncomputable instance (i j : Int) : Decidable (MulOk i j) := Classical.propDecidable _
theorem MulOk.ok {i j : Int} (h : MulOk i j) : IntMulOk i j := by
  rcases h with h | h | ⟨h1, h2⟩
  · exact CMul.ok (.inl ⟨by omega, by omega⟩)
  · exact CMul.ok (.inr ⟨by omega, by omega⟩)
  · exact CMulW.ok (wide_mul (show i.natAbs < 2 ^ 400000 from h1) (show j.natAbs < 2 ^ 400000 from h2) (by decide) (by decide) (by decide))
theorem op_mulG {X : Cx} : OpR X (binaryOp .Mult) (rI MulOk fun i j => .int (i * j)) := opI fun _ _ _ _ _ _ _ hc q => mul_int q hc.ok
/-- list + list, both only read -/
def rCatL (K : PySem.W.Frag) : R2 := fun x y H Q => ∃ l b xs zs, x = .ref l ∧ y = .ref b ∧ SqL K H l xs ∧ SqL K H b zs ∧ xs.length + zs.length ≤ sizeLine ∧ ∀ p, H p = none → Q (.ref p) (upd H p (.lst (xs ++ zs)))
theorem op_catL {X : Cx} : OpR X (binaryOp .Add) (rCatL X.K) := by
  intro pins s σ H x y v u Q I rx ry h
  obtain ⟨l, b, xs, zs, rfl, rfl, hH, hB, hz, q⟩ := h
  cases rx
  cases ry
  obtain ⟨its, r, pl, _⟩ := I.list hH
  obtain ⟨its2, r2, pl2, _⟩ := I.list hB
  obtain ⟨⟨cls, dd, data, sl⟩, ho, hc, n, hd⟩ := pl.isList
  obtain ⟨⟨cls2, dd2, data2, sl2⟩, ho2, hc2, n2, hd2⟩ := pl2.isList
  simp only at hc hd hc2 hd2
  subst hc hd hc2 hd2
  have e : its.toArray ++ its2.toArray = (its ++ its2).toArray := by simp
  refine concat_meets ⟨_, ho, rfl⟩ ⟨_, ho2, rfl⟩ noFill_list_add seq_list_add PySem.F.slot_list_add PySem.F.entry_list_add (PySem.F.args_list_add_2 _ _) (list_addW l b its.toArray its2.toArray n n2 dd dd2 sl sl2 (by rw [List.size_toArray, List.size_toArray, ← r.length, ← r2.length]; exact hz)) ⟨ho, ho2, ?_⟩
  rw [e]
  exact ⟨.ref _, _, I.lnew (t' := s.toks) (r.append r2) (by rw [List.length_append]; omega), rfl, q _ I.fresh⟩

section
variable {K : PySem.W.Frag}
theorem szL {n : Nat} (h : Fits n) : n ≤ sizeLine := Nat.le_trans h (by decide)
theorem dp_int {F : Hp} {v : V} {i : Int} (h : Dp K F v (.int i)) : v = .int i := by cases h; rfl
theorem dp_bool {F : Hp} {v : V} {i : Bool} (h : Dp K F v (.bool i)) : v = .bl i := by cases h; rfl
theorem dp_str {F : Hp} {v : V} {x : Str} (h : Dp K F v (.str x)) : v = .str x := by cases h; rfl
theorem dp_list {F : Hp} {v : V} {ds : List PyData} (h : Dp K F v (.list ds)) : ∃ a xs, v = .ref a ∧ SqL K F a xs ∧ DpAll K F xs ds := by cases h with | lst hs ha => exact ⟨_, _, rfl, hs, ha⟩
theorem dp_tuple {F : Hp} {v : V} {ds : List PyData} (h : Dp K F v (.tuple ds)) : ∃ a xs, v = .ref a ∧ SqT K F a xs ∧ DpAll K F xs ds := by cases h with | tup hs ha => exact ⟨_, _, rfl, hs, ha⟩
theorem newL {F H : Hp} {p : Addr} {xs : List V} {ds : List PyData} (fh : Same F H) (hp : H p = none) (h : DpAll K F xs ds) : RepR K F H (upd H p (.lst xs)) (.ref p) (.own ds) := ⟨p, xs, rfl, fh.free hp, hp, upd_same, h⟩
theorem newT {F H : Hp} {p : Addr} {xs : List V} {ds : List PyData} (fh : Same F H) (hp : H p = none) (h : DpAll K F xs ds) : Grow F H (upd F p (.tup xs)) (upd H p (.tup xs)) ∧ RepR K (upd F p (.tup xs)) H (upd H p (.tup xs)) (.ref p) (.val (.tuple ds)) :=
  ⟨(Grow.new fh hp).frz hp (fh.free hp) upd_same, .tup (.inl (.inl upd_same)) (dpa_mono (same_upd (fh.free hp)) h)⟩

@[simp] noncomputable def gAdd : PyData → PyData → Option R
  | .int i, .int j => some (.val (.int (i + j)))
  | .str x, .str y => if Fits (x.length + y.length) then some (.val (.str (x ++ y))) else none
  | .list xs, .list ys => if Fits (xs.length + ys.length) then some (.own (xs ++ ys)) else none
  | .tuple (x :: xs), .tuple (y :: ys) => if Fits (xs.length + ys.length + 2) then some (.val (.tuple (x :: xs ++ y :: ys))) else none
  | .tuple (x :: xs), .tuple [] => if Fits (xs.length + 2) then some (.val (.tuple (x :: xs))) else none
  | _, _ => none
def rAddG (K : PySem.W.Frag) : R2 := fun x y H Q => (rI0 (fun i j => .int (i + j)) x y H Q ∨ (∃ i j, x = .str i ∧ y = .str j ∧ i.length + j.length ≤ sizeLine ∧ Q (.str (i ++ j)) H)) ∨ (rCatL K x y H Q ∨ rCatT K x y H Q)
theorem op_addG {X : Cx} : OpR X (binaryOp .Add) (rAddG X.K) := OpR.or (OpR.or op_add op_add_str) (OpR.or op_catL op_catT)
theorem rv_add : RVD K (rAddG K) gAdd := fun F H x y dx dy r fh d1 d2 e Q q => by
  unfold gAdd at e
  split at e
  · cases e
    rw [dp_int d1, dp_int d2]
    exact .inl (.inl ⟨_, _, rfl, rfl, q F H _ (Grow.refl fh) (.int _)⟩)
  · split at e
    · cases e
      rename_i hl
      rw [dp_str d1, dp_str d2]
      exact .inl (.inr ⟨_, _, rfl, rfl, szL hl, q F H _ (Grow.refl fh) (.str _)⟩)
    · cases e
  · split at e
    · cases e
      rename_i hl
      obtain ⟨a, xs, rfl, s1, a1⟩ := dp_list d1
      obtain ⟨b, ys, rfl, s2, a2⟩ := dp_list d2
      refine .inr (.inl ⟨a, b, xs, ys, rfl, rfl, sqL_mono fh s1, sqL_mono fh s2, by rw [DpAll.len a1, DpAll.len a2]; exact szL hl, fun p hp => ?_⟩)
      exact q F _ _ (Grow.new fh hp) (newL fh hp (DpAll.app a1 a2))
    · cases e
  · split at e
    · cases e
      rename_i hl
      obtain ⟨a, xs, rfl, s1, a1⟩ := dp_tuple d1
      obtain ⟨b, ys, rfl, s2, a2⟩ := dp_tuple d2
      have l1 := DpAll.len a1
      have l2 := DpAll.len a2
      rw [List.length_cons] at l1 l2
      refine .inr (.inr ⟨a, b, xs, ys, rfl, rfl, sqT_mono fh s1, sqT_mono fh s2, (fun z => by subst z; cases l1), by rw [l1, l2]; exact szL (show Fits _ from (by have h : _ ≤ 100000 := hl; show _ ≤ 100000; omega)), (fun z => by subst z; cases l2), fun _ p hp => ?_⟩)
      obtain ⟨g, rr⟩ := newT fh hp (DpAll.app a1 a2)
      exact q _ _ _ g rr
    · cases e
  · split at e
    · cases e
      rename_i hl
      obtain ⟨a, xs, rfl, s1, a1⟩ := dp_tuple d1
      obtain ⟨b, ys, rfl, s2, a2⟩ := dp_tuple d2
      have l1 := DpAll.len a1
      rw [List.length_cons] at l1
      cases a2
      refine .inr (.inr ⟨a, b, xs, [], rfl, rfl, sqT_mono fh s1, sqT_mono fh s2, (fun z => by subst z; cases l1), by rw [l1]; exact szL (show Fits _ from (by have h : _ ≤ 100000 := hl; show _ ≤ 100000; simp; omega)), fun _ => q F H _ (Grow.refl fh) (.tup s1 a1), fun z => absurd rfl z⟩)
    · cases e
  · cases e
@[simp] def gI (C : Int → Int → Prop) [∀ i j, Decidable (C i j)] (g : Int → Int → PyData) : PyData → PyData → Option R
  | .int i, .int j => if C i j then some (.val (g i j)) else none
  | _, _ => none
@[simp] def gI0 (g : Int → Int → PyData) : PyData → PyData → Option R
  | .int i, .int j => some (.val (g i j))
  | _, _ => none
theorem rv_I {C : Int → Int → Prop} [∀ i j, Decidable (C i j)] {g : Int → Int → PyData} {gv : Int → Int → V} (h : ∀ F i j, C i j → Dp K F (gv i j) (g i j)) : RVD K (rI C gv) (gI C g) := fun F H x y dx dy r fh d1 d2 e Q q => by
  unfold gI at e
  split at e
  · split at e
    · cases e
      rename_i hc
      rw [dp_int d1, dp_int d2]
      exact ⟨_, _, rfl, rfl, hc, q F H _ (Grow.refl fh) (h F _ _ hc)⟩
    · cases e
  · cases e
theorem rv_I0 {g : Int → Int → PyData} {gv : Int → Int → V} (h : ∀ F i j, Dp K F (gv i j) (g i j)) : RVD K (rI0 gv) (gI0 g) := fun F H x y dx dy r fh d1 d2 e Q q => by
  unfold gI0 at e
  split at e
  · cases e
    rw [dp_int d1, dp_int d2]
    exact ⟨_, _, rfl, rfl, q F H _ (Grow.refl fh) (h F _ _)⟩
  · cases e
def gSub := gI0 fun i j => .int (i - j)
noncomputable def gMul := gI MulOk fun i j => .int (i * j)
def FdOk (_ j : Int) : Prop := j ≠ 0 ∧ j.natAbs < divLim
noncomputable instance (i j : Int) : Decidable (FdOk i j) := Classical.propDecidable _
def NzOk (_ j : Int) : Prop := j ≠ 0
noncomputable instance (i j : Int) : Decidable (NzOk i j) := Classical.propDecidable _
noncomputable def gFdiv := gI FdOk fun i j => .int (i.fdiv j)
noncomputable def gMod := gI NzOk fun i j => .int (i.fmod j)
def PowOk (i j : Int) : Prop := 0 ≤ j ∧ j ≤ 1000000 ∧ i.natAbs < 2 ^ 64
noncomputable instance (i j : Int) : Decidable (PowOk i j) := Classical.propDecidable _
noncomputable def gPow := gI PowOk fun i j => .int (i ^ j.toNat)
def gLt := gI0 fun i j => .bool (decide (i < j))
def gLe := gI0 fun i j => .bool (decide (i ≤ j))
def gGt := gI0 fun i j => .bool (decide (j < i))
def gGe := gI0 fun i j => .bool (decide (j ≤ i))
section
variable {i j : Int}
@[simp] theorem gSub_int : gSub (.int i) (.int j) = some (.val (.int (i - j))) := rfl
@[simp] theorem gMul_int : gMul (.int i) (.int j) = if MulOk i j then some (.val (.int (i * j))) else none := rfl
@[simp] theorem gFdiv_int : gFdiv (.int i) (.int j) = if FdOk i j then some (.val (.int (i.fdiv j))) else none := rfl
@[simp] theorem gMod_int : gMod (.int i) (.int j) = if NzOk i j then some (.val (.int (i.fmod j))) else none := rfl
@[simp] theorem gPow_int : gPow (.int i) (.int j) = if PowOk i j then some (.val (.int (i ^ j.toNat))) else none := rfl
@[simp] theorem gLt_int : gLt (.int i) (.int j) = some (.val (.bool (decide (i < j)))) := rfl
@[simp] theorem gLe_int : gLe (.int i) (.int j) = some (.val (.bool (decide (i ≤ j)))) := rfl
@[simp] theorem gGt_int : gGt (.int i) (.int j) = some (.val (.bool (decide (j < i)))) := rfl
@[simp] theorem gGe_int : gGe (.int i) (.int j) = some (.val (.bool (decide (j ≤ i)))) := rfl
end
theorem rv_sub : RVD K (rI0 fun i j => .int (i - j)) gSub := rv_I0 fun _ _ _ => .int _
theorem rv_mul : RVD K (rI MulOk fun i j => .int (i * j)) gMul := rv_I fun _ _ _ _ => .int _
theorem rv_fdiv : RVD K (rI (fun _ j => j ≠ 0 ∧ j.natAbs < divLim) fun i j => .int (i.fdiv j)) gFdiv := rv_I (C := FdOk) fun _ _ _ _ => .int _
theorem rv_mod : RVD K (rI (fun _ j => j ≠ 0) fun i j => .int (i.fmod j)) gMod := rv_I (C := NzOk) fun _ _ _ _ => .int _
theorem rv_pow : RVD K (rI CPow fun i j => .int (i ^ j.toNat)) gPow := rv_I (C := PowOk) fun _ _ _ _ => .int _
theorem rv_lt : RVD K (rI0 fun i j => .bl (decide (i < j))) gLt := rv_I0 fun _ _ _ => .bl _
theorem rv_le : RVD K (rI0 fun i j => .bl (decide (i ≤ j))) gLe := rv_I0 fun _ _ _ => .bl _
theorem rv_gt : RVD K (rI0 fun i j => .bl (decide (j < i))) gGt := rv_I0 fun _ _ _ => .bl _
theorem rv_ge : RVD K (rI0 fun i j => .bl (decide (j ≤ i))) gGe := rv_I0 fun _ _ _ => .bl _
@[simp] def gNeg : PyData → Option R
  | .int i => some (.val (.int (-i)))
  | _ => none
theorem ru_neg : RUD K (rU fun i => .int (-i)) gNeg := fun F H x dx r fh d1 e Q q => by
  unfold gNeg at e
  split at e
  · cases e
    rw [dp_int d1]
    exact ⟨_, rfl, q F H _ (Grow.refl fh) (.int _)⟩
  · cases e
/-- == and != of data -/
def Shp (d : PyData) : Prop := SeqAt.shaped d = true
noncomputable instance (d : PyData) : Decidable (Shp d) := Classical.propDecidable _
noncomputable def gEq : PyData → PyData → Option R := fun d e => if Shp d ∧ Shp e then some (.val (.bool (PyData.eqv d e))) else none
noncomputable def gNe : PyData → PyData → Option R := fun d e => if Shp d ∧ Shp e then some (.val (.bool (!PyData.eqv d e))) else none
theorem rv_eq : RVD K (rEqD K) gEq := fun F H x y dx dy r fh d1 d2 e Q q => by
  unfold gEq at e
  split at e
  · cases e
    rename_i h
    exact ⟨dx, dy, dp_mono fh d1, dp_mono fh d2, h.1, h.2, q F H _ (Grow.refl fh) (.bl _)⟩
  · cases e
theorem rv_ne : RVD K (rNeD K) gNe := fun F H x y dx dy r fh d1 d2 e Q q => by
  unfold gNe at e
  split at e
  · cases e
    rename_i h
    exact ⟨dx, dy, dp_mono fh d1, dp_mono fh d2, h.1, h.2, q F H _ (Grow.refl fh) (.bl _)⟩
  · cases e
/-- in, not in -/
def memD (d : PyData) (ds : List PyData) : Bool := ds.any fun z => PyData.eqv z d
/-- subscripts -/
@[simp] noncomputable def gIx : PyData → PyData → Option R
  | .list ds, .int k => (atI ds k).bind fun d => some (.val d)
  | .tuple ds, .int k => (atI ds k).bind fun d => some (.val d)
  | .str z, .int k => if Fits (z.length) then (atI z.cps.toList k).bind fun c => some (.val (.str ⟨#[c]⟩)) else none
  | _, _ => none
theorem DpAll.at {F : Hp} {xs : List V} {ds : List PyData} {k : Int} {d : PyData} (h : DpAll K F xs ds) (e : atI ds k = some d) : ∃ v, atI xs k = some v ∧ Dp K F v d := by
  unfold atI at e ⊢
  rw [DpAll.len h]
  cases q : ixN ds.length k with
  | none => rw [q] at e; cases e
  | some j =>
    rw [q] at e
    exact DpAll.get h e
theorem rv_ix : RVD K (rIx K) gIx := fun F H x y dx dy r fh d1 d2 e Q q => by
  unfold gIx at e
  split at e
  · obtain ⟨d, ed, e⟩ := bnd e
    cases e
    obtain ⟨a, xs, rfl, s1, a1⟩ := dp_list d1
    rw [dp_int d2]
    obtain ⟨v, ev, dv⟩ := DpAll.at a1 ed
    exact .inl ⟨a, xs, _, v, rfl, rfl, sqL_mono fh s1, ev, q F H _ (Grow.refl fh) dv⟩
  · obtain ⟨d, ed, e⟩ := bnd e
    cases e
    obtain ⟨a, xs, rfl, s1, a1⟩ := dp_tuple d1
    rw [dp_int d2]
    obtain ⟨v, ev, dv⟩ := DpAll.at a1 ed
    exact .inr (.inl ⟨a, xs, _, v, rfl, rfl, sqT_mono fh s1, ev, q F H _ (Grow.refl fh) dv⟩)
  · split at e
    · rename_i hl
      obtain ⟨c, ec, e⟩ := bnd e
      cases e
      rw [dp_str d1, dp_int d2]
      exact .inr (.inr ⟨_, _, c, rfl, rfl, szL hl, ec, q F H _ (Grow.refl fh) (.str _)⟩)
    · cases e
  · cases e
/-- an item of an owned list -/
@[simp] def eIxO (i : Nat) (fk : EF) : EF := fun env => match env[i]? with
  | some (.own ds) => (fk env).bind fun k => match k.frz with
    | .int k => (atI ds k).bind fun d => some (.val d)
    | _ => none
  | _ => none
theorem de_ixO {i : Nat} {tk : TE} {fk : EF} (hk : DE K tk fk) : DE K (tOp (rIx K) (tVar i) tk) (eIxO i fk) := fun B F H σ env r S fh bh e Q q => by
  unfold eIxO at e
  split at e
  · rename_i ds hd
    obtain ⟨k, ek, e⟩ := bnd e
    split at e
    · rename_i k' hk'
      obtain ⟨d, ed, e⟩ := bnd e
      cases e
      obtain ⟨p, xs, h1, h0, h2, h3, h4⟩ := S.own hd
      refine ⟨_, h1, hk.z S fh bh ek fun F1 H1 y g1 dy => ?_⟩
      rw [hk'] at dy
      rw [dp_int dy]
      obtain ⟨v, ev, dv⟩ := DpAll.at h4 ed
      exact .inl ⟨p, xs, _, v, rfl, rfl, .inl (.inl (g1.h _ _ h3)), ev, q F1 H1 _ g1 (dp_mono g1.f dv)⟩
    · cases e
  · cases e

/-! ### calls of built-ins by values -/
@[simp] noncomputable def gLen : List PyData → Option R
  | [.list ds] => some (.val (.int ds.length))
  | [.tuple ds] => some (.val (.int ds.length))
  | [.str z] => if Fits (z.length) then some (.val (.int z.length)) else none
  | _ => none
theorem dpa1 {F : Hp} {vs : List V} {d : PyData} (h : DpAll K F vs [d]) : ∃ v, vs = [v] ∧ Dp K F v d := by
  cases h with
  | cons h t => cases t; exact ⟨_, rfl, h⟩
theorem dpa2 {F : Hp} {vs : List V} {d e : PyData} (h : DpAll K F vs [d, e]) : ∃ v w, vs = [v, w] ∧ Dp K F v d ∧ Dp K F w e := by
  cases h with
  | cons h t =>
    obtain ⟨w, rfl, h2⟩ := dpa1 t
    exact ⟨_, w, rfl, h, h2⟩
theorem rc_len : RCD K (fun xs H Q => ∃ x n, xs = [x] ∧ LenV K x H n ∧ Q (.int n) H) gLen := fun F H vs ds r fh h e Q q => by
  unfold gLen at e
  split at e
  · cases e
    obtain ⟨v, rfl, d⟩ := dpa1 h
    obtain ⟨a, xs, rfl, s1, a1⟩ := dp_list d
    exact ⟨_, xs.length, rfl, .inl ⟨xs, sqL_mono fh s1, rfl⟩, by rw [DpAll.len a1]; exact q F H _ (Grow.refl fh) (.int _)⟩
  · cases e
    obtain ⟨v, rfl, d⟩ := dpa1 h
    obtain ⟨a, xs, rfl, s1, a1⟩ := dp_tuple d
    exact ⟨_, xs.length, rfl, .inr ⟨xs, sqT_mono fh s1, rfl⟩, by rw [DpAll.len a1]; exact q F H _ (Grow.refl fh) (.int _)⟩
  · split at e
    · cases e
      rename_i hl
      obtain ⟨v, rfl, d⟩ := dpa1 h
      rw [dp_str d]
      exact ⟨_, _, rfl, ⟨szL hl, rfl⟩, q F H _ (Grow.refl fh) (.int _)⟩
    · cases e
  · cases e
@[simp] def gAbs : List PyData → Option R
  | [.int i] => some (.val (.int (if i < 0 then -i else i)))
  | _ => none
theorem rc_abs : RCD K (fun xs H Q => ∃ i, xs = [.int i] ∧ Q (.int (if i < 0 then -i else i)) H) gAbs := fun F H vs ds r fh h e Q q => by
  unfold gAbs at e
  split at e
  · cases e
    obtain ⟨v, rfl, d⟩ := dpa1 h
    rw [dp_int d]
    exact ⟨_, rfl, q F H _ (Grow.refl fh) (.int _)⟩
  · cases e
@[simp] def gInt : List PyData → Option R
  | [.int i] => some (.val (.int i))
  | [.bool b] => some (.val (.int (if b then 1 else 0)))
  | _ => none
theorem rc_int : RCD K (fun xs H Q => (∃ i, xs = [.int i] ∧ Q (.int i) H) ∨ ∃ k, xs = [.bl k] ∧ Q (.int (if k then 1 else 0)) H) gInt := fun F H vs ds r fh h e Q q => by
  unfold gInt at e
  split at e
  · cases e
    obtain ⟨v, rfl, d⟩ := dpa1 h
    rw [dp_int d]
    exact .inl ⟨_, rfl, q F H _ (Grow.refl fh) (.int _)⟩
  · cases e
    obtain ⟨v, rfl, d⟩ := dpa1 h
    rw [dp_bool d]
    exact .inr ⟨_, rfl, q F H _ (Grow.refl fh) (.int _)⟩
  · cases e
def StrOk (i : Int) : Prop := i.natAbs < 2 ^ 1000
noncomputable instance (i : Int) : Decidable (StrOk i) := Classical.propDecidable _
noncomputable def gStr : List PyData → Option R
  | [.int i] => if StrOk i then some (.val (.str (toString i))) else none
  | _ => none
theorem rc_str : RCD K (fun xs H Q => ∃ i, xs = [.int i] ∧ i.natAbs.log2 < 1920 ∧ Q (.str (toString i)) H) gStr := fun F H vs ds r fh h e Q q => by
  unfold gStr at e
  split at e
  · split at e
    · cases e
      rename_i i hl
      obtain ⟨v, rfl, d⟩ := dpa1 h
      rw [dp_int d]
      exact ⟨_, rfl, Nat.lt_of_lt_of_le (PySem.Flt.log2_lt_of (by decide : 0 < 1000) (show i.natAbs < 2 ^ 1000 from hl)) (by decide), q F H _ (Grow.refl fh) (.str _)⟩
    · cases e
  · cases e
@[simp] def gGcd : List PyData → Option R
  | [.int a, .int b] => some (.val (.int (Nat.gcd a.natAbs b.natAbs : Nat)))
  | _ => none
theorem rc_gcd : RCD K rGcd gGcd := fun F H vs ds r fh h e Q q => by
  unfold gGcd at e
  split at e
  · cases e
    obtain ⟨v, w, rfl, d1, d2⟩ := dpa2 h
    rw [dp_int d1, dp_int d2]
    exact ⟨_, _, rfl, q F H _ (Grow.refl fh) (.int _)⟩
  · cases e
def boolsD : List PyData → Option (List Bool)
  | [] => some []
  | .bool b :: r => (boolsD r).bind fun bs => some (b :: bs)
  | _ :: _ => none
def intsD : List PyData → Option (List Int)
  | [] => some []
  | .int b :: r => (intsD r).bind fun bs => some (b :: bs)
  | _ :: _ => none
theorem boolsD_ok {F : Hp} : ∀ {ds : List PyData} {xs : List V} {bs : List Bool}, DpAll K F xs ds → boolsD ds = some bs → xs = bs.map V.bl
  | [], _, _, .nil, e => by cases e; rfl
  | d :: ds, _, _, .cons h t, e => by
    cases d with
    | bool b =>
      obtain ⟨cs, ec, e⟩ := bnd (show (boolsD ds).bind _ = _ from e)
      cases e
      rw [dp_bool h, boolsD_ok t ec]
      rfl
    | none => cases e
    | int _ => cases e
    | str _ => cases e
    | list _ => cases e
    | tuple _ => cases e
    | dict _ => cases e
theorem intsD_ok {F : Hp} : ∀ {ds : List PyData} {xs : List V} {bs : List Int}, DpAll K F xs ds → intsD ds = some bs → xs = bs.map V.int
  | [], _, _, .nil, e => by cases e; rfl
  | d :: ds, _, _, .cons h t, e => by
    cases d with
    | int b =>
      obtain ⟨cs, ec, e⟩ := bnd (show (intsD ds).bind _ = _ from e)
      cases e
      rw [dp_int h, intsD_ok t ec]
      rfl
    | none => cases e
    | bool _ => cases e
    | str _ => cases e
    | list _ => cases e
    | tuple _ => cases e
    | dict _ => cases e
theorem boolsD_map (bs : List Bool) : boolsD (bs.map PyData.bool) = some bs := by
  induction bs with
  | nil => rfl
  | cons b r ih => show (boolsD (r.map PyData.bool)).bind _ = _; rw [ih]; rfl
theorem intsD_map (bs : List Int) : intsD (bs.map PyData.int) = some bs := by
  induction bs with
  | nil => rfl
  | cons b r ih => show (intsD (r.map PyData.int)).bind _ = _; rw [ih]; rfl
@[simp] def gAll : List PyData → Option R
  | [.list ds] => (boolsD ds).bind fun bs => some (.val (.bool (bs.all id)))
  | _ => none
@[simp] def gAny : List PyData → Option R
  | [.list ds] => (boolsD ds).bind fun bs => some (.val (.bool (bs.any id)))
  | _ => none
@[simp] def gSum : List PyData → Option R
  | [.list ds] => (intsD ds).bind fun bs => some (.val (.int bs.sum))
  | _ => none
theorem rc_all : RCD K (rAll K) gAll := fun F H vs ds r fh h e Q q => by
  unfold gAll at e
  split at e
  · obtain ⟨bs, eb, e⟩ := bnd e
    cases e
    obtain ⟨v, rfl, d⟩ := dpa1 h
    obtain ⟨a, xs, rfl, s1, a1⟩ := dp_list d
    rw [boolsD_ok a1 eb] at s1
    exact ⟨a, bs, rfl, sqL_mono fh s1, q F H _ (Grow.refl fh) (.bl _)⟩
  · cases e
theorem rc_any : RCD K (rAny K) gAny := fun F H vs ds r fh h e Q q => by
  unfold gAny at e
  split at e
  · obtain ⟨bs, eb, e⟩ := bnd e
    cases e
    obtain ⟨v, rfl, d⟩ := dpa1 h
    obtain ⟨a, xs, rfl, s1, a1⟩ := dp_list d
    rw [boolsD_ok a1 eb] at s1
    exact ⟨a, bs, rfl, sqL_mono fh s1, q F H _ (Grow.refl fh) (.bl _)⟩
  · cases e
theorem rc_sum : RCD K (rSum K) gSum := fun F H vs ds r fh h e Q q => by
  unfold gSum at e
  split at e
  · obtain ⟨bs, eb, e⟩ := bnd e
    cases e
    obtain ⟨v, rfl, d⟩ := dpa1 h
    obtain ⟨a, xs, rfl, s1, a1⟩ := dp_list d
    rw [intsD_ok a1 eb] at s1
    exact ⟨a, bs, rfl, sqL_mono fh s1, q F H _ (Grow.refl fh) (.int _)⟩
  · cases e
@[simp] def gList : List PyData → Option R
  | [.list ds] => some (.own ds)
  | [.tuple ds] => some (.own ds)
  | _ => none
theorem rc_list : RCD K (fun xs H Q => ∃ p ys, xs = [.ref p] ∧ (SqL K H p ys ∨ SqT K H p ys) ∧ ∀ l, H l = none → Q (.ref l) (upd H l (.lst ys))) gList := fun F H vs ds r fh h e Q q => by
  unfold gList at e
  split at e
  · cases e
    obtain ⟨v, rfl, d⟩ := dpa1 h
    obtain ⟨a, xs, rfl, s1, a1⟩ := dp_list d
    exact ⟨a, xs, rfl, .inl (sqL_mono fh s1), fun l hl => q F _ _ (Grow.new fh hl) (newL fh hl a1)⟩
  · cases e
    obtain ⟨v, rfl, d⟩ := dpa1 h
    obtain ⟨a, xs, rfl, s1, a1⟩ := dp_tuple d
    exact ⟨a, xs, rfl, .inr (sqT_mono fh s1), fun l hl => q F _ _ (Grow.new fh hl) (newL fh hl a1)⟩
  · cases e
/-! isinstance -/
@[simp] def tyD : PyData → String
  | .none => "NoneType"
  | .bool _ => "bool"
  | .int _ => "int"
  | .str _ => "str"
  | .list _ => "list"
  | .tuple _ => "tuple"
  | .dict _ => "dict"
theorem dp_ty {F : Hp} {v : V} {d : PyData} (h : Dp K F v d) : TyX K F v (.type (tyD d)) := by
  cases h with
  | non => exact .base .non
  | bl b => exact .base (.bl b)
  | int i => exact .base (.int i)
  | str x => exact .base (.str x)
  | lst hs _ =>
    rcases hs with (h | ⟨o, h⟩) | ⟨o, its, n, h, c, _⟩
    · exact .base (.lst h)
    · exact .base (.frz h)
    · exact .kList h c
  | tup hs _ =>
    rcases hs with (h | ⟨o, h⟩) | ⟨o, its, n, h, c, _⟩
    · exact .base (.tup h)
    · exact .fTuple h
    · exact .kTuple h c
@[simp] def isiS (T t : String) : Bool := t == T || (T == "int" && t == "bool")
@[simp] def isi (T : String) : PyData → Bool := fun d => isiS T (tyD d)
theorem kit_all : (["int", "bool", "str", "tuple", "list"].all fun T => ["NoneType", "bool", "int", "str", "list", "tuple", "dict"].all fun t => kitB t T == some (isiS T t)) = true := by decide +kernel
theorem tyD_mem (d : PyData) : tyD d ∈ ["NoneType", "bool", "int", "str", "list", "tuple", "dict"] := by cases d <;> simp [tyD]
theorem kit_isi {d : PyData} {T : String} (hT : T ∈ ["int", "bool", "str", "tuple", "list"]) : PySem.W.kitOne K (.type (tyD d)) (.type T) = some (isi T d) := by
  have h := List.all_eq_true.mp (List.all_eq_true.mp kit_all T hT) (tyD d) (tyD_mem d)
  exact kit_ty (by simpa [isi] using h)
/-- slices -/
def sxD (ds : List PyData) (lo hi : Option Int) : List PyData := (ds.drop (HT.sIx ds.length 0 lo)).take (HT.sIx ds.length ds.length hi - HT.sIx ds.length 0 lo)
theorem DpAll.cut {F : Hp} {xs : List V} {ds : List PyData} (lo hi : Option Int) (h : DpAll K F xs ds) : DpAll K F (cutV xs lo hi) (sxD ds lo hi) := by
  unfold cutV sxD
  rw [DpAll.len h]
  exact DpAll.take _ (DpAll.drop _ h)
abbrev OF := En → Option (Option Int)
def DO (K : PySem.W.Frag) (to : TO) (f : OF) : Prop := ∀ (B F H : Hp) (σ : L2.St) (env : En) (o : Option Int), Slots K B F H σ env → Same F H → Same B H → f env = some o →
  ∀ Q : Option Int → Hp → Prop, (∀ F' H', Grow F H F' H' → Q o H') → to σ H Q
@[simp] def oNone : OF := fun _ => some none
@[simp] def oSome (f : EF) : OF := fun env => (f env).bind fun r => match r.frz with
  | .int i => some (some i)
  | _ => none
theorem do_none : DO K tNoPart oNone := fun B F H σ env o S fh bh e Q q => by
  cases e
  exact q F H (Grow.refl fh)
theorem do_some {te : TE} {f : EF} (h : DE K te f) : DO K (tPart te) (oSome f) := fun B F H σ env o S fh bh e Q q => by
  obtain ⟨r, er, e⟩ := bnd e
  split at e
  · rename_i i hi
    cases e
    refine h.z S fh bh er fun F1 H1 v g d => ?_
    rw [hi] at d
    rw [dp_int d]
    exact ⟨i, rfl, q F1 H1 g⟩
  · cases e
/-- a slice of a list; of a tuple -/
@[simp] def eSl (f : EF) (lo hi : OF) : EF := fun env => (f env).bind fun r => (lo env).bind fun a => (hi env).bind fun b => match r.frz with
  | .list ds => some (.own (sxD ds a b))
  | _ => none
@[simp] def eSlO (i : Nat) (lo hi : OF) : EF := fun env => match env[i]? with
  | some (.own ds) => (lo env).bind fun a => (hi env).bind fun b => some (.own (sxD ds a b))
  | _ => none
theorem de_sl {te : TE} {f : EF} {tl th : TO} {lo hi : OF} (h : DE K te f) (hl : DO K tl lo) (hh : DO K th hi) : DE K (tSl (rSlL K) te tl th) (eSl f lo hi) := fun B F H σ env r S fh bh e Q q => by
  obtain ⟨r0, er, e⟩ := bnd e
  obtain ⟨a, ea, e⟩ := bnd e
  obtain ⟨b, eb, e⟩ := bnd e
  split at e
  · rename_i ds hd
    cases e
    refine h.z S fh bh er fun F1 H1 v g1 d => ?_
    rw [hd] at d
    obtain ⟨p, xs, rfl, s1, a1⟩ := dp_list d
    refine hl B F1 H1 σ env a (S.grow g1) g1.i (bh.trans g1.h) ea _ fun F2 H2 g2 => ?_
    have g12 := g1.trans g2
    refine hh B F2 H2 σ env b (S.grow g12) g12.i (bh.trans g12.h) eb _ fun F3 H3 g3 => ?_
    have g13 := g12.trans g3
    have s3 : SqL K F3 p xs := sqL_mono (g2.f.trans g3.f) s1
    refine ⟨p, xs, rfl, sqL_mono g3.i s3, fun c hc => q F3 _ _ (g13.trans (Grow.new g3.i hc)) ?_⟩
    exact (newL g3.i hc (DpAll.cut a b (dpa_mono (g2.f.trans g3.f) a1))).back g13
  · cases e
theorem de_slO {i : Nat} {tl th : TO} {lo hi : OF} (hl : DO K tl lo) (hh : DO K th hi) : DE K (tSl (rSlL K) (tVar i) tl th) (eSlO i lo hi) := fun B F H σ env r S fh bh e Q q => by
  unfold eSlO at e
  split at e
  · rename_i ds hd
    obtain ⟨a, ea, e⟩ := bnd e
    obtain ⟨b, eb, e⟩ := bnd e
    cases e
    obtain ⟨p, xs, h1, h0, h2, h3, h4⟩ := S.own hd
    refine ⟨_, h1, ?_⟩
    refine hl B F H σ env a S fh bh ea _ fun F2 H2 g2 => ?_
    refine hh B F2 H2 σ env b (S.grow g2) g2.i (bh.trans g2.h) eb _ fun F3 H3 g3 => ?_
    have g13 := g2.trans g3
    refine ⟨p, xs, rfl, .inl (.inl (g13.h _ _ h3)), fun c hc => q F3 _ _ (g13.trans (Grow.new g3.i hc)) ?_⟩
    exact (newL g3.i hc (DpAll.cut a b (dpa_mono g13.f h4))).back g13
  · cases e
/-- in, not in a list -/
@[simp] noncomputable def gIn : PyData → PyData → Option R := fun d y => match y with
  | .list ds => if Shp d ∧ Shp (.list ds) then some (.val (.bool (memD d ds))) else none
  | _ => none
@[simp] noncomputable def gNotIn : PyData → PyData → Option R := fun d y => match y with
  | .list ds => if Shp d ∧ Shp (.list ds) then some (.val (.bool (!memD d ds))) else none
  | _ => none
theorem rv_in : RVD K (rInD K) gIn := fun F H x y dx dy r fh d1 d2 e Q q => by
  unfold gIn at e
  split at e
  · split at e
    · rename_i hh
      cases e
      exact ⟨dx, _, dp_mono fh d1, dp_mono fh d2, hh.1, hh.2, q F H _ (Grow.refl fh) (.bl _)⟩
    · cases e
  · cases e
theorem rv_notIn : RVD K (rNotInD K) gNotIn := fun F H x y dx dy r fh d1 d2 e Q q => by
  unfold gNotIn at e
  split at e
  · split at e
    · rename_i hh
      cases e
      exact ⟨dx, _, dp_mono fh d1, dp_mono fh d2, hh.1, hh.2, q F H _ (Grow.refl fh) (.bl _)⟩
    · cases e
  · cases e
end
end Dn
namespace Dn
open PySem PySem.Spec PyProof.Rows L2
section
variable {X : Cx} {e a b c o i : Expr} {es : List Expr} {pos p apos : Pos} {te ta tb tc : TE} {t : TA} {tt tu : TT} {f g h : EF} {af : AF} {u v : TF} {x y : Str}

theorem sv (i : Nat) {x : Str} {pos : Pos} (hN : X.N[i]? = some x := by rfl) (hv : Vis X.env.scope x := by first | exact Or.inl rfl | exact Or.inr (Or.inl rfl) | exact Or.inr (Or.inr rfl)) (hd : (x == ("__debug__" : Str)) = false := by decide)
    (hcd : (x == ("__classdict__" : Str)) = false := by decide) : SE X (.Name x pos) (tVar i) (eVar i) := ⟨pe_var hN hv hd hcd, de_var⟩
/-- x is True -/
@[simp] def gIsB : PyData → PyData → Option R
  | .bool a, .bool b => some (.val (.bool (decide (a = b))))
  | _, _ => none
theorem rv_isB {K : PySem.W.Frag} : RVD K rIsB gIsB := fun F H x y dx dy r fh d1 d2 e Q q => by
  unfold gIsB at e
  split at e
  · cases e
    rw [dp_bool d1, dp_bool d2]
    exact ⟨_, _, rfl, rfl, q F H _ (Grow.refl fh) (.bl _)⟩
  · cases e
theorem se_isB (h1 : SE X a ta f) (h2 : SE X b tb g) : SE X (.Compare a [.Is] [b] pos) (tOp rIsB ta tb) (eBin gIsB f g) := ⟨pe_cmpR op_isBl h1.pe h2.pe (nomark _), de_bin rv_isB h1.de h2.de⟩
/-- a name whose slot holds an owned list: PE alone -/
theorem ov (i : Nat) {x : Str} {pos : Pos} (hN : X.N[i]? = some x := by rfl) (hv : Vis X.env.scope x := by first | exact Or.inl rfl | exact Or.inr (Or.inl rfl) | exact Or.inr (Or.inr rfl)) (hd : (x == ("__debug__" : Str)) = false := by decide)
    (hcd : (x == ("__classdict__" : Str)) = false := by decide) : PE X (.Name x pos) (tVar i) := pe_var hN hv hd hcd
theorem se_int {i j pos} : SE X (.Constant (.int i) j pos) (tC (.int i)) (eC (.int i)) := ⟨pe_int, de_c fun _ => .int _⟩
theorem se_bl {b j pos} : SE X (.Constant (.bool b) j pos) (tC (.bl b)) (eC (.bool b)) := ⟨pe_bl, de_c fun _ => .bl _⟩
theorem se_non {j pos} : SE X (.Constant .none j pos) (tC .non) (eC .none) := ⟨pe_non, de_c fun _ => .non⟩
theorem se_str {x j pos} : SE X (.Constant (.str x) j pos) (tC (.str x)) (eC (.str x)) := ⟨pe_str, de_c fun _ => .str _⟩
/-- a constant of the module -/
theorem se_glob {v : V} {w : Value} {d : PyData} (hg : Gl X x) (hm : X.mg x = some w) (r : RelV v w) (hd : ∀ F, Dp X.K F v d) (hdb : (x == ("__debug__" : Str)) = false := by decide) : SE X (.Name x pos) (tC v) (eC d) := ⟨pe_glob hg hm r hdb, de_c hd⟩
theorem se_add {K : PySem.W.Frag} (h1 : SE X a ta f) (h2 : SE X b tb g) (hK : X.K = K := by rfl) : SE X (.BinOp a .Add b pos) (tOp (rAddG K) ta tb) (eBin gAdd f g) := by
  subst hK
  exact ⟨pe_op op_addG h1.pe h2.pe, de_bin rv_add h1.de h2.de⟩
theorem se_sub (h1 : SE X a ta f) (h2 : SE X b tb g) : SE X (.BinOp a .Sub b pos) (tOp (rI0 fun i j => .int (i - j)) ta tb) (eBin gSub f g) := ⟨pe_op op_sub h1.pe h2.pe, de_bin rv_sub h1.de h2.de⟩
theorem se_mul (h1 : SE X a ta f) (h2 : SE X b tb g) : SE X (.BinOp a .Mult b pos) (tOp (rI MulOk fun i j => .int (i * j)) ta tb) (eBin gMul f g) := ⟨pe_op op_mulG h1.pe h2.pe, de_bin rv_mul h1.de h2.de⟩
theorem se_fdiv (h1 : SE X a ta f) (h2 : SE X b tb g) : SE X (.BinOp a .FloorDiv b pos) (tOp (rI (fun _ j => j ≠ 0 ∧ j.natAbs < divLim) fun i j => .int (i.fdiv j)) ta tb) (eBin gFdiv f g) := ⟨pe_op op_fdivG h1.pe h2.pe, de_bin rv_fdiv h1.de h2.de⟩
theorem se_mod (h1 : SE X a ta f) (h2 : SE X b tb g) : SE X (.BinOp a .Mod b pos) (tOp (rI (fun _ j => j ≠ 0) fun i j => .int (i.fmod j)) ta tb) (eBin gMod f g) := ⟨pe_op op_modN h1.pe h2.pe, de_bin rv_mod h1.de h2.de⟩
theorem se_pow (h1 : SE X a ta f) (h2 : SE X b tb g) : SE X (.BinOp a .Pow b pos) (tOp (rI CPow fun i j => .int (i ^ j.toNat)) ta tb) (eBin gPow f g) := ⟨pe_op op_pow h1.pe h2.pe, de_bin rv_pow h1.de h2.de⟩
theorem se_neg (h1 : SE X a ta f) : SE X (.UnaryOp .USub a pos) (tUn (rU fun i => .int (-i)) ta) (eUn gNeg f) := ⟨pe_un un_neg h1.pe, de_un ru_neg h1.de⟩
theorem se_lt (h1 : SE X a ta f) (h2 : SE X b tb g) : SE X (.Compare a [.Lt] [b] pos) (tOp (rI0 fun i j => .bl (decide (i < j))) ta tb) (eBin gLt f g) := ⟨pe_cmpR op_lt h1.pe h2.pe (nomark _), de_bin rv_lt h1.de h2.de⟩
theorem se_le (h1 : SE X a ta f) (h2 : SE X b tb g) : SE X (.Compare a [.LtE] [b] pos) (tOp (rI0 fun i j => .bl (decide (i ≤ j))) ta tb) (eBin gLe f g) := ⟨pe_cmpR op_le h1.pe h2.pe (nomark _), de_bin rv_le h1.de h2.de⟩
theorem se_gt (h1 : SE X a ta f) (h2 : SE X b tb g) : SE X (.Compare a [.Gt] [b] pos) (tOp (rI0 fun i j => .bl (decide (j < i))) ta tb) (eBin gGt f g) := ⟨pe_cmpR op_gt h1.pe h2.pe (nomark _), de_bin rv_gt h1.de h2.de⟩
theorem se_ge (h1 : SE X a ta f) (h2 : SE X b tb g) : SE X (.Compare a [.GtE] [b] pos) (tOp (rI0 fun i j => .bl (decide (j ≤ i))) ta tb) (eBin gGe f g) := ⟨pe_cmpR op_ge h1.pe h2.pe (nomark _), de_bin rv_ge h1.de h2.de⟩
theorem se_eq {K : PySem.W.Frag} (hu : X.A.units + 64 < cLine) (h1 : SE X a ta f) (h2 : SE X b tb g) (hK : X.K = K := by rfl) : SE X (.Compare a [.Eq] [b] pos) (tOp (rEqD K) ta tb) (eBin gEq f g) := by
  subst hK
  exact ⟨pe_cmpR (op_eqD hu) h1.pe h2.pe (nomark _), de_bin rv_eq h1.de h2.de⟩
theorem se_ne {K : PySem.W.Frag} (hu : X.A.units + 64 < cLine) (h1 : SE X a ta f) (h2 : SE X b tb g) (hK : X.K = K := by rfl) : SE X (.Compare a [.NotEq] [b] pos) (tOp (rNeD K) ta tb) (eBin gNe f g) := by
  subst hK
  exact ⟨pe_cmpR (op_neD hu) h1.pe h2.pe (nomark _), de_bin rv_ne h1.de h2.de⟩
theorem se_in {K : PySem.W.Frag} (hu : X.A.units + 65 < cLine) (h1 : SE X a ta f) (h2 : SE X b tb g) (hm : behindInMarks .In b = false := by rfl) (hK : X.K = K := by rfl) : SE X (.Compare a [.In] [b] pos) (tOp (rInD K) ta tb) (eBin gIn f g) := by
  subst hK
  exact ⟨pe_cmpR (op_inD hu) h1.pe h2.pe hm, de_bin rv_in h1.de h2.de⟩
theorem se_notIn {K : PySem.W.Frag} (hu : X.A.units + 65 < cLine) (h1 : SE X a ta f) (h2 : SE X b tb g) (hm : behindInMarks .NotIn b = false := by rfl) (hK : X.K = K := by rfl) : SE X (.Compare a [.NotIn] [b] pos) (tOp (rNotInD K) ta tb) (eBin gNotIn f g) := by
  subst hK
  exact ⟨pe_cmpR (op_notInD hu) h1.pe h2.pe hm, de_bin rv_notIn h1.de h2.de⟩
/-- x is None -/
@[simp] def isNone : PyData → Bool
  | .none => true
  | _ => false
@[simp] def gIsN : PyData → PyData → Option R := fun d e => match e with
  | .none => some (.val (.bool (isNone d)))
  | _ => none
@[simp] def gNotN : PyData → PyData → Option R := fun d e => match e with
  | .none => some (.val (.bool (!isNone d)))
  | _ => none
theorem dp_isN {K : PySem.W.Frag} {F : Hp} {v : V} {d : PyData} (h : Dp K F v d) : decide (v = .non) = isNone d := by cases h <;> rfl
theorem rv_isN {K : PySem.W.Frag} : RVD K (fun x y H Q => y = .non ∧ Q (.bl (decide (x = .non))) H) gIsN := fun F H x y dx dy r fh d1 d2 e Q q => by
  unfold gIsN at e
  split at e
  · cases e
    cases d2
    refine ⟨rfl, q F H _ (Grow.refl fh) ?_⟩
    rw [dp_isN d1]
    cases dx <;> exact .bl _
  · cases e
theorem rv_notN {K : PySem.W.Frag} : RVD K (fun x y H Q => y = .non ∧ Q (.bl (!decide (x = .non))) H) gNotN := fun F H x y dx dy r fh d1 d2 e Q q => by
  unfold gNotN at e
  split at e
  · cases e
    cases d2
    refine ⟨rfl, q F H _ (Grow.refl fh) ?_⟩
    rw [dp_isN d1]
    cases dx <;> exact .bl _
  · cases e
theorem se_isN (h1 : SE X a ta f) {j pos'} : SE X (.Compare a [.Is] [.Constant .none j pos'] pos) (tOp (fun x y H Q => y = .non ∧ Q (.bl (decide (x = .non))) H) ta (tC .non)) (eBin gIsN f (eC .none)) := ⟨pe_cmpR op_isN h1.pe pe_non (nomark _), de_bin rv_isN h1.de (de_c fun _ => .non)⟩
theorem se_notN (h1 : SE X a ta f) {j pos'} : SE X (.Compare a [.IsNot] [.Constant .none j pos'] pos) (tOp (fun x y H Q => y = .non ∧ Q (.bl (!decide (x = .non))) H) ta (tC .non)) (eBin gNotN f (eC .none)) := ⟨pe_cmpR op_notN h1.pe pe_non (nomark _), de_bin rv_notN h1.de (de_c fun _ => .non)⟩
theorem se_ix {K : PySem.W.Frag} (h1 : SE X a ta f) (h2 : SE X b tb g) (hs : PlainIx b := by exact fun _ _ => rfl) (hK : X.K = K := by rfl) : SE X (.Subscript a b pos) (tOp (rIx K) ta tb) (eBin gIx f g) := by
  subst hK
  exact ⟨pe_ix ix_seq h1.pe h2.pe hs, de_bin rv_ix h1.de h2.de⟩
theorem se_ixO {K : PySem.W.Frag} {j : Nat} (h1 : PE X a (tVar j)) (h2 : SE X b tb g) (hs : PlainIx b := by exact fun _ _ => rfl) (hK : X.K = K := by rfl) : SE X (.Subscript a b pos) (tOp (rIx K) (tVar j) tb) (eIxO j g) := by
  subst hK
  exact ⟨pe_ix ix_seq h1 h2.pe hs, de_ixO h2.de⟩
structure SO (X : Cx) (e : Option Expr) (to : TO) (f : OF) : Prop where
  po : PO X e to
  d : DO X.K to f
theorem so_none : SO X none tNoPart oNone := ⟨po_none, do_none⟩
theorem so_some (h1 : SE X a ta f) : SO X (some a) (tPart ta) (oSome f) := ⟨po_some h1.pe, do_some h1.de⟩
theorem se_sl {K : PySem.W.Frag} {lo hi : Option Expr} {tl th : TO} {ol oh : OF} {p2 : Pos} (h1 : SE X a ta f) (hl : SO X lo tl ol) (hh : SO X hi th oh) (hK : X.K = K := by rfl) : SE X (.Subscript a (.Slice lo hi none p2) pos) (tSl (rSlL K) ta tl th) (eSl f ol oh) := by
  subst hK
  exact ⟨pe_slice sl_list h1.pe hl.po hh.po, de_sl h1.de hl.d hh.d⟩
theorem se_slO {K : PySem.W.Frag} {j : Nat} {lo hi : Option Expr} {tl th : TO} {ol oh : OF} {p2 : Pos} (h1 : PE X a (tVar j)) (hl : SO X lo tl ol) (hh : SO X hi th oh) (hK : X.K = K := by rfl) : SE X (.Subscript a (.Slice lo hi none p2) pos) (tSl (rSlL K) (tVar j) tl th) (eSlO j ol oh) := by
  subst hK
  exact ⟨pe_slice sl_list h1 hl.po hh.po, de_slO hl.d hh.d⟩
theorem sa_nil : SA X [] tNil aNil := ⟨pa_nil, da_nil⟩
theorem sa_cons (h1 : SE X e te f) (h2 : SA X es t af) (hs : starEach (e :: es) X.env = (false, eval e X.env) :: starEach es X.env := by rfl) : SA X (e :: es) (tCons te t) (aCons f af) := ⟨pa_cons h1.pe h2.pa hs, da_cons h1.de h2.da⟩
theorem se_tup {x1} (h1 : SA X es t af) : SE X (.Tuple es x1 pos) (tTup t) (eTup af) := ⟨pe_tup h1.pa, de_tup h1.da⟩
theorem se_lst (h1 : SA X es t af) : SE X (.List es pos) (tLst t) (eLst af) := ⟨pe_lst h1.pa, de_lst h1.da⟩
theorem se_peek (h1 : SE X e te f) : SE X e te (ePeek f) := ⟨h1.pe, de_peek h1.de⟩
theorem st_peek (h1 : ST X e tt u) : ST X e tt (tPeek u) := ⟨h1.pt, dt_peek h1.dt⟩
/-- calls of built-ins -/
theorem se_cb {id : String} {r : List V → Hp → VK → Prop} {g : List PyData → Option R} (hc : CallR X (.builtin id) r) (hr : RCD X.K r g) (hg : Gl X x) (hm : X.mg x = none) (hv : bootBuiltins x = some (.builtin id)) (ha : SA X (e :: es) t af) (hn : x ≠ "__name__" := by decide) (hdb : (x == ("__debug__" : Str)) = false := by decide)
    (he : starEach (e :: es) X.env = (false, eval e X.env) :: starEach es X.env := by rfl) (hpl : (backTo pos (starEach es X.env)).any (·.1) = false := by rfl) : SE X (.Call (.Name x p) (e :: es) [] pos) (tCB r t) (eCall g af) :=
  ⟨pe_callB hc hg hm hv ha.pa hn hdb he hpl, de_cb hr ha.da⟩
theorem se_cty {T : String} {r : List V → Hp → VK → Prop} {g : List PyData → Option R} (hc : CallR X (.type T) r) (hr : RCD X.K r g) (hg : Gl X x) (hm : X.mg x = none) (hv : bootBuiltins x = some (.type T)) (ha : SA X (e :: es) t af) (hn : x ≠ "__name__" := by decide) (hdb : (x == ("__debug__" : Str)) = false := by decide)
    (he : starEach (e :: es) X.env = (false, eval e X.env) :: starEach es X.env := by rfl) (hpl : (backTo pos (starEach es X.env)).any (·.1) = false := by rfl) : SE X (.Call (.Name x p) (e :: es) [] pos) (tCB r t) (eCall g af) :=
  ⟨pe_callTy hc hg hm hv ha.pa hn hdb he hpl, de_cb hr ha.da⟩
/-- a function of a library's module, imported by its name -/
theorem se_cfun {id : String} {r : List V → Hp → VK → Prop} {g : List PyData → Option R} (hc : CallR X (.builtin id) r) (hr : RCD X.K r g) (hg : Gl X x) (hm : X.mg x = some (.builtin id)) (ha : SA X (e :: es) t af) (hdb : (x == ("__debug__" : Str)) = false := by decide)
    (he : starEach (e :: es) X.env = (false, eval e X.env) :: starEach es X.env := by rfl) (hpl : (backTo pos (starEach es X.env)).any (·.1) = false := by rfl) : SE X (.Call (.Name x p) (e :: es) [] pos) (tCB r t) (eCall g af) :=
  ⟨pe_callBfun hc hg hm ha.pa hdb he hpl, de_cb hr ha.da⟩
theorem se_c_len {K : PySem.W.Frag} (hg : Gl X x) (hm : X.mg x = none) (hv : bootBuiltins x = some (.builtin "len")) (ha : SA X (e :: es) t af) (hn : x ≠ "__name__" := by decide) (hdb : (x == ("__debug__" : Str)) = false := by decide)
    (he : starEach (e :: es) X.env = (false, eval e X.env) :: starEach es X.env := by rfl) (hpl : (backTo pos (starEach es X.env)).any (·.1) = false := by rfl) (hK : X.K = K := by rfl) : SE X (.Call (.Name x p) (e :: es) [] pos) (tCB (fun xs H Q => ∃ x n, xs = [x] ∧ LenV K x H n ∧ Q (.int n) H) t) (eCall gLen af) := by
  subst hK
  exact se_cb call_len rc_len hg hm hv ha hn hdb he hpl
theorem se_c_abs (hg : Gl X x) (hm : X.mg x = none) (hv : bootBuiltins x = some (.builtin "abs")) (ha : SA X (e :: es) t af) (hn : x ≠ "__name__" := by decide) (hdb : (x == ("__debug__" : Str)) = false := by decide)
    (he : starEach (e :: es) X.env = (false, eval e X.env) :: starEach es X.env := by rfl) (hpl : (backTo pos (starEach es X.env)).any (·.1) = false := by rfl) : SE X (.Call (.Name x p) (e :: es) [] pos) (tCB (fun xs H Q => ∃ i, xs = [.int i] ∧ Q (.int (if i < 0 then -i else i)) H) t) (eCall gAbs af) := se_cb call_abs rc_abs hg hm hv ha hn hdb he hpl
theorem se_c_all {K : PySem.W.Frag} (hg : Gl X x) (hm : X.mg x = none) (hv : bootBuiltins x = some (.builtin "all")) (ha : SA X (e :: es) t af) (hn : x ≠ "__name__" := by decide) (hdb : (x == ("__debug__" : Str)) = false := by decide)
    (he : starEach (e :: es) X.env = (false, eval e X.env) :: starEach es X.env := by rfl) (hpl : (backTo pos (starEach es X.env)).any (·.1) = false := by rfl) (hc : X.calm = true := by rfl) (hK : X.K = K := by rfl) : SE X (.Call (.Name x p) (e :: es) [] pos) (tCB (rAll K) t) (eCall gAll af) := by
  subst hK
  exact se_cb (cr_all hc) rc_all hg hm hv ha hn hdb he hpl
theorem se_c_any {K : PySem.W.Frag} (hg : Gl X x) (hm : X.mg x = none) (hv : bootBuiltins x = some (.builtin "any")) (ha : SA X (e :: es) t af) (hn : x ≠ "__name__" := by decide) (hdb : (x == ("__debug__" : Str)) = false := by decide)
    (he : starEach (e :: es) X.env = (false, eval e X.env) :: starEach es X.env := by rfl) (hpl : (backTo pos (starEach es X.env)).any (·.1) = false := by rfl) (hc : X.calm = true := by rfl) (hK : X.K = K := by rfl) : SE X (.Call (.Name x p) (e :: es) [] pos) (tCB (rAny K) t) (eCall gAny af) := by
  subst hK
  exact se_cb (cr_any hc) rc_any hg hm hv ha hn hdb he hpl
theorem se_c_sum {K : PySem.W.Frag} (hg : Gl X x) (hm : X.mg x = none) (hv : bootBuiltins x = some (.builtin "sum")) (ha : SA X (e :: es) t af) (hn : x ≠ "__name__" := by decide) (hdb : (x == ("__debug__" : Str)) = false := by decide)
    (he : starEach (e :: es) X.env = (false, eval e X.env) :: starEach es X.env := by rfl) (hpl : (backTo pos (starEach es X.env)).any (·.1) = false := by rfl) (hc : X.calm = true := by rfl) (hK : X.K = K := by rfl) : SE X (.Call (.Name x p) (e :: es) [] pos) (tCB (rSum K) t) (eCall gSum af) := by
  subst hK
  exact se_cb (cr_sum hc) rc_sum hg hm hv ha hn hdb he hpl
theorem se_c_int (hg : Gl X x) (hm : X.mg x = none) (hv : bootBuiltins x = some (.type "int")) (ha : SA X (e :: es) t af) (hn : x ≠ "__name__" := by decide) (hdb : (x == ("__debug__" : Str)) = false := by decide)
    (he : starEach (e :: es) X.env = (false, eval e X.env) :: starEach es X.env := by rfl) (hpl : (backTo pos (starEach es X.env)).any (·.1) = false := by rfl) : SE X (.Call (.Name x p) (e :: es) [] pos) (tCB (fun xs H Q => (∃ i, xs = [.int i] ∧ Q (.int i) H) ∨ ∃ k, xs = [.bl k] ∧ Q (.int (if k then 1 else 0)) H) t) (eCall gInt af) := se_cty call_int1 rc_int hg hm hv ha hn hdb he hpl
theorem se_c_str (hg : Gl X x) (hm : X.mg x = none) (hv : bootBuiltins x = some (.type "str")) (ha : SA X (e :: es) t af) (hn : x ≠ "__name__" := by decide) (hdb : (x == ("__debug__" : Str)) = false := by decide)
    (he : starEach (e :: es) X.env = (false, eval e X.env) :: starEach es X.env := by rfl) (hpl : (backTo pos (starEach es X.env)).any (·.1) = false := by rfl) : SE X (.Call (.Name x p) (e :: es) [] pos) (tCB (fun xs H Q => ∃ i, xs = [.int i] ∧ i.natAbs.log2 < 1920 ∧ Q (.str (toString i)) H) t) (eCall gStr af) := se_cty call_str_int rc_str hg hm hv ha hn hdb he hpl
theorem se_c_list {K : PySem.W.Frag} (hg : Gl X x) (hm : X.mg x = none) (hv : bootBuiltins x = some (.type "list")) (ha : SA X (e :: es) t af) (hn : x ≠ "__name__" := by decide) (hdb : (x == ("__debug__" : Str)) = false := by decide)
    (he : starEach (e :: es) X.env = (false, eval e X.env) :: starEach es X.env := by rfl) (hpl : (backTo pos (starEach es X.env)).any (·.1) = false := by rfl) (hK : X.K = K := by rfl) : SE X (.Call (.Name x p) (e :: es) [] pos) (tCB (fun xs H Q => ∃ p ys, xs = [.ref p] ∧ (SqL K H p ys ∨ SqT K H p ys) ∧ ∀ l, H l = none → Q (.ref l) (upd H l (.lst ys))) t) (eCall gList af) := by
  subst hK
  exact se_cty call_list_of rc_list hg hm hv ha hn hdb he hpl
/-- isinstance with a built-in class -/
@[simp] def eIsi (T : String) (f : EF) : EF := fun env => (f env).bind fun r => some (.val (.bool (isi T r.frz)))
theorem de_isi {K : PySem.W.Frag} {T : String} (hT : T ∈ ["int", "bool", "str", "tuple", "list"]) (h1 : DE K ta f) : DE K (tCB (rIsi K) (tCons ta (tCons (tC (.ty T)) tNil))) (eIsi T f) := fun B F H σ env r S fh bh e Q q => by
  obtain ⟨a, ea, e⟩ := bnd e
  cases e
  refine h1.z S fh bh ea fun F1 H1 x g1 d1 => ?_
  exact ⟨x, .ty T, _, _, _, rfl, .ty T, dp_ty (dp_mono g1.i d1), kit_isi hT, q F1 H1 _ g1 (.bl _)⟩
theorem se_isi {K : PySem.W.Frag} {T : String} {pT : Pos} {xT : Str} (hT : T ∈ ["int", "bool", "str", "tuple", "list"]) (hg : Gl X x) (hm : X.mg x = none) (hv : bootBuiltins x = some (.builtin "isinstance")) (hgT : Gl X xT) (hmT : X.mg xT = none) (hvT : bootBuiltins xT = some (.type T)) (h1 : SE X a ta f) (hn : x ≠ "__name__" := by decide) (hdb : (x == ("__debug__" : Str)) = false := by decide)
    (hnT : xT ≠ "__name__" := by decide) (hdT : (xT == ("__debug__" : Str)) = false := by decide)
    (he1 : starEach [.Name xT pT] X.env = (false, eval (.Name xT pT) X.env) :: starEach [] X.env := by rfl)
    (he : starEach [a, .Name xT pT] X.env = (false, eval a X.env) :: starEach [.Name xT pT] X.env := by rfl) (hpl : (backTo pos (starEach [.Name xT pT] X.env)).any (·.1) = false := by rfl) (hK : X.K = K := by rfl) : SE X (.Call (.Name x p) [a, .Name xT pT] [] pos) (tCB (rIsi K) (tCons ta (tCons (tC (.ty T)) tNil))) (eIsi T f) := by
  subst hK
  exact ⟨pe_callB call_isi hg hm hv (pa_cons h1.pe (pa_cons (pe_bltn (v := .ty T) hgT hmT hvT rfl hnT hdT) pa_nil he1) he) hn hdb he hpl, de_isi hT h1.de⟩

/-! tests -/
theorem st_lt (h1 : SE X a ta f) (h2 : SE X b tb g) : ST X (.Compare a [.Lt] [b] pos) (tTest (tOp (rI0 fun i j => .bl (decide (i < j))) ta tb)) (tE (eBin gLt f g)) := ⟨pt_cmpR op_lt h1.pe h2.pe (nomark _), dt_test (de_bin rv_lt h1.de h2.de)⟩
theorem st_le (h1 : SE X a ta f) (h2 : SE X b tb g) : ST X (.Compare a [.LtE] [b] pos) (tTest (tOp (rI0 fun i j => .bl (decide (i ≤ j))) ta tb)) (tE (eBin gLe f g)) := ⟨pt_cmpR op_le h1.pe h2.pe (nomark _), dt_test (de_bin rv_le h1.de h2.de)⟩
theorem st_gt (h1 : SE X a ta f) (h2 : SE X b tb g) : ST X (.Compare a [.Gt] [b] pos) (tTest (tOp (rI0 fun i j => .bl (decide (j < i))) ta tb)) (tE (eBin gGt f g)) := ⟨pt_cmpR op_gt h1.pe h2.pe (nomark _), dt_test (de_bin rv_gt h1.de h2.de)⟩
theorem st_ge (h1 : SE X a ta f) (h2 : SE X b tb g) : ST X (.Compare a [.GtE] [b] pos) (tTest (tOp (rI0 fun i j => .bl (decide (j ≤ i))) ta tb)) (tE (eBin gGe f g)) := ⟨pt_cmpR op_ge h1.pe h2.pe (nomark _), dt_test (de_bin rv_ge h1.de h2.de)⟩
theorem st_eq {K : PySem.W.Frag} (hu : X.A.units + 64 < cLine) (h1 : SE X a ta f) (h2 : SE X b tb g) (hK : X.K = K := by rfl) : ST X (.Compare a [.Eq] [b] pos) (tTest (tOp (rEqD K) ta tb)) (tE (eBin gEq f g)) := by
  subst hK
  exact ⟨pt_cmpR (op_eqD hu) h1.pe h2.pe (nomark _), dt_test (de_bin rv_eq h1.de h2.de)⟩
theorem st_ne {K : PySem.W.Frag} (hu : X.A.units + 64 < cLine) (h1 : SE X a ta f) (h2 : SE X b tb g) (hK : X.K = K := by rfl) : ST X (.Compare a [.NotEq] [b] pos) (tTest (tOp (rNeD K) ta tb)) (tE (eBin gNe f g)) := by
  subst hK
  exact ⟨pt_cmpR (op_neD hu) h1.pe h2.pe (nomark _), dt_test (de_bin rv_ne h1.de h2.de)⟩
theorem st_in {K : PySem.W.Frag} (hu : X.A.units + 65 < cLine) (h1 : SE X a ta f) (h2 : SE X b tb g) (hm : behindInMarks .In b = false := by rfl) (hK : X.K = K := by rfl) : ST X (.Compare a [.In] [b] pos) (tTest (tOp (rInD K) ta tb)) (tE (eBin gIn f g)) := by
  subst hK
  exact ⟨pt_cmpR (op_inD hu) h1.pe h2.pe hm, dt_test (de_bin rv_in h1.de h2.de)⟩
theorem st_notIn {K : PySem.W.Frag} (hu : X.A.units + 65 < cLine) (h1 : SE X a ta f) (h2 : SE X b tb g) (hm : behindInMarks .NotIn b = false := by rfl) (hK : X.K = K := by rfl) : ST X (.Compare a [.NotIn] [b] pos) (tTest (tOp (rNotInD K) ta tb)) (tE (eBin gNotIn f g)) := by
  subst hK
  exact ⟨pt_cmpR (op_notInD hu) h1.pe h2.pe hm, dt_test (de_bin rv_notIn h1.de h2.de)⟩
theorem st_isN (h1 : SE X a ta f) {j pos'} : ST X (.Compare a [.Is] [.Constant .none j pos'] pos) (tTest (tOp (fun x y H Q => y = .non ∧ Q (.bl (decide (x = .non))) H) ta (tC .non))) (tE (eBin gIsN f (eC .none))) := ⟨pt_cmpR op_isN h1.pe pe_non (nomark _), dt_test (de_bin rv_isN h1.de (de_c fun _ => .non))⟩
theorem st_notN (h1 : SE X a ta f) {j pos'} : ST X (.Compare a [.IsNot] [.Constant .none j pos'] pos) (tTest (tOp (fun x y H Q => y = .non ∧ Q (.bl (!decide (x = .non))) H) ta (tC .non))) (tE (eBin gNotN f (eC .none))) := ⟨pt_cmpR op_notN h1.pe pe_non (nomark _), dt_test (de_bin rv_notN h1.de (de_c fun _ => .non))⟩
/-- a call, a name, a constant that is True or False -/
theorem st_val (h1 : SE X e te f) (he : ∀ whole, isTrue e X.env whole = (do let v ← whole; standAt e.pos; holding [v] (truthy v)) := by intro _; rfl) : ST X e (tB te) (tE f) := ⟨pt_val h1.pe he, dt_B h1.de⟩
theorem sw_and1 (h1 : ST X a tt u) : SW X (.BoolOp .And [a] pos) tt u := ⟨pw_and1 h1.pt, h1.dt⟩
theorem sw_or1 (h1 : ST X a tt u) : SW X (.BoolOp .Or [a] pos) tt u := ⟨pw_or1 h1.pt, h1.dt⟩
theorem sw_and {rest : List Expr} (h1 : ST X a tt u) (h2 : SW X (.BoolOp .And (b :: rest) pos) tu v) : SW X (.BoolOp .And (a :: b :: rest) pos) (tAnd tt tu) (tAndD u v) := ⟨pw_and h1.pt h2.pw, dt_and h1.dt h2.dt⟩
theorem sw_or {rest : List Expr} (h1 : ST X a tt u) (h2 : SW X (.BoolOp .Or (b :: rest) pos) tu v) : SW X (.BoolOp .Or (a :: b :: rest) pos) (tOr tt tu) (tOrD u v) := ⟨pw_or h1.pt h2.pw, dt_or h1.dt h2.dt⟩
theorem st_not (h1 : ST X a tt u) : ST X (.UnaryOp .Not a pos) (tNot tt) (tNotD u) := ⟨pt_not h1.pt, dt_not h1.dt⟩
theorem se_one {op} (h1 : SE X a ta f) : SE X (.BoolOp op [a] pos) ta f := ⟨pe_one h1.pe, h1.de⟩
theorem se_and {rest : List Expr} (h1 : SE X a ta f) (h2 : SE X (.BoolOp .And (b :: rest) pos) tb g) : SE X (.BoolOp .And (a :: b :: rest) pos) (tAndV ta tb) (eIf (tE f) g (eC (.bool false))) := ⟨pe_and h1.pe h2.pe, de_andV h1.de h2.de⟩
theorem se_or {rest : List Expr} (h1 : SE X a ta f) (h2 : SE X (.BoolOp .Or (b :: rest) pos) tb g) : SE X (.BoolOp .Or (a :: b :: rest) pos) (tOrV ta tb) (eIf (tE f) (eC (.bool true)) g) := ⟨pe_or h1.pe h2.pe, de_orV h1.de h2.de⟩
theorem se_not (h1 : SE X a ta f) : SE X (.UnaryOp .Not a pos) (tNotV ta) (eT (tNotD (tE f))) := ⟨pe_not h1.pe, de_notV h1.de⟩
theorem se_if (hc : ST X c tt u) (h1 : SE X a ta f) (h2 : SE X b tb g) : SE X (.IfExp c a b pos) (tIf tt ta tb) (eIf u f g) := ⟨pe_ifExp hc.pt h1.pe h2.pe, de_ifE hc.dt h1.de h2.de⟩
/-! a chain of two comparisons -/
@[simp] def eChain (g1 g2 : PyData → PyData → Option R) (f g h : EF) : EF := fun env => (f env).bind fun a => (g env).bind fun b => (g1 a.frz b.frz).bind fun r => (toB r.frz).bind fun k => if k = true then (h env).bind fun c => g2 b.frz c.frz else some (.val (.bool false))
theorem de_chain {K : PySem.W.Frag} {r1 r2 : R2} {g1 g2 : PyData → PyData → Option R} (k1 : RVD K r1 g1) (k2 : RVD K r2 g2) (h1 : DE K ta f) (h2 : DE K tb g) (h3 : DE K tc h) : DE K (tChain r1 r2 ta tb tc) (eChain g1 g2 f g h) := fun B F H σ env r S fh bh e Q q => by
  obtain ⟨a, ea, e⟩ := bnd e
  obtain ⟨b, eb, e⟩ := bnd e
  obtain ⟨r0, er, e⟩ := bnd e
  obtain ⟨k, ek, e⟩ := bnd e
  refine h1.z S fh bh ea fun F1 H1 x G1 d1 => ?_
  refine h2.z (S.grow G1) G1.i (bh.trans G1.h) eb fun F2 H2 y G2 d2 => ?_
  refine k1 F2 H2 x y _ _ r0 G2.i (dp_mono G2.f d1) d2 er _ fun F3 H3 v G3 rr => ?_
  obtain ⟨F4, G4, s4, d4⟩ := rr.frz G3
  rw [toB_some ek] at d4
  rw [dp_bool d4]
  have g4 := (G1.trans G2).trans G4
  refine ⟨k, rfl, ?_⟩
  cases k with
  | true =>
    refine iteT ?_
    obtain ⟨c, ec, e⟩ := bnd e
    refine h3.z (S.grow g4) g4.i (bh.trans g4.h) ec fun F5 H5 z G5 d5 => ?_
    refine k2 F5 H5 y z _ _ r G5.i (dp_mono (G4.f.trans G5.f) d2) d5 e Q fun F6 H6 w G6 rr6 => ?_
    exact q F6 H6 w ((g4.trans G5).trans G6) (rr6.back (g4.trans G5))
  | false =>
    cases e
    exact iteF (q F4 H3 _ g4 (.bl false))
theorem se_chain {op op' : CmpOp} {r1 r2 : R2} {g1 g2 : PyData → PyData → Option R} (ho : OpR X (compareOp op) r1) (k1 : RVD X.K r1 g1) (ho' : OpR X (compareOp op') r2) (k2 : RVD X.K r2 g2) (h1 : SE X a ta f) (h2 : SE X b tb g) (h3 : SE X c tc h) (hm : lastMarks [op, op'] [b, c] = false := by with_unfolding_all rfl) :
    SE X (.Compare a [op, op'] [b, c] pos) (tChain r1 r2 ta tb tc) (eChain g1 g2 f g h) := ⟨pe_chain ho ho' h1.pe h2.pe h3.pe hm, de_chain k1 k2 h1.de h2.de h3.de⟩
theorem st_chain {op op' : CmpOp} {r1 r2 : R2} {g1 g2 : PyData → PyData → Option R} (ho : OpR X (compareOp op) r1) (k1 : RVD X.K r1 g1) (ho' : OpR X (compareOp op') r2) (k2 : RVD X.K r2 g2) (h1 : SE X a ta f) (h2 : SE X b tb g) (h3 : SE X c tc h) (hm : lastMarks [op, op'] [b, c] = false := by with_unfolding_all rfl) :
    ST X (.Compare a [op, op'] [b, c] pos) (tTest (tChain r1 r2 ta tb tc)) (tE (eChain g1 g2 f g h)) := ⟨pt_chain ho ho' h1.pe h2.pe h3.pe hm, dt_test (de_chain k1 k2 h1.de h2.de h3.de)⟩

/-! ### walks and comprehensions -/
structure SG (X : Cx) (tg : Expr) (ws : List Nat) (t : TG) (g : GF) : Prop where
  pg : PG X tg t
  d : DG X.K ws t g
structure SI (X : Cx) (tg iter : Expr) (wi : TI) (f : IF) : Prop where
  pi : PI X tg iter wi
  d : DI X.K wi f
theorem sg_name {i : Nat} (hN : X.N.Nodup) (hi : X.N[i]? = some x) (hx : Loc X.env.scope x) (hf : X.fn x = true ∨ X.env.scope.names.lookup x = some .local := by first | exact .inl rfl | exact .inr rfl | assumption) : SG X (.Name x pos) [i] (gName i) (gtName i) := ⟨pg_name hN hi hx hf, dg_name⟩
theorem sg_tup2 {K : PySem.W.Frag} {i j : Nat} {e1 e2 : Expr} {k : Nat} (hc : X.calm = true) (h : PGs X [e1, e2] (gCons (gName i) (gCons (gName j) gNil)))
    (hn : (assignEach [e1, e2] X.env).length = 2 := by rfl) (hst : (assignEach [e1, e2] X.env).findIdx? (·.1) = none := by rfl) (hK : X.K = K := by rfl) : SG X (.Tuple [e1, e2] k pos) [i, j] (gTup K 2 (gCons (gName i) (gCons (gName j) gNil))) (gtTup2 i j) := by
  subst hK
  exact ⟨pg_tup hc h hn hst, dg_tup2⟩
theorem sg_tup3 {K : PySem.W.Frag} {i j l : Nat} {e1 e2 e3 : Expr} {k : Nat} (hc : X.calm = true) (h : PGs X [e1, e2, e3] (gCons (gName i) (gCons (gName j) (gCons (gName l) gNil))))
    (hn : (assignEach [e1, e2, e3] X.env).length = 3 := by rfl) (hst : (assignEach [e1, e2, e3] X.env).findIdx? (·.1) = none := by rfl) (hK : X.K = K := by rfl) : SG X (.Tuple [e1, e2, e3] k pos) [i, j, l] (gTup K 3 (gCons (gName i) (gCons (gName j) (gCons (gName l) gNil)))) (gtTup3 i j l) := by
  subst hK
  exact ⟨pg_tup hc h hn hst, dg_tup3⟩
variable {tg iter elt : Expr} {wi : TI} {it : IF} {tG : TG} {gf : GF} {ws : List Nat} {body : List Stmt} {tS tS' : TS} {sf sg : SF} {st : Stmt}
theorem si_list {K : PySem.W.Frag} (h1 : SE X a ta f) (hK : X.K = K := by rfl) : SI X tg a (iList K ta) (iL f) := by
  subst hK
  exact ⟨pi_list h1.pe, di_list h1.de⟩
theorem si_tup {K : PySem.W.Frag} (h1 : SE X a ta f) (hK : X.K = K := by rfl) : SI X tg a (iTup K ta) (iT f) := by
  subst hK
  exact ⟨pi_tup h1.pe, di_tup h1.de⟩
theorem si_r1 {p pos : Pos} (hg : Gl X "range") (hm : X.mg "range" = none) (ha : SA X [a] t af) (hs : starEach [a] X.env = [(false, eval a X.env)] := by rfl) : SI X tg (.Call (.Name "range" p) [a] [] pos) (iRng1 t) (iR1 af) := ⟨pi_range1 hg hm ha.pa hs, di_r1 ha.da⟩
theorem si_r2 {p pos : Pos} (hg : Gl X "range") (hm : X.mg "range" = none) (ha : SA X [a, b] t af) (hs : starEach [a, b] X.env = [(false, eval a X.env), (false, eval b X.env)] := by rfl) (hs2 : starEach [b] X.env = [(false, eval b X.env)] := by rfl) : SI X tg (.Call (.Name "range" p) [a, b] [] pos) (iRng2 t) (iR2 af) := ⟨pi_range2 hg hm ha.pa hs hs2, di_r2 ha.da⟩
def iPeek (f : IF) : IF := fun env => (f (env.map unown)).bind fun ds => if ds.all flat = true then some ds else none
structure STs (X : Cx) (ifs : List Expr) (tt : TT) (f : TF) : Prop where
  pts : PTs X ifs tt
  dt : DT X.K tt f
theorem sts_nil : STs X [] tYes tYesD := ⟨pts_nil, dt_yes⟩
theorem sts_one (h1 : ST X c tt u) : STs X [c] tt u := ⟨pts_one h1.pt, h1.dt⟩
theorem se_lc {ifs : List Expr} {scope : Scope} {own : List (Str × Nat)} (hc : X.calm = true) (hN : X.N.Nodup) (hi : SI X tg iter wi it) (ok : BlkOk X.N X.env.scope scope own)
    (hg : ∀ (s : Shared) (H : Hp) (C : Addr) (cl : List (Str × Addr)) (fp : List Addr), SG (X.blk s H scope (compEnvC scope cl C X.env) fp) tg ws tG gf) (hw : ∀ i ∈ ws, i ∈ own.map (·.2))
    (ht : ∀ (s : Shared) (H : Hp) (C : Addr) (cl : List (Str × Addr)) (fp : List Addr), STs (X.blk s H scope (compEnvC scope cl C X.env) fp) ifs tt u)
    (he : ∀ (s : Shared) (H : Hp) (C : Addr) (cl : List (Str × Addr)) (fp : List Addr), SE (X.blk s H scope (compEnvC scope cl C X.env) fp) elt te f) (hs : ∀ x, foldedSetIterable iter X.env x = pure x := by intro _; rfl) :
    SE X (.ListComp elt [⟨tg, iter, ifs, 0⟩] scope pos) (tLc wi tG tt te (own.map (·.2))) (eLc (own.map (·.2)) it gf u f) :=
  ⟨pe_lc hc hN hi.pi ok (fun s H C cl fp => (hg s H C cl fp).pg) (fun s H C cl fp => (ht s H C cl fp).pts) (fun s H C cl fp => (he s H C cl fp).pe) hs,
   de_lc hi.d (hg X.s_0 X.H_0 0 [] []).d hw (ht X.s_0 X.H_0 0 [] []).dt (he X.s_0 X.H_0 0 [] []).de⟩
theorem ss_setLc {i : Nat} {y : Str} {py spos : Pos} {ifs : List Expr} {scope : Scope} {own : List (Str × Nat)} (hc : X.calm = true) (hN : X.N.Nodup) (hy : X.N[i]? = some y) (hyl : X.env.scope.names.lookup y = some .local)
    (hsw : swapsWith (.ListComp elt [⟨tg, iter, ifs, 0⟩] scope pos) (some (.Name y py)) spos.line X.env = pure true) (hi : SI X tg iter wi it) (ok : BlkOk X.N X.env.scope scope own)
    (hg : ∀ (s : Shared) (H : Hp) (C : Addr) (cl : List (Str × Addr)) (fp : List Addr), SG (X.blk s H scope (compEnvC scope cl C X.env) fp) tg ws tG gf) (hw : ∀ i ∈ ws, i ∈ own.map (·.2))
    (ht : ∀ (s : Shared) (H : Hp) (C : Addr) (cl : List (Str × Addr)) (fp : List Addr), STs (X.blk s H scope (compEnvC scope cl C X.env) fp) ifs tt u)
    (he : ∀ (s : Shared) (H : Hp) (C : Addr) (cl : List (Str × Addr)) (fp : List Addr), SE (X.blk s H scope (compEnvC scope cl C X.env) fp) elt te f) (hs : ∀ x, foldedSetIterable iter X.env x = pure x := by intro _; rfl) :
    SS X (.Assign [.Name y py] (.ListComp elt [⟨tg, iter, ifs, 0⟩] scope pos) spos) (tAsg (tLc wi tG tt te (own.map (·.2))) (gName i)) (sSet i (eLc (own.map (·.2)) it gf u f)) :=
  ⟨ps_setLc hc hN hy hyl hsw hi.pi ok (fun s H C cl fp => (hg s H C cl fp).pg) (fun s H C cl fp => (ht s H C cl fp).pts) (fun s H C cl fp => (he s H C cl fp).pe) hs,
   ds_set (de_lc hi.d (hg X.s_0 X.H_0 0 [] []).d hw (ht X.s_0 X.H_0 0 [] []).dt (he X.s_0 X.H_0 0 [] []).de)⟩

/-! ### statements -/
variable {rest : List Stmt}
theorem ss_nil : SSs X [] tNext sNext := ⟨pss_nil, ds_next⟩
theorem ss_one (h1 : SS X st tS sf) : SSs X [st] tS sf := ⟨pss_one h1.ps, h1.ds⟩
theorem ss_cons (h1 : SS X st tS sf) (h2 : SSs X rest tS' sg) : SSs X (st :: rest) (tSeq tS tS') (sSeq sf sg) := ⟨pss_cons h1.ps h2.ps, ds_seq h1.ds h2.ds⟩
/-- an owned list is frozen ahead of a statement -/
theorem ss_frz (i : Nat) (h1 : SS X st tS sf) : SS X st tS (sFrz i sf) := ⟨h1.ps, ds_frz h1.ds⟩
theorem ss_ret (h1 : SE X e te f) : SS X (.Return (some e) pos) (tRet te) (sRet f) := ⟨ps_ret h1.pe, ds_ret h1.de⟩
theorem ss_retN : SS X (.Return none pos) tRetN sRetN := ⟨ps_retN, ds_retN⟩
theorem ss_retO {i : Nat} (h1 : PE X e (tVar i)) : SS X (.Return (some e) pos) (tRet (tVar i)) (sRetOwn i) := ⟨ps_ret h1, ds_retOwn⟩
theorem ss_break : SS X (.Break pos) tBreak sBreak := ⟨ps_break, ds_break⟩
theorem ss_cont : SS X (.Continue pos) tCont sCont := ⟨ps_continue, ds_cont⟩
theorem ss_pass : SS X (.Pass pos) tNext sNext := ⟨ps_pass, ds_next⟩
theorem ss_if {b1 b2 : List Stmt} (hc : ST X c tt u) (h1 : SSs X b1 tS sf) (h2 : SSs X b2 tS' sg) : SS X (.If c b1 b2 pos) (tIfS tt tS tS') (sIf u sf sg) := ⟨ps_if hc.pt h1.ps h2.ps, ds_if hc.dt h1.ds h2.ds⟩
theorem ss_set {i : Nat} {pos' : Pos} (hN : X.N.Nodup) (hi : X.N[i]? = some x) (hx : Loc X.env.scope x) (h1 : SE X e te f) (hs : swapsWith e (some (.Name x pos')) pos.line X.env = pure false := by rfl) (hf : X.fn x = true ∨ X.env.scope.names.lookup x = some .local := by first | exact .inl rfl | exact .inr rfl | assumption) :
    SS X (.Assign [.Name x pos'] e pos) (tAsg te (gName i)) (sSet i f) := ⟨ps_set hN hi hx h1.pe hs hf, ds_set h1.de⟩
theorem ss_asg (h1 : SE X e te f) (hg : SG X tg ws tG gf) (hs : swapsWithSole [tg] e pos.line X.env = pure false := by rfl) (hw : swappedStores [tg] e X.env = pure none := by rfl)
    (h2 : (assignEach [tg] X.env).map (·.2) = [assign tg X.env] := by rfl) : SS X (.Assign [tg] e pos) (tAsg te tG) (sAsg gf f) := ⟨ps_asg h1.pe hg.pg hs hw h2, ds_asg h1.de hg.d⟩
theorem ss_put {j : Nat} {pk : Pos} (h1 : SE X e te f) (h0 : PE X o (tVar j)) (h2 : SE X i ta g)
    (ha : ∀ v, assign (.Subscript o i pk) X.env v = (do
      let ov ← holding [v] (eval o X.env)
      let iv ← holding [v, ov] (eval i X.env)
      standAt pk
      holding [v, ov, iv] (setItem ov iv v)
      release [v, ov, iv] []) := by intro _; rfl)
    (hs : swapsWithSole [.Subscript o i pk] e pos.line X.env = pure false := by rfl) (hw : swappedStores [.Subscript o i pk] e X.env = pure none := by rfl)
    (h3 : (assignEach [.Subscript o i pk] X.env).map (·.2) = [assign (.Subscript o i pk) X.env] := by rfl) : SS X (.Assign [.Subscript o i pk] e pos) (tAsg te (L2.gSub (tVar j) ta rSetL)) (sPut j g f) :=
  ⟨ps_asg h1.pe (pg_sub h0 h2.pe set_list ha) hs hw h3, ds_put h1.de h2.de⟩
theorem ss_drop (h1 : SE X e te f) (hs : swapsWith e none pos.line X.env = pure false := by rfl) : SS X (.Expr e pos) (tDrop te) (sDrop f) := ⟨ps_expr h1.pe hs, ds_drop h1.de⟩
theorem ss_append {j : Nat} {cpos : Pos} (h0 : PE X o (tVar j)) (h1 : SE X e te f) (hs : swapsWith (.Call (.Attribute o "append" apos) [e] [] cpos) none pos.line X.env = pure false := by rfl)
    (hbase : attributeBase o "append" X.env (eval o X.env) = eval o X.env := by rfl)
    (hfew : ((backTo cpos (starEach [e] X.env)).all (fun x => !x.1) && (backToKw cpos (keywordEach [] X.env)).all (fun x => x.1.isSome)
      && decide ([e].length + ([] : List Keyword).length + (if ([] : List Keyword).isEmpty then 0 else 1) < 30)) = true := by rfl)
    (hline : (apos.endLine == cpos.line) = true := by rfl) (hst : starEach [e] X.env = (false, eval e X.env) :: starEach [] X.env := by rfl) (hplain : (backTo cpos (starEach [] X.env)).any (·.1) = false := by rfl) :
    SS X (.Expr (.Call (.Attribute o "append" apos) [e] [] cpos) pos) (tDrop (tBM X.K "list" rAppend (tVar j) (tCons te tNil))) (sAppend j f) :=
  ⟨ps_expr (pe_bm PySem.F.plainAttrs_list PySem.F.slot_list_append PySem.F.type_list_append mt_append h0 (pa_cons h1.pe pa_nil hst) hbase hfew hline hst hplain) hs, ds_append h1.de⟩
theorem ss_for (hp : PassesOwn (model X.prog X.w) X.A X.env X.xe) (hc : X.calm = true) (hi : SI X tg iter wi it) (hg : SG X tg ws tG gf) (hb : SSs X body tS sf) (hs : ∀ x, foldedSetIterable iter X.env x = pure x := by intro _; rfl) :
    SS X (.For tg iter body [] pos) (tFor wi tG tS) (sFor it gf sf) := ⟨ps_for hp hc hi.pi hg.pg hb.ps hs, ds_for hi.d hg.d hb.ds⟩
theorem ss_while (n : Nat) (hp : PassesOwn (model X.prog X.w) X.A X.env X.xe) (hc : ST X c tt u) (hb : SSs X body tS sf) : SS X (.While c body [] pos) (tWhile tt tS) (whileD u sf n) := ⟨ps_while hp hc.pt hb.ps, ds_while n hc.dt hb.ds⟩
end

/-! ### defs -/
@[simp] def startD (N n : Nat) (ds : List PyData) : En := ds.map Sl.val ++ List.replicate (N - n) .no
def resO (o : Option Out) : Option R := match o with
  | some (.rt r) => some r
  | some (.nx _) => some (.val .none)
  | _ => none
@[simp] theorem resO_rt {r : R} : resO (some (.rt r)) = some r := rfl
@[simp] theorem resO_nx {e : En} : resO (some (.nx e)) = some (.val .none) := rfl
theorem resO_ite {c : Prop} [Decidable c] {x y : Option Out} : resO (if c then x else y) = if c then resO x else resO y := by split <;> rfl
@[irreducible] def fnD (N n : Nat) (f : SF) (ds : List PyData) : Option R := if ds.length = n then resO (f (startD N n ds)) else none
def spD (K : PySem.W.Frag) (n : Nat) (g : List PyData → Option R) : Sp := fun vs H Q _ => vs.length = n ∧ ∃ F ds r, Same F H ∧ DpAll K F vs ds ∧ g ds = some r ∧ ∀ F' H' v, Grow F H F' H' → RepR K F' H H' v r → Q v H'
section
variable {P : Program} {w : World} {K : PySem.W.Frag} {mg : Str → Option Value} {base : Heap}
theorem slots_start {F H : Hp} {vs : List V} {ds : List PyData} {N : List Str} {n : Nat} (h : DpAll K F vs ds) (hn : vs.length = n) : Slots K H F H (L2.start N vs) (startD N.length n ds) := by
  have hl := DpAll.len h
  refine ⟨by simp [L2.start, startD, hl, hn] <;> omega, fun _ => 0, fun i v s e1 e2 => ?_, fun i j es fs hij e1 _ => ?_⟩
  · unfold L2.start at e1
    unfold startD at e2
    by_cases hi : i < vs.length
    · rw [List.getElem?_append_left (by simpa using hi), List.getElem?_map] at e1
      rw [List.getElem?_append_left (by simpa using (hl ▸ hi)), List.getElem?_map] at e2
      cases q : ds[i]? with
      | none => rw [q] at e2; cases e2
      | some d =>
        obtain ⟨u, eu, du⟩ := DpAll.get h q
        rw [q] at e2
        rw [eu] at e1
        cases e1
        cases e2
        exact ⟨u, rfl, du⟩
    · rw [List.getElem?_append_right (by simp; omega)] at e2
      rw [List.getElem?_replicate] at e2
      split at e2
      · cases e2
        trivial
      · cases e2
  · unfold startD at e1
    by_cases hi : i < ds.length
    · rw [List.getElem?_append_left (by simpa using hi), List.getElem?_map, List.getElem?_eq_getElem hi] at e1
      cases e1
    · rw [List.getElem?_append_right (by simp; omega), List.getElem?_replicate] at e1
      split at e1 <;> cases e1
/-- THE RULE for a def: its body as a term of rules -/
theorem okD {x qual : Str} {st : Stmt} {f : Addr} {fd : FuncData} {N ps : List Str} {k : Nat} {b : SF} (F : Fun K x qual st f fd) (S : FnScope N ps (defScope st))
    (hbody : ∀ (cdv : Value) (A : Around) (outer : List PySem.Env) (s : Shared) (H : Hp) (E : XK), Room k (A.deeper (envOfC qual (defScope st) s.heap.objs.size f cdv)) → ∃ t, SSs (cxOf CX0 P w K mg base N qual (defScope st) f cdv A outer s H E).nox (defBody st) t b) :
    FnOk P w K mg base CX0 (k + 1) f fd ps (spD K ps.length (fnD N.length ps.length b)) := by
  refine F.ok S (fun vs H Q E h => h.1) (fun cdv A outer s H vs Q E hr h => ?_)
  obtain ⟨hn, F0, ds, r, fh, hd, er, q⟩ := h
  obtain ⟨t, ht⟩ := hbody cdv A outer s H E hr
  refine ⟨t, ht.ps, ?_⟩
  unfold fnD at er
  split at er
  case isFalse => cases er
  have S0 : Sta K F0 H F0 H (L2.start N vs) (startD N.length ps.length ds) := ⟨Grow.refl fh, slots_start hd hn⟩
  unfold resO at er
  split at er
  · rename_i r' eb
    cases er
    exact ht.ds F0 H F0 H _ _ _ S0 eb _ q
  · rename_i e' eb
    cases er
    exact ht.ds F0 H F0 H _ _ _ S0 eb _ fun F' H' σ' _ S' => q F' H' _ S'.g .non
  · cases er
end
section
variable {X : Cx} {x : Str} {p pos : Pos} {e : Expr} {es : List Expr} {t : TA} {af : AF}
theorem de_call {K : PySem.W.Frag} {n : Nat} {g : List PyData → Option R} (hn : ∀ ds r, g ds = some r → ds.length = n) (h : DA K t af) : DE K (tCall (spD K n g) [] E0 t) (eCall g af) := fun B F H σ env r S fh bh e Q q => by
  obtain ⟨ds, ea, e⟩ := bnd e
  refine h B F H σ env ds S fh bh ea _ fun F1 H1 vs g1 d1 => ?_
  rw [List.append_nil]
  exact ⟨by rw [DpAll.len d1, hn _ _ e], F1, ds, r, g1.i, d1, e, fun F2 H2 v g2 rr => q F2 H2 v (g1.trans g2) (rr.back g1)⟩
theorem fnD_len {N n : Nat} {f : SF} {ds : List PyData} {r : R} (h : fnD N n f ds = some r) : ds.length = n := by
  unfold fnD at h
  split at h
  · assumption
  · cases h
theorem se_call {k f N n : Nat} {K : PySem.W.Frag} {fd : FuncData} {ps : List Str} {b : SF} (G : FnOk X.prog X.w X.K X.mg X.base CX0 k f fd ps (spD X.K n (fnD N n b))) (hr : Room k X.A) (hg : Gl X x) (hm : X.mg x = some (.ref f)) (hk : PySem.W.keepIn X.K (.ref f) = true) (hb : Binds X.K fd ps [])
    (ha : SA X (e :: es) t af) (hdb : (x == ("__debug__" : Str)) = false := by decide) (he : starEach (e :: es) X.env = (false, eval e X.env) :: starEach es X.env := by rfl) (hpl : (backTo pos (starEach es X.env)).any (·.1) = false := by rfl) (hK : X.K = K := by rfl) :
    SE X (.Call (.Name x p) (e :: es) [] pos) (tCall (spD K n (fnD N n b)) [] E0 t) (eCall (fnD N n b) af) := by
  subst hK
  exact ⟨pe_call G hr hg hm hk hb .nil pass0 ha.pa hdb he hpl, de_call (fun _ _ => fnD_len) ha.da⟩
end
end Dn
namespace Dn
open PySem PySem.Spec PyProof.Rows L2
/-! a walk over a list or a tuple -/
theorem pi_or {X : Cx} {tg l : Expr} {w1 w2 : TI} (h1 : PI X tg l w1) (h2 : PI X tg l w2) : PI X tg l (fun σ H R => w1 σ H R ∨ w2 σ H R) := ⟨fun pins s σ H R I h => by
  rcases h with h | h
  · exact h1.run pins s σ H R I h
  · exact h2.run pins s σ H R I h⟩
@[simp] def iS (f : EF) : IF := fun env => (f env).bind fun r => match r.frz with
  | .list ds => some ds
  | .tuple ds => some ds
  | _ => none
section
variable {X : Cx} {tg a : Expr} {ta : TE} {f : EF}
theorem di_seq {K : PySem.W.Frag} (h : DE K ta f) : DI K (fun σ H R => iList K ta σ H R ∨ iTup K ta σ H R) (iS f) := fun B F H σ env ds S fh bh e R q => by
  obtain ⟨r, er, e⟩ := bnd e
  cases hr : r.frz with
  | list es =>
    rw [hr] at e
    exact .inl (di_list h B F H σ env ds S fh bh (by unfold iL; rw [er]; show (match r.frz with | .list ds => some ds | _ => none) = _; rw [hr]; exact e) R q)
  | tuple es =>
    rw [hr] at e
    exact .inr (di_tup h B F H σ env ds S fh bh (by unfold iT; rw [er]; show (match r.frz with | .tuple ds => some ds | _ => none) = _; rw [hr]; exact e) R q)
  | none => rw [hr] at e; cases e
  | bool _ => rw [hr] at e; cases e
  | int _ => rw [hr] at e; cases e
  | str _ => rw [hr] at e; cases e
  | dict _ => rw [hr] at e; cases e
theorem si_seq {K : PySem.W.Frag} (h1 : SE X a ta f) (hK : X.K = K := by rfl) : SI X tg a (fun σ H R => iList K ta σ H R ∨ iTup K ta σ H R) (iS f) := by
  subst hK
  exact ⟨pi_or (pi_list h1.pe) (pi_tup h1.pe), di_seq h1.de⟩
end
/-! the law's own end -/
def spLaw (K : PySem.W.Frag) : Sp := fun vs H Q _ => ∃ (a : Addr) (ns : List Int), vs = [.ref a] ∧ SqL K H a (ns.map V.int) ∧ ns.length ≤ 63 ∧ ∀ H', Q (.bl true) H'
theorem law_of {P : Program} {w : World} {K : PySem.W.Frag} {mg : Str → Option Value} {base : Heap} {k : Nat} {f : Addr} {fd : FuncData} {ps : List Str} {g : List PyData → Option R} (h : ∀ ns : List Int, ns.length ≤ 63 → g [.list (ns.map PyData.int)] = some (.val (.bool true)))
    (G : FnOk P w K mg base CX0 k f fd ps (spD K 1 g)) : FnOk P w K mg base CX0 k f fd ps (spLaw K) := G.imp fun vs H Q E ⟨a, ns, e, hs, hl, q⟩ => by
  subst e
  refine ⟨rfl, H, _, _, Same.refl H, .cons (.lst hs (DpAll.ints ns)) .nil, h ns hl, fun F' H' v _ rr => ?_⟩
  cases rr
  exact q H'
theorem _root_.L2.Room.units65 {k : Nat} {A : Around} (r : L2.Room k A) : A.units + 65 < cLine := by have := r.un; omega
theorem boot_isi : bootBuiltins "isinstance" = some (.builtin "isinstance") := by decide +kernel
theorem boot_len_ : bootBuiltins "len" = some (.builtin "len") := by decide +kernel
theorem boot_abs_ : bootBuiltins "abs" = some (.builtin "abs") := by decide +kernel
theorem boot_all_ : bootBuiltins "all" = some (.builtin "all") := by decide +kernel
theorem boot_any_ : bootBuiltins "any" = some (.builtin "any") := by decide +kernel
theorem boot_sum_ : bootBuiltins "sum" = some (.builtin "sum") := by decide +kernel
theorem boot_repr_ : bootBuiltins "repr" = some (.builtin "repr") := by decide +kernel
theorem boot_sorted_ : bootBuiltins "sorted" = some (.builtin "sorted") := by decide +kernel
theorem boot_int_ : bootBuiltins "int" = some (.type "int") := by decide +kernel
theorem boot_str_ : bootBuiltins "str" = some (.type "str") := by decide +kernel
theorem boot_bool_ : bootBuiltins "bool" = some (.type "bool") := by decide +kernel
theorem boot_list_ : bootBuiltins "list" = some (.type "list") := by decide +kernel
theorem boot_tuple_ : bootBuiltins "tuple" = some (.type "tuple") := by decide +kernel
end Dn
/-! Dm1: mathematics that every law wants, over Dn. -/
namespace Dn
open PySem PySem.Spec PyProof.Rows L2
theorem fnD_eq {N n : Nat} {f : SF} {ds : List PyData} (h : ds.length = n) : fnD N n f ds = resO (f (startD N n ds)) := by
  unfold fnD
  rw [if_pos h]
/-! sizes -/
theorem lt_divLim {n : Nat} (h : n < 2 ^ 64) : n < divLim := Nat.lt_of_lt_of_le h (Nat.pow_le_pow_right (by decide) (by decide))
theorem divLim_mulLim {n : Nat} (h : n < divLim) : n < mulLim := Nat.lt_of_lt_of_le h (Nat.pow_le_pow_right (by decide) (by decide))
theorem lt_mulLim {n : Nat} (h : n < 2 ^ 64) : n < mulLim := divLim_mulLim (lt_divLim h)
theorem fd_small {i j : Int} (h0 : 0 < j) (h1 : j < 2 ^ 64) : FdOk i j := ⟨by omega, lt_divLim (by omega)⟩
theorem mul_r {i j : Int} (h : j.natAbs < 2 ^ 64) : MulOk i j := .inr (.inl h)
theorem mul_l {i j : Int} (h : i.natAbs < 2 ^ 64) : MulOk i j := .inl h
theorem mul_w {i j : Int} (h : i.natAbs < mulLim) (h' : j.natAbs < mulLim) : MulOk i j := .inr (.inr ⟨h, h'⟩)
theorem fmod_pos {i j : Int} (h : 0 < j) : i.fmod j = i % j := Int.fmod_eq_emod_of_nonneg i (by omega)
theorem fdiv_pos {i j : Int} (h : 0 < j) : i.fdiv j = i / j := Int.fdiv_eq_ediv_of_nonneg i (by omega)
theorem inR_of {n : Int} (h0 : 0 ≤ n) (h1 : n < 2 ^ 61) : InR n := ⟨by omega, by omega⟩
theorem fits {n : Nat} (h : n ≤ 100000) : Fits n := h
theorem shp_int (i : Int) : Shp (.int i) := rfl
theorem shp_bool (i : Bool) : Shp (.bool i) := rfl
theorem shp_none : Shp .none := rfl
/-! == of ints, bools -/
@[simp] theorem gEq_int {i j : Int} : gEq (.int i) (.int j) = some (.val (.bool (decide (i = j)))) := by
  unfold gEq
  rw [if_pos ⟨rfl, rfl⟩]
  show some (R.val (PyData.bool (i == j))) = _
  rw [Bool.beq_eq_decide_eq]
@[simp] theorem gNe_int {i j : Int} : gNe (.int i) (.int j) = some (.val (.bool (!decide (i = j)))) := by
  unfold gNe
  rw [if_pos ⟨rfl, rfl⟩]
  show some (R.val (PyData.bool (!(i == j)))) = _
  rw [Bool.beq_eq_decide_eq]
/-! places -/
theorem ixN_nat {n : Nat} {k : Int} (h0 : 0 ≤ k) (h1 : k < n) : ixN n k = some k.toNat := by
  unfold ixN
  rw [if_pos h0, if_pos h1]
theorem atI_nat' {α : Type} {xs : List α} {k : Int} {x : α} (h0 : 0 ≤ k) (h1 : xs[k.toNat]? = some x) : atI xs k = some x := by
  have hl : k.toNat < xs.length := (List.getElem?_eq_some_iff.mp h1).1
  unfold atI
  rw [ixN_nat h0 (by omega)]
  exact h1
/-! comprehensions -/
theorem lcD_map {vs : List Nat} {g : GF} {c : TF} {f : EF} {env : En} (h : PyData → PyData) : ∀ {ds : List PyData}, (∀ d ∈ ds, ∃ e1 r, g d (wipeD env vs) = some e1 ∧ c e1 = some true ∧ f e1 = some r ∧ r.frz = h d) → lcD vs g c f env ds = some (ds.map h)
  | [], _ => rfl
  | d :: ds, hd => by
    obtain ⟨e1, r, h1, h2, h3, h4⟩ := hd d List.mem_cons_self
    have ih := lcD_map (ds := ds) h fun x hx => hd x (List.mem_cons_of_mem _ hx)
    unfold lcD
    rw [h1, Option.bind_some, h2, Option.bind_some, if_pos rfl, h3, Option.bind_some, ih, Option.bind_some, h4, List.map_cons]
theorem eLc_eq {vs : List Nat} {it : IF} {g : GF} {c : TF} {f : EF} {env : En} {ds rs : List PyData} (h1 : it env = some ds) (hl : Fits ds.length) (h2 : lcD vs g c f env ds = some rs) : eLc vs it g c f env = some (.own rs) := by
  unfold eLc
  rw [h1, Option.bind_some, if_pos hl, h2, Option.bind_some]
theorem sFor_eq {it : IF} {g : GF} {body : SF} {env : En} {ds : List PyData} (h1 : it env = some ds) : sFor it g body env = forD g body ds env := by
  unfold sFor
  rw [h1, Option.bind_some]
/-! loops -/
theorem forD_inv {g : GF} {body : SF} {ds : List PyData} (P : Nat → En → Prop) (turn : ∀ i env d, P i env → ds[i]? = some d → ∃ e1 e2, g d env = some e1 ∧ body e1 = some (.nx e2) ∧ P (i + 1) e2) {env : En} (h : P 0 env) : ∃ e, forD g body ds env = some (.nx e) ∧ P ds.length e := by
  suffices H : ∀ (n i : Nat) (env : En), i + n = ds.length → P i env → ∃ e, forD g body (ds.drop i) env = some (.nx e) ∧ P ds.length e by
    have := H ds.length 0 env (by omega) h
    rwa [List.drop_zero] at this
  intro n
  induction n with
  | zero =>
    intro i env e p
    rw [List.drop_eq_nil_of_le (by omega)]
    have : i = ds.length := by omega
    subst this
    exact ⟨env, rfl, p⟩
  | succ n ih =>
    intro i env e p
    have hi : i < ds.length := by omega
    obtain ⟨e1, e2, h1, h2, h3⟩ := turn i env ds[i] p (List.getElem?_eq_getElem hi)
    obtain ⟨e', h4, h5⟩ := ih (i + 1) e2 (by omega) h3
    refine ⟨e', ?_, h5⟩
    rw [List.drop_eq_getElem_cons hi]
    unfold forD
    rw [h1]
    show turnO (body e1) _ = _
    rw [h2]
    exact h4
theorem intsFrom_at {n : Nat} {lo : Int} {i : Nat} {d : PyData} (h : (intsFrom lo n)[i]? = some d) : i < n ∧ d = .int (lo + i) := by
  have hi : i < n := by
    have := (List.getElem?_eq_some_iff.mp h).1
    rwa [intsFrom_len] at this
  rw [intsFrom_get n lo i hi] at h
  cases h
  exact ⟨hi, rfl⟩
/-! Euclid -/
/-- n turns at most of (a, b) := (b, a mod b), as the loop goes -/
def euc : Nat → Int → Int → Int
  | 0, a, _ => a
  | n + 1, a, b => if b = 0 then a else euc n b (a % b)
def gcdI (a b : Int) : Int := (Nat.gcd a.natAbs b.natAbs : Nat)
theorem gcdI_step {a b : Int} (ha : 0 ≤ a) (hb : 0 < b) : gcdI b (a % b) = gcdI a b := by
  unfold gcdI
  have e : (a % b).natAbs = a.natAbs % b.natAbs := by
    obtain ⟨m, rfl⟩ := Int.eq_ofNat_of_zero_le ha
    obtain ⟨n, rfl⟩ := Int.eq_ofNat_of_zero_le (Int.le_of_lt hb)
    rw [← Int.natCast_emod, Int.natAbs_natCast, Int.natAbs_natCast, Int.natAbs_natCast]
  rw [e, Nat.gcd_comm b.natAbs, ← Nat.gcd_rec, Nat.gcd_comm]
theorem euc_gcd : ∀ (k n : Nat) (a b : Int), 0 ≤ a → 0 ≤ b → b < 2 ^ k → 2 * k + 1 ≤ n → euc n a b = gcdI a b
  | 0, n, a, b, ha, hb, h, hn => by
    have : b = 0 := by
      have : b < 1 := h
      omega
    subst this
    obtain ⟨m, rfl⟩ : ∃ m, n = m + 1 := ⟨n - 1, by omega⟩
    unfold euc
    rw [if_pos rfl]
    unfold gcdI
    simp
    omega
  | k + 1, n, a, b, ha, hb, h, hn => by
    obtain ⟨m, rfl⟩ : ∃ m, n = m + 2 := ⟨n - 2, by omega⟩
    unfold euc
    by_cases h0 : b = 0
    · subst h0
      rw [if_pos rfl]
      unfold gcdI
      simp
      omega
    · rw [if_neg h0]
      have hb' : 0 < b := by omega
      have hr0 := Int.emod_nonneg a h0
      have hr1 := Int.emod_lt_of_pos a hb'
      rw [← gcdI_step ha hb']
      unfold euc
      by_cases h1 : a % b = 0
      · rw [if_pos h1, h1]
        unfold gcdI
        simp
        omega
      · rw [if_neg h1]
        have hr' : 0 < a % b := by omega
        have hs0 := Int.emod_nonneg b h1
        have hs1 := Int.emod_lt_of_pos b hr'
        rw [← gcdI_step (by omega) hr']
        refine euc_gcd k m _ _ (by omega) hs0 ?_ (by omega)
        have hq : 1 ≤ b / (a % b) := Int.le_ediv_of_mul_le hr' (by omega)
        have hd := Int.mul_ediv_add_emod b (a % b)
        have : (a % b) * 1 ≤ (a % b) * (b / (a % b)) := Int.mul_le_mul_of_nonneg_left hq (by omega)
        have e2 : (2 : Int) ^ (k + 1) = 2 * 2 ^ k := by rw [Int.pow_succ, Int.mul_comm]
        rw [e2] at h
        omega
end Dn
namespace Law
open PySem PySem.Spec PyProof.Rows L2 Dn
def topS (i : Nat) : Stmt := PySem.Challenge.pw_oddkeep_k02_sums_and_products.main.body.getD i (.Pass ⟨0, 0, 0, 0⟩)
abbrev s_number : Stmt := topS 2
abbrev s_compare : Stmt := topS 3
abbrev s__law_draws : Stmt := topS 10
abbrev s__law_gcd : Stmt := topS 12
abbrev s__law_less : Stmt := topS 18
abbrev s_plus : Stmt := topS 4
abbrev s_minus : Stmt := topS 5
abbrev s_times : Stmt := topS 6
abbrev s_divided : Stmt := topS 7
abbrev s__law_number : Stmt := topS 13
abbrev s__law_is_number : Stmt := topS 14
abbrev s__law_order : Stmt := topS 21
abbrev s_total : Stmt := topS 8
abbrev s__law_is_numbers : Stmt := topS 15
abbrev s__law_plus : Stmt := topS 16
abbrev s__law_times : Stmt := topS 17
abbrev s__law_drawn : Stmt := topS 20
abbrev s__law_total : Stmt := topS 19
abbrev s_law : Stmt := topS 22
noncomputable def b_number : SF :=
  (sSeq (sSet 2 (eCall gGcd (aCons (eVar 0) (aCons (eVar 1) aNil))))
    (sSeq (sIf (tE (eBin gLt (eVar 1) (eC (.int 0)))) (sSet 2 (eUn gNeg (eVar 2))) sNext)
    (sRet (eTup (aCons (eBin gFdiv (eVar 0) (eVar 2)) (aCons (eBin gFdiv (eVar 1) (eVar 2)) aNil))))))
noncomputable abbrev m_number := fnD 3 2 b_number
noncomputable def b_compare : SF :=
  (sSeq (sSet 2 (eBin gMul (eBin gIx (eVar 0) (eC (.int 0))) (eBin gIx (eVar 1) (eC (.int 1)))))
    (sSeq (sSet 3 (eBin gMul (eBin gIx (eVar 1) (eC (.int 0))) (eBin gIx (eVar 0) (eC (.int 1)))))
    (sSeq (sIf (tE (eBin gLt (eVar 2) (eVar 3))) (sRet (eUn gNeg (eC (.int 1)))) sNext)
    (sSeq (sIf (tE (eBin gGt (eVar 2) (eVar 3))) (sRet (eC (.int 1))) sNext)
    (sRet (eC (.int 0)))))))
noncomputable abbrev m_compare := fnD 4 2 b_compare
noncomputable def b__law_draws : SF :=
  (sSeq (sSet 2 (eLc [6] (iS (eVar 0)) (gtName 6) tYesD (eVar 6)))
    (sSeq (sSet 3 (eLst aNil))
    (sSeq (sFor (iR1 (aCons (eVar 1) aNil)) (gtName 4) (sSeq (sSet 5 (eC (.int 0)))
    (sSeq (sIf (tE (eBin gGt (ePeek (eCall gLen (aCons (eVar 2) aNil))) (eC (.int 0)))) (sSeq (sSet 7 (eBin gMod (eCall gInt (aCons (eVar 4) aNil)) (ePeek (eCall gLen (aCons (eVar 2) aNil)))))
    (sIf (tE (eBin gGe (eIxO 2 (eVar 7)) (eBin gPow (eC (.int 10)) (eC (.int 18))))) (sSeq (sSet 5 (eBin gMod (eCall gInt (aCons (eIxO 2 (eVar 7)) aNil)) (eC (.int 1000))))
    (sPut 2 (eVar 7) (eBin gFdiv (eIxO 2 (eVar 7)) (eC (.int 1000))))) (sSeq (sSet 8 (eBin gMod (eCall gInt (aCons (eBin gAdd (eBin gAdd (eBin gMul (eIxO 2 (eVar 7)) (eC (.int 48271))) (eBin gMul (eVar 4) (eC (.int 69621)))) (eC (.int 11))) aNil)) (eC (.int 2147483647))))
    (sSeq (sSet 8 (eBin gMod (eCall gInt (aCons (eBin gAdd (eBin gMul (eVar 8) (eC (.int 16807))) (eVar 7)) aNil)) (eC (.int 2147483629))))
    (sSet 5 (eBin gMod (eCall gInt (aCons (eBin gFdiv (eVar 8) (eC (.int 7))) aNil)) (eC (.int 1000)))))))) sNext)
    (sAppend 3 (eVar 5)))))
    (sRetOwn 3))))
noncomputable abbrev m__law_draws := fnD 9 2 b__law_draws
noncomputable def b__law_gcd : SF :=
  (sSeq (sSet 0 (eCall gAbs (aCons (eVar 0) aNil)))
    (sSeq (sSet 1 (eCall gAbs (aCons (eVar 1) aNil)))
    (sSeq (sFor (iR1 (aCons (eC (.int 4000)) aNil)) (gtName 2) (sSeq (sIf (tE (eBin gEq (eVar 1) (eC (.int 0)))) sBreak sNext)
    (sSeq (sSet 3 (eBin gMod (eCall gInt (aCons (eVar 0) aNil)) (eVar 1)))
    (sSeq (sSet 0 (eVar 1))
    (sSet 1 (eVar 3))))))
    (sRet (eVar 0)))))
noncomputable abbrev m__law_gcd := fnD 4 2 b__law_gcd
noncomputable def b__law_less : SF :=
  (sRet (eBin gLt (eBin gMul (eBin gIx (eVar 0) (eC (.int 0))) (eBin gIx (eVar 1) (eC (.int 1)))) (eBin gMul (eBin gIx (eVar 1) (eC (.int 0))) (eBin gIx (eVar 0) (eC (.int 1))))))
noncomputable abbrev m__law_less := fnD 2 2 b__law_less
noncomputable def b_plus : SF :=
  (sRet (eCall m_number (aCons (eBin gAdd (eBin gMul (eBin gIx (eVar 0) (eC (.int 0))) (eBin gIx (eVar 1) (eC (.int 1)))) (eBin gMul (eBin gIx (eVar 1) (eC (.int 0))) (eBin gIx (eVar 0) (eC (.int 1))))) (aCons (eBin gMul (eBin gIx (eVar 0) (eC (.int 1))) (eBin gIx (eVar 1) (eC (.int 1)))) aNil))))
noncomputable abbrev m_plus := fnD 2 2 b_plus
noncomputable def b_minus : SF :=
  (sRet (eCall m_number (aCons (eBin gSub (eBin gMul (eBin gIx (eVar 0) (eC (.int 0))) (eBin gIx (eVar 1) (eC (.int 1)))) (eBin gMul (eBin gIx (eVar 1) (eC (.int 0))) (eBin gIx (eVar 0) (eC (.int 1))))) (aCons (eBin gMul (eBin gIx (eVar 0) (eC (.int 1))) (eBin gIx (eVar 1) (eC (.int 1)))) aNil))))
noncomputable abbrev m_minus := fnD 2 2 b_minus
noncomputable def b_times : SF :=
  (sRet (eCall m_number (aCons (eBin gMul (eBin gIx (eVar 0) (eC (.int 0))) (eBin gIx (eVar 1) (eC (.int 0)))) (aCons (eBin gMul (eBin gIx (eVar 0) (eC (.int 1))) (eBin gIx (eVar 1) (eC (.int 1)))) aNil))))
noncomputable abbrev m_times := fnD 2 2 b_times
noncomputable def b_divided : SF :=
  (sRet (eCall m_number (aCons (eBin gMul (eBin gIx (eVar 0) (eC (.int 0))) (eBin gIx (eVar 1) (eC (.int 1)))) (aCons (eBin gMul (eBin gIx (eVar 0) (eC (.int 1))) (eBin gIx (eVar 1) (eC (.int 0)))) aNil))))
noncomputable abbrev m_divided := fnD 2 2 b_divided
noncomputable def b__law_number : SF :=
  (sSeq (sIf (tE (eBin gLt (eVar 1) (eC (.int 0)))) (sSeq (sSet 0 (eUn gNeg (eVar 0)))
    (sSet 1 (eUn gNeg (eVar 1)))) sNext)
    (sSeq (sSet 2 (eCall m__law_gcd (aCons (eVar 0) (aCons (eVar 1) aNil))))
    (sRet (eTup (aCons (eBin gFdiv (eVar 0) (eVar 2)) (aCons (eBin gFdiv (eVar 1) (eVar 2)) aNil))))))
noncomputable abbrev m__law_number := fnD 3 2 b__law_number
noncomputable def b__law_is_number_1 : SF :=
  (sIf (tOrD (tNotD (tE (eIsi "int" (eVar 1)))) (tE (eIsi "bool" (eVar 1)))) (sRet (eC (.bool false))) sNext)
noncomputable def b__law_is_number : SF :=
  (sSeq (sIf (tOrD (tNotD (tE (eIsi "tuple" (eVar 0)))) (tE (eBin gNe (eCall gLen (aCons (eVar 0) aNil)) (eC (.int 2))))) (sRet (eC (.bool false))) sNext)
    (sSeq (sFor (iS (eVar 0)) (gtName 1) b__law_is_number_1)
    (sRet (eIf (tE (eBin gGe (eBin gIx (eVar 0) (eC (.int 1))) (eC (.int 1)))) (eBin gEq (eCall m__law_gcd (aCons (eBin gIx (eVar 0) (eC (.int 0))) (aCons (eBin gIx (eVar 0) (eC (.int 1))) aNil))) (eC (.int 1))) (eC (.bool false))))))
noncomputable abbrev m__law_is_number := fnD 2 1 b__law_is_number
noncomputable def b__law_order : SF :=
  (sSeq (sIf (tE (eCall m__law_less (aCons (eVar 0) (aCons (eVar 1) aNil)))) (sRet (eUn gNeg (eC (.int 1)))) sNext)
    (sSeq (sIf (tE (eCall m__law_less (aCons (eVar 1) (aCons (eVar 0) aNil)))) (sRet (eC (.int 1))) sNext)
    (sRet (eC (.int 0)))))
noncomputable abbrev m__law_order := fnD 2 2 b__law_order
noncomputable def b_total_1 : SF :=
  (sSet 1 (eCall m_plus (aCons (eVar 1) (aCons (eVar 2) aNil))))
noncomputable def b_total : SF :=
  (sSeq (sSet 1 (eTup (aCons (eC (.int 0)) (aCons (eC (.int 1)) aNil))))
    (sSeq (sFor (iS (eVar 0)) (gtName 2) b_total_1)
    (sRet (eVar 1))))
noncomputable abbrev m_total := fnD 3 1 b_total
noncomputable def b__law_is_numbers : SF :=
  (sRet (eIf (tE (eIsi "list" (eVar 0))) (eCall gAll (aCons (eLc [1] (iS (eVar 0)) (gtName 1) tYesD (eCall m__law_is_number (aCons (eVar 1) aNil))) aNil)) (eC (.bool false))))
noncomputable abbrev m__law_is_numbers := fnD 2 1 b__law_is_numbers
noncomputable def b__law_plus : SF :=
  (sRet (eCall m__law_number (aCons (eBin gAdd (eBin gMul (eBin gIx (eVar 0) (eC (.int 0))) (eBin gIx (eVar 1) (eC (.int 1)))) (eBin gMul (eBin gIx (eVar 1) (eC (.int 0))) (eBin gIx (eVar 0) (eC (.int 1))))) (aCons (eBin gMul (eBin gIx (eVar 0) (eC (.int 1))) (eBin gIx (eVar 1) (eC (.int 1)))) aNil))))
noncomputable abbrev m__law_plus := fnD 2 2 b__law_plus
noncomputable def b__law_times : SF :=
  (sRet (eCall m__law_number (aCons (eBin gMul (eBin gIx (eVar 0) (eC (.int 0))) (eBin gIx (eVar 1) (eC (.int 0)))) (aCons (eBin gMul (eBin gIx (eVar 0) (eC (.int 1))) (eBin gIx (eVar 1) (eC (.int 1)))) aNil))))
noncomputable abbrev m__law_times := fnD 2 2 b__law_times
noncomputable def b__law_drawn : SF :=
  (sSeq (sSet 1 (eBin gMod (eCall gInt (aCons (eBin gIx (eVar 0) (eC (.int 0))) aNil)) (eC (.int 8))))
    (sSeq (sIf (tE (eBin gEq (eVar 1) (eC (.int 7)))) (sSeq (sSet 2 (eBin gAdd (eBin gMul (eBin gAdd (eBin gMul (eBin gAdd (eBin gMul (eCall gInt (aCons (eBin gIx (eVar 0) (eC (.int 1))) aNil)) (eC (.int 1000))) (eCall gInt (aCons (eBin gIx (eVar 0) (eC (.int 2))) aNil))) (eC (.int 1000))) (eCall gInt (aCons (eBin gIx (eVar 0) (eC (.int 3))) aNil))) (eC (.int 1000))) (eCall gInt (aCons (eBin gIx (eVar 0) (eC (.int 4))) aNil))))
    (sSet 3 (eBin gAdd (eBin gAdd (eC (.int 1)) (eBin gMul (eBin gAdd (eBin gMul (eBin gAdd (eBin gMul (eCall gInt (aCons (eBin gIx (eVar 0) (eC (.int 5))) aNil)) (eC (.int 1000))) (eCall gInt (aCons (eBin gIx (eVar 0) (eC (.int 6))) aNil))) (eC (.int 1000))) (eCall gInt (aCons (eBin gIx (eVar 0) (eC (.int 7))) aNil))) (eC (.int 900)))) (eCall gInt (aCons (eBin gIx (eVar 0) (eC (.int 1))) aNil))))) (sSeq (sSet 2 (eBin gMod (eCall gInt (aCons (eBin gIx (eVar 0) (eC (.int 1))) aNil)) (eBin gAdd (eC (.int 4)) (eBin gMul (eC (.int 20)) (eVar 1)))))
    (sSet 3 (eBin gAdd (eC (.int 1)) (eBin gMod (eCall gInt (aCons (eBin gIx (eVar 0) (eC (.int 2))) aNil)) (eBin gAdd (eC (.int 1)) (eBin gMul (eC (.int 3)) (eBin gMod (eCall gInt (aCons (eVar 1) aNil)) (eC (.int 3))))))))))
    (sSeq (sIf (tE (eBin gEq (eBin gMod (eCall gInt (aCons (eBin gIx (eVar 0) (eC (.int 3))) aNil)) (eC (.int 2))) (eC (.int 1)))) (sSet 2 (eUn gNeg (eVar 2))) sNext)
    (sRet (eCall m__law_number (aCons (eVar 2) (aCons (eVar 3) aNil)))))))
noncomputable abbrev m__law_drawn := fnD 4 1 b__law_drawn
noncomputable def b__law_total_1 : SF :=
  (sSet 1 (eCall m__law_plus (aCons (eVar 1) (aCons (eVar 2) aNil))))
noncomputable def b__law_total : SF :=
  (sSeq (sSet 1 (eTup (aCons (eC (.int 0)) (aCons (eC (.int 1)) aNil))))
    (sSeq (sFor (iS (eVar 0)) (gtName 2) b__law_total_1)
    (sRet (eVar 1))))
noncomputable abbrev m__law_total := fnD 3 1 b__law_total
noncomputable def b_law_1 : SF :=
  (sSeq (sSet 11 (eCall m_compare (aCons (eVar 9) (aCons (eVar 10) aNil))))
    (sIf (tOrD (tE (eIsi "bool" (eVar 11))) (tOrD (tNotD (tE (eIsi "int" (eVar 11)))) (tE (eBin gNe (eVar 11) (eCall m__law_order (aCons (eVar 9) (aCons (eVar 10) aNil))))))) (sRet (eC (.bool false))) sNext))
noncomputable def b_law_2 : SF :=
  (sSeq (sSet 4 (eSlO 1 (oSome (eBin gMul (eC (.int 25)) (eVar 2))) (oSome (eBin gAdd (eBin gMul (eC (.int 25)) (eVar 2)) (eC (.int 25))))))
    (sSeq (sSet 5 (eCall m__law_drawn (aCons (eSlO 4 oNone (oSome (eC (.int 8)))) aNil)))
    (sSeq (sSet 6 (eCall m__law_drawn (aCons (eSlO 4 (oSome (eC (.int 8))) (oSome (eC (.int 16)))) aNil)))
    (sSeq (sIf (tE (eBin gEq (eBin gMod (eCall gInt (aCons (eIxO 4 (eC (.int 24))) aNil)) (eC (.int 4))) (eC (.int 0)))) (sSet 6 (eVar 5)) sNext)
    (sSeq (sIf (tE (eBin gEq (eBin gMod (eCall gInt (aCons (eIxO 4 (eC (.int 24))) aNil)) (eC (.int 4))) (eC (.int 1)))) (sSet 5 (eCall m__law_times (aCons (eVar 5) (aCons (eCall m__law_drawn (aCons (eSlO 4 (oSome (eC (.int 16))) (oSome (eC (.int 24)))) aNil)) aNil)))) sNext)
    (sSeq (sSet 7 (eLst (aCons (eCall m_plus (aCons (eVar 5) (aCons (eVar 6) aNil))) (aCons (eCall m_minus (aCons (eVar 5) (aCons (eVar 6) aNil))) (aCons (eCall m_times (aCons (eVar 5) (aCons (eVar 6) aNil))) aNil)))))
    (sSeq (sSet 8 (eLst (aCons (eCall m__law_plus (aCons (eVar 5) (aCons (eVar 6) aNil))) (aCons (eCall m__law_plus (aCons (eVar 5) (aCons (eTup (aCons (eUn gNeg (eBin gIx (eVar 6) (eC (.int 0)))) (aCons (eBin gIx (eVar 6) (eC (.int 1))) aNil))) aNil))) (aCons (eCall m__law_times (aCons (eVar 5) (aCons (eVar 6) aNil))) aNil)))))
    (sSeq (sIf (tE (eBin gNe (eBin gIx (eVar 6) (eC (.int 0))) (eC (.int 0)))) (sSeq (sAppend 7 (eCall m_divided (aCons (eVar 5) (aCons (eVar 6) aNil))))
    (sAppend 8 (eCall m__law_number (aCons (eBin gMul (eBin gIx (eVar 5) (eC (.int 0))) (eBin gIx (eVar 6) (eC (.int 1)))) (aCons (eBin gMul (eBin gIx (eVar 5) (eC (.int 1))) (eBin gIx (eVar 6) (eC (.int 0)))) aNil))))) sNext)
    (sSeq (sFrz 8 (sFrz 7 (sIf (tOrD (tNotD (tE (eCall m__law_is_numbers (aCons (eVar 7) aNil)))) (tE (eBin gNe (eVar 7) (eVar 8)))) (sRet (eC (.bool false))) sNext)))
    (sFor (iS (eLst (aCons (eTup (aCons (eVar 5) (aCons (eVar 6) aNil))) (aCons (eTup (aCons (eVar 6) (aCons (eVar 5) aNil))) (aCons (eTup (aCons (eVar 5) (aCons (eVar 5) aNil))) aNil))))) (gtTup2 9 10) b_law_1))))))))))
noncomputable def b_law : SF :=
  (sSeq (sSet 1 (eCall m__law_draws (aCons (eVar 0) (aCons (eC (.int 200)) aNil))))
    (sSeq (sFor (iR1 (aCons (eC (.int 8)) aNil)) (gtName 2) b_law_2)
    (sSeq (sSet 3 (eLc [2] (iR1 (aCons (eBin gMod (eCall gInt (aCons (eIxO 1 (eC (.int 199))) aNil)) (eC (.int 12))) aNil)) (gtName 2) tYesD (eCall m__law_drawn (aCons (eSlO 1 (oSome (eBin gMul (eC (.int 8)) (eVar 2))) (oSome (eBin gAdd (eBin gMul (eC (.int 8)) (eVar 2)) (eC (.int 8))))) aNil))))
    (sFrz 3 (sRet (eIf (tE (eBin gEq (eCall m_total (aCons (eCall gList (aCons (eVar 3) aNil)) aNil)) (eCall m__law_total (aCons (eVar 3) aNil)))) (eBin gEq (eCall m_total (aCons (eLst aNil) aNil)) (eTup (aCons (eC (.int 0)) (aCons (eC (.int 1)) aNil)))) (eC (.bool false))))))))
noncomputable abbrev m_law := fnD 12 1 b_law
end Law
namespace Dn
open PySem PySem.Spec PyProof.Rows L2
/-- n by d in lowest terms -/
def redN (n d : Int) : Int := (if d < 0 then -n else n) / gcdI n d
def redD (n d : Int) : Int := (if d < 0 then -d else d) / gcdI n d
def num (n d : Int) : PyData := .tuple [.int (redN n d), .int (redD n d)]
def Big (n : Int) : Prop := n.natAbs < 2 ^ 1900
theorem gcdI_pos {n d : Int} (h : d ≠ 0) : 0 < gcdI n d := by
  unfold gcdI
  have : 0 < Nat.gcd n.natAbs d.natAbs := Nat.gcd_pos_of_pos_right _ (by omega)
  omega
theorem gcdI_le {n d : Int} (h : d ≠ 0) : (gcdI n d).natAbs ≤ d.natAbs := by
  unfold gcdI
  have : Nat.gcd n.natAbs d.natAbs ≤ d.natAbs := Nat.gcd_le_right _ (by omega)
  omega
theorem gcdI_neg {n d : Int} : gcdI (-n) (-d) = gcdI n d := by
  unfold gcdI
  rw [Int.natAbs_neg, Int.natAbs_neg]
theorem gcdI_abs {n d : Int} : gcdI (if n < 0 then -n else n) (if d < 0 then -d else d) = gcdI n d := by
  unfold gcdI
  congr 2
  · split <;> simp
  · split <;> simp
theorem Big.div {n : Int} (h : Big n) : n.natAbs < divLim := Nat.lt_of_lt_of_le (show n.natAbs < 2 ^ 1900 from h) (Nat.pow_le_pow_right (by decide) (by decide))
theorem Big.mul {n : Int} (h : Big n) : n.natAbs < mulLim := divLim_mulLim h.div
theorem fd_gcd {i n d : Int} (h : d ≠ 0) (hb : Big d) : FdOk i (gcdI n d) := ⟨by have := gcdI_pos (n := n) h; omega, Nat.lt_of_le_of_lt (gcdI_le h) hb.div⟩
theorem gcdI_dvd_l {n d : Int} : gcdI n d ∣ n := by
  unfold gcdI
  exact Int.ofNat_dvd_left.mpr (Nat.gcd_dvd_left _ _)
theorem gcdI_dvd_r {n d : Int} : gcdI n d ∣ d := by
  unfold gcdI
  exact Int.ofNat_dvd_left.mpr (Nat.gcd_dvd_right _ _)
theorem redD_pos {n d : Int} (h : d ≠ 0) : 1 ≤ redD n d := by
  have hg := gcdI_pos (n := n) h
  have hd := gcdI_dvd_r (n := n) (d := d)
  unfold redD
  split
  · have := Int.le_of_dvd (by omega) (Int.dvd_neg.mpr hd)
    exact Int.le_ediv_of_mul_le hg (by omega)
  · have := Int.le_of_dvd (by omega) hd
    exact Int.le_ediv_of_mul_le hg (by omega)
theorem red_cop {n d : Int} (h : d ≠ 0) : gcdI (redN n d) (redD n d) = 1 := by
  have hg := gcdI_pos (n := n) h
  have key : ∀ a b : Int, b ≠ 0 → gcdI (a / gcdI a b) (b / gcdI a b) = 1 := fun a b hb => by
    have hg := gcdI_pos (n := a) hb
    have e1 : (a / gcdI a b).natAbs = a.natAbs / Nat.gcd a.natAbs b.natAbs := by
      rw [Int.natAbs_ediv_of_dvd gcdI_dvd_l]
      rfl
    have e2 : (b / gcdI a b).natAbs = b.natAbs / Nat.gcd a.natAbs b.natAbs := by
      rw [Int.natAbs_ediv_of_dvd gcdI_dvd_r]
      rfl
    show ((Nat.gcd (a / gcdI a b).natAbs (b / gcdI a b).natAbs : Nat) : Int) = 1
    have hp : 0 < Nat.gcd a.natAbs b.natAbs := Nat.gcd_pos_of_pos_right _ (by omega)
    rw [e1, e2, Nat.gcd_div (Nat.gcd_dvd_left _ _) (Nat.gcd_dvd_right _ _), Nat.div_self hp]
    rfl
  unfold redN redD
  split
  · have := key (-n) (-d) (by omega)
    rwa [gcdI_neg] at this
  · exact key n d h
theorem natAbs_ediv_le {a b : Int} : (a / b).natAbs ≤ a.natAbs := by
  exact Int.natAbs_ediv_le_natAbs a b
theorem redN_le {n d : Int} : (redN n d).natAbs ≤ n.natAbs := by
  unfold redN
  refine Nat.le_trans natAbs_ediv_le ?_
  split <;> omega
theorem redD_le {n d : Int} : (redD n d).natAbs ≤ d.natAbs := by
  unfold redD
  refine Nat.le_trans natAbs_ediv_le ?_
  split <;> omega
end Dn
namespace Law
open PySem PySem.Spec PyProof.Rows L2 Dn
/-! ### _law_gcd -/
theorem gcd_loop : ∀ (n : Nat) (lo a b : Int) (s2 s3 : Sl), 0 ≤ a → 0 ≤ b → ∃ s2' s3' b', forD (gtName 2) (sSeq (sIf (tE (eBin gEq (eVar 1) (eC (.int 0)))) sBreak sNext)
    (sSeq (sSet 3 (eBin gMod (eCall gInt (aCons (eVar 0) aNil)) (eVar 1)))
    (sSeq (sSet 0 (eVar 1))
    (sSet 1 (eVar 3))))) (intsFrom lo n) [.val (.int a), .val (.int b), s2, s3] = some (.nx [.val (.int (euc n a b)), .val (.int b'), s2', s3'])
  | 0, lo, a, b, s2, s3, ha, hb => ⟨s2, s3, b, rfl⟩
  | n + 1, lo, a, b, s2, s3, ha, hb => by
    by_cases h0 : b = 0
    · subst h0
      exact ⟨.val (.int lo), s3, 0, by simp [Dn.intsFrom, euc]⟩
    · have nz : NzOk a b := h0
      obtain ⟨s2', s3', b', ih⟩ := gcd_loop n (lo + 1) b (a % b) (.val (.int lo)) (.val (.int (a % b))) hb (Int.emod_nonneg a h0)
      refine ⟨s2', s3', b', ?_⟩
      have hm : a.fmod b = a % b := Int.fmod_eq_emod_of_nonneg a hb
      simp [Dn.intsFrom, euc, h0, nz, hm, ih]
theorem gcd_eq (a b : Int) (hb : Big b) : m__law_gcd [.int a, .int b] = some (.val (.int (gcdI a b))) := by
  unfold m__law_gcd
  rw [fnD_eq (by rfl)]
  have hr : InR 4000 := inR_of (by decide) (by decide)
  obtain ⟨s2', s3', b', h⟩ := gcd_loop 4000 0 (if a < 0 then -a else a) (if b < 0 then -b else b) .no .no (by split <;> omega) (by split <;> omega)
  rw [euc_gcd 1900 4000 _ _ (by split <;> omega) (by split <;> omega) (by
    have hb : b.natAbs < 2 ^ 1900 := hb
    have e : ((2 ^ 1900 : Nat) : Int) = (2 : Int) ^ 1900 := by norm_cast
    have : (if b < 0 then -b else b) = (b.natAbs : Int) := by split <;> omega
    rw [this, ← e]
    exact Int.ofNat_lt.mpr hb) (by decide), gcdI_abs] at h
  simp [b__law_gcd, hr, h]
theorem law_number_eq (n d : Int) (hd : d ≠ 0) (hb : Big d) : m__law_number [.int n, .int d] = some (.val (num n d)) := by
  unfold m__law_number
  rw [fnD_eq (by rfl)]
  have g := gcdI_pos (n := n) hd
  have f1 : ∀ i, FdOk i (gcdI n d) := fun i => fd_gcd hd hb
  have hb' : Big (-d) := by unfold Big at *; rwa [Int.natAbs_neg]
  by_cases h : d < 0
  · simp [b__law_number, h, gcd_eq _ _ hb', gcdI_neg, f1, num, redN, redD, fdiv_pos g]
  · simp [b__law_number, h, gcd_eq _ _ hb, f1, num, redN, redD, fdiv_pos g]
theorem number_eq (n d : Int) (hd : d ≠ 0) (hb : Big d) : m_number [.int n, .int d] = some (.val (num n d)) := by
  unfold m_number
  rw [fnD_eq (by rfl)]
  have g := gcdI_pos (n := n) hd
  have f1 : ∀ i, FdOk i (gcdI n d) := fun i => fd_gcd hd hb
  have f2 : ∀ i, FdOk i (-gcdI n d) := fun i => ⟨by omega, by rw [Int.natAbs_neg]; exact Nat.lt_of_le_of_lt (gcdI_le hd) hb.div⟩
  have e : ((n.natAbs.gcd d.natAbs : Nat) : Int) = gcdI n d := rfl
  have q : ∀ i : Int, i.fdiv (-gcdI n d) = (-i) / gcdI n d := fun i => by
    rw [← Int.neg_neg i, Int.neg_fdiv_neg, Int.neg_neg, fdiv_pos g]
  by_cases h : d < 0
  · simp [b_number, h, e, f2, num, redN, redD, q]
  · simp [b_number, h, e, f1, num, redN, redD, fdiv_pos g]
end Law
namespace Dn
open PySem PySem.Spec PyProof.Rows L2
def isNumD : PyData → Bool
  | .tuple [.int n, .int d] => decide (1 ≤ d) && decide (gcdI n d = 1)
  | _ => false
def isShortD : PyData → Bool
  | .tuple [.int n, .int d] => isNumD (.tuple [.int n, .int d]) && (decide ((if n < 0 then -n else n) < 1000) && decide (d < 1000))
  | _ => false
/-- its second part is no giant -/
def Vb : PyData → Prop
  | .tuple [.int _, .int d] => Big d
  | _ => True
def isW : PyData → Bool
  | .int _ => true
  | _ => false
theorem isNum_num {n d : Int} (h : d ≠ 0) : isNumD (num n d) = true := by
  show (decide (1 ≤ redD n d) && decide (gcdI (redN n d) (redD n d) = 1)) = true
  rw [red_cop h]
  simp [redD_pos h]
theorem and_if (a b : Bool) : (if a = true then (some (R.val (.bool b))) else some (R.val (.bool false))) = some (R.val (.bool (a && b))) := by cases a <;> rfl
end Dn
namespace Law
open PySem PySem.Spec PyProof.Rows L2 Dn
theorem law_is_number_eq (v : PyData) (hv : Vb v) : m__law_is_number [v] = some (.val (.bool (isNumD v))) := by
  unfold m__law_is_number
  rw [fnD_eq (by rfl)]
  cases v with
  | tuple xs =>
    rcases xs with _ | ⟨a, _ | ⟨b, _ | ⟨c, r⟩⟩⟩
    · simp [b__law_is_number, b__law_is_number_1, isNumD]
    · simp [b__law_is_number, b__law_is_number_1, isNumD]
    · have i0 : ∀ x y : PyData, atI [x, y] 0 = some x := fun x y => rfl
      have i1 : ∀ x y : PyData, atI [x, y] 1 = some y := fun x y => rfl
      cases a with
      | int n =>
        cases b with
        | int d =>
          have g := gcd_eq n d hv
          by_cases h : 1 ≤ d
          · simp [b__law_is_number, b__law_is_number_1, isNumD, h, i0, i1, g]
          · simp [b__law_is_number, b__law_is_number_1, isNumD, h, i0, i1]
        | _ => simp [b__law_is_number, b__law_is_number_1, isNumD]
      | _ => simp [b__law_is_number, b__law_is_number_1, isNumD]
    · simp [b__law_is_number, b__law_is_number_1, isNumD, show ((r.length : Int) + 1 + 1 + 1 ≠ 2) by omega]
  | _ => simp [b__law_is_number, b__law_is_number_1, isNumD]
end Law
namespace Dn
open PySem PySem.Spec PyProof.Rows L2
/-- a number of the drawn kind -/
def Sm (v : PyData) (n d : Int) : Prop := v = num n d ∧ 1 ≤ d ∧ d < 10 ^ 13 ∧ n.natAbs < 10 ^ 13
theorem at_ints {ds : List Int} (hb : ∀ d ∈ ds, 0 ≤ d ∧ d < 1000) {k : Int} (h0 : 0 ≤ k) (h1 : k < ds.length) : ∃ x : Int, atI (ds.map PyData.int) k = some (.int x) ∧ 0 ≤ x ∧ x < 1000 := by
  have hk : k.toNat < ds.length := by omega
  refine ⟨ds[k.toNat], atI_nat' h0 (by rw [List.getElem?_map, List.getElem?_eq_getElem hk]; rfl), hb _ (List.getElem_mem hk)⟩
theorem big_of {n : Int} (h : n.natAbs < 2 ^ 200) : Big n := Nat.lt_of_lt_of_le h (Nat.pow_le_pow_right (by decide) (by decide))
end Dn
namespace Law
open PySem PySem.Spec PyProof.Rows L2 Dn
theorem drawn_eq (ds : List Int) (hb : ∀ d ∈ ds, 0 ≤ d ∧ d < 1000) (hl : 8 ≤ ds.length) : ∃ n d, m__law_drawn [.list (ds.map .int)] = some (.val (num n d)) ∧ 1 ≤ d ∧ d < 10 ^ 13 ∧ n.natAbs < 10 ^ 13 := by
  obtain ⟨x0, h0, a0, b0⟩ := at_ints hb (k := 0) (by decide) (by omega)
  obtain ⟨x1, h1, a1, b1⟩ := at_ints hb (k := 1) (by decide) (by omega)
  obtain ⟨x2, h2, a2, b2⟩ := at_ints hb (k := 2) (by decide) (by omega)
  obtain ⟨x3, h3, a3, b3⟩ := at_ints hb (k := 3) (by decide) (by omega)
  obtain ⟨x4, h4, a4, b4⟩ := at_ints hb (k := 4) (by decide) (by omega)
  obtain ⟨x5, h5, a5, b5⟩ := at_ints hb (k := 5) (by decide) (by omega)
  obtain ⟨x6, h6, a6, b6⟩ := at_ints hb (k := 6) (by decide) (by omega)
  obtain ⟨x7, h7, a7, b7⟩ := at_ints hb (k := 7) (by decide) (by omega)
  have n8 : ∀ i, NzOk i 8 := fun i => by unfold NzOk; decide
  have n2 : ∀ i, NzOk i 2 := fun i => by unfold NzOk; decide
  have n3 : ∀ i, NzOk i 3 := fun i => by unfold NzOk; decide
  have m1 : ∀ i, Dn.MulOk i 1000 := fun i => mul_r (by decide)
  have m2 : ∀ i, Dn.MulOk i 900 := fun i => mul_r (by decide)
  have m3 : ∀ i, Dn.MulOk 20 i := fun i => mul_l (by decide)
  have m4 : ∀ i, Dn.MulOk 3 i := fun i => mul_l (by decide)
  have f8 : x0.fmod 8 = x0 % 8 := fmod_pos (by decide)
  have f2 : x3.fmod 2 = x3 % 2 := fmod_pos (by decide)
  have f3 : (x0 % 8).fmod 3 = (x0 % 8) % 3 := fmod_pos (by decide)
  by_cases k7 : x0 % 8 = 7
  · have hd : (1 + ((x5 * 1000 + x6) * 1000 + x7) * 900 + x1) ≠ 0 := by omega
    have hB : Big (1 + ((x5 * 1000 + x6) * 1000 + x7) * 900 + x1) := big_of (by omega)
    by_cases k2 : x3 % 2 = 1
    · refine ⟨-(((x1 * 1000 + x2) * 1000 + x3) * 1000 + x4), 1 + ((x5 * 1000 + x6) * 1000 + x7) * 900 + x1, ?_, by omega, by omega, by omega⟩
      unfold m__law_drawn
      rw [fnD_eq (by rfl)]
      simp [b__law_drawn, h0, h1, h2, h3, h4, h5, h6, h7, n8, n2, m1, m2, f8, f2, k7, k2, law_number_eq _ _ hd hB]
    · refine ⟨(((x1 * 1000 + x2) * 1000 + x3) * 1000 + x4), 1 + ((x5 * 1000 + x6) * 1000 + x7) * 900 + x1, ?_, by omega, by omega, by omega⟩
      unfold m__law_drawn
      rw [fnD_eq (by rfl)]
      simp [b__law_drawn, h0, h1, h2, h3, h4, h5, h6, h7, n8, n2, m1, m2, f8, f2, k7, k2, law_number_eq _ _ hd hB]
  · have p1 : (0 : Int) < 4 + 20 * (x0 % 8) := by omega
    have p2 : (0 : Int) < 1 + 3 * (x0 % 8 % 3) := by omega
    have z1 : ∀ i, NzOk i (4 + 20 * (x0 % 8)) := fun i => by unfold NzOk; omega
    have z2 : ∀ i, NzOk i (1 + 3 * (x0 % 8 % 3)) := fun i => by unfold NzOk; omega
    have q1 : x1.fmod (4 + 20 * (x0 % 8)) = x1 % (4 + 20 * (x0 % 8)) := fmod_pos p1
    have q2 : x2.fmod (1 + 3 * (x0 % 8 % 3)) = x2 % (1 + 3 * (x0 % 8 % 3)) := fmod_pos p2
    have r1 := Int.emod_nonneg x1 (show 4 + 20 * (x0 % 8) ≠ 0 by omega)
    have r2 := Int.emod_lt_of_pos x1 p1
    have r3 := Int.emod_nonneg x2 (show 1 + 3 * (x0 % 8 % 3) ≠ 0 by omega)
    have r4 := Int.emod_lt_of_pos x2 p2
    have hd : 1 + x2 % (1 + 3 * (x0 % 8 % 3)) ≠ 0 := by omega
    have hB : Big (1 + x2 % (1 + 3 * (x0 % 8 % 3))) := big_of (by omega)
    by_cases k2 : x3 % 2 = 1
    · refine ⟨-(x1 % (4 + 20 * (x0 % 8))), 1 + x2 % (1 + 3 * (x0 % 8 % 3)), ?_, by omega, by omega, by omega⟩
      unfold m__law_drawn
      rw [fnD_eq (by rfl)]
      simp [b__law_drawn, h0, h1, h2, h3, n8, n2, n3, m3, m4, f8, f2, f3, k7, k2, z1, z2, q1, q2, law_number_eq _ _ hd hB]
    · refine ⟨x1 % (4 + 20 * (x0 % 8)), 1 + x2 % (1 + 3 * (x0 % 8 % 3)), ?_, by omega, by omega, by omega⟩
      unfold m__law_drawn
      rw [fnD_eq (by rfl)]
      simp [b__law_drawn, h0, h1, h2, h3, n8, n2, n3, m3, m4, f8, f2, f3, k7, k2, z1, z2, q1, q2, law_number_eq _ _ hd hB]
end Law
namespace Law
open PySem PySem.Spec PyProof.Rows L2 Dn
/-! ### _law_draws: so many ints from 0 to 999 -/
abbrev dst (ns : List Int) (c : Int) (rests draws : List Int) (s4 s5 s7 s8 : Sl) : En := [.val (.list (ns.map .int)), .val (.int c), .own (rests.map .int), .own (draws.map .int), s4, s5, .no, s7, s8]
def DrawsAt (ns : List Int) (c : Int) (i : Nat) (env : En) : Prop := ∃ (rests draws : List Int) (s4 s5 s7 s8 : Sl), env = dst ns c rests draws s4 s5 s7 s8 ∧ rests.length = ns.length ∧ draws.length = i ∧ i ≤ 1000 ∧ ∀ d ∈ draws, 0 ≤ d ∧ d < 1000
theorem draws_turn {ns : List Int} {c : Int} {i : Nat} {env : En} {x : Int} (hi : i < 1000) (hx : x = i) (h : DrawsAt ns c i env) :
    ∃ e2, (sSeq (sSet 5 (eC (.int 0)))
    (sSeq (sIf (tE (eBin gGt (ePeek (eCall gLen (aCons (eVar 2) aNil))) (eC (.int 0)))) (sSeq (sSet 7 (eBin gMod (eCall gInt (aCons (eVar 4) aNil)) (ePeek (eCall gLen (aCons (eVar 2) aNil)))))
    (sIf (tE (eBin gGe (eIxO 2 (eVar 7)) (eBin gPow (eC (.int 10)) (eC (.int 18))))) (sSeq (sSet 5 (eBin gMod (eCall gInt (aCons (eIxO 2 (eVar 7)) aNil)) (eC (.int 1000))))
    (sPut 2 (eVar 7) (eBin gFdiv (eIxO 2 (eVar 7)) (eC (.int 1000))))) (sSeq (sSet 8 (eBin gMod (eCall gInt (aCons (eBin gAdd (eBin gAdd (eBin gMul (eIxO 2 (eVar 7)) (eC (.int 48271))) (eBin gMul (eVar 4) (eC (.int 69621)))) (eC (.int 11))) aNil)) (eC (.int 2147483647))))
    (sSeq (sSet 8 (eBin gMod (eCall gInt (aCons (eBin gAdd (eBin gMul (eVar 8) (eC (.int 16807))) (eVar 7)) aNil)) (eC (.int 2147483629))))
    (sSet 5 (eBin gMod (eCall gInt (aCons (eBin gFdiv (eVar 8) (eC (.int 7))) aNil)) (eC (.int 1000)))))))) sNext)
    (sAppend 3 (eVar 5)))) (env.set 4 (.val (.int x))) = some (.nx e2) ∧ DrawsAt ns c (i + 1) e2 := by
  obtain ⟨rests, draws, s4, s5, s7, s8, rfl, hr, hd, hi2, hb⟩ := h
  have f1 : ∀ j, FdOk j 1000 := fun j => fd_small (by decide) (by decide)
  have f2 : ∀ j, FdOk j 7 := fun j => fd_small (by decide) (by decide)
  have m1 : ∀ j, Dn.MulOk j 48271 := fun j => mul_r (by decide)
  have m2 : ∀ j, Dn.MulOk j 69621 := fun j => mul_r (by decide)
  have m3 : ∀ j, Dn.MulOk j 16807 := fun j => mul_r (by decide)
  have n1 : ∀ j, NzOk j 1000 := fun j => by unfold NzOk; decide
  have n2 : ∀ j, NzOk j 2147483647 := fun j => by unfold NzOk; decide
  have n3 : ∀ j, NzOk j 2147483629 := fun j => by unfold NzOk; decide
  have pw : PowOk 10 18 := by unfold PowOk; decide
  have hp : (10 : Int) ^ (18 : Int).toNat = 1000000000000000000 := by decide
  have app : ∀ v : Int, 0 ≤ v → v < 1000 → ∀ d ∈ draws ++ [v], 0 ≤ d ∧ d < 1000 := fun v h0 h1 d hm => by
    rcases List.mem_append.mp hm with q | q
    · exact hb d q
    · rw [List.mem_singleton.mp q]
      exact ⟨h0, h1⟩
  by_cases hl : rests.length = 0
  · have hn : ns.length = 0 := by omega
    have e : rests = [] := List.eq_nil_of_length_eq_zero hl
    subst e
    refine ⟨dst ns c ([]) (draws ++ [0]) (.val (.int x)) (.val (.int 0)) (s7) (s8), ?_, ⟨[], draws ++ [0], .val (.int x), .val (.int 0), s7, s8, rfl, hr, by simp [hd], by omega, app 0 (by decide) (by decide)⟩⟩
    simp [fits (show draws.length + 1 ≤ 100000 by omega)]
  · have hpos : (0 : Int) < rests.length := by omega
    have nz : ∀ j, NzOk j (rests.length : Int) := fun j => by unfold NzOk; omega
    have a0 := Int.emod_nonneg x (show (rests.length : Int) ≠ 0 by omega)
    have a1 := Int.emod_lt_of_pos x hpos
    generalize ha : x % (rests.length : Int) = at_ at a0 a1
    have hat : at_.toNat < rests.length := by omega
    obtain ⟨v, hv⟩ : ∃ v, rests[at_.toNat]? = some v := ⟨_, List.getElem?_eq_getElem hat⟩
    have hv2 : atI (rests.map PyData.int) at_ = some (.int v) := atI_nat' a0 (by rw [List.getElem?_map, hv]; rfl)
    have hx2 : ixN rests.length at_ = some at_.toNat := ixN_nat a0 a1
    have fm : x.fmod (rests.length : Int) = at_ := by rw [fmod_pos hpos, ha]
    by_cases hg : 1000000000000000000 ≤ v
    · refine ⟨dst ns c (rests.set at_.toNat (v.fdiv 1000)) (draws ++ [v.fmod 1000]) (.val (.int x)) (.val (.int (v.fmod 1000))) (.val (.int at_)) (s8), ?_, ⟨rests.set at_.toNat (v.fdiv 1000), draws ++ [v.fmod 1000], .val (.int x), .val (.int (v.fmod 1000)), .val (.int at_), s8, rfl, by simp [hr], by simp [hd], by omega, app _ (by rw [fmod_pos (by decide)]; exact Int.emod_nonneg _ (by decide)) (by rw [fmod_pos (by decide)]; exact Int.emod_lt_of_pos _ (by decide))⟩⟩
      simp [hl, hpos, show 0 < rests.length by omega, nz, fm, hv2, hx2, pw, hp, hg, n1, f1, fits (show draws.length + 1 ≤ 100000 by omega), List.map_set]
    · refine ⟨dst ns c (rests) (draws ++ [((((v * 48271 + x * 69621 + 11).fmod 2147483647 * 16807 + at_).fmod 2147483629).fdiv 7).fmod 1000]) (.val (.int x)) (.val (.int (((((v * 48271 + x * 69621 + 11).fmod 2147483647 * 16807 + at_).fmod 2147483629).fdiv 7).fmod 1000))) (.val (.int at_)) (.val (.int (((v * 48271 + x * 69621 + 11).fmod 2147483647 * 16807 + at_).fmod 2147483629))), ?_, ⟨rests, draws ++ [((((v * 48271 + x * 69621 + 11).fmod 2147483647 * 16807 + at_).fmod 2147483629).fdiv 7).fmod 1000], .val (.int x), .val (.int (((((v * 48271 + x * 69621 + 11).fmod 2147483647 * 16807 + at_).fmod 2147483629).fdiv 7).fmod 1000)), .val (.int at_), .val (.int (((v * 48271 + x * 69621 + 11).fmod 2147483647 * 16807 + at_).fmod 2147483629)), rfl, hr, by simp [hd], by omega, app _ (by rw [fmod_pos (by decide)]; exact Int.emod_nonneg _ (by decide)) (by rw [fmod_pos (by decide)]; exact Int.emod_lt_of_pos _ (by decide))⟩⟩
      simp [hl, hpos, show 0 < rests.length by omega, nz, fm, hv2, hx2, pw, hp, hg, n1, n2, n3, f1, f2, m1, m2, m3, fits (show draws.length + 1 ≤ 100000 by omega)]
theorem draws_eq (ns : List Int) (hns : ns.length ≤ 63) (c : Nat) (hc : c ≤ 1000) : ∃ ds : List Int, m__law_draws [.list (ns.map .int), .int c] = some (.own (ds.map .int)) ∧ ds.length = c ∧ ∀ d ∈ ds, 0 ≤ d ∧ d < 1000 := by
  have h1 : lcD [6] (gtName 6) tYesD (eVar 6) [.val (.list (ns.map .int)), .val (.int c), .no, .no, .no, .no, .no, .no, .no] (ns.map .int) = some (ns.map .int) := by
    have := lcD_map (vs := [6]) (g := gtName 6) (c := tYesD) (f := eVar 6) (env := [.val (.list (ns.map .int)), .val (.int c), .no, .no, .no, .no, .no, .no, .no]) (fun d => d) (ds := ns.map .int) fun d _ => ⟨_, .val d, rfl, rfl, by simp, rfl⟩
    rwa [List.map_id'] at this
  have h0 : DrawsAt ns c 0 [.val (.list (ns.map .int)), .val (.int c), .own (ns.map .int), .own (([] : List Int).map .int), .no, .no, .no, .no, .no] := ⟨ns, [], .no, .no, .no, .no, rfl, rfl, rfl, by omega, fun d h => by cases h⟩
  obtain ⟨e, he, hP⟩ := forD_inv (g := gtName 4) (ds := intsFrom 0 c) (DrawsAt ns c) (fun i env d p hd => by
    obtain ⟨hi, rfl⟩ := intsFrom_at hd
    obtain ⟨e2, h3, h4⟩ := draws_turn (x := 0 + i) (by omega) (by omega) p
    exact ⟨_, e2, rfl, h3, h4⟩) h0
  rw [intsFrom_len] at hP
  obtain ⟨rests, draws, s4, s5, s7, s8, rfl, hr, hd, _, hb⟩ := hP
  refine ⟨draws, ?_, hd, hb⟩
  have hcr : InR (c : Int) := inR_of (by omega) (by omega)
  unfold m__law_draws
  rw [fnD_eq (by rfl)]
  have f1 : Fits ns.length := fits (by omega)
  simp at he
  simp [b__law_draws, h1, f1, hcr, he]
end Law
namespace Dn
open PySem PySem.Spec PyProof.Rows L2
/-- below 2 ^ k in size -/
def Bd (k : Nat) (x : Int) : Prop := x.natAbs < 2 ^ k
theorem Bd.mono {j k : Nat} {x : Int} (h : Bd j x) (e : j ≤ k) : Bd k x := Nat.lt_of_lt_of_le h (Nat.pow_le_pow_right (by decide) e)
theorem Bd.mul {j k : Nat} {x y : Int} (h : Bd j x) (g : Bd k y) : Bd (j + k) (x * y) := by
  unfold Bd at *
  rw [Int.natAbs_mul, Nat.pow_add]
  exact Nat.mul_lt_mul'' h g
theorem Bd.add {k : Nat} {x y : Int} (h : Bd k x) (g : Bd k y) : Bd (k + 1) (x + y) := by
  unfold Bd at *
  rw [Nat.pow_succ]
  omega
theorem Bd.neg {k : Nat} {x : Int} (h : Bd k x) : Bd k (-x) := by
  unfold Bd at *
  rwa [Int.natAbs_neg]
theorem Bd.sub {k : Nat} {x y : Int} (h : Bd k x) (g : Bd k y) : Bd (k + 1) (x - y) := by
  rw [Int.sub_eq_add_neg]
  exact h.add g.neg
theorem Bd.big {k : Nat} {x : Int} (h : Bd k x) (e : k ≤ 1900 := by omega) : Big x := h.mono e
theorem Bd.redN {k : Nat} {n d : Int} (h : Bd k n) : Bd k (redN n d) := Nat.lt_of_le_of_lt redN_le h
theorem Bd.redD {k : Nat} {n d : Int} (h : Bd k d) : Bd k (redD n d) := Nat.lt_of_le_of_lt redD_le h
theorem mul_b {x y : Int} {j k : Nat} (h : Bd j x) (g : Bd k y) (ej : j ≤ 1900 := by omega) (ek : k ≤ 1900 := by omega) : Dn.MulOk x y := mul_w (h.big ej).mul (g.big ek).mul
/-- a number as a tuple -/
abbrev q (n d : Int) : PyData := .tuple [.int n, .int d]
theorem num_q {n d : Int} : num n d = q (redN n d) (redD n d) := rfl
/-- a number with a size -/
def Nb (k : Nat) (v : PyData) : Prop := ∃ n d, v = q n d ∧ 1 ≤ d ∧ Bd k n ∧ Bd k d
theorem Nb.num {k : Nat} {n d : Int} (h : d ≠ 0) (hn : Bd k n) (hd : Bd k d) : Nb k (num n d) := ⟨_, _, rfl, redD_pos h, hn.redN, hd.redD⟩
theorem Nb.mono {j k : Nat} {v : PyData} (h : Nb j v) (e : j ≤ k) : Nb k v := by
  obtain ⟨n, d, e1, h1, h2, h3⟩ := h
  exact ⟨n, d, e1, h1, h2.mono e, h3.mono e⟩
theorem atq0 {n d : Int} : atI [PyData.int n, PyData.int d] 0 = some (.int n) := rfl
theorem atq1 {n d : Int} : atI [PyData.int n, PyData.int d] 1 = some (.int d) := rfl
theorem isNum_num' {n d : Int} (h : d ≠ 0) : isNumD (.tuple [.int (redN n d), .int (redD n d)]) = true := isNum_num h
theorem bd44 {n : Int} (h : n.natAbs < 10 ^ 13) : Bd 44 n := by
  unfold Bd
  omega
end Dn
namespace Law
open PySem PySem.Spec PyProof.Rows L2 Dn
theorem drawn_nb (ds : List Int) (hb : ∀ d ∈ ds, 0 ≤ d ∧ d < 1000) (hl : 8 ≤ ds.length) : ∃ v, m__law_drawn [.list (ds.map .int)] = some (.val v) ∧ Nb 44 v := by
  obtain ⟨n, d, e, h1, h2, h3⟩ := drawn_eq ds hb hl
  exact ⟨_, e, Nb.num (by omega) (bd44 h3) (bd44 (by omega))⟩
section
variable {a b c d : Int} {k : Nat}
theorem plus_eq (ha : Bd k a) (hb : Bd k b) (hc : Bd k c) (hd : Bd k d) (hk : k ≤ 900) (p1 : 1 ≤ b) (p2 : 1 ≤ d) : m_plus [q a b, q c d] = some (.val (num (a * d + c * b) (b * d))) := by
  unfold m_plus
  rw [fnD_eq (by rfl)]
  have m1 : Dn.MulOk a d := mul_b ha hd
  have m2 : Dn.MulOk c b := mul_b hc hb
  have m3 : Dn.MulOk b d := mul_b hb hd
  have e := number_eq (a * d + c * b) (b * d) (Int.mul_ne_zero (by omega) (by omega)) ((hb.mul hd).big)
  simp [b_plus, atq0, atq1, m1, m2, m3, e]
theorem minus_eq (ha : Bd k a) (hb : Bd k b) (hc : Bd k c) (hd : Bd k d) (hk : k ≤ 900) (p1 : 1 ≤ b) (p2 : 1 ≤ d) : m_minus [q a b, q c d] = some (.val (num (a * d - c * b) (b * d))) := by
  unfold m_minus
  rw [fnD_eq (by rfl)]
  have m1 : Dn.MulOk a d := mul_b ha hd
  have m2 : Dn.MulOk c b := mul_b hc hb
  have m3 : Dn.MulOk b d := mul_b hb hd
  have e := number_eq (a * d - c * b) (b * d) (Int.mul_ne_zero (by omega) (by omega)) ((hb.mul hd).big)
  simp [b_minus, atq0, atq1, m1, m2, m3, e]
theorem times_eq (ha : Bd k a) (hb : Bd k b) (hc : Bd k c) (hd : Bd k d) (hk : k ≤ 900) (p1 : 1 ≤ b) (p2 : 1 ≤ d) : m_times [q a b, q c d] = some (.val (num (a * c) (b * d))) := by
  unfold m_times
  rw [fnD_eq (by rfl)]
  have m1 : Dn.MulOk a c := mul_b ha hc
  have m3 : Dn.MulOk b d := mul_b hb hd
  have e := number_eq (a * c) (b * d) (Int.mul_ne_zero (by omega) (by omega)) ((hb.mul hd).big)
  simp [b_times, atq0, atq1, m1, m3, e]
theorem divided_eq (ha : Bd k a) (hb : Bd k b) (hc : Bd k c) (hd : Bd k d) (hk : k ≤ 900) (p1 : 1 ≤ b) (p2 : 1 ≤ d) (p3 : c ≠ 0) : m_divided [q a b, q c d] = some (.val (num (a * d) (b * c))) := by
  unfold m_divided
  rw [fnD_eq (by rfl)]
  have m1 : Dn.MulOk a d := mul_b ha hd
  have m3 : Dn.MulOk b c := mul_b hb hc
  have e := number_eq (a * d) (b * c) (Int.mul_ne_zero (by omega) (by omega)) ((hb.mul hc).big)
  simp [b_divided, atq0, atq1, m1, m3, e]
theorem law_plus_eq (ha : Bd k a) (hb : Bd k b) (hc : Bd k c) (hd : Bd k d) (hk : k ≤ 900) (p1 : 1 ≤ b) (p2 : 1 ≤ d) : m__law_plus [q a b, q c d] = some (.val (num (a * d + c * b) (b * d))) := by
  unfold m__law_plus
  rw [fnD_eq (by rfl)]
  have m1 : Dn.MulOk a d := mul_b ha hd
  have m2 : Dn.MulOk c b := mul_b hc hb
  have m3 : Dn.MulOk b d := mul_b hb hd
  have e := law_number_eq (a * d + c * b) (b * d) (Int.mul_ne_zero (by omega) (by omega)) ((hb.mul hd).big)
  simp [b__law_plus, atq0, atq1, m1, m2, m3, e]
theorem law_times_eq (ha : Bd k a) (hb : Bd k b) (hc : Bd k c) (hd : Bd k d) (hk : k ≤ 900) (p1 : 1 ≤ b) (p2 : 1 ≤ d) : m__law_times [q a b, q c d] = some (.val (num (a * c) (b * d))) := by
  unfold m__law_times
  rw [fnD_eq (by rfl)]
  have m1 : Dn.MulOk a c := mul_b ha hc
  have m3 : Dn.MulOk b d := mul_b hb hd
  have e := law_number_eq (a * c) (b * d) (Int.mul_ne_zero (by omega) (by omega)) ((hb.mul hd).big)
  simp [b__law_times, atq0, atq1, m1, m3, e]
def cmpI (x y : Int) : Int := if x < y then -1 else if y < x then 1 else 0
theorem compare_eq (ha : Bd k a) (hb : Bd k b) (hc : Bd k c) (hd : Bd k d) (hk : k ≤ 900) : m_compare [q a b, q c d] = some (.val (.int (cmpI (a * d) (c * b)))) := by
  unfold m_compare
  rw [fnD_eq (by rfl)]
  have m1 : Dn.MulOk a d := mul_b ha hd
  have m2 : Dn.MulOk c b := mul_b hc hb
  by_cases h1 : a * d < c * b
  · simp [b_compare, atq0, atq1, m1, m2, h1, cmpI]
  · by_cases h2 : c * b < a * d
    · simp [b_compare, atq0, atq1, m1, m2, h1, h2, cmpI]
    · simp [b_compare, atq0, atq1, m1, m2, h1, h2, cmpI]
theorem law_less_eq (ha : Bd k a) (hb : Bd k b) (hc : Bd k c) (hd : Bd k d) (hk : k ≤ 900) : m__law_less [q a b, q c d] = some (.val (.bool (decide (a * d < c * b)))) := by
  unfold m__law_less
  rw [fnD_eq (by rfl)]
  have m1 : Dn.MulOk a d := mul_b ha hd
  have m2 : Dn.MulOk c b := mul_b hc hb
  simp [b__law_less, atq0, atq1, m1, m2]
theorem law_order_eq (ha : Bd k a) (hb : Bd k b) (hc : Bd k c) (hd : Bd k d) (hk : k ≤ 900) : m__law_order [q a b, q c d] = some (.val (.int (cmpI (a * d) (c * b)))) := by
  unfold m__law_order
  rw [fnD_eq (by rfl)]
  have e1 := law_less_eq ha hb hc hd hk
  have e2 := law_less_eq hc hd ha hb hk
  by_cases h1 : a * d < c * b
  · simp [b__law_order, e1, h1, cmpI]
  · by_cases h2 : c * b < a * d
    · simp [b__law_order, e1, e2, h1, h2, cmpI]
    · simp [b__law_order, e1, e2, h1, h2, cmpI]
end
end Law
namespace Dn
open PySem PySem.Spec PyProof.Rows L2
theorem map_sx {ds : List Int} {lo hi : Option Int} : sxD (ds.map PyData.int) lo hi = (((ds.drop (HT.sIx ds.length 0 lo)).take (HT.sIx ds.length ds.length hi - HT.sIx ds.length 0 lo))).map PyData.int := by
  unfold sxD
  rw [List.length_map, List.map_take, List.map_drop]
theorem sx_nat {ds : List Int} {a b : Nat} (ha : a ≤ b) (hb : b ≤ ds.length) : sxD (ds.map PyData.int) (some (a : Int)) (some (b : Int)) = ((ds.drop a).take (b - a)).map PyData.int := by
  rw [map_sx, HT.sIx_nat, HT.sIx_nat, Nat.min_eq_left hb, Nat.min_eq_left (by omega)]
theorem sx_none {ds : List Int} {b : Nat} (hb : b ≤ ds.length) : sxD (ds.map PyData.int) none (some (b : Int)) = (ds.take b).map PyData.int := by
  rw [map_sx, HT.sIx_nat, HT.sIx_none, Nat.min_eq_left hb, List.drop_zero, Nat.sub_zero]
theorem part_ok {ds : List Int} (hb : ∀ d ∈ ds, 0 ≤ d ∧ d < 1000) {a n : Nat} (hl : a + n ≤ ds.length) : ((ds.drop a).take n).length = n ∧ ∀ d ∈ (ds.drop a).take n, 0 ≤ d ∧ d < 1000 := by
  refine ⟨by rw [List.length_take, List.length_drop]; omega, fun d hd => hb d (List.mem_of_mem_drop (List.mem_of_mem_take hd))⟩
/-! equal data -/
def Sq (v : PyData) : Prop := Shp v ∧ PyData.eqv v v = true
theorem Sq.eq {v : PyData} (h : Sq v) : gEq v v = some (.val (.bool true)) := by
  unfold gEq
  rw [if_pos ⟨h.1, h.1⟩, h.2]
theorem Sq.ne {v : PyData} (h : Sq v) : gNe v v = some (.val (.bool false)) := by
  unfold gNe
  rw [if_pos ⟨h.1, h.1⟩, h.2]
  rfl
theorem sq_q {n d : Int} : Sq (q n d) := ⟨rfl, by
  show (n == n && (d == d && true)) = true
  simp⟩
theorem sq_l3 {a b c d e f : Int} : Sq (.list [q a b, q c d, q e f]) := ⟨rfl, by
  show ((a == a && (b == b && true)) && ((c == c && (d == d && true)) && ((e == e && (f == f && true)) && true))) = true
  simp⟩
theorem sq_l4 {a b c d e f g h : Int} : Sq (.list [q a b, q c d, q e f, q g h]) := ⟨rfl, by
  show ((a == a && (b == b && true)) && ((c == c && (d == d && true)) && ((e == e && (f == f && true)) && ((g == g && (h == h && true)) && true)))) = true
  simp⟩
def plusQ : PyData → PyData → PyData
  | .tuple [.int a, .int b], .tuple [.int c, .int d] => num (a * d + c * b) (b * d)
  | _, _ => .none
theorem isNum_of_num {n d : Int} (h : d ≠ 0) : isNumD (q (redN n d) (redD n d)) = true := isNum_num h
end Dn
namespace Law
open PySem PySem.Spec PyProof.Rows L2 Dn
theorem is_numbers_eq (vs : List PyData) (hl : vs.length ≤ 1000) (hv : ∀ v ∈ vs, Vb v) : m__law_is_numbers [.list vs] = some (.val (.bool ((vs.map isNumD).all id))) := by
  unfold m__law_is_numbers
  rw [fnD_eq (by rfl)]
  have h1 : lcD [1] (gtName 1) tYesD (eCall m__law_is_number (aCons (eVar 1) aNil)) [.val (.list vs), .no] vs = some (vs.map fun d => .bool (isNumD d)) :=
    lcD_map (fun d => .bool (isNumD d)) fun d hd => ⟨_, _, rfl, rfl, by simp [law_is_number_eq d (hv d hd)]; rfl, rfl⟩
  have h2 : boolsD (vs.map fun d => PyData.bool (isNumD d)) = some (vs.map isNumD) := by
    have := boolsD_map (vs.map isNumD)
    rwa [List.map_map] at this
  have hf : Fits vs.length := fits (by omega)
  simp [b__law_is_numbers, h1, h2, hf]
theorem plus_nb {k : Nat} {v w : PyData} (hv : Nb k v) (hw : Nb 44 w) (h1 : 44 ≤ k) (h2 : k ≤ 800) : m_plus [v, w] = some (.val (plusQ v w)) ∧ m__law_plus [v, w] = some (.val (plusQ v w)) ∧ Nb (k + 45) (plusQ v w) := by
  obtain ⟨a, b, rfl, p1, ha, hb⟩ := hv
  obtain ⟨c, d, rfl, p2, hc, hd⟩ := hw
  refine ⟨plus_eq ha hb (hc.mono h1) (hd.mono h1) (by omega) p1 p2, law_plus_eq ha hb (hc.mono h1) (hd.mono h1) (by omega) p1 p2, ?_⟩
  refine Nb.num (Int.mul_ne_zero (by omega) (by omega)) ?_ ((hb.mul hd).mono (by omega))
  exact ((ha.mul hd).add ((hc.mul hb).mono (by omega))).mono (by omega)
def TotAt (vs : List PyData) (i : Nat) (env : En) : Prop := ∃ s2, env = [.val (.list vs), .val ((vs.take i).foldl plusQ (q 0 1)), s2] ∧ Nb (45 * (i + 1)) ((vs.take i).foldl plusQ (q 0 1))
theorem total_both (vs : List PyData) (hl : vs.length ≤ 12) (hv : ∀ v ∈ vs, Nb 44 v) : m_total [.list vs] = some (.val (vs.foldl plusQ (q 0 1))) ∧ m__law_total [.list vs] = some (.val (vs.foldl plusQ (q 0 1))) ∧ Nb 700 (vs.foldl plusQ (q 0 1)) := by
  have st : TotAt vs 0 [.val (.list vs), .val (q 0 1), .no] := ⟨.no, rfl, 0, 1, rfl, by decide, Nat.two_pow_pos _, Nat.lt_of_lt_of_le (by decide : 1 < 2 ^ 1) (Nat.pow_le_pow_right (by decide) (by decide))⟩
  have tk : ∀ i d, vs[i]? = some d → (vs.take (i + 1)).foldl plusQ (q 0 1) = plusQ ((vs.take i).foldl plusQ (q 0 1)) d := fun i d h => by
    rw [List.take_add_one, h]
    simp
  have turn : ∀ i env d, TotAt vs i env → vs[i]? = some d → ∃ e2 e3, b_total_1 (env.set 2 (.val d)) = some (.nx e2) ∧ b__law_total_1 (env.set 2 (.val d)) = some (.nx e2) ∧ TotAt vs (i + 1) e2 ∧ e3 = e2 := fun i env d h hd => by
    obtain ⟨s2, rfl, hn⟩ := h
    have hi : i < vs.length := (List.getElem?_eq_some_iff.mp hd).1
    obtain ⟨h1, h2, h3⟩ := plus_nb hn (hv d (List.mem_of_getElem? hd)) (by omega) (by omega)
    rw [← tk i d hd] at h1 h2 h3
    exact ⟨_, _, by simp [b_total_1, h1], by simp [b__law_total_1, h2], ⟨.val d, rfl, h3.mono (by omega)⟩, rfl⟩
  obtain ⟨e, he, p⟩ := forD_inv (g := gtName 2) (body := b_total_1) (ds := vs) (TotAt vs) (fun i env d h hd => by
    obtain ⟨e2, _, h1, _, h2, _⟩ := turn i env d h hd
    exact ⟨_, e2, rfl, h1, h2⟩) st
  obtain ⟨e', he', p'⟩ := forD_inv (g := gtName 2) (body := b__law_total_1) (ds := vs) (TotAt vs) (fun i env d h hd => by
    obtain ⟨e2, _, _, h1, h2, _⟩ := turn i env d h hd
    exact ⟨_, e2, rfl, h1, h2⟩) st
  obtain ⟨s2, rfl, hn⟩ := p
  obtain ⟨s2', rfl, hn'⟩ := p'
  rw [List.take_length] at he he' hn
  refine ⟨?_, ?_, hn.mono (by omega)⟩
  · unfold m_total
    rw [fnD_eq (by rfl)]
    simp [b_total, he]
  · unfold m__law_total
    rw [fnD_eq (by rfl)]
    simp [b__law_total, he']
end Law
namespace Law
open PySem PySem.Spec PyProof.Rows L2 Dn
/-- the pairs that are compared -/
theorem cmp_turn {a b c d : Int} {k : Nat} (ha : Bd k a) (hb : Bd k b) (hc : Bd k c) (hd : Bd k d) (hk : k ≤ 900) (env : En) (h9 : env[9]? = some (.val (q a b))) (h10 : env[10]? = some (.val (q c d))) (hl : env.length = 12) : b_law_1 env = some (.nx (env.set 11 (.val (.int (cmpI (a * d) (c * b)))))) := by
  have e1 := compare_eq ha hb hc hd hk
  have e2 := law_order_eq ha hb hc hd hk
  have h9' : (env.set 11 (.val (.int (cmpI (a * d) (c * b)))))[9]? = some (.val (q a b)) := by rw [List.getElem?_set_ne (by decide)]; exact h9
  have h10' : (env.set 11 (.val (.int (cmpI (a * d) (c * b)))))[10]? = some (.val (q c d)) := by rw [List.getElem?_set_ne (by decide)]; exact h10
  have h11' : (env.set 11 (.val (.int (cmpI (a * d) (c * b)))))[11]? = some (.val (.int (cmpI (a * d) (c * b)))) := by rw [List.getElem?_set_self (by omega)]
  simp [b_law_1, h9, h10, e1, h9', h10', h11', e2]
noncomputable def lawTail : SF := (sSeq (sSet 7 (eLst (aCons (eCall m_plus (aCons (eVar 5) (aCons (eVar 6) aNil))) (aCons (eCall m_minus (aCons (eVar 5) (aCons (eVar 6) aNil))) (aCons (eCall m_times (aCons (eVar 5) (aCons (eVar 6) aNil))) aNil))))) (sSeq (sSet 8 (eLst (aCons (eCall m__law_plus (aCons (eVar 5) (aCons (eVar 6) aNil))) (aCons (eCall m__law_plus (aCons (eVar 5) (aCons (eTup (aCons (eUn gNeg (eBin gIx (eVar 6) (eC (.int 0)))) (aCons (eBin gIx (eVar 6) (eC (.int 1))) aNil))) aNil))) (aCons (eCall m__law_times (aCons (eVar 5) (aCons (eVar 6) aNil))) aNil))))) (sSeq (sIf (tE (eBin gNe (eBin gIx (eVar 6) (eC (.int 0))) (eC (.int 0)))) (sSeq (sAppend 7 (eCall m_divided (aCons (eVar 5) (aCons (eVar 6) aNil)))) (sAppend 8 (eCall m__law_number (aCons (eBin gMul (eBin gIx (eVar 5) (eC (.int 0))) (eBin gIx (eVar 6) (eC (.int 1)))) (aCons (eBin gMul (eBin gIx (eVar 5) (eC (.int 1))) (eBin gIx (eVar 6) (eC (.int 0)))) aNil))))) sNext) (sSeq (sFrz 8 (sFrz 7 (sIf (tOrD (tNotD (tE (eCall m__law_is_numbers (aCons (eVar 7) aNil)))) (tE (eBin gNe (eVar 7) (eVar 8)))) (sRet (eC (.bool false))) sNext))) (sFor (iS (eLst (aCons (eTup (aCons (eVar 5) (aCons (eVar 6) aNil))) (aCons (eTup (aCons (eVar 6) (aCons (eVar 5) aNil))) (aCons (eTup (aCons (eVar 5) (aCons (eVar 5) aNil))) aNil))))) (gtTup2 9 10) b_law_1)))))
theorem law_2_eq : b_law_2 = (sSeq (sSet 4 (eSlO 1 (oSome (eBin gMul (eC (.int 25)) (eVar 2))) (oSome (eBin gAdd (eBin gMul (eC (.int 25)) (eVar 2)) (eC (.int 25)))))) (sSeq (sSet 5 (eCall m__law_drawn (aCons (eSlO 4 oNone (oSome (eC (.int 8)))) aNil))) (sSeq (sSet 6 (eCall m__law_drawn (aCons (eSlO 4 (oSome (eC (.int 8))) (oSome (eC (.int 16)))) aNil))) (sSeq (sIf (tE (eBin gEq (eBin gMod (eCall gInt (aCons (eIxO 4 (eC (.int 24))) aNil)) (eC (.int 4))) (eC (.int 0)))) (sSet 6 (eVar 5)) sNext) (sSeq (sIf (tE (eBin gEq (eBin gMod (eCall gInt (aCons (eIxO 4 (eC (.int 24))) aNil)) (eC (.int 4))) (eC (.int 1)))) (sSet 5 (eCall m__law_times (aCons (eVar 5) (aCons (eCall m__law_drawn (aCons (eSlO 4 (oSome (eC (.int 16))) (oSome (eC (.int 24)))) aNil)) aNil)))) sNext) lawTail))))) := rfl
theorem fin_eq {a b c d : Int} (q1 : Bd 90 a) (q2 : Bd 90 b) (q3 : Bd 90 c) (q4 : Bd 90 d) (x0 x1 x2 x3 x4 s7 s8 s9 s10 s11 : Sl) : sFor (iS (eLst (aCons (eTup (aCons (eVar 5) (aCons (eVar 6) aNil))) (aCons (eTup (aCons (eVar 6) (aCons (eVar 5) aNil))) (aCons (eTup (aCons (eVar 5) (aCons (eVar 5) aNil))) aNil))))) (gtTup2 9 10) b_law_1 [x0, x1, x2, x3, x4, .val (q a b), .val (q c d), s7, s8, s9, s10, s11] = some (.nx [x0, x1, x2, x3, x4, .val (q a b), .val (q c d), s7, s8, .val (q a b), .val (q a b), .val (.int (cmpI (a * b) (a * b)))]) := by
  have c1 := fun env h9 h10 hl => cmp_turn q1 q2 q3 q4 (by decide) env h9 h10 hl
  have c2 := fun env h9 h10 hl => cmp_turn q3 q4 q1 q2 (by decide) env h9 h10 hl
  have c3 := fun env h9 h10 hl => cmp_turn q1 q2 q1 q2 (by decide) env h9 h10 hl
  simp
  rw [c1 _ rfl rfl rfl]
  simp
  rw [c2 _ rfl rfl rfl]
  simp
  rw [c3 _ rfl rfl rfl]
  simp
theorem tail_eq {a b c d : Int} (q1 : Bd 90 a) (q2 : Bd 90 b) (q3 : Bd 90 c) (q4 : Bd 90 d) (p1 : 1 ≤ b) (p2 : 1 ≤ d) (x0 x1 x2 x3 x4 s7 s8 s9 s10 s11 : Sl) : ∃ s7' s8' s9' s10' s11', lawTail [x0, x1, x2, x3, x4, .val (q a b), .val (q c d), s7, s8, s9, s10, s11] = some (.nx [x0, x1, x2, x3, x4, .val (q a b), .val (q c d), s7', s8', s9', s10', s11']) := by
  have z1 : b * d ≠ 0 := Int.mul_ne_zero (by omega) (by omega)
  have ep := plus_eq q1 q2 q3 q4 (by decide) p1 p2
  have em := minus_eq q1 q2 q3 q4 (by decide) p1 p2
  have et := times_eq q1 q2 q3 q4 (by decide) p1 p2
  have lp := law_plus_eq q1 q2 q3 q4 (by decide) p1 p2
  have lm := law_plus_eq q1 q2 q3.neg q4 (by decide) p1 p2
  have e0 : a * d + -c * b = a * d - c * b := by rw [Int.neg_mul, Int.sub_eq_add_neg]
  rw [e0] at lm
  have lt := law_times_eq q1 q2 q3 q4 (by decide) p1 p2
  have mm1 : Dn.MulOk a d := mul_b q1 q4
  have mm2 : Dn.MulOk b c := mul_b q2 q3
  have fin := fin_eq q1 q2 q3 q4
  have vb1 : ∀ n : Int, Vb (num n (b * d)) := fun n => ((q2.mul q4).redD (n := n)).big
  have r1 : ∀ n : Int, isNumD (num n (b * d)) = true := fun n => isNum_num z1
  have ln3 := is_numbers_eq [num (a * d + c * b) (b * d), num (a * d - c * b) (b * d), num (a * c) (b * d)] (by simp) (fun v hv => by
    simp at hv
    rcases hv with rfl | rfl | rfl <;> exact vb1 _)
  simp [r1] at ln3
  have sq3 : Sq (.list [num (a * d + c * b) (b * d), num (a * d - c * b) (b * d), num (a * c) (b * d)]) := sq_l3
  have ne3 := sq3.ne
  generalize hX : num (a * d + c * b) (b * d) = X at *
  generalize hY : num (a * d - c * b) (b * d) = Y at *
  generalize hZ : num (a * c) (b * d) = Z at *
  by_cases hc0 : c = 0
  · refine ⟨.val (.list [X, Y, Z]), .val (.list [X, Y, Z]), .val (q a b), .val (q a b), .val (.int (cmpI (a * b) (a * b))), ?_⟩
    unfold lawTail
    subst hc0
    rw [Int.neg_zero, lp] at lm
    cases lm
    simp [-sFor, ep, em, et, lp, lt, atq0, atq1, ne3, fin, ln3]
  · have z2 : b * c ≠ 0 := Int.mul_ne_zero (by omega) hc0
    have dv := divided_eq q1 q2 q3 q4 (by decide) p1 p2 hc0
    have ld := law_number_eq (a * d) (b * c) z2 (q2.mul q3).big
    have vb2 : Vb (num (a * d) (b * c)) := ((q2.mul q3).redD (n := a * d)).big
    have r2 : isNumD (num (a * d) (b * c)) = true := isNum_num z2
    have ln4 := is_numbers_eq [X, Y, Z, num (a * d) (b * c)] (by simp) (fun v hv => by
      simp at hv
      rcases hv with rfl | rfl | rfl | rfl
      · exact hX ▸ vb1 _
      · exact hY ▸ vb1 _
      · exact hZ ▸ vb1 _
      · exact vb2)
    have rX : isNumD X = true := hX ▸ r1 _
    have rY : isNumD Y = true := hY ▸ r1 _
    have rZ : isNumD Z = true := hZ ▸ r1 _
    simp [rX, rY, rZ, r2] at ln4
    have sq4 : Sq (.list [X, Y, Z, num (a * d) (b * c)]) := by
      rw [← hX, ← hY, ← hZ]
      exact sq_l4
    have ne4 := sq4.ne
    generalize hW : num (a * d) (b * c) = W at *
    have f3 : Fits 4 := fits (by decide)
    refine ⟨.val (.list [X, Y, Z, W]), .val (.list [X, Y, Z, W]), .val (q a b), .val (q a b), .val (.int (cmpI (a * b) (a * b))), ?_⟩
    unfold lawTail
    simp [-sFor, ep, em, et, lp, lm, lt, atq0, atq1, hc0, ne4, fin, ln4, f3, dv, ld, mm1, mm2]
def LawAt (ns ds : List Int) (_ : Nat) (env : En) : Prop := ∃ s2 s4 s5 s6 s7 s8 s9 s10 s11, env = [.val (.list (ns.map .int)), .own (ds.map .int), s2, .no, s4, s5, s6, s7, s8, s9, s10, s11]
theorem law_turn {ns ds : List Int} (hb : ∀ d ∈ ds, 0 ≤ d ∧ d < 1000) (hl : ds.length = 200) {i : Nat} {env : En} (hi : i < 8) (h : LawAt ns ds i env) : ∃ e2, b_law_2 (env.set 2 (.val (.int i))) = some (.nx e2) ∧ LawAt ns ds (i + 1) e2 := by
  obtain ⟨s2, s4, s5, s6, s7, s8, s9, s10, s11, rfl⟩ := h
  have hs : sxD (ds.map PyData.int) (some (25 * (i : Int))) (some (25 * (i : Int) + 25)) = ((ds.drop (25 * i)).take 25).map PyData.int := by
    have e1 : 25 * (i : Int) = ((25 * i : Nat) : Int) := by omega
    have e2 : 25 * (i : Int) + 25 = ((25 * i + 25 : Nat) : Int) := by omega
    rw [e2, e1, sx_nat (by omega) (by omega), show 25 * i + 25 - 25 * i = 25 by omega]
  obtain ⟨pl, pb⟩ := part_ok hb (a := 25 * i) (n := 25) (by omega)
  generalize hp : (ds.drop (25 * i)).take 25 = part at hs pl pb
  have hs1 : sxD (part.map PyData.int) none (some 8) = (part.take 8).map PyData.int := sx_none (b := 8) (by omega)
  have hs2 : sxD (part.map PyData.int) (some 8) (some 16) = ((part.drop 8).take 8).map PyData.int := sx_nat (a := 8) (b := 16) (by decide) (by omega)
  have hs3 : sxD (part.map PyData.int) (some 16) (some 24) = ((part.drop 16).take 8).map PyData.int := sx_nat (a := 16) (b := 24) (by decide) (by omega)
  obtain ⟨v1, d1, w1⟩ := drawn_nb (part.take 8) (fun d hd => pb d (List.mem_of_mem_take hd)) (by rw [List.length_take]; omega)
  obtain ⟨l2, b2⟩ := part_ok pb (a := 8) (n := 8) (by omega)
  obtain ⟨l3, b3⟩ := part_ok pb (a := 16) (n := 8) (by omega)
  obtain ⟨v2, d2, w2⟩ := drawn_nb _ b2 (by omega)
  obtain ⟨v3, d3, w3⟩ := drawn_nb _ b3 (by omega)
  generalize hP1 : part.take 8 = P1 at hs1 d1
  generalize hP2 : (part.drop 8).take 8 = P2 at hs2 d2
  generalize hP3 : (part.drop 16).take 8 = P3 at hs3 d3
  obtain ⟨x24, h24, a24, b24⟩ := at_ints pb (k := 24) (by decide) (by omega)
  have n4 : ∀ i, NzOk i 4 := fun i => by unfold NzOk; decide
  have f4 : x24.fmod 4 = x24 % 4 := fmod_pos (by decide)
  have m0 : ∀ i, Dn.MulOk 25 i := fun i => mul_l (by decide)
  -- the two numbers
  obtain ⟨va, vb, na, nb, hab⟩ : ∃ va vb, Nb 90 va ∧ Nb 90 vb ∧ ((x24 % 4 = 0 ∧ va = v1 ∧ vb = v1) ∨ (x24 % 4 = 1 ∧ m__law_times [v1, v3] = some (.val va) ∧ vb = v2) ∨ (x24 % 4 ≠ 0 ∧ x24 % 4 ≠ 1 ∧ va = v1 ∧ vb = v2)) := by
    by_cases k0 : x24 % 4 = 0
    · exact ⟨v1, v1, w1.mono (by decide), w1.mono (by decide), .inl ⟨k0, rfl, rfl⟩⟩
    · by_cases k1 : x24 % 4 = 1
      · obtain ⟨a, b, rfl, p1, q1, q2⟩ := w1
        obtain ⟨c, d, rfl, p2, q3, q4⟩ := w3
        refine ⟨_, v2, Nb.num (n := a * c) (d := b * d) (Int.mul_ne_zero (by omega) (by omega)) ((q1.mul q3).mono (by decide)) ((q2.mul q4).mono (by decide)), w2.mono (by decide), .inr (.inl ⟨k1, law_times_eq q1 q2 q3 q4 (by decide) p1 p2, rfl⟩)⟩
      · exact ⟨v1, v2, w1.mono (by decide), w2.mono (by decide), .inr (.inr ⟨k0, k1, rfl, rfl⟩)⟩
  obtain ⟨a, b, rfl, p1, q1, q2⟩ := na
  obtain ⟨c, d, rfl, p2, q3, q4⟩ := nb
  obtain ⟨t7, t8, t9, t10, t11, ht⟩ := tail_eq q1 q2 q3 q4 p1 p2 (.val (.list (ns.map .int))) (.own (ds.map .int)) (.val (.int i)) .no (.own (part.map .int)) s7 s8 s9 s10 s11
  refine ⟨_, ?_, .val (.int i), .own (part.map .int), .val (q a b), .val (q c d), t7, t8, t9, t10, t11, rfl⟩
  rw [law_2_eq]
  rcases hab with ⟨k, e1, e2⟩ | ⟨k, e1, e2⟩ | ⟨k, k', e1, e2⟩
  · subst e1
    rw [e2] at ht
    simp [hs, hs1, hs2, d1, d2, h24, n4, f4, m0, k, e2, ht]
  · subst e2
    simp [hs, hs1, hs2, hs3, d1, d2, d3, h24, n4, f4, m0, k, e1, ht]
  · subst e1
    subst e2
    simp [hs, hs1, hs2, d1, d2, h24, n4, f4, m0, k, k', ht]
theorem hlaw : ∀ ns : List Int, ns.length ≤ 63 → m_law [.list (ns.map PyData.int)] = some (.val (.bool true)) := fun ns hns => by
  obtain ⟨ds, hd, hl, hb⟩ := draws_eq ns hns 200 (by decide)
  have hd : m__law_draws [.list (ns.map .int), .int 200] = some (.own (ds.map .int)) := hd
  obtain ⟨e, he, p⟩ := forD_inv (g := gtName 2) (body := b_law_2) (ds := Dn.intsFrom 0 8) (LawAt ns ds) (fun i env d p hx => by
    obtain ⟨hi, rfl⟩ := intsFrom_at hx
    obtain ⟨e2, h3, h4⟩ := law_turn hb hl hi p
    rw [Int.zero_add]
    exact ⟨_, e2, rfl, h3, h4⟩) (env := [.val (.list (ns.map .int)), .own (ds.map .int), .no, .no, .no, .no, .no, .no, .no, .no, .no, .no]) ⟨_, _, _, _, _, _, _, _, _, rfl⟩
  obtain ⟨s2, s4, s5, s6, s7, s8, s9, s10, s11, rfl⟩ := p
  have hr : InR 8 := inR_of (by decide) (by decide)
  obtain ⟨x, hx, x0, x1⟩ := at_ints hb (k := 199) (by decide) (by omega)
  have n12 : NzOk x 12 := by unfold NzOk; decide
  have f12 : x.fmod 12 = x % 12 := fmod_pos (by decide)
  have hr2 : InR (x % 12) := inR_of (by omega) (by omega)
  have m8 : ∀ i, Dn.MulOk 8 i := fun i => mul_l (by decide)
  -- the row
  have row : ∀ (n : Nat) (lo : Nat) (env : En), lo + n ≤ 12 → env[1]? = some (.own (ds.map .int)) → env[2]? ≠ none → ∃ vs : List PyData, lcD [2] (gtName 2) tYesD (eCall m__law_drawn (aCons (eSlO 1 (oSome (eBin gMul (eC (.int 8)) (eVar 2))) (oSome (eBin gAdd (eBin gMul (eC (.int 8)) (eVar 2)) (eC (.int 8))))) aNil)) env (Dn.intsFrom (lo : Int) n) = some vs ∧ vs.length = n ∧ ∀ v ∈ vs, Nb 44 v := by
    intro n
    induction n with
    | zero => exact fun lo env _ _ _ => ⟨[], rfl, rfl, fun v h => by cases h⟩
    | succ n ih =>
      intro lo env h1 h2 h3
      obtain ⟨vs, e1, e2, e3⟩ := ih (lo + 1) env (by omega) h2 h3
      obtain ⟨l2, b2⟩ := part_ok hb (a := 8 * lo) (n := 8) (by omega)
      obtain ⟨v, d1, w1⟩ := drawn_nb _ b2 (by omega)
      have hs : sxD (ds.map PyData.int) (some (8 * (lo : Int))) (some (8 * (lo : Int) + 8)) = ((ds.drop (8 * lo)).take 8).map PyData.int := by
        have q1 : 8 * (lo : Int) = ((8 * lo : Nat) : Int) := by omega
        have q2 : 8 * (lo : Int) + 8 = ((8 * lo + 8 : Nat) : Int) := by omega
        rw [q2, q1, sx_nat (by omega) (by omega), show 8 * lo + 8 - 8 * lo = 8 by omega]
      generalize hP : (ds.drop (8 * lo)).take 8 = P at hs d1
      have hlen : 2 < env.length := by
        cases q : env[2]? with
        | none => exact absurd q h3
        | some s => exact (List.getElem?_eq_some_iff.mp q).1
      have h2' : ((env.set 2 Sl.no).set 2 (.val (.int (lo : Int))))[1]? = some (.own (ds.map .int)) := by
        rw [List.getElem?_set_ne (by decide), List.getElem?_set_ne (by decide)]
        exact h2
      have h3' : ((env.set 2 Sl.no).set 2 (.val (.int (lo : Int))))[2]? = some (.val (.int (lo : Int))) := by
        rw [List.getElem?_set_self (by rw [List.length_set]; exact hlen)]
      refine ⟨v :: vs, ?_, by simp [e2], fun u hu => ?_⟩
      · have e1' : lcD [2] (gtName 2) tYesD (eCall m__law_drawn (aCons (eSlO 1 (oSome (eBin gMul (eC (.int 8)) (eVar 2))) (oSome (eBin gAdd (eBin gMul (eC (.int 8)) (eVar 2)) (eC (.int 8))))) aNil)) env (Dn.intsFrom ((lo : Int) + 1) n) = some vs := e1
        have he : (eCall m__law_drawn (aCons (eSlO 1 (oSome (eBin gMul (eC (.int 8)) (eVar 2))) (oSome (eBin gAdd (eBin gMul (eC (.int 8)) (eVar 2)) (eC (.int 8))))) aNil)) ((env.set 2 Sl.no).set 2 (.val (.int (lo : Int)))) = some (.val v) := by
          simp only [eCall, aCons, aNil, eSlO, oSome, eBin, eC, eVar, h2', h3', frz_val, gMul_int, m8, if_pos, Option.bind_some, gAdd, hs, frz_own, d1]
        show (lcD [2] (gtName 2) tYesD _ env (.int (lo : Int) :: Dn.intsFrom ((lo : Int) + 1) n)) = _
        unfold lcD
        show (Option.bind (some ((env.set 2 Sl.no).set 2 (.val (.int (lo : Int))))) _) = _
        rw [Option.bind_some]
        show (Option.bind (some true) _) = _
        rw [Option.bind_some, if_pos rfl, he, Option.bind_some, e1', Option.bind_some]
        rfl
      · rcases List.mem_cons.mp hu with rfl | hu
        · exact w1
        · exact e3 u hu
  obtain ⟨vs, r1, r2, r3⟩ := row (x % 12).toNat 0 [.val (.list (ns.map .int)), .own (ds.map .int), s2, .no, s4, s5, s6, s7, s8, s9, s10, s11] (by omega) rfl (by simp)
  have r1 : lcD [2] (gtName 2) tYesD (eCall m__law_drawn (aCons (eSlO 1 (oSome (eBin gMul (eC (.int 8)) (eVar 2))) (oSome (eBin gAdd (eBin gMul (eC (.int 8)) (eVar 2)) (eC (.int 8))))) aNil)) [.val (.list (ns.map .int)), .own (ds.map .int), s2, .no, s4, s5, s6, s7, s8, s9, s10, s11] (Dn.intsFrom 0 (x % 12).toNat) = some vs := r1
  obtain ⟨t1, t2, t3⟩ := total_both vs (by omega) r3
  obtain ⟨t4, _, _⟩ := total_both [] (by decide) (fun v h => by cases h)
  have t4 : m_total [.list []] = some (.val (q 0 1)) := t4
  have s1 : Sq (vs.foldl plusQ (q 0 1)) := by
    obtain ⟨n, d, e, _⟩ := t3
    rw [e]
    exact sq_q
  have s0 : gEq (q 0 1) (q 0 1) = some (.val (.bool true)) := sq_q.eq
  have hf : Fits (x % 12).toNat := fits (by omega)
  unfold m_law
  rw [fnD_eq (by rfl)]
  simp [b_law, hd, hr, he, hx, n12, f12, hr2, r1, hf, intsFrom_len, t1, t2, t4, s1.eq, s0]
end Law
namespace Law
open PySem PySem.Spec PyProof.Rows L2 Dn
theorem sc_number : FnScope ["n", "d", "shared"] ["n", "d"] (defScope s_number) := ⟨rfl, rfl, rfl, by decide +kernel, rfl, by decide +kernel, by decide +kernel⟩
theorem sc_compare : FnScope ["a", "b", "left", "right"] ["a", "b"] (defScope s_compare) := ⟨rfl, rfl, rfl, by decide +kernel, rfl, by decide +kernel, by decide +kernel⟩
theorem sc__law_draws : FnScope ["script", "count", "rests", "draws", "k", "value", "cell", "at", "mixed"] ["script", "count"] (defScope s__law_draws) := ⟨rfl, rfl, rfl, by decide +kernel, rfl, by decide +kernel, by decide +kernel⟩
theorem sc__law_gcd : FnScope ["a", "b", "step", "rest"] ["a", "b"] (defScope s__law_gcd) := ⟨rfl, rfl, rfl, by decide +kernel, rfl, by decide +kernel, by decide +kernel⟩
theorem sc__law_less : FnScope ["a", "b"] ["a", "b"] (defScope s__law_less) := ⟨rfl, rfl, rfl, by decide +kernel, rfl, by decide +kernel, by decide +kernel⟩
theorem sc_plus : FnScope ["a", "b"] ["a", "b"] (defScope s_plus) := ⟨rfl, rfl, rfl, by decide +kernel, rfl, by decide +kernel, by decide +kernel⟩
theorem sc_minus : FnScope ["a", "b"] ["a", "b"] (defScope s_minus) := ⟨rfl, rfl, rfl, by decide +kernel, rfl, by decide +kernel, by decide +kernel⟩
theorem sc_times : FnScope ["a", "b"] ["a", "b"] (defScope s_times) := ⟨rfl, rfl, rfl, by decide +kernel, rfl, by decide +kernel, by decide +kernel⟩
theorem sc_divided : FnScope ["a", "b"] ["a", "b"] (defScope s_divided) := ⟨rfl, rfl, rfl, by decide +kernel, rfl, by decide +kernel, by decide +kernel⟩
theorem sc__law_number : FnScope ["n", "d", "common"] ["n", "d"] (defScope s__law_number) := ⟨rfl, rfl, rfl, by decide +kernel, rfl, by decide +kernel, by decide +kernel⟩
theorem sc__law_is_number : FnScope ["actual", "one"] ["actual"] (defScope s__law_is_number) := ⟨rfl, rfl, rfl, by decide +kernel, rfl, by decide +kernel, by decide +kernel⟩
theorem sc__law_order : FnScope ["a", "b"] ["a", "b"] (defScope s__law_order) := ⟨rfl, rfl, rfl, by decide +kernel, rfl, by decide +kernel, by decide +kernel⟩
theorem sc_total : FnScope ["numbers", "whole", "part"] ["numbers"] (defScope s_total) := ⟨rfl, rfl, rfl, by decide +kernel, rfl, by decide +kernel, by decide +kernel⟩
theorem sc__law_is_numbers : FnScope ["actual", "one"] ["actual"] (defScope s__law_is_numbers) := ⟨rfl, rfl, rfl, by decide +kernel, rfl, by decide +kernel, by decide +kernel⟩
theorem sc__law_plus : FnScope ["a", "b"] ["a", "b"] (defScope s__law_plus) := ⟨rfl, rfl, rfl, by decide +kernel, rfl, by decide +kernel, by decide +kernel⟩
theorem sc__law_times : FnScope ["a", "b"] ["a", "b"] (defScope s__law_times) := ⟨rfl, rfl, rfl, by decide +kernel, rfl, by decide +kernel, by decide +kernel⟩
theorem sc__law_drawn : FnScope ["draws", "kind", "n", "d"] ["draws"] (defScope s__law_drawn) := ⟨rfl, rfl, rfl, by decide +kernel, rfl, by decide +kernel, by decide +kernel⟩
theorem sc__law_total : FnScope ["numbers", "found", "one"] ["numbers"] (defScope s__law_total) := ⟨rfl, rfl, rfl, by decide +kernel, rfl, by decide +kernel, by decide +kernel⟩
theorem sc_law : FnScope ["script", "draws", "k", "row", "part", "a", "b", "results", "due", "one", "other", "actual"] ["script"] (defScope s_law) := ⟨rfl, rfl, rfl, by decide +kernel, rfl, by decide +kernel, by decide +kernel⟩
structure Tx (K : PySem.W.Frag) (mg : Str → Option Value) where
  f_number : Addr
  fd_number : FuncData
  F_number : Fun K "number" "number" s_number f_number fd_number
  g_number : mg "number" = some (.ref f_number)
  b_number : Binds K fd_number ["n", "d"] []
  f_compare : Addr
  fd_compare : FuncData
  F_compare : Fun K "compare" "compare" s_compare f_compare fd_compare
  g_compare : mg "compare" = some (.ref f_compare)
  b_compare : Binds K fd_compare ["a", "b"] []
  f__law_draws : Addr
  fd__law_draws : FuncData
  F__law_draws : Fun K "_law_draws" "_law_draws" s__law_draws f__law_draws fd__law_draws
  g__law_draws : mg "_law_draws" = some (.ref f__law_draws)
  b__law_draws : Binds K fd__law_draws ["script", "count"] []
  f__law_gcd : Addr
  fd__law_gcd : FuncData
  F__law_gcd : Fun K "_law_gcd" "_law_gcd" s__law_gcd f__law_gcd fd__law_gcd
  g__law_gcd : mg "_law_gcd" = some (.ref f__law_gcd)
  b__law_gcd : Binds K fd__law_gcd ["a", "b"] []
  f__law_less : Addr
  fd__law_less : FuncData
  F__law_less : Fun K "_law_less" "_law_less" s__law_less f__law_less fd__law_less
  g__law_less : mg "_law_less" = some (.ref f__law_less)
  b__law_less : Binds K fd__law_less ["a", "b"] []
  f_plus : Addr
  fd_plus : FuncData
  F_plus : Fun K "plus" "plus" s_plus f_plus fd_plus
  g_plus : mg "plus" = some (.ref f_plus)
  b_plus : Binds K fd_plus ["a", "b"] []
  f_minus : Addr
  fd_minus : FuncData
  F_minus : Fun K "minus" "minus" s_minus f_minus fd_minus
  g_minus : mg "minus" = some (.ref f_minus)
  b_minus : Binds K fd_minus ["a", "b"] []
  f_times : Addr
  fd_times : FuncData
  F_times : Fun K "times" "times" s_times f_times fd_times
  g_times : mg "times" = some (.ref f_times)
  b_times : Binds K fd_times ["a", "b"] []
  f_divided : Addr
  fd_divided : FuncData
  F_divided : Fun K "divided" "divided" s_divided f_divided fd_divided
  g_divided : mg "divided" = some (.ref f_divided)
  b_divided : Binds K fd_divided ["a", "b"] []
  f__law_number : Addr
  fd__law_number : FuncData
  F__law_number : Fun K "_law_number" "_law_number" s__law_number f__law_number fd__law_number
  g__law_number : mg "_law_number" = some (.ref f__law_number)
  b__law_number : Binds K fd__law_number ["n", "d"] []
  f__law_is_number : Addr
  fd__law_is_number : FuncData
  F__law_is_number : Fun K "_law_is_number" "_law_is_number" s__law_is_number f__law_is_number fd__law_is_number
  g__law_is_number : mg "_law_is_number" = some (.ref f__law_is_number)
  b__law_is_number : Binds K fd__law_is_number ["actual"] []
  f__law_order : Addr
  fd__law_order : FuncData
  F__law_order : Fun K "_law_order" "_law_order" s__law_order f__law_order fd__law_order
  g__law_order : mg "_law_order" = some (.ref f__law_order)
  b__law_order : Binds K fd__law_order ["a", "b"] []
  f_total : Addr
  fd_total : FuncData
  F_total : Fun K "total" "total" s_total f_total fd_total
  g_total : mg "total" = some (.ref f_total)
  b_total : Binds K fd_total ["numbers"] []
  f__law_is_numbers : Addr
  fd__law_is_numbers : FuncData
  F__law_is_numbers : Fun K "_law_is_numbers" "_law_is_numbers" s__law_is_numbers f__law_is_numbers fd__law_is_numbers
  g__law_is_numbers : mg "_law_is_numbers" = some (.ref f__law_is_numbers)
  b__law_is_numbers : Binds K fd__law_is_numbers ["actual"] []
  f__law_plus : Addr
  fd__law_plus : FuncData
  F__law_plus : Fun K "_law_plus" "_law_plus" s__law_plus f__law_plus fd__law_plus
  g__law_plus : mg "_law_plus" = some (.ref f__law_plus)
  b__law_plus : Binds K fd__law_plus ["a", "b"] []
  f__law_times : Addr
  fd__law_times : FuncData
  F__law_times : Fun K "_law_times" "_law_times" s__law_times f__law_times fd__law_times
  g__law_times : mg "_law_times" = some (.ref f__law_times)
  b__law_times : Binds K fd__law_times ["a", "b"] []
  f__law_drawn : Addr
  fd__law_drawn : FuncData
  F__law_drawn : Fun K "_law_drawn" "_law_drawn" s__law_drawn f__law_drawn fd__law_drawn
  g__law_drawn : mg "_law_drawn" = some (.ref f__law_drawn)
  b__law_drawn : Binds K fd__law_drawn ["draws"] []
  f__law_total : Addr
  fd__law_total : FuncData
  F__law_total : Fun K "_law_total" "_law_total" s__law_total f__law_total fd__law_total
  g__law_total : mg "_law_total" = some (.ref f__law_total)
  b__law_total : Binds K fd__law_total ["numbers"] []
  f_law : Addr
  fd_law : FuncData
  F_law : Fun K "law" "law" s_law f_law fd_law
  g_law : mg "law" = some (.ref f_law)
  b_law : Binds K fd_law ["script"] []
  n_abs : mg "abs" = none
  n_all : mg "all" = none
  n_bool : mg "bool" = none
  n_int : mg "int" = none
  n_isinstance : mg "isinstance" = none
  n_len : mg "len" = none
  n_list : mg "list" = none
  n_range : mg "range" = none
  n_tuple : mg "tuple" = none
  m_gcd : mg "gcd" = some (.builtin "math.gcd")
section
variable {P : Program} {w : World} {K : PySem.W.Frag} {mg : Str → Option Value} {base : Heap}
theorem ok_number (T : Tx K mg) : FnOk P w K mg base CX0 1 T.f_number T.fd_number ["n", "d"] (spD K 2 m_number) := okD (N := ["n", "d", "shared"]) (ps := ["n", "d"]) (k := 0) (b := b_number) T.F_number sc_number fun cdv A outer s H E hr => by
  have nd := sc_number.nd
  exact ⟨_, (ss_cons (ss_set (i := 2) nd rfl (by first | exact Or.inl rfl | exact Or.inr rfl) (se_cfun cr_gcd rc_gcd (by rfl) T.m_gcd (sa_cons (sv 0) (sa_cons (sv 1) sa_nil))))
    (ss_cons (ss_if (st_lt (sv 1) se_int)
      (ss_one (ss_set (i := 2) nd rfl (by first | exact Or.inl rfl | exact Or.inr rfl) (se_neg (sv 2))))
      ss_nil)
    (ss_one (ss_ret (se_tup (sa_cons (se_fdiv (sv 0) (sv 2)) (sa_cons (se_fdiv (sv 1) (sv 2)) sa_nil)))))))⟩
theorem ok_compare (T : Tx K mg) : FnOk P w K mg base CX0 1 T.f_compare T.fd_compare ["a", "b"] (spD K 2 m_compare) := okD (N := ["a", "b", "left", "right"]) (ps := ["a", "b"]) (k := 0) (b := b_compare) T.F_compare sc_compare fun cdv A outer s H E hr => by
  have nd := sc_compare.nd
  exact ⟨_, (ss_cons (ss_set (i := 2) nd rfl (by first | exact Or.inl rfl | exact Or.inr rfl) (se_mul (se_ix (sv 0) se_int) (se_ix (sv 1) se_int)))
    (ss_cons (ss_set (i := 3) nd rfl (by first | exact Or.inl rfl | exact Or.inr rfl) (se_mul (se_ix (sv 1) se_int) (se_ix (sv 0) se_int)))
    (ss_cons (ss_if (st_lt (sv 2) (sv 3))
      (ss_one (ss_ret (se_neg se_int)))
      ss_nil)
    (ss_cons (ss_if (st_gt (sv 2) (sv 3))
      (ss_one (ss_ret se_int))
      ss_nil)
    (ss_one (ss_ret se_int))))))⟩
theorem ok__law_draws (T : Tx K mg) : FnOk P w K mg base CX0 1 T.f__law_draws T.fd__law_draws ["script", "count"] (spD K 2 m__law_draws) := okD (N := ["script", "count", "rests", "draws", "k", "value", "cell", "at", "mixed"]) (ps := ["script", "count"]) (k := 0) (b := b__law_draws) T.F__law_draws sc__law_draws fun cdv A outer s H E hr => by
  have nd := sc__law_draws.nd
  exact ⟨_, (ss_cons (ss_setLc (i := 2) (own := [("cell", 6)]) rfl nd rfl rfl (sw_true rfl rfl rfl (by decide +kernel)) (si_seq (sv 0)) (blkOk_by (N := ["script", "count", "rests", "draws", "k", "value", "cell", "at", "mixed"]) (sc := defScope s__law_draws) (by decide +kernel)) (fun _ _ _ _ _ => (sg_name (i := 6) nd rfl (by first | exact Or.inl rfl | exact Or.inr rfl))) (by decide) (fun _ _ _ _ _ => sts_nil) (fun _ _ _ _ _ => (sv 6)))
    (ss_cons (ss_set (i := 3) nd rfl (by first | exact Or.inl rfl | exact Or.inr rfl) (se_lst sa_nil))
    (ss_cons (ss_for PassesOwn.never rfl (si_r1 (by rfl) T.n_range (sa_cons (sv 1) sa_nil)) (sg_name (i := 4) nd rfl (by first | exact Or.inl rfl | exact Or.inr rfl))
      (ss_cons (ss_set (i := 5) nd rfl (by first | exact Or.inl rfl | exact Or.inr rfl) se_int)
    (ss_cons (ss_if (st_gt (se_peek (se_c_len (by rfl) T.n_len boot_len_ (sa_cons (sv 2) sa_nil))) se_int)
      (ss_cons (ss_set (i := 7) nd rfl (by first | exact Or.inl rfl | exact Or.inr rfl) (se_mod (se_c_int (by rfl) T.n_int boot_int_ (sa_cons (sv 4) sa_nil)) (se_peek (se_c_len (by rfl) T.n_len boot_len_ (sa_cons (sv 2) sa_nil)))))
    (ss_one (ss_if (st_ge (se_ixO (ov 2) (sv 7)) (se_pow se_int se_int))
      (ss_cons (ss_set (i := 5) nd rfl (by first | exact Or.inl rfl | exact Or.inr rfl) (se_mod (se_c_int (by rfl) T.n_int boot_int_ (sa_cons (se_ixO (ov 2) (sv 7)) sa_nil)) se_int))
    (ss_one (ss_put (se_fdiv (se_ixO (ov 2) (sv 7)) se_int) (ov 2) (sv 7))))
      (ss_cons (ss_set (i := 8) nd rfl (by first | exact Or.inl rfl | exact Or.inr rfl) (se_mod (se_c_int (by rfl) T.n_int boot_int_ (sa_cons (se_add (se_add (se_mul (se_ixO (ov 2) (sv 7)) se_int) (se_mul (sv 4) se_int)) se_int) sa_nil)) se_int))
    (ss_cons (ss_set (i := 8) nd rfl (by first | exact Or.inl rfl | exact Or.inr rfl) (se_mod (se_c_int (by rfl) T.n_int boot_int_ (sa_cons (se_add (se_mul (sv 8) se_int) (sv 7)) sa_nil)) se_int))
    (ss_one (ss_set (i := 5) nd rfl (by first | exact Or.inl rfl | exact Or.inr rfl) (se_mod (se_c_int (by rfl) T.n_int boot_int_ (sa_cons (se_fdiv (sv 8) se_int) sa_nil)) se_int))))))))
      ss_nil)
    (ss_one (ss_append (ov 3) (sv 5))))))
    (ss_one (ss_retO (ov 3))))))⟩
theorem ok__law_gcd (T : Tx K mg) : FnOk P w K mg base CX0 1 T.f__law_gcd T.fd__law_gcd ["a", "b"] (spD K 2 m__law_gcd) := okD (N := ["a", "b", "step", "rest"]) (ps := ["a", "b"]) (k := 0) (b := b__law_gcd) T.F__law_gcd sc__law_gcd fun cdv A outer s H E hr => by
  have nd := sc__law_gcd.nd
  exact ⟨_, (ss_cons (ss_set (i := 0) nd rfl (by first | exact Or.inl rfl | exact Or.inr rfl) (se_c_abs (by rfl) T.n_abs boot_abs_ (sa_cons (sv 0) sa_nil)))
    (ss_cons (ss_set (i := 1) nd rfl (by first | exact Or.inl rfl | exact Or.inr rfl) (se_c_abs (by rfl) T.n_abs boot_abs_ (sa_cons (sv 1) sa_nil)))
    (ss_cons (ss_for PassesOwn.never rfl (si_r1 (by rfl) T.n_range (sa_cons se_int sa_nil)) (sg_name (i := 2) nd rfl (by first | exact Or.inl rfl | exact Or.inr rfl))
      (ss_cons (ss_if (st_eq hr.units (sv 1) se_int)
      (ss_one ss_break)
      ss_nil)
    (ss_cons (ss_set (i := 3) nd rfl (by first | exact Or.inl rfl | exact Or.inr rfl) (se_mod (se_c_int (by rfl) T.n_int boot_int_ (sa_cons (sv 0) sa_nil)) (sv 1)))
    (ss_cons (ss_set (i := 0) nd rfl (by first | exact Or.inl rfl | exact Or.inr rfl) (sv 1))
    (ss_one (ss_set (i := 1) nd rfl (by first | exact Or.inl rfl | exact Or.inr rfl) (sv 3)))))))
    (ss_one (ss_ret (sv 0))))))⟩
theorem ok__law_less (T : Tx K mg) : FnOk P w K mg base CX0 1 T.f__law_less T.fd__law_less ["a", "b"] (spD K 2 m__law_less) := okD (N := ["a", "b"]) (ps := ["a", "b"]) (k := 0) (b := b__law_less) T.F__law_less sc__law_less fun cdv A outer s H E hr => by
  have nd := sc__law_less.nd
  exact ⟨_, (ss_one (ss_ret (se_lt (se_mul (se_ix (sv 0) se_int) (se_ix (sv 1) se_int)) (se_mul (se_ix (sv 1) se_int) (se_ix (sv 0) se_int)))))⟩
theorem ok_plus (T : Tx K mg) : FnOk P w K mg base CX0 2 T.f_plus T.fd_plus ["a", "b"] (spD K 2 m_plus) := okD (N := ["a", "b"]) (ps := ["a", "b"]) (k := 1) (b := b_plus) T.F_plus sc_plus fun cdv A outer s H E hr => by
  have nd := sc_plus.nd
  exact ⟨_, (ss_one (ss_ret (se_call (ok_number T) (hr.mono (by decide)) (by rfl) T.g_number T.F_number.kp T.b_number (sa_cons (se_add (se_mul (se_ix (sv 0) se_int) (se_ix (sv 1) se_int)) (se_mul (se_ix (sv 1) se_int) (se_ix (sv 0) se_int))) (sa_cons (se_mul (se_ix (sv 0) se_int) (se_ix (sv 1) se_int)) sa_nil)))))⟩
theorem ok_minus (T : Tx K mg) : FnOk P w K mg base CX0 2 T.f_minus T.fd_minus ["a", "b"] (spD K 2 m_minus) := okD (N := ["a", "b"]) (ps := ["a", "b"]) (k := 1) (b := b_minus) T.F_minus sc_minus fun cdv A outer s H E hr => by
  have nd := sc_minus.nd
  exact ⟨_, (ss_one (ss_ret (se_call (ok_number T) (hr.mono (by decide)) (by rfl) T.g_number T.F_number.kp T.b_number (sa_cons (se_sub (se_mul (se_ix (sv 0) se_int) (se_ix (sv 1) se_int)) (se_mul (se_ix (sv 1) se_int) (se_ix (sv 0) se_int))) (sa_cons (se_mul (se_ix (sv 0) se_int) (se_ix (sv 1) se_int)) sa_nil)))))⟩
theorem ok_times (T : Tx K mg) : FnOk P w K mg base CX0 2 T.f_times T.fd_times ["a", "b"] (spD K 2 m_times) := okD (N := ["a", "b"]) (ps := ["a", "b"]) (k := 1) (b := b_times) T.F_times sc_times fun cdv A outer s H E hr => by
  have nd := sc_times.nd
  exact ⟨_, (ss_one (ss_ret (se_call (ok_number T) (hr.mono (by decide)) (by rfl) T.g_number T.F_number.kp T.b_number (sa_cons (se_mul (se_ix (sv 0) se_int) (se_ix (sv 1) se_int)) (sa_cons (se_mul (se_ix (sv 0) se_int) (se_ix (sv 1) se_int)) sa_nil)))))⟩
theorem ok_divided (T : Tx K mg) : FnOk P w K mg base CX0 2 T.f_divided T.fd_divided ["a", "b"] (spD K 2 m_divided) := okD (N := ["a", "b"]) (ps := ["a", "b"]) (k := 1) (b := b_divided) T.F_divided sc_divided fun cdv A outer s H E hr => by
  have nd := sc_divided.nd
  exact ⟨_, (ss_one (ss_ret (se_call (ok_number T) (hr.mono (by decide)) (by rfl) T.g_number T.F_number.kp T.b_number (sa_cons (se_mul (se_ix (sv 0) se_int) (se_ix (sv 1) se_int)) (sa_cons (se_mul (se_ix (sv 0) se_int) (se_ix (sv 1) se_int)) sa_nil)))))⟩
theorem ok__law_number (T : Tx K mg) : FnOk P w K mg base CX0 2 T.f__law_number T.fd__law_number ["n", "d"] (spD K 2 m__law_number) := okD (N := ["n", "d", "common"]) (ps := ["n", "d"]) (k := 1) (b := b__law_number) T.F__law_number sc__law_number fun cdv A outer s H E hr => by
  have nd := sc__law_number.nd
  exact ⟨_, (ss_cons (ss_if (st_lt (sv 1) se_int)
      (ss_cons (ss_set (i := 0) nd rfl (by first | exact Or.inl rfl | exact Or.inr rfl) (se_neg (sv 0)))
    (ss_one (ss_set (i := 1) nd rfl (by first | exact Or.inl rfl | exact Or.inr rfl) (se_neg (sv 1)))))
      ss_nil)
    (ss_cons (ss_set (i := 2) nd rfl (by first | exact Or.inl rfl | exact Or.inr rfl) (se_call (ok__law_gcd T) (hr.mono (by decide)) (by rfl) T.g__law_gcd T.F__law_gcd.kp T.b__law_gcd (sa_cons (sv 0) (sa_cons (sv 1) sa_nil))))
    (ss_one (ss_ret (se_tup (sa_cons (se_fdiv (sv 0) (sv 2)) (sa_cons (se_fdiv (sv 1) (sv 2)) sa_nil)))))))⟩
theorem ok__law_is_number (T : Tx K mg) : FnOk P w K mg base CX0 2 T.f__law_is_number T.fd__law_is_number ["actual"] (spD K 1 m__law_is_number) := okD (N := ["actual", "one"]) (ps := ["actual"]) (k := 1) (b := b__law_is_number) T.F__law_is_number sc__law_is_number fun cdv A outer s H E hr => by
  have nd := sc__law_is_number.nd
  exact ⟨_, (ss_cons (ss_if (SW.st (sw_or (st_not (st_val (se_isi (T := "tuple") (by decide) (by rfl) T.n_isinstance boot_isi (by rfl) T.n_tuple boot_tuple_ (sv 0)))) (sw_or1 (st_ne hr.units (se_c_len (by rfl) T.n_len boot_len_ (sa_cons (sv 0) sa_nil)) se_int))))
      (ss_one (ss_ret se_bl))
      ss_nil)
    (ss_cons (ss_for PassesOwn.never rfl (si_seq (sv 0)) (sg_name (i := 1) nd rfl (by first | exact Or.inl rfl | exact Or.inr rfl))
      (ss_one (ss_if (SW.st (sw_or (st_not (st_val (se_isi (T := "int") (by decide) (by rfl) T.n_isinstance boot_isi (by rfl) T.n_int boot_int_ (sv 1)))) (sw_or1 (st_val (se_isi (T := "bool") (by decide) (by rfl) T.n_isinstance boot_isi (by rfl) T.n_bool boot_bool_ (sv 1))))))
      (ss_one (ss_ret se_bl))
      ss_nil)))
    (ss_one (ss_ret (se_and (se_ge (se_ix (sv 0) se_int) se_int) (se_one (se_eq hr.units (se_call (ok__law_gcd T) (hr.mono (by decide)) (by rfl) T.g__law_gcd T.F__law_gcd.kp T.b__law_gcd (sa_cons (se_ix (sv 0) se_int) (sa_cons (se_ix (sv 0) se_int) sa_nil))) se_int)))))))⟩
theorem ok__law_order (T : Tx K mg) : FnOk P w K mg base CX0 2 T.f__law_order T.fd__law_order ["a", "b"] (spD K 2 m__law_order) := okD (N := ["a", "b"]) (ps := ["a", "b"]) (k := 1) (b := b__law_order) T.F__law_order sc__law_order fun cdv A outer s H E hr => by
  have nd := sc__law_order.nd
  exact ⟨_, (ss_cons (ss_if (st_val (se_call (ok__law_less T) (hr.mono (by decide)) (by rfl) T.g__law_less T.F__law_less.kp T.b__law_less (sa_cons (sv 0) (sa_cons (sv 1) sa_nil))))
      (ss_one (ss_ret (se_neg se_int)))
      ss_nil)
    (ss_cons (ss_if (st_val (se_call (ok__law_less T) (hr.mono (by decide)) (by rfl) T.g__law_less T.F__law_less.kp T.b__law_less (sa_cons (sv 1) (sa_cons (sv 0) sa_nil))))
      (ss_one (ss_ret se_int))
      ss_nil)
    (ss_one (ss_ret se_int))))⟩
theorem ok_total (T : Tx K mg) : FnOk P w K mg base CX0 3 T.f_total T.fd_total ["numbers"] (spD K 1 m_total) := okD (N := ["numbers", "whole", "part"]) (ps := ["numbers"]) (k := 2) (b := b_total) T.F_total sc_total fun cdv A outer s H E hr => by
  have nd := sc_total.nd
  exact ⟨_, (ss_cons (ss_set (i := 1) nd rfl (by first | exact Or.inl rfl | exact Or.inr rfl) (se_tup (sa_cons se_int (sa_cons se_int sa_nil))))
    (ss_cons (ss_for PassesOwn.never rfl (si_seq (sv 0)) (sg_name (i := 2) nd rfl (by first | exact Or.inl rfl | exact Or.inr rfl))
      (ss_one (ss_set (i := 1) nd rfl (by first | exact Or.inl rfl | exact Or.inr rfl) (se_call (ok_plus T) (hr.mono (by decide)) (by rfl) T.g_plus T.F_plus.kp T.b_plus (sa_cons (sv 1) (sa_cons (sv 2) sa_nil))))))
    (ss_one (ss_ret (sv 1)))))⟩
theorem ok__law_is_numbers (T : Tx K mg) : FnOk P w K mg base CX0 3 T.f__law_is_numbers T.fd__law_is_numbers ["actual"] (spD K 1 m__law_is_numbers) := okD (N := ["actual", "one"]) (ps := ["actual"]) (k := 2) (b := b__law_is_numbers) T.F__law_is_numbers sc__law_is_numbers fun cdv A outer s H E hr => by
  have nd := sc__law_is_numbers.nd
  exact ⟨_, (ss_one (ss_ret (se_and (se_isi (T := "list") (by decide) (by rfl) T.n_isinstance boot_isi (by rfl) T.n_list boot_list_ (sv 0)) (se_one (se_c_all (by rfl) T.n_all boot_all_ (sa_cons (se_lc (own := [("one", 1)]) rfl nd (si_seq (sv 0)) (blkOk_by (N := ["actual", "one"]) (sc := defScope s__law_is_numbers) (by decide +kernel)) (fun _ _ _ _ _ => (sg_name (i := 1) nd rfl (by first | exact Or.inl rfl | exact Or.inr rfl))) (by decide) (fun _ _ _ _ _ => sts_nil) (fun _ _ _ _ _ => (se_call (ok__law_is_number T) (hr.mono (by decide)) (by rfl) T.g__law_is_number T.F__law_is_number.kp T.b__law_is_number (sa_cons (sv 1) sa_nil)))) sa_nil))))))⟩
theorem ok__law_plus (T : Tx K mg) : FnOk P w K mg base CX0 3 T.f__law_plus T.fd__law_plus ["a", "b"] (spD K 2 m__law_plus) := okD (N := ["a", "b"]) (ps := ["a", "b"]) (k := 2) (b := b__law_plus) T.F__law_plus sc__law_plus fun cdv A outer s H E hr => by
  have nd := sc__law_plus.nd
  exact ⟨_, (ss_one (ss_ret (se_call (ok__law_number T) (hr.mono (by decide)) (by rfl) T.g__law_number T.F__law_number.kp T.b__law_number (sa_cons (se_add (se_mul (se_ix (sv 0) se_int) (se_ix (sv 1) se_int)) (se_mul (se_ix (sv 1) se_int) (se_ix (sv 0) se_int))) (sa_cons (se_mul (se_ix (sv 0) se_int) (se_ix (sv 1) se_int)) sa_nil)))))⟩
theorem ok__law_times (T : Tx K mg) : FnOk P w K mg base CX0 3 T.f__law_times T.fd__law_times ["a", "b"] (spD K 2 m__law_times) := okD (N := ["a", "b"]) (ps := ["a", "b"]) (k := 2) (b := b__law_times) T.F__law_times sc__law_times fun cdv A outer s H E hr => by
  have nd := sc__law_times.nd
  exact ⟨_, (ss_one (ss_ret (se_call (ok__law_number T) (hr.mono (by decide)) (by rfl) T.g__law_number T.F__law_number.kp T.b__law_number (sa_cons (se_mul (se_ix (sv 0) se_int) (se_ix (sv 1) se_int)) (sa_cons (se_mul (se_ix (sv 0) se_int) (se_ix (sv 1) se_int)) sa_nil)))))⟩
theorem ok__law_drawn (T : Tx K mg) : FnOk P w K mg base CX0 3 T.f__law_drawn T.fd__law_drawn ["draws"] (spD K 1 m__law_drawn) := okD (N := ["draws", "kind", "n", "d"]) (ps := ["draws"]) (k := 2) (b := b__law_drawn) T.F__law_drawn sc__law_drawn fun cdv A outer s H E hr => by
  have nd := sc__law_drawn.nd
  exact ⟨_, (ss_cons (ss_set (i := 1) nd rfl (by first | exact Or.inl rfl | exact Or.inr rfl) (se_mod (se_c_int (by rfl) T.n_int boot_int_ (sa_cons (se_ix (sv 0) se_int) sa_nil)) se_int))
    (ss_cons (ss_if (st_eq hr.units (sv 1) se_int)
      (ss_cons (ss_set (i := 2) nd rfl (by first | exact Or.inl rfl | exact Or.inr rfl) (se_add (se_mul (se_add (se_mul (se_add (se_mul (se_c_int (by rfl) T.n_int boot_int_ (sa_cons (se_ix (sv 0) se_int) sa_nil)) se_int) (se_c_int (by rfl) T.n_int boot_int_ (sa_cons (se_ix (sv 0) se_int) sa_nil))) se_int) (se_c_int (by rfl) T.n_int boot_int_ (sa_cons (se_ix (sv 0) se_int) sa_nil))) se_int) (se_c_int (by rfl) T.n_int boot_int_ (sa_cons (se_ix (sv 0) se_int) sa_nil))))
    (ss_one (ss_set (i := 3) nd rfl (by first | exact Or.inl rfl | exact Or.inr rfl) (se_add (se_add se_int (se_mul (se_add (se_mul (se_add (se_mul (se_c_int (by rfl) T.n_int boot_int_ (sa_cons (se_ix (sv 0) se_int) sa_nil)) se_int) (se_c_int (by rfl) T.n_int boot_int_ (sa_cons (se_ix (sv 0) se_int) sa_nil))) se_int) (se_c_int (by rfl) T.n_int boot_int_ (sa_cons (se_ix (sv 0) se_int) sa_nil))) se_int)) (se_c_int (by rfl) T.n_int boot_int_ (sa_cons (se_ix (sv 0) se_int) sa_nil))))))
      (ss_cons (ss_set (i := 2) nd rfl (by first | exact Or.inl rfl | exact Or.inr rfl) (se_mod (se_c_int (by rfl) T.n_int boot_int_ (sa_cons (se_ix (sv 0) se_int) sa_nil)) (se_add se_int (se_mul se_int (sv 1)))))
    (ss_one (ss_set (i := 3) nd rfl (by first | exact Or.inl rfl | exact Or.inr rfl) (se_add se_int (se_mod (se_c_int (by rfl) T.n_int boot_int_ (sa_cons (se_ix (sv 0) se_int) sa_nil)) (se_add se_int (se_mul se_int (se_mod (se_c_int (by rfl) T.n_int boot_int_ (sa_cons (sv 1) sa_nil)) se_int)))))))))
    (ss_cons (ss_if (st_eq hr.units (se_mod (se_c_int (by rfl) T.n_int boot_int_ (sa_cons (se_ix (sv 0) se_int) sa_nil)) se_int) se_int)
      (ss_one (ss_set (i := 2) nd rfl (by first | exact Or.inl rfl | exact Or.inr rfl) (se_neg (sv 2))))
      ss_nil)
    (ss_one (ss_ret (se_call (ok__law_number T) (hr.mono (by decide)) (by rfl) T.g__law_number T.F__law_number.kp T.b__law_number (sa_cons (sv 2) (sa_cons (sv 3) sa_nil))))))))⟩
theorem ok__law_total (T : Tx K mg) : FnOk P w K mg base CX0 4 T.f__law_total T.fd__law_total ["numbers"] (spD K 1 m__law_total) := okD (N := ["numbers", "found", "one"]) (ps := ["numbers"]) (k := 3) (b := b__law_total) T.F__law_total sc__law_total fun cdv A outer s H E hr => by
  have nd := sc__law_total.nd
  exact ⟨_, (ss_cons (ss_set (i := 1) nd rfl (by first | exact Or.inl rfl | exact Or.inr rfl) (se_tup (sa_cons se_int (sa_cons se_int sa_nil))))
    (ss_cons (ss_for PassesOwn.never rfl (si_seq (sv 0)) (sg_name (i := 2) nd rfl (by first | exact Or.inl rfl | exact Or.inr rfl))
      (ss_one (ss_set (i := 1) nd rfl (by first | exact Or.inl rfl | exact Or.inr rfl) (se_call (ok__law_plus T) (hr.mono (by decide)) (by rfl) T.g__law_plus T.F__law_plus.kp T.b__law_plus (sa_cons (sv 1) (sa_cons (sv 2) sa_nil))))))
    (ss_one (ss_ret (sv 1)))))⟩
theorem ok_law (T : Tx K mg) : FnOk P w K mg base CX0 5 T.f_law T.fd_law ["script"] (spD K 1 m_law) := okD (N := ["script", "draws", "k", "row", "part", "a", "b", "results", "due", "one", "other", "actual"]) (ps := ["script"]) (k := 4) (b := b_law) T.F_law sc_law fun cdv A outer s H E hr => by
  have nd := sc_law.nd
  exact ⟨_, (ss_cons (ss_set (i := 1) nd rfl (by first | exact Or.inl rfl | exact Or.inr rfl) (se_call (ok__law_draws T) (hr.mono (by decide)) (by rfl) T.g__law_draws T.F__law_draws.kp T.b__law_draws (sa_cons (sv 0) (sa_cons se_int sa_nil))))
    (ss_cons (ss_for PassesOwn.never rfl (si_r1 (by rfl) T.n_range (sa_cons se_int sa_nil)) (sg_name (i := 2) nd rfl (by first | exact Or.inl rfl | exact Or.inr rfl))
      (ss_cons (ss_set (i := 4) nd rfl (by first | exact Or.inl rfl | exact Or.inr rfl) (se_slO (ov 1) (so_some (se_mul se_int (sv 2))) (so_some (se_add (se_mul se_int (sv 2)) se_int))))
    (ss_cons (ss_set (i := 5) nd rfl (by first | exact Or.inl rfl | exact Or.inr rfl) (se_call (ok__law_drawn T) (hr.mono (by decide)) (by rfl) T.g__law_drawn T.F__law_drawn.kp T.b__law_drawn (sa_cons (se_slO (ov 4) so_none (so_some se_int)) sa_nil)))
    (ss_cons (ss_set (i := 6) nd rfl (by first | exact Or.inl rfl | exact Or.inr rfl) (se_call (ok__law_drawn T) (hr.mono (by decide)) (by rfl) T.g__law_drawn T.F__law_drawn.kp T.b__law_drawn (sa_cons (se_slO (ov 4) (so_some se_int) (so_some se_int)) sa_nil)))
    (ss_cons (ss_if (st_eq hr.units (se_mod (se_c_int (by rfl) T.n_int boot_int_ (sa_cons (se_ixO (ov 4) se_int) sa_nil)) se_int) se_int)
      (ss_one (ss_set (i := 6) nd rfl (by first | exact Or.inl rfl | exact Or.inr rfl) (sv 5)))
      ss_nil)
    (ss_cons (ss_if (st_eq hr.units (se_mod (se_c_int (by rfl) T.n_int boot_int_ (sa_cons (se_ixO (ov 4) se_int) sa_nil)) se_int) se_int)
      (ss_one (ss_set (i := 5) nd rfl (by first | exact Or.inl rfl | exact Or.inr rfl) (se_call (ok__law_times T) (hr.mono (by decide)) (by rfl) T.g__law_times T.F__law_times.kp T.b__law_times (sa_cons (sv 5) (sa_cons (se_call (ok__law_drawn T) (hr.mono (by decide)) (by rfl) T.g__law_drawn T.F__law_drawn.kp T.b__law_drawn (sa_cons (se_slO (ov 4) (so_some se_int) (so_some se_int)) sa_nil)) sa_nil)))))
      ss_nil)
    (ss_cons (ss_set (i := 7) nd rfl (by first | exact Or.inl rfl | exact Or.inr rfl) (se_lst (sa_cons (se_call (ok_plus T) (hr.mono (by decide)) (by rfl) T.g_plus T.F_plus.kp T.b_plus (sa_cons (sv 5) (sa_cons (sv 6) sa_nil))) (sa_cons (se_call (ok_minus T) (hr.mono (by decide)) (by rfl) T.g_minus T.F_minus.kp T.b_minus (sa_cons (sv 5) (sa_cons (sv 6) sa_nil))) (sa_cons (se_call (ok_times T) (hr.mono (by decide)) (by rfl) T.g_times T.F_times.kp T.b_times (sa_cons (sv 5) (sa_cons (sv 6) sa_nil))) sa_nil)))))
    (ss_cons (ss_set (i := 8) nd rfl (by first | exact Or.inl rfl | exact Or.inr rfl) (se_lst (sa_cons (se_call (ok__law_plus T) (hr.mono (by decide)) (by rfl) T.g__law_plus T.F__law_plus.kp T.b__law_plus (sa_cons (sv 5) (sa_cons (sv 6) sa_nil))) (sa_cons (se_call (ok__law_plus T) (hr.mono (by decide)) (by rfl) T.g__law_plus T.F__law_plus.kp T.b__law_plus (sa_cons (sv 5) (sa_cons (se_tup (sa_cons (se_neg (se_ix (sv 6) se_int)) (sa_cons (se_ix (sv 6) se_int) sa_nil))) sa_nil))) (sa_cons (se_call (ok__law_times T) (hr.mono (by decide)) (by rfl) T.g__law_times T.F__law_times.kp T.b__law_times (sa_cons (sv 5) (sa_cons (sv 6) sa_nil))) sa_nil)))))
    (ss_cons (ss_if (st_ne hr.units (se_ix (sv 6) se_int) se_int)
      (ss_cons (ss_append (ov 7) (se_call (ok_divided T) (hr.mono (by decide)) (by rfl) T.g_divided T.F_divided.kp T.b_divided (sa_cons (sv 5) (sa_cons (sv 6) sa_nil))))
    (ss_one (ss_append (ov 8) (se_call (ok__law_number T) (hr.mono (by decide)) (by rfl) T.g__law_number T.F__law_number.kp T.b__law_number (sa_cons (se_mul (se_ix (sv 5) se_int) (se_ix (sv 6) se_int)) (sa_cons (se_mul (se_ix (sv 5) se_int) (se_ix (sv 6) se_int)) sa_nil))))))
      ss_nil)
    (ss_cons (ss_frz 8 (ss_frz 7 (ss_if (SW.st (sw_or (st_not (st_val (se_call (ok__law_is_numbers T) (hr.mono (by decide)) (by rfl) T.g__law_is_numbers T.F__law_is_numbers.kp T.b__law_is_numbers (sa_cons (sv 7) sa_nil)))) (sw_or1 (st_ne hr.units (sv 7) (sv 8)))))
      (ss_one (ss_ret se_bl))
      ss_nil)))
    (ss_one (ss_for PassesOwn.never rfl (si_seq (se_lst (sa_cons (se_tup (sa_cons (sv 5) (sa_cons (sv 6) sa_nil))) (sa_cons (se_tup (sa_cons (sv 6) (sa_cons (sv 5) sa_nil))) (sa_cons (se_tup (sa_cons (sv 5) (sa_cons (sv 5) sa_nil))) sa_nil))))) (sg_tup2 rfl (pgs_cons (pg_name (i := 9) nd rfl (by first | exact Or.inl rfl | exact Or.inr rfl)) (pgs_cons (pg_name (i := 10) nd rfl (by first | exact Or.inl rfl | exact Or.inr rfl)) pgs_nil)))
      (ss_cons (ss_set (i := 11) nd rfl (by first | exact Or.inl rfl | exact Or.inr rfl) (se_call (ok_compare T) (hr.mono (by decide)) (by rfl) T.g_compare T.F_compare.kp T.b_compare (sa_cons (sv 9) (sa_cons (sv 10) sa_nil))))
    (ss_one (ss_if (SW.st (sw_or (st_val (se_isi (T := "bool") (by decide) (by rfl) T.n_isinstance boot_isi (by rfl) T.n_bool boot_bool_ (sv 11))) (sw_or (st_not (st_val (se_isi (T := "int") (by decide) (by rfl) T.n_isinstance boot_isi (by rfl) T.n_int boot_int_ (sv 11)))) (sw_or1 (st_ne hr.units (sv 11) (se_call (ok__law_order T) (hr.mono (by decide)) (by rfl) T.g__law_order T.F__law_order.kp T.b__law_order (sa_cons (sv 9) (sa_cons (sv 10) sa_nil))))))))
      (ss_one (ss_ret se_bl))
      ss_nil)))))))))))))))
    (ss_cons (ss_setLc (i := 3) (own := [("k", 2)]) rfl nd rfl rfl (sw_true rfl rfl rfl (by decide +kernel)) (si_r1 (by rfl) T.n_range (sa_cons (se_mod (se_c_int (by rfl) T.n_int boot_int_ (sa_cons (se_ixO (ov 1) se_int) sa_nil)) se_int) sa_nil)) (blkOk_by (N := ["script", "draws", "k", "row", "part", "a", "b", "results", "due", "one", "other", "actual"]) (sc := defScope s_law) (by decide +kernel)) (fun _ _ _ _ _ => (sg_name (i := 2) nd rfl (by first | exact Or.inl rfl | exact Or.inr rfl))) (by decide) (fun _ _ _ _ _ => sts_nil) (fun _ _ _ _ _ => (se_call (ok__law_drawn T) (hr.mono (by decide)) (by rfl) T.g__law_drawn T.F__law_drawn.kp T.b__law_drawn (sa_cons (se_slO (ov 1) (so_some (se_mul se_int (sv 2))) (so_some (se_add (se_mul se_int (sv 2)) se_int))) sa_nil))))
    (ss_one (ss_frz 3 (ss_ret (se_and (se_eq hr.units (se_call (ok_total T) (hr.mono (by decide)) (by rfl) T.g_total T.F_total.kp T.b_total (sa_cons (se_c_list (by rfl) T.n_list boot_list_ (sa_cons (sv 3) sa_nil)) sa_nil)) (se_call (ok__law_total T) (hr.mono (by decide)) (by rfl) T.g__law_total T.F__law_total.kp T.b__law_total (sa_cons (sv 3) sa_nil))) (se_one (se_eq hr.units (se_call (ok_total T) (hr.mono (by decide)) (by rfl) T.g_total T.F_total.kp T.b_total (sa_cons (se_lst sa_nil) sa_nil)) (se_tup (sa_cons se_int (sa_cons se_int sa_nil))))))))))))⟩
end
theorem all_mk (hlaw : ∀ ns : List Int, ns.length ≤ 63 → m_law [.list (ns.map PyData.int)] = some (.val (.bool true))) {l : PySem.W.OpenLaw} {w : World} {K : PySem.W.Frag} {h : Heap} {mg : Str → Option Value} {fa : Addr} (X : K.In h) (G : h.Ns mainGlobals mg) (hfa : mg "law" = some (.ref fa))
    {od_number an_number : Option Addr} {sl_number : Array (Option Value)} {oc_number kV_number dc_number pm_number cd_number ct_number : Value} {f_number : Addr}
    (a_number : PySem.W.nsIn K mainGlobals "number" = some (some (.ref f_number))) (l_number : K.lookup f_number = some ⟨oc_number, od_number, .func (PySem.W.fnOf "number" "number" (defArgs s_number) (defBody s_number) (defScope s_number) .none kV_number dc_number pm_number an_number cd_number ct_number), sl_number⟩) (c_number : PySem.W.codeIn K cd_number "number" = true) (k_number : PySem.W.keepIn K (.ref f_number) = true)
    {od_compare an_compare : Option Addr} {sl_compare : Array (Option Value)} {oc_compare kV_compare dc_compare pm_compare cd_compare ct_compare : Value} {f_compare : Addr}
    (a_compare : PySem.W.nsIn K mainGlobals "compare" = some (some (.ref f_compare))) (l_compare : K.lookup f_compare = some ⟨oc_compare, od_compare, .func (PySem.W.fnOf "compare" "compare" (defArgs s_compare) (defBody s_compare) (defScope s_compare) .none kV_compare dc_compare pm_compare an_compare cd_compare ct_compare), sl_compare⟩) (c_compare : PySem.W.codeIn K cd_compare "compare" = true) (k_compare : PySem.W.keepIn K (.ref f_compare) = true)
    {od__law_draws an__law_draws : Option Addr} {sl__law_draws : Array (Option Value)} {oc__law_draws kV__law_draws dc__law_draws pm__law_draws cd__law_draws ct__law_draws : Value} {f__law_draws : Addr}
    (a__law_draws : PySem.W.nsIn K mainGlobals "_law_draws" = some (some (.ref f__law_draws))) (l__law_draws : K.lookup f__law_draws = some ⟨oc__law_draws, od__law_draws, .func (PySem.W.fnOf "_law_draws" "_law_draws" (defArgs s__law_draws) (defBody s__law_draws) (defScope s__law_draws) .none kV__law_draws dc__law_draws pm__law_draws an__law_draws cd__law_draws ct__law_draws), sl__law_draws⟩) (c__law_draws : PySem.W.codeIn K cd__law_draws "_law_draws" = true) (k__law_draws : PySem.W.keepIn K (.ref f__law_draws) = true)
    {od__law_gcd an__law_gcd : Option Addr} {sl__law_gcd : Array (Option Value)} {oc__law_gcd kV__law_gcd dc__law_gcd pm__law_gcd cd__law_gcd ct__law_gcd : Value} {f__law_gcd : Addr}
    (a__law_gcd : PySem.W.nsIn K mainGlobals "_law_gcd" = some (some (.ref f__law_gcd))) (l__law_gcd : K.lookup f__law_gcd = some ⟨oc__law_gcd, od__law_gcd, .func (PySem.W.fnOf "_law_gcd" "_law_gcd" (defArgs s__law_gcd) (defBody s__law_gcd) (defScope s__law_gcd) .none kV__law_gcd dc__law_gcd pm__law_gcd an__law_gcd cd__law_gcd ct__law_gcd), sl__law_gcd⟩) (c__law_gcd : PySem.W.codeIn K cd__law_gcd "_law_gcd" = true) (k__law_gcd : PySem.W.keepIn K (.ref f__law_gcd) = true)
    {od__law_less an__law_less : Option Addr} {sl__law_less : Array (Option Value)} {oc__law_less kV__law_less dc__law_less pm__law_less cd__law_less ct__law_less : Value} {f__law_less : Addr}
    (a__law_less : PySem.W.nsIn K mainGlobals "_law_less" = some (some (.ref f__law_less))) (l__law_less : K.lookup f__law_less = some ⟨oc__law_less, od__law_less, .func (PySem.W.fnOf "_law_less" "_law_less" (defArgs s__law_less) (defBody s__law_less) (defScope s__law_less) .none kV__law_less dc__law_less pm__law_less an__law_less cd__law_less ct__law_less), sl__law_less⟩) (c__law_less : PySem.W.codeIn K cd__law_less "_law_less" = true) (k__law_less : PySem.W.keepIn K (.ref f__law_less) = true)
    {od_plus an_plus : Option Addr} {sl_plus : Array (Option Value)} {oc_plus kV_plus dc_plus pm_plus cd_plus ct_plus : Value} {f_plus : Addr}
    (a_plus : PySem.W.nsIn K mainGlobals "plus" = some (some (.ref f_plus))) (l_plus : K.lookup f_plus = some ⟨oc_plus, od_plus, .func (PySem.W.fnOf "plus" "plus" (defArgs s_plus) (defBody s_plus) (defScope s_plus) .none kV_plus dc_plus pm_plus an_plus cd_plus ct_plus), sl_plus⟩) (c_plus : PySem.W.codeIn K cd_plus "plus" = true) (k_plus : PySem.W.keepIn K (.ref f_plus) = true)
    {od_minus an_minus : Option Addr} {sl_minus : Array (Option Value)} {oc_minus kV_minus dc_minus pm_minus cd_minus ct_minus : Value} {f_minus : Addr}
    (a_minus : PySem.W.nsIn K mainGlobals "minus" = some (some (.ref f_minus))) (l_minus : K.lookup f_minus = some ⟨oc_minus, od_minus, .func (PySem.W.fnOf "minus" "minus" (defArgs s_minus) (defBody s_minus) (defScope s_minus) .none kV_minus dc_minus pm_minus an_minus cd_minus ct_minus), sl_minus⟩) (c_minus : PySem.W.codeIn K cd_minus "minus" = true) (k_minus : PySem.W.keepIn K (.ref f_minus) = true)
    {od_times an_times : Option Addr} {sl_times : Array (Option Value)} {oc_times kV_times dc_times pm_times cd_times ct_times : Value} {f_times : Addr}
    (a_times : PySem.W.nsIn K mainGlobals "times" = some (some (.ref f_times))) (l_times : K.lookup f_times = some ⟨oc_times, od_times, .func (PySem.W.fnOf "times" "times" (defArgs s_times) (defBody s_times) (defScope s_times) .none kV_times dc_times pm_times an_times cd_times ct_times), sl_times⟩) (c_times : PySem.W.codeIn K cd_times "times" = true) (k_times : PySem.W.keepIn K (.ref f_times) = true)
    {od_divided an_divided : Option Addr} {sl_divided : Array (Option Value)} {oc_divided kV_divided dc_divided pm_divided cd_divided ct_divided : Value} {f_divided : Addr}
    (a_divided : PySem.W.nsIn K mainGlobals "divided" = some (some (.ref f_divided))) (l_divided : K.lookup f_divided = some ⟨oc_divided, od_divided, .func (PySem.W.fnOf "divided" "divided" (defArgs s_divided) (defBody s_divided) (defScope s_divided) .none kV_divided dc_divided pm_divided an_divided cd_divided ct_divided), sl_divided⟩) (c_divided : PySem.W.codeIn K cd_divided "divided" = true) (k_divided : PySem.W.keepIn K (.ref f_divided) = true)
    {od__law_number an__law_number : Option Addr} {sl__law_number : Array (Option Value)} {oc__law_number kV__law_number dc__law_number pm__law_number cd__law_number ct__law_number : Value} {f__law_number : Addr}
    (a__law_number : PySem.W.nsIn K mainGlobals "_law_number" = some (some (.ref f__law_number))) (l__law_number : K.lookup f__law_number = some ⟨oc__law_number, od__law_number, .func (PySem.W.fnOf "_law_number" "_law_number" (defArgs s__law_number) (defBody s__law_number) (defScope s__law_number) .none kV__law_number dc__law_number pm__law_number an__law_number cd__law_number ct__law_number), sl__law_number⟩) (c__law_number : PySem.W.codeIn K cd__law_number "_law_number" = true) (k__law_number : PySem.W.keepIn K (.ref f__law_number) = true)
    {od__law_is_number an__law_is_number : Option Addr} {sl__law_is_number : Array (Option Value)} {oc__law_is_number kV__law_is_number dc__law_is_number pm__law_is_number cd__law_is_number ct__law_is_number : Value} {f__law_is_number : Addr}
    (a__law_is_number : PySem.W.nsIn K mainGlobals "_law_is_number" = some (some (.ref f__law_is_number))) (l__law_is_number : K.lookup f__law_is_number = some ⟨oc__law_is_number, od__law_is_number, .func (PySem.W.fnOf "_law_is_number" "_law_is_number" (defArgs s__law_is_number) (defBody s__law_is_number) (defScope s__law_is_number) .none kV__law_is_number dc__law_is_number pm__law_is_number an__law_is_number cd__law_is_number ct__law_is_number), sl__law_is_number⟩) (c__law_is_number : PySem.W.codeIn K cd__law_is_number "_law_is_number" = true) (k__law_is_number : PySem.W.keepIn K (.ref f__law_is_number) = true)
    {od__law_order an__law_order : Option Addr} {sl__law_order : Array (Option Value)} {oc__law_order kV__law_order dc__law_order pm__law_order cd__law_order ct__law_order : Value} {f__law_order : Addr}
    (a__law_order : PySem.W.nsIn K mainGlobals "_law_order" = some (some (.ref f__law_order))) (l__law_order : K.lookup f__law_order = some ⟨oc__law_order, od__law_order, .func (PySem.W.fnOf "_law_order" "_law_order" (defArgs s__law_order) (defBody s__law_order) (defScope s__law_order) .none kV__law_order dc__law_order pm__law_order an__law_order cd__law_order ct__law_order), sl__law_order⟩) (c__law_order : PySem.W.codeIn K cd__law_order "_law_order" = true) (k__law_order : PySem.W.keepIn K (.ref f__law_order) = true)
    {od_total an_total : Option Addr} {sl_total : Array (Option Value)} {oc_total kV_total dc_total pm_total cd_total ct_total : Value} {f_total : Addr}
    (a_total : PySem.W.nsIn K mainGlobals "total" = some (some (.ref f_total))) (l_total : K.lookup f_total = some ⟨oc_total, od_total, .func (PySem.W.fnOf "total" "total" (defArgs s_total) (defBody s_total) (defScope s_total) .none kV_total dc_total pm_total an_total cd_total ct_total), sl_total⟩) (c_total : PySem.W.codeIn K cd_total "total" = true) (k_total : PySem.W.keepIn K (.ref f_total) = true)
    {od__law_is_numbers an__law_is_numbers : Option Addr} {sl__law_is_numbers : Array (Option Value)} {oc__law_is_numbers kV__law_is_numbers dc__law_is_numbers pm__law_is_numbers cd__law_is_numbers ct__law_is_numbers : Value} {f__law_is_numbers : Addr}
    (a__law_is_numbers : PySem.W.nsIn K mainGlobals "_law_is_numbers" = some (some (.ref f__law_is_numbers))) (l__law_is_numbers : K.lookup f__law_is_numbers = some ⟨oc__law_is_numbers, od__law_is_numbers, .func (PySem.W.fnOf "_law_is_numbers" "_law_is_numbers" (defArgs s__law_is_numbers) (defBody s__law_is_numbers) (defScope s__law_is_numbers) .none kV__law_is_numbers dc__law_is_numbers pm__law_is_numbers an__law_is_numbers cd__law_is_numbers ct__law_is_numbers), sl__law_is_numbers⟩) (c__law_is_numbers : PySem.W.codeIn K cd__law_is_numbers "_law_is_numbers" = true) (k__law_is_numbers : PySem.W.keepIn K (.ref f__law_is_numbers) = true)
    {od__law_plus an__law_plus : Option Addr} {sl__law_plus : Array (Option Value)} {oc__law_plus kV__law_plus dc__law_plus pm__law_plus cd__law_plus ct__law_plus : Value} {f__law_plus : Addr}
    (a__law_plus : PySem.W.nsIn K mainGlobals "_law_plus" = some (some (.ref f__law_plus))) (l__law_plus : K.lookup f__law_plus = some ⟨oc__law_plus, od__law_plus, .func (PySem.W.fnOf "_law_plus" "_law_plus" (defArgs s__law_plus) (defBody s__law_plus) (defScope s__law_plus) .none kV__law_plus dc__law_plus pm__law_plus an__law_plus cd__law_plus ct__law_plus), sl__law_plus⟩) (c__law_plus : PySem.W.codeIn K cd__law_plus "_law_plus" = true) (k__law_plus : PySem.W.keepIn K (.ref f__law_plus) = true)
    {od__law_times an__law_times : Option Addr} {sl__law_times : Array (Option Value)} {oc__law_times kV__law_times dc__law_times pm__law_times cd__law_times ct__law_times : Value} {f__law_times : Addr}
    (a__law_times : PySem.W.nsIn K mainGlobals "_law_times" = some (some (.ref f__law_times))) (l__law_times : K.lookup f__law_times = some ⟨oc__law_times, od__law_times, .func (PySem.W.fnOf "_law_times" "_law_times" (defArgs s__law_times) (defBody s__law_times) (defScope s__law_times) .none kV__law_times dc__law_times pm__law_times an__law_times cd__law_times ct__law_times), sl__law_times⟩) (c__law_times : PySem.W.codeIn K cd__law_times "_law_times" = true) (k__law_times : PySem.W.keepIn K (.ref f__law_times) = true)
    {od__law_drawn an__law_drawn : Option Addr} {sl__law_drawn : Array (Option Value)} {oc__law_drawn kV__law_drawn dc__law_drawn pm__law_drawn cd__law_drawn ct__law_drawn : Value} {f__law_drawn : Addr}
    (a__law_drawn : PySem.W.nsIn K mainGlobals "_law_drawn" = some (some (.ref f__law_drawn))) (l__law_drawn : K.lookup f__law_drawn = some ⟨oc__law_drawn, od__law_drawn, .func (PySem.W.fnOf "_law_drawn" "_law_drawn" (defArgs s__law_drawn) (defBody s__law_drawn) (defScope s__law_drawn) .none kV__law_drawn dc__law_drawn pm__law_drawn an__law_drawn cd__law_drawn ct__law_drawn), sl__law_drawn⟩) (c__law_drawn : PySem.W.codeIn K cd__law_drawn "_law_drawn" = true) (k__law_drawn : PySem.W.keepIn K (.ref f__law_drawn) = true)
    {od__law_total an__law_total : Option Addr} {sl__law_total : Array (Option Value)} {oc__law_total kV__law_total dc__law_total pm__law_total cd__law_total ct__law_total : Value} {f__law_total : Addr}
    (a__law_total : PySem.W.nsIn K mainGlobals "_law_total" = some (some (.ref f__law_total))) (l__law_total : K.lookup f__law_total = some ⟨oc__law_total, od__law_total, .func (PySem.W.fnOf "_law_total" "_law_total" (defArgs s__law_total) (defBody s__law_total) (defScope s__law_total) .none kV__law_total dc__law_total pm__law_total an__law_total cd__law_total ct__law_total), sl__law_total⟩) (c__law_total : PySem.W.codeIn K cd__law_total "_law_total" = true) (k__law_total : PySem.W.keepIn K (.ref f__law_total) = true)
    {od_law an_law : Option Addr} {sl_law : Array (Option Value)} {oc_law kV_law dc_law pm_law cd_law ct_law : Value} {f_law : Addr}
    (a_law : PySem.W.nsIn K mainGlobals "law" = some (some (.ref f_law))) (l_law : K.lookup f_law = some ⟨oc_law, od_law, .func (PySem.W.fnOf "law" "law" (defArgs s_law) (defBody s_law) (defScope s_law) .none kV_law dc_law pm_law an_law cd_law ct_law), sl_law⟩) (c_law : PySem.W.codeIn K cd_law "law" = true) (k_law : PySem.W.keepIn K (.ref f_law) = true)
    (z_abs : PySem.W.nsIn K mainGlobals "abs" = some none)
    (z_all : PySem.W.nsIn K mainGlobals "all" = some none)
    (z_bool : PySem.W.nsIn K mainGlobals "bool" = some none)
    (z_int : PySem.W.nsIn K mainGlobals "int" = some none)
    (z_isinstance : PySem.W.nsIn K mainGlobals "isinstance" = some none)
    (z_len : PySem.W.nsIn K mainGlobals "len" = some none)
    (z_list : PySem.W.nsIn K mainGlobals "list" = some none)
    (z_range : PySem.W.nsIn K mainGlobals "range" = some none)
    (z_tuple : PySem.W.nsIn K mainGlobals "tuple" = some none)
    (y_gcd : PySem.W.nsIn K mainGlobals "gcd" = some (some (.builtin "math.gcd")))
    : ∃ fd : FuncData, (∀ (s : Shared) (v : Value), BindsTo s fd ⟨[v], []⟩ [("script", v)]) ∧ ∀ base : Heap, K.In base → base.Ns mainGlobals mg → FnOk l.prog w K mg base CX0 5 fa fd ["script"] (spLaw K) := by
  have e := hfa.symm.trans (PySem.W.mg_of X G a_law)
  have e : fa = f_law := by cases e; rfl
  subst e
  let T : Tx K mg := {
      f_number := f_number,
      fd_number := _,
      F_number := fun_mk (st := s_number) l_number c_number k_number,
      g_number := PySem.W.mg_of X G a_number,
      b_number := (fun_mk (st := s_number) l_number c_number k_number).binds (ps := ["n", "d"]) fun _ _ _ _ _ _ us hl => match us, hl with | [_, _], _ => rfl,
      f_compare := f_compare,
      fd_compare := _,
      F_compare := fun_mk (st := s_compare) l_compare c_compare k_compare,
      g_compare := PySem.W.mg_of X G a_compare,
      b_compare := (fun_mk (st := s_compare) l_compare c_compare k_compare).binds (ps := ["a", "b"]) fun _ _ _ _ _ _ us hl => match us, hl with | [_, _], _ => rfl,
      f__law_draws := f__law_draws,
      fd__law_draws := _,
      F__law_draws := fun_mk (st := s__law_draws) l__law_draws c__law_draws k__law_draws,
      g__law_draws := PySem.W.mg_of X G a__law_draws,
      b__law_draws := (fun_mk (st := s__law_draws) l__law_draws c__law_draws k__law_draws).binds (ps := ["script", "count"]) fun _ _ _ _ _ _ us hl => match us, hl with | [_, _], _ => rfl,
      f__law_gcd := f__law_gcd,
      fd__law_gcd := _,
      F__law_gcd := fun_mk (st := s__law_gcd) l__law_gcd c__law_gcd k__law_gcd,
      g__law_gcd := PySem.W.mg_of X G a__law_gcd,
      b__law_gcd := (fun_mk (st := s__law_gcd) l__law_gcd c__law_gcd k__law_gcd).binds (ps := ["a", "b"]) fun _ _ _ _ _ _ us hl => match us, hl with | [_, _], _ => rfl,
      f__law_less := f__law_less,
      fd__law_less := _,
      F__law_less := fun_mk (st := s__law_less) l__law_less c__law_less k__law_less,
      g__law_less := PySem.W.mg_of X G a__law_less,
      b__law_less := (fun_mk (st := s__law_less) l__law_less c__law_less k__law_less).binds (ps := ["a", "b"]) fun _ _ _ _ _ _ us hl => match us, hl with | [_, _], _ => rfl,
      f_plus := f_plus,
      fd_plus := _,
      F_plus := fun_mk (st := s_plus) l_plus c_plus k_plus,
      g_plus := PySem.W.mg_of X G a_plus,
      b_plus := (fun_mk (st := s_plus) l_plus c_plus k_plus).binds (ps := ["a", "b"]) fun _ _ _ _ _ _ us hl => match us, hl with | [_, _], _ => rfl,
      f_minus := f_minus,
      fd_minus := _,
      F_minus := fun_mk (st := s_minus) l_minus c_minus k_minus,
      g_minus := PySem.W.mg_of X G a_minus,
      b_minus := (fun_mk (st := s_minus) l_minus c_minus k_minus).binds (ps := ["a", "b"]) fun _ _ _ _ _ _ us hl => match us, hl with | [_, _], _ => rfl,
      f_times := f_times,
      fd_times := _,
      F_times := fun_mk (st := s_times) l_times c_times k_times,
      g_times := PySem.W.mg_of X G a_times,
      b_times := (fun_mk (st := s_times) l_times c_times k_times).binds (ps := ["a", "b"]) fun _ _ _ _ _ _ us hl => match us, hl with | [_, _], _ => rfl,
      f_divided := f_divided,
      fd_divided := _,
      F_divided := fun_mk (st := s_divided) l_divided c_divided k_divided,
      g_divided := PySem.W.mg_of X G a_divided,
      b_divided := (fun_mk (st := s_divided) l_divided c_divided k_divided).binds (ps := ["a", "b"]) fun _ _ _ _ _ _ us hl => match us, hl with | [_, _], _ => rfl,
      f__law_number := f__law_number,
      fd__law_number := _,
      F__law_number := fun_mk (st := s__law_number) l__law_number c__law_number k__law_number,
      g__law_number := PySem.W.mg_of X G a__law_number,
      b__law_number := (fun_mk (st := s__law_number) l__law_number c__law_number k__law_number).binds (ps := ["n", "d"]) fun _ _ _ _ _ _ us hl => match us, hl with | [_, _], _ => rfl,
      f__law_is_number := f__law_is_number,
      fd__law_is_number := _,
      F__law_is_number := fun_mk (st := s__law_is_number) l__law_is_number c__law_is_number k__law_is_number,
      g__law_is_number := PySem.W.mg_of X G a__law_is_number,
      b__law_is_number := (fun_mk (st := s__law_is_number) l__law_is_number c__law_is_number k__law_is_number).binds (ps := ["actual"]) fun _ _ _ _ _ _ us hl => match us, hl with | [_], _ => rfl,
      f__law_order := f__law_order,
      fd__law_order := _,
      F__law_order := fun_mk (st := s__law_order) l__law_order c__law_order k__law_order,
      g__law_order := PySem.W.mg_of X G a__law_order,
      b__law_order := (fun_mk (st := s__law_order) l__law_order c__law_order k__law_order).binds (ps := ["a", "b"]) fun _ _ _ _ _ _ us hl => match us, hl with | [_, _], _ => rfl,
      f_total := f_total,
      fd_total := _,
      F_total := fun_mk (st := s_total) l_total c_total k_total,
      g_total := PySem.W.mg_of X G a_total,
      b_total := (fun_mk (st := s_total) l_total c_total k_total).binds (ps := ["numbers"]) fun _ _ _ _ _ _ us hl => match us, hl with | [_], _ => rfl,
      f__law_is_numbers := f__law_is_numbers,
      fd__law_is_numbers := _,
      F__law_is_numbers := fun_mk (st := s__law_is_numbers) l__law_is_numbers c__law_is_numbers k__law_is_numbers,
      g__law_is_numbers := PySem.W.mg_of X G a__law_is_numbers,
      b__law_is_numbers := (fun_mk (st := s__law_is_numbers) l__law_is_numbers c__law_is_numbers k__law_is_numbers).binds (ps := ["actual"]) fun _ _ _ _ _ _ us hl => match us, hl with | [_], _ => rfl,
      f__law_plus := f__law_plus,
      fd__law_plus := _,
      F__law_plus := fun_mk (st := s__law_plus) l__law_plus c__law_plus k__law_plus,
      g__law_plus := PySem.W.mg_of X G a__law_plus,
      b__law_plus := (fun_mk (st := s__law_plus) l__law_plus c__law_plus k__law_plus).binds (ps := ["a", "b"]) fun _ _ _ _ _ _ us hl => match us, hl with | [_, _], _ => rfl,
      f__law_times := f__law_times,
      fd__law_times := _,
      F__law_times := fun_mk (st := s__law_times) l__law_times c__law_times k__law_times,
      g__law_times := PySem.W.mg_of X G a__law_times,
      b__law_times := (fun_mk (st := s__law_times) l__law_times c__law_times k__law_times).binds (ps := ["a", "b"]) fun _ _ _ _ _ _ us hl => match us, hl with | [_, _], _ => rfl,
      f__law_drawn := f__law_drawn,
      fd__law_drawn := _,
      F__law_drawn := fun_mk (st := s__law_drawn) l__law_drawn c__law_drawn k__law_drawn,
      g__law_drawn := PySem.W.mg_of X G a__law_drawn,
      b__law_drawn := (fun_mk (st := s__law_drawn) l__law_drawn c__law_drawn k__law_drawn).binds (ps := ["draws"]) fun _ _ _ _ _ _ us hl => match us, hl with | [_], _ => rfl,
      f__law_total := f__law_total,
      fd__law_total := _,
      F__law_total := fun_mk (st := s__law_total) l__law_total c__law_total k__law_total,
      g__law_total := PySem.W.mg_of X G a__law_total,
      b__law_total := (fun_mk (st := s__law_total) l__law_total c__law_total k__law_total).binds (ps := ["numbers"]) fun _ _ _ _ _ _ us hl => match us, hl with | [_], _ => rfl,
      f_law := fa,
      fd_law := _,
      F_law := fun_mk (st := s_law) l_law c_law k_law,
      g_law := PySem.W.mg_of X G a_law,
      b_law := (fun_mk (st := s_law) l_law c_law k_law).binds (ps := ["script"]) fun _ _ _ _ _ _ us hl => match us, hl with | [_], _ => rfl,
      n_abs := PySem.W.mg_none_of X G z_abs,
      n_all := PySem.W.mg_none_of X G z_all,
      n_bool := PySem.W.mg_none_of X G z_bool,
      n_int := PySem.W.mg_none_of X G z_int,
      n_isinstance := PySem.W.mg_none_of X G z_isinstance,
      n_len := PySem.W.mg_none_of X G z_len,
      n_list := PySem.W.mg_none_of X G z_list,
      n_range := PySem.W.mg_none_of X G z_range,
      n_tuple := PySem.W.mg_none_of X G z_tuple,
      m_gcd := PySem.W.mg_of X G y_gcd }
  exact ⟨T.fd_law, fun s v => .of_eq rfl, fun base _ _ => law_of hlaw (ok_law T)⟩
end Law
open PySem PySem.W PyProof.Rows
set_option maxHeartbeats 0 in
theorem PySem.Challenge.cw_oddkeep_k02_sums_and_products_holds : PySem.Challenge.rw_oddkeep_k02_sums_and_products.Holds := by
  w_on; o_law; k_head; (case hw => w_witness2)
  k_fill
  refine L2.walk_of (l := PySem.Challenge.rw_oddkeep_k02_sums_and_products) (n := 63) (k := 5) (x := "script") (CX := fun _ => L2.CX0) (sp := fun w => Dn.spLaw _) rfl (by decide) rfl ⟨rfl, by decide, by decide⟩ (fun w h Y => PySem.W.kIn_of Y) ?F (fun _ _ a ns hl _ hS => ⟨a, ns, rfl, hS, hl, fun _ => rfl⟩) (fun _ _ _ _ _ h => h)
  case F =>
    intro w mg fa h KX G hmg
    refine' Law.all_mk Law.hlaw KX G hmg ?a_number ?l_number ?c_number ?k_number ?a_compare ?l_compare ?c_compare ?k_compare ?a__law_draws ?l__law_draws ?c__law_draws ?k__law_draws ?a__law_gcd ?l__law_gcd ?c__law_gcd ?k__law_gcd ?a__law_less ?l__law_less ?c__law_less ?k__law_less ?a_plus ?l_plus ?c_plus ?k_plus ?a_minus ?l_minus ?c_minus ?k_minus ?a_times ?l_times ?c_times ?k_times ?a_divided ?l_divided ?c_divided ?k_divided ?a__law_number ?l__law_number ?c__law_number ?k__law_number ?a__law_is_number ?l__law_is_number ?c__law_is_number ?k__law_is_number ?a__law_order ?l__law_order ?c__law_order ?k__law_order ?a_total ?l_total ?c_total ?k_total ?a__law_is_numbers ?l__law_is_numbers ?c__law_is_numbers ?k__law_is_numbers ?a__law_plus ?l__law_plus ?c__law_plus ?k__law_plus ?a__law_times ?l__law_times ?c__law_times ?k__law_times ?a__law_drawn ?l__law_drawn ?c__law_drawn ?k__law_drawn ?a__law_total ?l__law_total ?c__law_total ?k__law_total ?a_law ?l_law ?c_law ?k_law ?z_abs ?z_all ?z_bool ?z_int ?z_isinstance ?z_len ?z_list ?z_range ?z_tuple ?y_gcd
    (case a_number => k_is); (case l_number => k_is); (case c_number => k_is); (case k_number => k_is)
    (case a_compare => k_is); (case l_compare => k_is); (case c_compare => k_is); (case k_compare => k_is)
    (case a__law_draws => k_is); (case l__law_draws => k_is); (case c__law_draws => k_is); (case k__law_draws => k_is)
    (case a__law_gcd => k_is); (case l__law_gcd => k_is); (case c__law_gcd => k_is); (case k__law_gcd => k_is)
    (case a__law_less => k_is); (case l__law_less => k_is); (case c__law_less => k_is); (case k__law_less => k_is)
    (case a_plus => k_is); (case l_plus => k_is); (case c_plus => k_is); (case k_plus => k_is)
    (case a_minus => k_is); (case l_minus => k_is); (case c_minus => k_is); (case k_minus => k_is)
    (case a_times => k_is); (case l_times => k_is); (case c_times => k_is); (case k_times => k_is)
    (case a_divided => k_is); (case l_divided => k_is); (case c_divided => k_is); (case k_divided => k_is)
    (case a__law_number => k_is); (case l__law_number => k_is); (case c__law_number => k_is); (case k__law_number => k_is)
    (case a__law_is_number => k_is); (case l__law_is_number => k_is); (case c__law_is_number => k_is); (case k__law_is_number => k_is)
    (case a__law_order => k_is); (case l__law_order => k_is); (case c__law_order => k_is); (case k__law_order => k_is)
    (case a_total => k_is); (case l_total => k_is); (case c_total => k_is); (case k_total => k_is)
    (case a__law_is_numbers => k_is); (case l__law_is_numbers => k_is); (case c__law_is_numbers => k_is); (case k__law_is_numbers => k_is)
    (case a__law_plus => k_is); (case l__law_plus => k_is); (case c__law_plus => k_is); (case k__law_plus => k_is)
    (case a__law_times => k_is); (case l__law_times => k_is); (case c__law_times => k_is); (case k__law_times => k_is)
    (case a__law_drawn => k_is); (case l__law_drawn => k_is); (case c__law_drawn => k_is); (case k__law_drawn => k_is)
    (case a__law_total => k_is); (case l__law_total => k_is); (case c__law_total => k_is); (case k__law_total => k_is)
    (case a_law => k_is); (case l_law => k_is); (case c_law => k_is); (case k_law => k_is)
    (case z_abs => k_is); (case z_all => k_is); (case z_bool => k_is); (case z_int => k_is)
    (case z_isinstance => k_is); (case z_len => k_is); (case z_list => k_is); (case z_range => k_is)
    (case z_tuple => k_is); (case y_gcd => k_is)

