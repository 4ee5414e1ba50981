import PyProof.Rows.All
import Wide.All
import OpenK.AllK
import Wide.FinOn
import HandS.ForMost
import HandS.Gcd
import HandS.IsInst
import HandS.Wide
import HandS.TupAny
import HandS.Deep
import HandS.Style
import PyProof.Rows.RegFStrParts
import PyProof.ListRange
import HandS.FStr
import HandS.Text
import HandS.StrMore
import HandS.Iter
import HandS.Exc
import HandS.ExcOwn
import HandS.WordsExc
import HandS.CallSlots
import HandS.Flow
import HandS.Strs
import HandS.SetIn
import HandS.TryOnly
import HandS.TryMany
import HandS.ExcField
import HandS.ExcIs
import HandS.SortInts
import HandS.Small
import HandS.ExcInit
import HandS.NestedK
import KE.KExcSuper
import PySem.Challenge.RW_oddkeep_k40_closed_classes
set_option Elab.async false
set_option linter.all false
set_option maxRecDepth 100000
set_option maxHeartbeats 4000000
/-! Dn: what a def computes, as a function over plain data (PyData). Each rule pairs a derivation (PE, PS ..) with a function. -/
namespace Dn
open PySem PySem.Spec PyProof.Rows L2

/-! ### data in a heap that only grows -/
theorem sqL_mono {K : PySem.W.Frag} {H H' : Hp} {a : Addr} {xs : List V} (e : Same H H') (h : SqL K H a xs) : SqL K H' a xs := e.seq h
theorem sqT_mono {K : PySem.W.Frag} {H H' : Hp} {a : Addr} {xs : List V} (e : Same H H') (h : SqT K H a xs) : SqT K H' a xs := by
  rcases h with (h | ⟨o, h⟩) | h
  · exact .inl (.inl (e _ _ h))
  · exact .inl (.inr ⟨o, e _ _ h⟩)
  · exact .inr h
mutual
theorem dp_mono {K : PySem.W.Frag} {H H' : Hp} (e : Same H H') : ∀ {v : V} {d : PyData}, Dp K H v d → Dp K H' v d
  | _, _, .non => .non
  | _, _, .bl b => .bl b
  | _, _, .int i => .int i
  | _, _, .str x => .str x
  | _, _, .lst hs ha => .lst (sqL_mono e hs) (dpa_mono e ha)
  | _, _, .tup hs ha => .tup (sqT_mono e hs) (dpa_mono e ha)
theorem dpa_mono {K : PySem.W.Frag} {H H' : Hp} (e : Same H H') : ∀ {vs : List V} {ds : List PyData}, DpAll K H vs ds → DpAll K H' vs ds
  | _, _, .nil => .nil
  | _, _, .cons h t => .cons (dp_mono e h) (dpa_mono e t)
end
section
variable {K : PySem.W.Frag} {H : Hp}
theorem DpAll.len : ∀ {vs : List V} {ds : List PyData}, DpAll K H vs ds → vs.length = ds.length
  | _, _, .nil => rfl
  | _, _, .cons _ t => by simp only [List.length_cons, DpAll.len t]
theorem DpAll.get : ∀ {vs : List V} {ds : List PyData} {i : Nat} {d : PyData}, DpAll K H vs ds → ds[i]? = some d → ∃ v, vs[i]? = some v ∧ Dp K H v d
  | _, _, i, _, .nil, e => by simp at e
  | _, _, 0, _, .cons h _, e => by simp at e; subst e; exact ⟨_, rfl, h⟩
  | _, _, i + 1, _, .cons _ t, e => by
    obtain ⟨v, h1, h2⟩ := DpAll.get (i := i) t (by simpa using e)
    exact ⟨v, by simpa using h1, h2⟩
theorem DpAll.app : ∀ {vs ws : List V} {ds es : List PyData}, DpAll K H vs ds → DpAll K H ws es → DpAll K H (vs ++ ws) (ds ++ es)
  | _, _, _, _, .nil, s => s
  | _, _, _, _, .cons h t, s => .cons h (DpAll.app t s)
theorem DpAll.take : ∀ (n : Nat) {vs : List V} {ds : List PyData}, DpAll K H vs ds → DpAll K H (vs.take n) (ds.take n)
  | 0, _, _, _ => .nil
  | _ + 1, _, _, .nil => .nil
  | n + 1, _, _, .cons h t => .cons h (DpAll.take n t)
theorem DpAll.drop : ∀ (n : Nat) {vs : List V} {ds : List PyData}, DpAll K H vs ds → DpAll K H (vs.drop n) (ds.drop n)
  | 0, _, _, h => h
  | _ + 1, _, _, .nil => .nil
  | n + 1, _, _, .cons _ t => DpAll.drop n t
theorem DpAll.set : ∀ (i : Nat) {vs : List V} {ds : List PyData} {v : V} {d : PyData}, DpAll K H vs ds → Dp K H v d → DpAll K H (vs.set i v) (ds.set i d)
  | _, _, _, _, _, .nil, _ => .nil
  | 0, _, _, _, _, .cons _ t, h => .cons h t
  | i + 1, _, _, _, _, .cons h t, g => .cons h (DpAll.set i t g)
theorem DpAll.ints : ∀ (ns : List Int), DpAll K H (ns.map V.int) (ns.map PyData.int)
  | [] => .nil
  | n :: r => .cons (.int n) (DpAll.ints r)
theorem DpAll.dropLast {vs : List V} {ds : List PyData} (h : DpAll K H vs ds) : DpAll K H vs.dropLast ds.dropLast := by
  rw [List.dropLast_eq_take, List.dropLast_eq_take, DpAll.len h]
  exact DpAll.take _ h
end

/-! ### frozen and owned -/
inductive R where
  | val (d : PyData)
  | own (ds : List PyData)
  /-- a new tuple of three new lists -/
  | own3 (as bs cs : List PyData)
def R.frz : R → PyData
  | .val d => d
  | .own ds => .list ds
  | .own3 as bs cs => .tuple [.list as, .list bs, .list cs]
@[simp] theorem frz_own3 {as bs cs : List PyData} : (R.own3 as bs cs).frz = .tuple [.list as, .list bs, .list cs] := rfl
@[simp] theorem frz_val {d : PyData} : (R.val d).frz = d := rfl
@[simp] theorem frz_own {ds : List PyData} : (R.own ds).frz = .list ds := rfl
inductive Sl where
  | no
  | val (d : PyData)
  | own (ds : List PyData)
def R.sl : R → Sl
  | .val d => .val d
  | .own ds => .own ds
  | .own3 _ _ _ => .no
@[simp] theorem sl_val {d : PyData} : (R.val d).sl = .val d := rfl
@[simp] theorem sl_own {ds : List PyData} : (R.own ds).sl = .own ds := rfl
abbrev En := List Sl

/-- F: what is frozen of the heap H -/
structure Grow (F H F' H' : Hp) : Prop where
  f : Same F F'
  h : Same H H'
  i : Same F' H'
  n : ∀ a, H a ≠ none → F a = none → F' a = none
theorem same_ne {H H' : Hp} (e : Same H H') {a : Addr} (h : H a ≠ none) : H' a ≠ none := by
  cases q : H a with
  | none => exact absurd q h
  | some o => rw [e _ _ q]; exact Option.some_ne_none o
theorem Grow.refl {F H : Hp} (e : Same F H) : Grow F H F H := ⟨Same.refl F, Same.refl H, e, fun _ _ h => h⟩
theorem Grow.trans {F H F1 H1 F2 H2 : Hp} (a : Grow F H F1 H1) (b : Grow F1 H1 F2 H2) : Grow F H F2 H2 :=
  ⟨a.f.trans b.f, a.h.trans b.h, b.i, fun x hx hf => b.n x (same_ne a.h hx) (a.n x hx hf)⟩
theorem same_upd {H : Hp} {p : Addr} {o : HO} (h : H p = none) : Same H (upd H p o) := fun b x e => by
  rw [upd_ne (ne_of_none e h)]
  exact e
theorem same_updF {F H : Hp} {p : Addr} {o : HO} (e : Same F H) (h : F p = none) : Same F (upd H p o) := fun b x g => by
  rw [upd_ne (ne_of_none g h)]
  exact e _ _ g
/-- a new object, not frozen -/
theorem Grow.new {F H : Hp} {p : Addr} {o : HO} (e : Same F H) (h : H p = none) : Grow F H F (upd H p o) :=
  ⟨Same.refl F, same_upd h, e.trans (same_upd h), fun _ _ g => g⟩
/-- a new object is frozen -/
theorem Grow.frz {F H F' H' : Hp} {p : Addr} {o : HO} (g : Grow F H F' H') (hp : H p = none) (hf : F' p = none) (hh : H' p = some o) : Grow F H (upd F' p o) H' := by
  refine ⟨g.f.trans (same_upd hf), g.h, fun b x e => ?_, fun a ha hfa => ?_⟩
  · by_cases hb : b = p
    · subst hb
      rw [upd_same] at e
      rw [hh]
      exact e
    · rw [upd_ne hb] at e
      exact g.i _ _ e
  · rw [upd_ne (fun (z : a = p) => ha (by rw [z]; exact hp))]
    exact g.n a ha hfa

def RepR (K : PySem.W.Frag) (F' H H' : Hp) (v : V) : R → Prop
  | .val d => Dp K F' v d
  | .own ds => ∃ p xs, v = .ref p ∧ F' p = none ∧ H p = none ∧ H' p = some (.lst xs) ∧ DpAll K F' xs ds
  | .own3 as bs cs => ∃ p a b c xs ys zs, v = .ref p ∧ F' p = none ∧ H p = none ∧ H' p = some (.tup [.ref a, .ref b, .ref c]) ∧ (F' a = none ∧ H a = none ∧ H' a = some (.lst xs) ∧ DpAll K F' xs as) ∧
      (F' b = none ∧ H b = none ∧ H' b = some (.lst ys) ∧ DpAll K F' ys bs) ∧ (F' c = none ∧ H c = none ∧ H' c = some (.lst zs) ∧ DpAll K F' zs cs) ∧ a ≠ b ∧ a ≠ c ∧ b ≠ c
theorem free_back {F H : Hp} (e : Same F H) {p : Addr} (h : H p = none) : F p = none := e.free h
/-- whatever it is, it may be frozen -/
theorem RepR.frz {K : PySem.W.Frag} {F H F' H' : Hp} {v : V} {r : R} (g : Grow F H F' H') (h : RepR K F' H H' v r) : ∃ F2, Grow F H F2 H' ∧ Same F' F2 ∧ Dp K F2 v r.frz := by
  cases r with
  | val d => exact ⟨F', g, Same.refl _, h⟩
  | own ds =>
    obtain ⟨p, xs, rfl, h1, h2, h3, h4⟩ := h
    have s1 : Same F' (upd F' p (.lst xs)) := same_upd h1
    exact ⟨upd F' p (.lst xs), g.frz h2 h1 h3, s1, .lst (.inl (.inl upd_same)) (dpa_mono s1 h4)⟩
  | own3 as bs cs =>
    obtain ⟨p, a, b, c, xs, ys, zs, rfl, p1, p2, p3, ⟨a1, a2, a3, a4⟩, ⟨b1, b2, b3, b4⟩, ⟨c1, c2, c3, c4⟩, ab, ac, bc⟩ := h
    have pa : p ≠ a := fun z => by rw [z, a3] at p3; cases p3
    have pb : p ≠ b := fun z => by rw [z, b3] at p3; cases p3
    have pc : p ≠ c := fun z => by rw [z, c3] at p3; cases p3
    have b1' : upd F' a (.lst xs) b = none := by rw [upd_ne (Ne.symm ab)]; exact b1
    have c1' : upd (upd F' a (.lst xs)) b (.lst ys) c = none := by rw [upd_ne (Ne.symm bc), upd_ne (Ne.symm ac)]; exact c1
    have p1' : upd (upd (upd F' a (.lst xs)) b (.lst ys)) c (.lst zs) p = none := by rw [upd_ne pc, upd_ne pb, upd_ne pa]; exact p1
    have s1 : Same F' (upd F' a (.lst xs)) := same_upd a1
    have s2 : Same (upd F' a (.lst xs)) (upd (upd F' a (.lst xs)) b (.lst ys)) := same_upd b1'
    have s3 : Same (upd (upd F' a (.lst xs)) b (.lst ys)) (upd (upd (upd F' a (.lst xs)) b (.lst ys)) c (.lst zs)) := same_upd c1'
    have s4 : Same (upd (upd (upd F' a (.lst xs)) b (.lst ys)) c (.lst zs)) (upd (upd (upd (upd F' a (.lst xs)) b (.lst ys)) c (.lst zs)) p (.tup [.ref a, .ref b, .ref c])) := same_upd p1'
    have s : Same F' (upd (upd (upd (upd F' a (.lst xs)) b (.lst ys)) c (.lst zs)) p (.tup [.ref a, .ref b, .ref c])) := ((s1.trans s2).trans s3).trans s4
    refine ⟨_, (((g.frz a2 a1 a3).frz b2 b1' b3).frz c2 c1' c3).frz p2 p1' p3, s, .tup (.inl (.inl upd_same)) (.cons ?_ (.cons ?_ (.cons ?_ .nil)))⟩
    · exact .lst (.inl (.inl (((s2.trans s3).trans s4) _ _ upd_same))) (dpa_mono s a4)
    · exact .lst (.inl (.inl ((s3.trans s4) _ _ upd_same))) (dpa_mono s b4)
    · exact .lst (.inl (.inl (s4 _ _ upd_same))) (dpa_mono s c4)

/-! ### slots -/
def SlOk (K : PySem.W.Frag) (B F H : Hp) (v : Option V) (ad : Addr) : Sl → Prop
  | .no => True
  | .val d => ∃ x, v = some x ∧ Dp K F x d
  | .own ds => ∃ xs, v = some (.ref ad) ∧ B ad = none ∧ F ad = none ∧ H ad = some (.lst xs) ∧ DpAll K F xs ds
structure Slots (K : PySem.W.Frag) (B F H : Hp) (σ : L2.St) (env : En) : Prop where
  len : σ.length = env.length
  ex : ∃ ad : Nat → Addr, (∀ i v s, σ[i]? = some v → env[i]? = some s → SlOk K B F H v (ad i) s) ∧ ∀ i j ds es, i ≠ j → env[i]? = some (.own ds) → env[j]? = some (.own es) → ad i ≠ ad j
theorem SlOk.grow {K : PySem.W.Frag} {B F H F' H' : Hp} {v : Option V} {ad : Addr} {s : Sl} (g : Grow F H F' H') (h : SlOk K B F H v ad s) : SlOk K B F' H' v ad s := by
  cases s with
  | no => trivial
  | val d =>
    obtain ⟨x, e, h⟩ := h
    exact ⟨x, e, dp_mono g.f h⟩
  | own ds =>
    obtain ⟨xs, e, h0, h1, h2, h3⟩ := h
    exact ⟨xs, e, h0, g.n _ (by rw [h2]; exact Option.some_ne_none _) h1, g.h _ _ h2, dpa_mono g.f h3⟩
theorem Slots.grow {K : PySem.W.Frag} {B F H F' H' : Hp} {σ : L2.St} {env : En} (g : Grow F H F' H') (S : Slots K B F H σ env) : Slots K B F' H' σ env := by
  obtain ⟨l, ad, h1, h2⟩ := S
  exact ⟨l, ad, fun i v s e1 e2 => (h1 i v s e1 e2).grow g, h2⟩
theorem Slots.val {K : PySem.W.Frag} {B F H : Hp} {σ : L2.St} {env : En} (S : Slots K B F H σ env) {i : Nat} {d : PyData} (e : env[i]? = some (.val d)) : ∃ v, σ[i]? = some (some v) ∧ Dp K F v d := by
  obtain ⟨l, ad, h1, h2⟩ := S
  have hi : i < env.length := (List.getElem?_eq_some_iff.mp e).1
  have hs : σ[i]? = some σ[i] := List.getElem?_eq_getElem (by omega)
  obtain ⟨x, e1, h⟩ := h1 i _ _ hs e
  exact ⟨x, by rw [hs, e1], h⟩
theorem Slots.own {K : PySem.W.Frag} {B F H : Hp} {σ : L2.St} {env : En} (S : Slots K B F H σ env) {i : Nat} {ds : List PyData} (e : env[i]? = some (.own ds)) : ∃ p xs, σ[i]? = some (some (.ref p)) ∧ B p = none ∧ F p = none ∧ H p = some (.lst xs) ∧ DpAll K F xs ds := by
  obtain ⟨l, ad, h1, h2⟩ := S
  have hi : i < env.length := (List.getElem?_eq_some_iff.mp e).1
  have hs : σ[i]? = some σ[i] := List.getElem?_eq_getElem (by omega)
  obtain ⟨xs, e1, h⟩ := h1 i _ _ hs e
  exact ⟨ad i, xs, by rw [hs, e1], h⟩
/-- a slot gets what has come -/
theorem Slots.put {K : PySem.W.Frag} {B F H F' H' : Hp} {σ : L2.St} {env : En} {i : Nat} {v : V} {r : R} (S : Slots K B F H σ env) (bh : Same B H) (g : Grow F H F' H') (h : RepR K F' H H' v r) : Slots K B F' H' (σ.set i (some v)) (env.set i r.sl) := by
  obtain ⟨l, ad, h1, h2⟩ := S
  have S' := Slots.grow g ⟨l, ad, h1, h2⟩
  cases r with
  | val d =>
    refine ⟨by simp [l], ad, fun j w s e1 e2 => ?_, fun j k ds es hjk e1 e2 => ?_⟩
    · by_cases hj : i = j
      · subst hj
        rw [List.getElem?_set] at e1 e2
        simp at e1 e2
        obtain ⟨_, rfl⟩ := e1
        obtain ⟨_, rfl⟩ := e2
        exact ⟨v, rfl, h⟩
      · rw [List.getElem?_set_ne hj] at e1 e2
        exact (h1 j w s e1 e2).grow g
    · have q : ∀ m zs, (env.set i (R.val d).sl)[m]? = some (Sl.own zs) → env[m]? = some (Sl.own zs) := fun m zs e => by
        by_cases hm : i = m
        · subst hm
          rw [List.getElem?_set] at e
          simp at e
        · rw [List.getElem?_set_ne hm] at e
          exact e
      exact h2 j k ds es hjk (q _ _ e1) (q _ _ e2)
  | own3 as bs cs =>
    refine ⟨by simp [l], ad, fun j w s e1 e2 => ?_, fun j k ds es hjk e1 e2 => ?_⟩
    · by_cases hj : i = j
      · subst hj
        rw [List.getElem?_set] at e1 e2
        simp at e1 e2
        obtain ⟨_, rfl⟩ := e2
        trivial
      · rw [List.getElem?_set_ne hj] at e1 e2
        exact (h1 j w s e1 e2).grow g
    · have q : ∀ m zs, (env.set i (R.own3 as bs cs).sl)[m]? = some (Sl.own zs) → env[m]? = some (Sl.own zs) := fun m zs e => by
        by_cases hm : i = m
        · subst hm
          rw [List.getElem?_set] at e
          simp [R.sl] at e
        · rw [List.getElem?_set_ne hm] at e
          exact e
      exact h2 j k ds es hjk (q _ _ e1) (q _ _ e2)
  | own ds =>
    obtain ⟨p, xs, rfl, f1, f2, f3, f4⟩ := h
    have old : ∀ m zs, env[m]? = some (Sl.own zs) → ad m ≠ p := fun m zs e z => by
      have hi : m < env.length := (List.getElem?_eq_some_iff.mp e).1
      have hs : σ[m]? = some σ[m] := List.getElem?_eq_getElem (by omega)
      obtain ⟨ys, _, _, _, e3, _⟩ := h1 m _ _ hs e
      rw [z, f2] at e3
      cases e3
    refine ⟨by simp [l], fun m => if m = i then p else ad m, fun j w s e1 e2 => ?_, fun j k es fs hjk e1 e2 => ?_⟩
    · by_cases hj : i = j
      · subst hj
        rw [List.getElem?_set] at e1 e2
        simp at e1 e2
        obtain ⟨_, rfl⟩ := e1
        obtain ⟨_, rfl⟩ := e2
        show SlOk K B F' H' _ (if i = i then p else ad i) _
        rw [if_pos rfl]
        exact ⟨xs, rfl, bh.free f2, f1, f3, f4⟩
      · rw [List.getElem?_set_ne hj] at e1 e2
        show SlOk K B F' H' _ (if j = i then p else ad j) _
        rw [if_neg (fun z => hj z.symm)]
        exact (h1 j w s e1 e2).grow g
    · show (if j = i then p else ad j) ≠ (if k = i then p else ad k)
      by_cases hj : j = i
      · have hk : k ≠ i := fun z => hjk (hj.trans z.symm)
        rw [if_pos hj, if_neg hk]
        rw [List.getElem?_set_ne (fun z => hk z.symm)] at e2
        exact (old k _ e2).symm
      · rw [if_neg hj]
        rw [List.getElem?_set_ne (fun z => hj z.symm)] at e1
        by_cases hk : k = i
        · rw [if_pos hk]
          exact old j _ e1
        · rw [if_neg hk]
          rw [List.getElem?_set_ne (fun z => hk z.symm)] at e2
          exact h2 j k _ _ hjk e1 e2
/-- an owned list is turned -/
theorem Slots.turn {K : PySem.W.Frag} {B F H : Hp} {σ : L2.St} {env : En} {i : Nat} {p : Addr} {ds es : List PyData} {ys : List V} (S : Slots K B F H σ env) (e : env[i]? = some (.own ds)) (hp : σ[i]? = some (some (.ref p))) (hy : DpAll K F ys es) : Slots K B F (upd H p (.lst ys)) σ (env.set i (.own es)) := by
  obtain ⟨l, ad, h1, h2⟩ := S
  have q0 := h1 i _ _ hp e
  obtain ⟨xs, e1, b0, b1, b2, b3⟩ := q0
  have ep : p = ad i := by
    have := Option.some.inj e1
    cases this
    rfl
  have q : ∀ m zs, (env.set i (.own es))[m]? = some (Sl.own zs) → ∃ ws, env[m]? = some (Sl.own ws) := fun m zs g => by
    by_cases hm : i = m
    · subst hm
      exact ⟨ds, e⟩
    · rw [List.getElem?_set_ne hm] at g
      exact ⟨zs, g⟩
  refine ⟨by simp [l], ad, fun j w s g1 g2 => ?_, fun j k fs gs hjk g1 g2 => ?_⟩
  · by_cases hj : i = j
    · subst hj
      rw [hp] at g1
      cases g1
      rw [List.getElem?_set] at g2
      simp at g2
      obtain ⟨_, rfl⟩ := g2
      exact ⟨ys, e1, b0, b1, by rw [ep, upd_same], hy⟩
    · rw [List.getElem?_set_ne hj] at g2
      have o := h1 j w s g1 g2
      cases s with
      | no => trivial
      | val d => exact o
      | own zs =>
        obtain ⟨xs', c1, c0, c2, c3, c4⟩ := o
        exact ⟨xs', c1, c0, c2, by rw [ep, upd_ne (h2 j i _ _ (fun z => hj z.symm) g2 e)]; exact c3, c4⟩
  · obtain ⟨w1, r1⟩ := q _ _ g1
    obtain ⟨w2, r2⟩ := q _ _ g2
    exact h2 j k _ _ hjk r1 r2
/-- an owned list is frozen -/
theorem Slots.freeze {K : PySem.W.Frag} {B F H : Hp} {σ : L2.St} {env : En} {i : Nat} {ds : List PyData} (fh : Same F H) (S : Slots K B F H σ env) (e : env[i]? = some (.own ds)) : ∃ F', Same F F' ∧ Same F' H ∧ (∀ a, B a ≠ none → F a = none → F' a = none) ∧ Slots K B F' H σ (env.set i (.val (.list ds))) := by
  obtain ⟨l, ad, h1, h2⟩ := S
  have hi : i < env.length := (List.getElem?_eq_some_iff.mp e).1
  have hs : σ[i]? = some σ[i] := List.getElem?_eq_getElem (by omega)
  obtain ⟨xs, e1, b0, b1, b2, b3⟩ := h1 i _ _ hs e
  have s1 : Same F (upd F (ad i) (.lst xs)) := same_upd b1
  refine ⟨upd F (ad i) (.lst xs), s1, fun b x g => ?_, fun a ha hf => ?_, by simp [l], ad, fun j w s g1 g2 => ?_, fun j k fs gs hjk g1 g2 => ?_⟩
  · by_cases hb : b = ad i
    · rw [hb, upd_same] at g
      rw [hb, b2]
      exact g
    · rw [upd_ne hb] at g
      exact fh _ _ g
  · rw [upd_ne (fun (z : a = ad i) => ha (by rw [z]; exact b0))]
    exact hf
  · by_cases hj : i = j
    · subst hj
      rw [hs, e1] at g1
      cases g1
      rw [List.getElem?_set] at g2
      simp at g2
      obtain ⟨_, rfl⟩ := g2
      exact ⟨_, rfl, .lst (.inl (.inl upd_same)) (dpa_mono s1 b3)⟩
    · rw [List.getElem?_set_ne hj] at g2
      have o := h1 j w s g1 g2
      cases s with
      | no => trivial
      | val d =>
        obtain ⟨x, c1, c2⟩ := o
        exact ⟨x, c1, dp_mono s1 c2⟩
      | own zs =>
        obtain ⟨xs', c1, c0, c2, c3, c4⟩ := o
        exact ⟨xs', c1, c0, by rw [upd_ne (h2 j i _ _ (fun z => hj z.symm) g2 e)]; exact c2, c3, dpa_mono s1 c4⟩
  · have q : ∀ m zs, (env.set i (.val (.list ds)))[m]? = some (Sl.own zs) → env[m]? = some (Sl.own zs) := fun m zs g => by
      by_cases hm : i = m
      · subst hm
        rw [List.getElem?_set] at g
        simp at g
      · rw [List.getElem?_set_ne hm] at g
        exact g
    exact h2 j k _ _ hjk (q _ _ g1) (q _ _ g2)
end Dn
namespace Dn
open PySem PySem.Spec PyProof.Rows L2

abbrev EF := En → Option R
abbrev TF := En → Option Bool
abbrev AF := En → Option (List PyData)

/-! ### what a reading computes -/
def DE (K : PySem.W.Frag) (te : TE) (f : EF) : Prop := ∀ (B F H : Hp) (σ : L2.St) (env : En) (r : R), Slots K B F H σ env → Same F H → Same B H → f env = some r →
  ∀ Q : VK, (∀ F' H' v, Grow F H F' H' → RepR K F' H H' v r → Q v H') → te σ H Q
def DT (K : PySem.W.Frag) (tt : TT) (f : TF) : Prop := ∀ (B F H : Hp) (σ : L2.St) (env : En) (b : Bool), Slots K B F H σ env → Same F H → Same B H → f env = some b →
  ∀ Q : Bool → Hp → Prop, (∀ F' H', Grow F H F' H' → Q b H') → tt σ H Q
def DA (K : PySem.W.Frag) (ta : TA) (f : AF) : Prop := ∀ (B F H : Hp) (σ : L2.St) (env : En) (ds : List PyData), Slots K B F H σ env → Same F H → Same B H → f env = some ds →
  ∀ Q : List V → Hp → Prop, (∀ F' H' vs, Grow F H F' H' → DpAll K F' vs ds → Q vs H') → ta σ H Q
structure SE (X : Cx) (e : Expr) (te : TE) (f : EF) : Prop where
  pe : PE X e te
  de : DE X.K te f
structure ST (X : Cx) (e : Expr) (tt : TT) (f : TF) : Prop where
  pt : PT X e tt
  dt : DT X.K tt f
structure SW (X : Cx) (e : Expr) (tt : TT) (f : TF) : Prop where
  pw : PW X e tt
  dt : DT X.K tt f
structure SA (X : Cx) (es : List Expr) (ta : TA) (f : AF) : Prop where
  pa : PA X es ta
  da : DA X.K ta f
theorem SW.st {X : Cx} {e : Expr} {tt : TT} {f : TF} (h : SW X e tt f) : ST X e tt f := ⟨h.pw.pt, h.dt⟩

/-! ### combinators -/
@[simp] def eVar (i : Nat) : EF := fun env => match env[i]? with
  | some (.val d) => some (.val d)
  | _ => none
@[simp] def eC (d : PyData) : EF := fun _ => some (.val d)
@[simp] def eBin (g : PyData → PyData → Option R) (f1 f2 : EF) : EF := fun env => (f1 env).bind fun a => (f2 env).bind fun b => g a.frz b.frz
@[simp] def eUn (g : PyData → Option R) (f : EF) : EF := fun env => (f env).bind fun a => g a.frz
@[simp] def aNil : AF := fun _ => some []
@[simp] def aCons (f : EF) (t : AF) : AF := fun env => (f env).bind fun a => (t env).bind fun ds => some (a.frz :: ds)
/-- a display's length; conditions are opaque to computation -/
def Few (n : Nat) : Prop := n ≤ 1000
noncomputable instance (n : Nat) : Decidable (Few n) := Classical.propDecidable _
@[simp] theorem few_iff {n : Nat} : Few n ↔ n ≤ 1000 := Iff.rfl
@[simp] noncomputable def eTup (t : AF) : EF := fun env => (t env).bind fun ds => if Few ds.length then some (.val (.tuple ds)) else none
@[simp] noncomputable def eLst (t : AF) : EF := fun env => (t env).bind fun ds => if Few ds.length then some (.own ds) else none
@[simp] def eCall (g : List PyData → Option R) (t : AF) : EF := fun env => (t env).bind g
@[simp] def toB : PyData → Option Bool
  | .bool b => some b
  | _ => none
@[simp] def tE (f : EF) : TF := fun env => (f env).bind fun a => toB a.frz
@[simp] def tAndD (f g : TF) : TF := fun env => (f env).bind fun a => if a = true then g env else some false
@[simp] def tOrD (f g : TF) : TF := fun env => (f env).bind fun a => if a = true then some true else g env
@[simp] def tNotD (f : TF) : TF := fun env => (f env).bind fun a => some (!a)
@[simp] def eT (f : TF) : EF := fun env => (f env).bind fun b => some (.val (.bool b))
@[simp] def eIf (c : TF) (f g : EF) : EF := fun env => (c env).bind fun b => if b = true then f env else g env

section
variable {K : PySem.W.Frag}
theorem bnd {α β : Type} {o : Option α} {f : α → Option β} {b : β} (h : o.bind f = some b) : ∃ a, o = some a ∧ f a = some b := by
  cases o with
  | none => cases h
  | some a => exact ⟨a, rfl, h⟩
/-- an expression, frozen -/
theorem DE.z {te : TE} {f : EF} (h : DE K te f) {B F H : Hp} {σ : L2.St} {env : En} {r : R} (S : Slots K B F H σ env) (fh : Same F H) (bh : Same B H) (e : f env = some r) {Q : VK} (q : ∀ F' H' v, Grow F H F' H' → Dp K F' v r.frz → Q v H') : te σ H Q :=
  h B F H σ env r S fh bh e Q fun F' H' v g rr => by
    obtain ⟨F2, g2, _, d⟩ := rr.frz g
    exact q F2 H' v g2 d
theorem de_var {i : Nat} : DE K (tVar i) (eVar i) := fun B F H σ env r S fh bh e Q q => by
  unfold eVar at e
  split at e
  · rename_i d hd
    cases e
    obtain ⟨v, h1, h2⟩ := S.val hd
    exact ⟨v, h1, q F H v (Grow.refl fh) h2⟩
  · cases e
theorem de_c {v : V} {d : PyData} (h : ∀ F, Dp K F v d) : DE K (tC v) (eC d) := fun B F H σ env r S fh bh e Q q => by
  cases e
  exact q F H v (Grow.refl fh) (h F)
def RVD (K : PySem.W.Frag) (r : R2) (g : PyData → PyData → Option R) : Prop := ∀ (F H : Hp) (x y : V) (dx dy : PyData) (r' : R), Same F H → Dp K F x dx → Dp K F y dy → g dx dy = some r' →
  ∀ Q : VK, (∀ F' H' v, Grow F H F' H' → RepR K F' H H' v r' → Q v H') → r x y H Q
def RUD (K : PySem.W.Frag) (r : V → Hp → VK → Prop) (g : PyData → Option R) : Prop := ∀ (F H : Hp) (x : V) (dx : PyData) (r' : R), Same F H → Dp K F x dx → g dx = some r' →
  ∀ Q : VK, (∀ F' H' v, Grow F H F' H' → RepR K F' H H' v r' → Q v H') → r x H Q
def RCD (K : PySem.W.Frag) (r : List V → Hp → VK → Prop) (g : List PyData → Option R) : Prop := ∀ (F H : Hp) (vs : List V) (ds : List PyData) (r' : R), Same F H → DpAll K F vs ds → g ds = some r' →
  ∀ Q : VK, (∀ F' H' v, Grow F H F' H' → RepR K F' H H' v r' → Q v H') → r vs H Q
/-- a result is seen from further back -/
theorem RepR.back {F H F1 H1 F2 H2 : Hp} {v : V} {r : R} (g1 : Grow F H F1 H1) (h : RepR K F2 H1 H2 v r) : RepR K F2 H H2 v r := by
  cases r with
  | val d => exact h
  | own ds =>
    obtain ⟨p, xs, e, a, b, c, d⟩ := h
    exact ⟨p, xs, e, a, g1.h.free b, c, d⟩
  | own3 as bs cs =>
    obtain ⟨p, a, b, c, xs, ys, zs, rfl, p1, p2, p3, ⟨a1, a2, a3, a4⟩, ⟨b1, b2, b3, b4⟩, ⟨c1, c2, c3, c4⟩, n⟩ := h
    exact ⟨p, a, b, c, xs, ys, zs, rfl, p1, g1.h.free p2, p3, ⟨a1, g1.h.free a2, a3, a4⟩, ⟨b1, g1.h.free b2, b3, b4⟩, ⟨c1, g1.h.free c2, c3, c4⟩, n⟩
theorem de_bin {r : R2} {g : PyData → PyData → Option R} {ta tb : TE} {f1 f2 : EF} (hr : RVD K r g) (h1 : DE K ta f1) (h2 : DE K tb f2) : DE K (tOp r ta tb) (eBin g f1 f2) := fun B F H σ env r' S fh bh e Q q => by
  obtain ⟨a, ea, e⟩ := bnd e
  obtain ⟨b, eb, e⟩ := bnd e
  refine h1.z S fh bh ea fun F1 H1 x g1 d1 => ?_
  refine h2.z (S.grow g1) g1.i (bh.trans g1.h) eb fun F2 H2 y g2 d2 => ?_
  refine hr F2 H2 x y _ _ r' g2.i (dp_mono g2.f d1) d2 e Q fun F3 H3 v g3 rr => ?_
  exact q F3 H3 v ((g1.trans g2).trans g3) (rr.back (g1.trans g2))
theorem de_un {r : V → Hp → VK → Prop} {g : PyData → Option R} {ta : TE} {f : EF} (hr : RUD K r g) (h1 : DE K ta f) : DE K (tUn r ta) (eUn g f) := fun B F H σ env r' S fh bh e Q q => by
  obtain ⟨a, ea, e⟩ := bnd e
  refine h1.z S fh bh ea fun F1 H1 x g1 d1 => ?_
  refine hr F1 H1 x _ r' g1.i d1 e Q fun F3 H3 v g3 rr => ?_
  exact q F3 H3 v (g1.trans g3) (rr.back g1)
theorem da_nil : DA K tNil aNil := fun B F H σ env ds S fh bh e Q q => by
  cases e
  exact q F H [] (Grow.refl fh) .nil
theorem da_cons {te : TE} {t : TA} {f : EF} {g : AF} (h1 : DE K te f) (h2 : DA K t g) : DA K (tCons te t) (aCons f g) := fun B F H σ env ds S fh bh e Q q => by
  obtain ⟨a, ea, e⟩ := bnd e
  obtain ⟨b, eb, e⟩ := bnd e
  cases e
  refine h1.z S fh bh ea fun F1 H1 x g1 d1 => ?_
  refine h2 B F1 H1 σ env b (S.grow g1) g1.i (bh.trans g1.h) eb _ fun F2 H2 vs g2 d2 => ?_
  exact q F2 H2 (x :: vs) (g1.trans g2) (.cons (dp_mono g2.f d1) d2)
theorem sz1000 {n : Nat} (h : n ≤ 1000) : n ≤ sizeLine := Nat.le_of_lt (small1000 h)
theorem de_tup {t : TA} {g : AF} (h : DA K t g) : DE K (tTup t) (eTup g) := fun B F H σ env r S fh bh e Q q => by
  obtain ⟨ds, ea, e⟩ := bnd e
  split at e
  · rename_i hl
    cases e
    refine h B F H σ env ds S fh bh ea _ fun F1 H1 vs g1 d1 => ⟨by rw [DpAll.len d1]; exact sz1000 hl, fun p hp => ?_⟩
    have g2 : Grow F H F1 (upd H1 p (.tup vs)) := g1.trans (Grow.new g1.i hp)
    have hf : F1 p = none := g1.i.free hp
    exact q _ _ _ (g2.frz (g1.h.free hp) hf upd_same) (.tup (.inl (.inl upd_same)) (dpa_mono (same_upd hf) d1))
  · cases e
theorem de_lst {t : TA} {g : AF} (h : DA K t g) : DE K (tLst t) (eLst g) := fun B F H σ env r S fh bh e Q q => by
  obtain ⟨ds, ea, e⟩ := bnd e
  split at e
  · rename_i hl
    cases e
    refine h B F H σ env ds S fh bh ea _ fun F1 H1 vs g1 d1 => ⟨by rw [DpAll.len d1]; exact sz1000 hl, fun p hp => ?_⟩
    have g2 : Grow F H F1 (upd H1 p (.lst vs)) := g1.trans (Grow.new g1.i hp)
    exact q _ _ _ g2 ⟨p, vs, rfl, g1.i.free hp, g1.h.free hp, upd_same, d1⟩
  · cases e
theorem de_cb {r : List V → Hp → VK → Prop} {g : List PyData → Option R} {t : TA} {a : AF} (hr : RCD K r g) (h : DA K t a) : DE K (tCB r t) (eCall g a) := fun B F H σ env r' S fh bh e Q q => by
  obtain ⟨ds, ea, e⟩ := bnd e
  refine h B F H σ env ds S fh bh ea _ fun F1 H1 vs g1 d1 => ?_
  refine hr F1 H1 vs ds r' g1.i d1 e Q fun F3 H3 v g3 rr => ?_
  exact q F3 H3 v (g1.trans g3) (rr.back g1)
theorem toB_some {d : PyData} {b : Bool} (h : toB d = some b) : d = .bool b := by
  cases d <;> cases h
  rfl
theorem dt_test {te : TE} {f : EF} (h : DE K te f) : DT K (tTest te) (tE f) := fun B F H σ env b S fh bh e Q q => by
  obtain ⟨a, ea, e⟩ := bnd e
  refine h.z S fh bh ea fun F1 H1 x g1 d1 => ?_
  rw [toB_some e] at d1
  cases d1
  exact ⟨b, rfl, q F1 H1 g1⟩
theorem dt_B {te : TE} {f : EF} (h : DE K te f) : DT K (tB te) (tE f) := dt_test h
theorem dt_and {t u : TT} {f g : TF} (h1 : DT K t f) (h2 : DT K u g) : DT K (tAnd t u) (tAndD f g) := fun B F H σ env b S fh bh e Q q => by
  obtain ⟨a, ea, e⟩ := bnd e
  refine h1 B F H σ env a S fh bh ea _ fun F1 H1 g1 => ?_
  cases a with
  | true => exact iteT (h2 B F1 H1 σ env b (S.grow g1) g1.i (bh.trans g1.h) e Q fun F2 H2 g2 => q F2 H2 (g1.trans g2))
  | false =>
    cases e
    exact iteF (q F1 H1 g1)
theorem dt_or {t u : TT} {f g : TF} (h1 : DT K t f) (h2 : DT K u g) : DT K (tOr t u) (tOrD f g) := fun B F H σ env b S fh bh e Q q => by
  obtain ⟨a, ea, e⟩ := bnd e
  refine h1 B F H σ env a S fh bh ea _ fun F1 H1 g1 => ?_
  cases a with
  | false => exact iteF (h2 B F1 H1 σ env b (S.grow g1) g1.i (bh.trans g1.h) e Q fun F2 H2 g2 => q F2 H2 (g1.trans g2))
  | true =>
    cases e
    exact iteT (q F1 H1 g1)
theorem dt_not {t : TT} {f : TF} (h1 : DT K t f) : DT K (tNot t) (tNotD f) := fun B F H σ env b S fh bh e Q q => by
  obtain ⟨a, ea, e⟩ := bnd e
  cases e
  exact h1 B F H σ env a S fh bh ea _ fun F1 H1 g1 => q F1 H1 g1
/-- and, or, not as values -/
theorem de_andV {ta tb : TE} {f g : EF} (h1 : DE K ta f) (h2 : DE K tb g) : DE K (tAndV ta tb) (eIf (tE f) g (eC (.bool false))) := fun B F H σ env r S fh bh e Q q => by
  obtain ⟨a, ea, e⟩ := bnd e
  obtain ⟨w, ew, ea⟩ := bnd ea
  refine h1.z S fh bh ew fun F1 H1 x g1 d1 => ?_
  rw [toB_some ea] at d1
  cases d1
  refine ⟨a, rfl, ?_⟩
  cases a with
  | true => exact iteT (h2 B F1 H1 σ env r (S.grow g1) g1.i (bh.trans g1.h) e Q fun F2 H2 v g2 rr => q F2 H2 v (g1.trans g2) (rr.back g1))
  | false =>
    cases e
    exact iteF (q F1 H1 _ g1 (.bl false))
theorem de_orV {ta tb : TE} {f g : EF} (h1 : DE K ta f) (h2 : DE K tb g) : DE K (tOrV ta tb) (eIf (tE f) (eC (.bool true)) g) := fun B F H σ env r S fh bh e Q q => by
  obtain ⟨a, ea, e⟩ := bnd e
  obtain ⟨w, ew, ea⟩ := bnd ea
  refine h1.z S fh bh ew fun F1 H1 x g1 d1 => ?_
  rw [toB_some ea] at d1
  cases d1
  refine ⟨a, rfl, ?_⟩
  cases a with
  | false => exact iteF (h2 B F1 H1 σ env r (S.grow g1) g1.i (bh.trans g1.h) e Q fun F2 H2 v g2 rr => q F2 H2 v (g1.trans g2) (rr.back g1))
  | true =>
    cases e
    exact iteT (q F1 H1 _ g1 (.bl true))
theorem de_notV {ta : TE} {f : EF} (h1 : DE K ta f) : DE K (tNotV ta) (eT (tNotD (tE f))) := fun B F H σ env r S fh bh e Q q => by
  obtain ⟨a, ea, e⟩ := bnd e
  obtain ⟨c, ec, ea⟩ := bnd ea
  obtain ⟨w, ew, ec⟩ := bnd ec
  cases e
  cases ea
  refine h1.z S fh bh ew fun F1 H1 x g1 d1 => ?_
  rw [toB_some ec] at d1
  cases d1
  exact ⟨c, rfl, q F1 H1 _ g1 (.bl _)⟩
theorem de_ifE {c : TT} {ta tb : TE} {t : TF} {f g : EF} (hc : DT K c t) (h1 : DE K ta f) (h2 : DE K tb g) : DE K (tIf c ta tb) (eIf t f g) := fun B F H σ env r S fh bh e Q q => by
  obtain ⟨a, ea, e⟩ := bnd e
  refine hc B F H σ env a S fh bh ea _ fun F1 H1 g1 => ?_
  cases a with
  | true => exact iteT (h1 B F1 H1 σ env r (S.grow g1) g1.i (bh.trans g1.h) e Q fun F2 H2 v g2 rr => q F2 H2 v (g1.trans g2) (rr.back g1))
  | false => exact iteF (h2 B F1 H1 σ env r (S.grow g1) g1.i (bh.trans g1.h) e Q fun F2 H2 v g2 rr => q F2 H2 v (g1.trans g2) (rr.back g1))

/-! ### peeking at owned lists -/
end
@[simp] def unown : Sl → Sl
  | .own ds => .val (.list ds)
  | s => s
@[simp] def flat : PyData → Bool
  | .list _ => false
  | .tuple _ => false
  | .dict _ => false
  | _ => true
@[simp] def flatR : R → Bool
  | .val d => flat d
  | .own ds => ds.all flat
  | .own3 _ _ _ => false
/-- the expression reads owned lists and gives no object, or a new list without objects -/
@[simp] def ePeek (f : EF) : EF := fun env => (f (env.map unown)).bind fun r => if flatR r = true then some r else none
@[simp] def tPeek (f : TF) : TF := fun env => f (env.map unown)
section
variable {K : PySem.W.Frag}
theorem dp_flat {F F' : Hp} {v : V} {d : PyData} (h : Dp K F v d) (hf : flat d = true) : Dp K F' v d := by
  cases h with
  | non => exact .non
  | bl b => exact .bl b
  | int i => exact .int i
  | str x => exact .str x
  | lst _ _ => cases hf
  | tup _ _ => cases hf
theorem dpa_flat {F F' : Hp} : ∀ {vs : List V} {ds : List PyData}, DpAll K F vs ds → ds.all flat = true → DpAll K F' vs ds
  | _, _, .nil, _ => .nil
  | _, _, .cons h t, e => by
    rw [List.all_cons, Bool.and_eq_true] at e
    exact .cons (dp_flat h e.1) (dpa_flat t e.2)
/-- the first n slots are frozen -/
theorem Slots.unownN {B F H : Hp} {σ : L2.St} {env : En} (S : Slots K B F H σ env) (fh : Same F H) : ∀ n : Nat, ∃ (F2 : Hp) (e2 : En), Same F F2 ∧ Same F2 H ∧ Slots K B F2 H σ e2 ∧ e2.length = env.length ∧ ∀ i, e2[i]? = if i < n then (env[i]?).map unown else env[i]?
  | 0 => ⟨F, env, Same.refl F, fh, S, rfl, fun i => by rw [if_neg (Nat.not_lt_zero i)]⟩
  | n + 1 => by
    obtain ⟨F2, e2, a, b, c, d, g⟩ := Slots.unownN S fh n
    have same : (∀ ds, env[n]? ≠ some (.own ds)) → ∀ i, e2[i]? = if i < n + 1 then (env[i]?).map unown else env[i]? := fun hn i => by
      rw [g i]
      by_cases h1 : i < n
      · rw [if_pos h1, if_pos (by omega)]
      · rw [if_neg h1]
        by_cases h2 : i = n
        · subst h2
          rw [if_pos (by omega)]
          cases q : env[i]? with
          | none => rfl
          | some s =>
            cases s with
            | no => rfl
            | val d => rfl
            | own ds => exact absurd q (hn ds)
        · rw [if_neg (by omega)]
    cases q : env[n]? with
    | none => exact ⟨F2, e2, a, b, c, d, same (fun ds z => by rw [q] at z; cases z)⟩
    | some s =>
      cases s with
      | no => exact ⟨F2, e2, a, b, c, d, same (fun ds z => by rw [q] at z; cases z)⟩
      | val x => exact ⟨F2, e2, a, b, c, d, same (fun ds z => by rw [q] at z; cases z)⟩
      | own ds =>
        have q2 : e2[n]? = some (.own ds) := by rw [g n, if_neg (Nat.lt_irrefl n), q]
        obtain ⟨F3, a3, b3, _, c3⟩ := c.freeze b q2
        refine ⟨F3, e2.set n (.val (.list ds)), a.trans a3, b3, c3, by rw [List.length_set, d], fun i => ?_⟩
        by_cases h2 : n = i
        · subst h2
          rw [if_pos (by omega), q, List.getElem?_set_self (List.getElem?_eq_some_iff.mp q2).1]
          rfl
        · rw [List.getElem?_set_ne h2, g i]
          by_cases h1 : i < n
          · rw [if_pos h1, if_pos (by omega)]
          · rw [if_neg h1, if_neg (by omega)]
theorem Slots.unown {B F H : Hp} {σ : L2.St} {env : En} (S : Slots K B F H σ env) (fh : Same F H) : ∃ F2 : Hp, Same F F2 ∧ Same F2 H ∧ Slots K B F2 H σ (env.map Dn.unown) := by
  obtain ⟨F2, e2, a, b, c, d, g⟩ := Slots.unownN S fh env.length
  have e : e2 = env.map Dn.unown := by
    refine List.ext_getElem? fun i => ?_
    rw [g i, List.getElem?_map]
    split
    · rfl
    · rename_i h
      rw [List.getElem?_eq_none (by omega)]
      rfl
  exact ⟨F2, a, b, e ▸ c⟩
theorem de_peek {te : TE} {f : EF} (h : DE K te f) : DE K te (ePeek f) := fun B F H σ env r S fh bh e Q q => by
  obtain ⟨r0, ea, e⟩ := bnd e
  split at e
  · rename_i hf
    cases e
    obtain ⟨F2, a, b, S2⟩ := S.unown fh
    refine h B F2 H σ _ r S2 b bh ea Q fun F3 H3 v g rr => q F H3 v ⟨Same.refl F, g.h, fh.trans g.h, fun _ _ z => z⟩ ?_
    cases r with
    | val d => exact dp_flat (show Dp K F3 v d from rr) hf
    | own ds =>
      obtain ⟨p, xs, e, h1, h2, h3, h4⟩ := rr
      exact ⟨p, xs, e, fh.free h2, h2, h3, dpa_flat h4 hf⟩
    | own3 as bs cs => cases hf
  · cases e
theorem dt_peek {tt : TT} {f : TF} (h : DT K tt f) : DT K tt (tPeek f) := fun B F H σ env b S fh bh e Q q => by
  obtain ⟨F2, x, y, S2⟩ := S.unown fh
  exact h B F2 H σ _ b S2 y bh e Q fun F3 H3 g => q F H3 ⟨Same.refl F, g.h, fh.trans g.h, fun _ _ z => z⟩
end
end Dn
namespace Dn
open PySem PySem.Spec PyProof.Rows L2

inductive Out where
  | nx (env : En)
  | rt (r : R)
  | bk (env : En)
  | ct (env : En)
abbrev SF := En → Option Out
/-- the longest list that is made here (not written out: a literal would be unfolded) -/
def Fits (n : Nat) : Prop := n ≤ 100000
noncomputable instance (n : Nat) : Decidable (Fits n) := Classical.propDecidable _
/-- the state within a def: F0, H0 at its entry -/
structure Sta (K : PySem.W.Frag) (F0 H0 F H : Hp) (σ : L2.St) (env : En) : Prop where
  g : Grow F0 H0 F H
  s : Slots K H0 F H σ env
def EndOk (K : PySem.W.Frag) (F0 H0 G : Hp) (D : Ends) : Out → Prop
  | .nx env => ∀ F H σ, Same G F → Sta K F0 H0 F H σ env → D.nx σ H
  | .rt r => ∀ F H v, Grow F0 H0 F H → RepR K F H0 H v r → D.rt v H
  | .bk env => ∀ F H σ, Same G F → Sta K F0 H0 F H σ env → D.bk σ H
  | .ct env => ∀ F H σ, Same G F → Sta K F0 H0 F H σ env → D.ct σ H
theorem EndOk.mono {K : PySem.W.Frag} {F0 H0 G G' : Hp} {D : Ends} {o : Out} (s : Same G G') (h : EndOk K F0 H0 G D o) : EndOk K F0 H0 G' D o := by
  cases o with
  | nx env => exact fun F H σ a b => h F H σ (s.trans a) b
  | rt r => exact h
  | bk env => exact fun F H σ a b => h F H σ (s.trans a) b
  | ct env => exact fun F H σ a b => h F H σ (s.trans a) b
def DS (K : PySem.W.Frag) (ts : TS) (f : SF) : Prop := ∀ (F0 H0 F H : Hp) (σ : L2.St) (env : En) (o : Out), Sta K F0 H0 F H σ env → f env = some o → ∀ D : Ends, EndOk K F0 H0 F D o → ts D σ H
structure SS (X : Cx) (st : Stmt) (ts : TS) (f : SF) : Prop where
  ps : PS X st ts
  ds : DS X.K ts f
structure SSs (X : Cx) (st : List Stmt) (ts : TS) (f : SF) : Prop where
  ps : PSs X st ts
  ds : DS X.K ts f

@[simp] def sNext : SF := fun env => some (.nx env)
def bindO (o : Option Out) (g : SF) : Option Out := match o with
  | some (.nx e) => g e
  | o => o
section
variable {g k : SF} {e : En} {r : R}
@[simp] theorem bindO_nx : bindO (some (.nx e)) g = g e := rfl
@[simp] theorem bindO_rt : bindO (some (.rt r)) g = some (.rt r) := rfl
@[simp] theorem bindO_bk : bindO (some (.bk e)) g = some (.bk e) := rfl
@[simp] theorem bindO_ct : bindO (some (.ct e)) g = some (.ct e) := rfl
@[simp] theorem bindO_no : bindO none g = none := rfl
theorem bindO_ite {c : Prop} [Decidable c] {x y : Option Out} : bindO (if c then x else y) g = if c then bindO x g else bindO y g := by split <;> rfl
/-- behind a loop's turn -/
def turnO (o : Option Out) (k : SF) : Option Out := match o with
  | some (.nx e) => k e
  | some (.ct e) => k e
  | some (.bk e) => some (.nx e)
  | some (.rt r) => some (.rt r)
  | none => none
@[simp] theorem turnO_nx : turnO (some (.nx e)) k = k e := rfl
@[simp] theorem turnO_ct : turnO (some (.ct e)) k = k e := rfl
@[simp] theorem turnO_bk : turnO (some (.bk e)) k = some (.nx e) := rfl
@[simp] theorem turnO_rt : turnO (some (.rt r)) k = some (.rt r) := rfl
@[simp] theorem turnO_no : turnO none k = none := rfl
theorem turnO_ite {c : Prop} [Decidable c] {x y : Option Out} : turnO (if c then x else y) k = if c then turnO x k else turnO y k := by split <;> rfl
end
@[simp] def sSeq (f g : SF) : SF := fun env => bindO (f env) g
@[simp] def sRet (f : EF) : SF := fun env => (f env).bind fun r => some (.rt r)
@[simp] def sRetN : SF := fun _ => some (.rt (.val .none))
@[simp] def sRetOwn (i : Nat) : SF := fun env => match env[i]? with
  | some (.own ds) => some (.rt (.own ds))
  | _ => none
@[simp] def sBreak : SF := fun env => some (.bk env)
@[simp] def sCont : SF := fun env => some (.ct env)
@[simp] def sIf (c : TF) (f g : SF) : SF := fun env => (c env).bind fun b => if b = true then f env else g env
@[simp] def sSet (i : Nat) (f : EF) : SF := fun env => (f env).bind fun r => some (.nx (env.set i r.sl))
@[simp] def sDrop (f : EF) : SF := fun env => (f env).bind fun _ => some (.nx env)
@[simp] noncomputable def sAppend (i : Nat) (f : EF) : SF := fun env => match env[i]? with
  | some (.own ds) => (f env).bind fun r => if Fits (ds.length + 1) then some (.nx (env.set i (.own (ds ++ [r.frz])))) else none
  | _ => none
def ixD (ds : List PyData) (k : Int) : Option Nat := ixN ds.length k
@[simp] def sPut (i : Nat) (fi fv : EF) : SF := fun env => match env[i]? with
  | some (.own ds) => (fv env).bind fun r => (fi env).bind fun k => match k.frz with
    | .int k => (ixN ds.length k).bind fun j => some (.nx (env.set i (.own (ds.set j r.frz))))
    | _ => none
  | _ => none
/-- a ghost's step: an owned list is frozen -/
@[simp] def frzAt (i : Nat) (env : En) : En := match env[i]? with
  | some (.own ds) => env.set i (.val (.list ds))
  | _ => env
@[simp] def sFrz (i : Nat) (f : SF) : SF := fun env => f (frzAt i env)

section
variable {K : PySem.W.Frag} {F0 H0 F H F' H' : Hp} {σ : L2.St} {env : En}
theorem Sta.fh (S : Sta K F0 H0 F H σ env) : Same F H := S.g.i
theorem Sta.bh (S : Sta K F0 H0 F H σ env) : Same H0 H := S.g.h
theorem Sta.grow (S : Sta K F0 H0 F H σ env) (g : Grow F H F' H') : Sta K F0 H0 F' H' σ env := ⟨S.g.trans g, S.s.grow g⟩
theorem DE.at {te : TE} {f : EF} (h : DE K te f) (S : Sta K F0 H0 F H σ env) {r : R} (e : f env = some r) {Q : VK} (q : ∀ F' H' v, Grow F H F' H' → RepR K F' H H' v r → Q v H') : te σ H Q := h H0 F H σ env r S.s S.fh S.bh e Q q
theorem DE.atZ {te : TE} {f : EF} (h : DE K te f) (S : Sta K F0 H0 F H σ env) {r : R} (e : f env = some r) {Q : VK} (q : ∀ F' H' v, Grow F H F' H' → Dp K F' v r.frz → Q v H') : te σ H Q := h.z S.s S.fh S.bh e q
theorem ds_next : DS K tNext sNext := fun F0 H0 F H σ env o S e D q => by
  cases e
  exact q F H σ (Same.refl F) S
theorem ds_seq {t u : TS} {f g : SF} (h1 : DS K t f) (h2 : DS K u g) : DS K (tSeq t u) (sSeq f g) := fun F0 H0 F H σ env o S e D q => by
  unfold sSeq at e
  cases e1 : f env with
  | none =>
    rw [e1, bindO_no] at e
    cases e
  | some o1 =>
    rw [e1] at e
    refine h1 F0 H0 F H σ env o1 S e1 _ ?_
    cases o1 with
    | nx env1 => exact fun F1 H1 σ1 s1 S1 => h2 F0 H0 F1 H1 σ1 env1 o S1 e D (q.mono s1)
    | rt r =>
      rw [bindO_rt] at e
      cases e
      exact q
    | bk env1 =>
      rw [bindO_bk] at e
      cases e
      exact q
    | ct env1 =>
      rw [bindO_ct] at e
      cases e
      exact q
theorem ds_ret {te : TE} {f : EF} (h : DE K te f) : DS K (tRet te) (sRet f) := fun F0 H0 F H σ env o S e D q => by
  obtain ⟨r, er, e⟩ := bnd e
  cases e
  exact h.at S er fun F' H' v g rr => q F' H' v (S.g.trans g) (rr.back S.g)
theorem ds_retN : DS K tRetN sRetN := fun F0 H0 F H σ env o S e D q => by
  cases e
  exact q F H _ S.g .non
theorem ds_retOwn {i : Nat} : DS K (tRet (tVar i)) (sRetOwn i) := fun F0 H0 F H σ env o S e D q => by
  unfold sRetOwn at e
  split at e
  · rename_i ds hd
    cases e
    obtain ⟨p, xs, h1, h0, h2, h3, h4⟩ := S.s.own hd
    exact ⟨_, h1, q F H _ S.g ⟨p, xs, rfl, h2, h0, h3, h4⟩⟩
  · cases e
theorem ds_break : DS K tBreak sBreak := fun F0 H0 F H σ env o S e D q => by
  cases e
  exact q F H σ (Same.refl F) S
theorem ds_cont : DS K tCont sCont := fun F0 H0 F H σ env o S e D q => by
  cases e
  exact q F H σ (Same.refl F) S
theorem ds_if {c : TT} {t u : TS} {b : TF} {f g : SF} (hc : DT K c b) (h1 : DS K t f) (h2 : DS K u g) : DS K (tIfS c t u) (sIf b f g) := fun F0 H0 F H σ env o S e D q => by
  obtain ⟨a, ea, e⟩ := bnd e
  refine hc H0 F H σ env a S.s S.fh S.bh ea _ fun F1 H1 g1 => ?_
  cases a with
  | true => exact iteT (h1 F0 H0 F1 H1 σ env o (S.grow g1) e D (q.mono g1.f))
  | false => exact iteF (h2 F0 H0 F1 H1 σ env o (S.grow g1) e D (q.mono g1.f))
theorem ds_set {te : TE} {f : EF} {i : Nat} (h : DE K te f) : DS K (tAsg te (gName i)) (sSet i f) := fun F0 H0 F H σ env o S e D q => by
  obtain ⟨r, er, e⟩ := bnd e
  cases e
  exact h.at S er fun F' H' v g rr => q F' H' _ g.f ⟨S.g.trans g, S.s.put S.bh g rr⟩
theorem ds_drop {te : TE} {f : EF} (h : DE K te f) : DS K (tDrop te) (sDrop f) := fun F0 H0 F H σ env o S e D q => by
  obtain ⟨r, er, e⟩ := bnd e
  cases e
  exact h.at S er fun F' H' v g rr => q F' H' _ g.f (S.grow g)
/-- an owned list is turned within the def -/
theorem Sta.turn (S : Sta K F0 H0 F H σ env) {i : Nat} {p : Addr} {ds es : List PyData} {ys : List V} (e : env[i]? = some (.own ds)) (hp : σ[i]? = some (some (.ref p))) (hy : DpAll K F ys es) : Sta K F0 H0 F (upd H p (.lst ys)) σ (env.set i (.own es)) := by
  obtain ⟨p', xs, h1, h0, h2, h3, h4⟩ := S.s.own e
  rw [hp] at h1
  cases h1
  exact ⟨⟨S.g.f, same_updF S.bh h0, same_updF S.fh h2, S.g.n⟩, S.s.turn e hp hy⟩
theorem ds_append {te : TE} {f : EF} {i : Nat} (h : DE K te f) : DS K (tDrop (tBM K "list" rAppend (tVar i) (tCons te tNil))) (sAppend i f) := fun F0 H0 F H σ env o S e D q => by
  unfold sAppend at e
  split at e
  · rename_i ds hd
    obtain ⟨r, er, e⟩ := bnd e
    split at e
    · rename_i hl
      cases e
      obtain ⟨p, xs, h1, h0, h2, h3, h4⟩ := S.s.own hd
      refine ⟨_, h1, Or.inl ⟨rfl, _, .inl (.inl h3)⟩, h.atZ S er fun F' H' v g dv => ?_⟩
      have S' := S.grow g
      refine ⟨p, xs, v, rfl, rfl, g.h _ _ h3, by rw [DpAll.len h4]; exact Nat.lt_of_lt_of_le hl (by decide), ?_⟩
      exact q F' _ _ g.f (S'.turn hd h1 (DpAll.app (dpa_mono g.f h4) (.cons dv .nil)))
    · cases e
  · cases e
theorem ds_put {te ti : TE} {fi fv : EF} {i : Nat} (hv : DE K te fv) (hi : DE K ti fi) : DS K (tAsg te (gSub (tVar i) ti rSetL)) (sPut i fi fv) := fun F0 H0 F H σ env o S e D q => by
  unfold sPut at e
  split at e
  · rename_i ds hd
    obtain ⟨r, er, e⟩ := bnd e
    obtain ⟨k, ek, e⟩ := bnd e
    split at e
    · rename_i k' hk
      obtain ⟨j, ej, e⟩ := bnd e
      cases e
      obtain ⟨p, xs, h1, h0, h2, h3, h4⟩ := S.s.own hd
      refine hv.atZ S er fun F1 H1 v g1 dv => ⟨_, h1, ?_⟩
      have S1 := S.grow g1
      refine hi.atZ S1 ek fun F2 H2 kv g2 dk => ?_
      have S2 := S1.grow g2
      rw [hk] at dk
      cases dk
      have ln := DpAll.len h4
      refine ⟨p, xs, _, j, rfl, rfl, g2.h _ _ (g1.h _ _ h3), by rw [ln]; exact ej, ?_⟩
      exact q F2 _ _ (g1.f.trans g2.f) (S2.turn hd h1 (DpAll.set j (dpa_mono (g1.f.trans g2.f) h4) (dp_mono g2.f dv)))
    · cases e
  · cases e
theorem ds_frz {t : TS} {f : SF} {i : Nat} (h : DS K t f) : DS K t (sFrz i f) := fun F0 H0 F H σ env o S e D q => by
  unfold sFrz frzAt at e
  split at e
  · rename_i ds hd
    obtain ⟨F', a, b, c, d⟩ := S.s.freeze S.fh hd
    exact h F0 H0 F' H σ _ o ⟨⟨S.g.f.trans a, S.g.h, b, fun x hx hf => c x hx (S.g.n x hx hf)⟩, d⟩ e D (q.mono a)
  · exact h F0 H0 F H σ _ o S e D q
end

/-! ### targets -/
theorem wipe_set {σ : L2.St} {i : Nat} {x : Option V} : ∀ {vs : List Nat}, wipe (σ.set i x) vs = if i ∈ vs then wipe σ vs else (wipe σ vs).set i x
  | [] => by simp [wipe]
  | w :: vs => by
    unfold wipe
    rw [wipe_set (vs := vs)]
    by_cases h : i ∈ vs
    · rw [if_pos h, if_pos (List.mem_cons_of_mem _ h)]
    · rw [if_neg h]
      by_cases hw : i = w
      · subst hw
        rw [if_pos List.mem_cons_self, List.set_set]
      · rw [if_neg (by simp [hw, h]), List.set_comm _ _ hw]
theorem wipe_set_in {σ : L2.St} {i : Nat} {x : Option V} {vs : List Nat} (h : i ∈ vs) : wipe (σ.set i x) vs = wipe σ vs := by rw [wipe_set, if_pos h]
abbrev GF := PyData → En → Option En
/-- ws: the slots that it stores into -/
def DG (K : PySem.W.Frag) (ws : List Nat) (t : TG) (g : GF) : Prop := ∀ (B F H : Hp) (σ : L2.St) (env env' : En) (v : V) (d : PyData), Slots K B F H σ env → Same F H → Same B H → Dp K F v d → g d env = some env' →
  ∀ Q : L2.St → Hp → Prop, (∀ F' H' σ', Grow F H F' H' → Slots K B F' H' σ' env' → (∀ vs, (∀ i ∈ ws, i ∈ vs) → wipe σ' vs = wipe σ vs) → Q σ' H') → t v σ H Q
@[simp] def gtName (i : Nat) : GF := fun d env => some (env.set i (.val d))
@[simp] def gtTup2 (i j : Nat) : GF := fun d env => match d with
  | .tuple [a, b] => some ((env.set i (.val a)).set j (.val b))
  | _ => none
@[simp] def gtTup3 (i j k : Nat) : GF := fun d env => match d with
  | .tuple [a, b, c] => some (((env.set i (.val a)).set j (.val b)).set k (.val c))
  | _ => none
section
variable {K : PySem.W.Frag}
theorem Slots.putV {B F H : Hp} {σ : L2.St} {env : En} {v : V} {d : PyData} {i : Nat} (S : Slots K B F H σ env) (fh : Same F H) (bh : Same B H) (h : Dp K F v d) : Slots K B F H (σ.set i (some v)) (env.set i (.val d)) := S.put bh (Grow.refl fh) (r := .val d) h
theorem dg_name {i : Nat} : DG K [i] (gName i) (gtName i) := fun B F H σ env env' v d S fh bh h e Q q => by
  cases e
  exact q F H _ (Grow.refl fh) (S.putV fh bh h) fun vs hv => wipe_set_in (hv i (by simp))
theorem dg_tup2 {i j : Nat} : DG K [i, j] (gTup K 2 (gCons (gName i) (gCons (gName j) gNil))) (gtTup2 i j) := fun B F H σ env env' v d S fh bh h e Q q => by
  unfold gtTup2 at e
  split at e
  · cases e
    cases h with
    | tup hs ha =>
      cases ha with
      | cons a1 ha =>
        cases ha with
        | cons a2 ha =>
          cases ha
          refine ⟨_, _, rfl, sqT_mono fh hs, rfl, _, _, rfl, _, _, rfl, rfl, q F H _ (Grow.refl fh) ((S.putV fh bh a1).putV fh bh a2) fun vs hv => ?_⟩
          rw [wipe_set_in (hv j (by simp)), wipe_set_in (hv i (by simp))]
  · cases e
theorem dg_tup3 {i j k : Nat} : DG K [i, j, k] (gTup K 3 (gCons (gName i) (gCons (gName j) (gCons (gName k) gNil)))) (gtTup3 i j k) := fun B F H σ env env' v d S fh bh h e Q q => by
  unfold gtTup3 at e
  split at e
  · cases e
    cases h with
    | tup hs ha =>
      cases ha with
      | cons a1 ha =>
        cases ha with
        | cons a2 ha =>
          cases ha with
          | cons a3 ha =>
            cases ha
            refine ⟨_, _, rfl, sqT_mono fh hs, rfl, _, _, rfl, _, _, rfl, _, _, rfl, rfl, q F H _ (Grow.refl fh) (((S.putV fh bh a1).putV fh bh a2).putV fh bh a3) fun vs hv => ?_⟩
            rw [wipe_set_in (hv k (by simp)), wipe_set_in (hv j (by simp)), wipe_set_in (hv i (by simp))]
  · cases e
@[simp] def sAsg (g : GF) (f : EF) : SF := fun env => (f env).bind fun r => (g r.frz env).bind fun e => some (.nx e)
theorem ds_asg {te : TE} {f : EF} {t : TG} {g : GF} {ws : List Nat} (h : DE K te f) (hg : DG K ws t g) : DS K (tAsg te t) (sAsg g f) := fun F0 H0 F H σ env o S e D q => by
  obtain ⟨r, er, e⟩ := bnd e
  obtain ⟨e1, ee, e⟩ := bnd e
  cases e
  exact h.atZ S er fun F' H' v g1 dv => hg H0 F' H' σ env e1 v _ (S.grow g1).s g1.i (S.grow g1).bh dv ee _ fun F2 H2 σ2 g2 S2 _ => q F2 H2 σ2 (g1.f.trans g2.f) ⟨(S.g.trans g1).trans g2, S2⟩
end

/-! ### what is walked -/
abbrev IF := En → Option (List PyData)
/-- an iterator that gives ds in order, whatever has grown meanwhile -/
def Walks (K : PySem.W.Frag) (F : Hp) (J : It) (ds : List PyData) : Prop := ∀ (i : Nat) (F1 H1 : Hp), Same F F1 → Same F1 H1 →
  (ds[i]? = none → i = ds.length → J.stop i H1) ∧ ∀ d, ds[i]? = some d → J.go i H1 ∧ ∀ x H2, J.yld i H1 x H2 → ∃ F2, Grow F1 H1 F2 H2 ∧ Dp K F2 x d
def DI (K : PySem.W.Frag) (wi : TI) (f : IF) : Prop := ∀ (B F H : Hp) (σ : L2.St) (env : En) (ds : List PyData), Slots K B F H σ env → Same F H → Same B H → f env = some ds →
  ∀ R : It → Hp → Prop, (∀ F' H' J, Grow F H F' H' → Walks K F' J ds → R J H') → wi σ H R
@[simp] def iL (f : EF) : IF := fun env => (f env).bind fun r => match r.frz with
  | .list ds => some ds
  | _ => none
@[simp] def iT (f : EF) : IF := fun env => (f env).bind fun r => match r.frz with
  | .tuple ds => some ds
  | _ => none
def intsFrom (lo : Int) : Nat → List PyData
  | 0 => []
  | n + 1 => .int lo :: intsFrom (lo + 1) n
/-- a range's bounds -/
def InR (n : Int) : Prop := -(2 ^ 62) ≤ n ∧ n < 2 ^ 62
noncomputable instance (n : Int) : Decidable (InR n) := Classical.propDecidable _
@[simp] noncomputable def iR1 (t : AF) : IF := fun env => (t env).bind fun ds => match ds with
  | [.int n] => if InR n then some (intsFrom 0 n.toNat) else none
  | _ => none
@[simp] noncomputable def iR2 (t : AF) : IF := fun env => (t env).bind fun ds => match ds with
  | [.int a, .int b] => if InR a ∧ InR b then some (intsFrom a (b - a).toNat) else none
  | _ => none
theorem intsFrom_len : ∀ (n : Nat) (lo : Int), (intsFrom lo n).length = n
  | 0, _ => rfl
  | n + 1, lo => by
    show (intsFrom (lo + 1) n).length + 1 = n + 1
    rw [intsFrom_len n]
theorem intsFrom_get : ∀ (n : Nat) (lo : Int) (i : Nat), i < n → (intsFrom lo n)[i]? = some (.int (lo + i))
  | 0, _, _, h => absurd h (Nat.not_lt_zero _)
  | n + 1, lo, 0, _ => by
    show some (PyData.int lo) = _
    simp
  | n + 1, lo, i + 1, h => by
    show (intsFrom (lo + 1) n)[i]? = _
    rw [intsFrom_get n (lo + 1) i (by omega)]
    congr 2
    omega
section
variable {K : PySem.W.Frag}
theorem walks_list {F : Hp} {a : Addr} {xs : List V} {ds : List PyData} (h : SqL K F a xs) (hd : DpAll K F xs ds) (uq : ∀ H1, Same F H1 → ∀ ys, SqL K H1 a ys → ys = xs) : Walks K F (Itl K a) ds := fun i F1 H1 s1 s2 => by
  have hl := DpAll.len hd
  refine ⟨fun _ e => ⟨xs, sqL_mono (s1.trans s2) h, by omega⟩, fun d e => ?_⟩
  obtain ⟨v, e1, h1⟩ := DpAll.get hd e
  refine ⟨⟨xs, v, sqL_mono (s1.trans s2) h, e1⟩, fun x H2 y => ?_⟩
  obtain ⟨rfl, y⟩ := y
  have e2 := y xs (sqL_mono (s1.trans s2) h)
  rw [e1] at e2
  cases e2
  exact ⟨F1, Grow.refl s2, dp_mono s1 h1⟩
theorem di_list {tl : TE} {f : EF} (h : DE K tl f) : DI K (iList K tl) (iL f) := fun B F H σ env ds S fh bh e R q => by
  obtain ⟨r, er, e⟩ := bnd e
  refine h.z S fh bh er fun F1 H1 v g d => ?_
  split at e
  · rename_i es he
    cases e
    rw [he] at d
    cases d with
    | lst hs ha =>
      refine ⟨_, rfl, ⟨_, sqL_mono g.i hs⟩, q F1 H1 _ g fun i F2 H2 s1 s2 => ?_⟩
      have hl := DpAll.len ha
      refine ⟨fun _ e => ⟨_, sqL_mono (s1.trans s2) hs, by omega⟩, fun d e => ?_⟩
      obtain ⟨w, e1, h1⟩ := DpAll.get ha e
      refine ⟨⟨_, w, sqL_mono (s1.trans s2) hs, e1⟩, fun x H3 y => ?_⟩
      obtain ⟨rfl, y⟩ := y
      have e2 := y _ (sqL_mono (s1.trans s2) hs)
      rw [e1] at e2
      cases e2
      exact ⟨F2, Grow.refl s2, dp_mono s1 h1⟩
  · cases e
theorem di_tup {tl : TE} {f : EF} (h : DE K tl f) : DI K (iTup K tl) (iT f) := fun B F H σ env ds S fh bh e R q => by
  obtain ⟨r, er, e⟩ := bnd e
  refine h.z S fh bh er fun F1 H1 v g d => ?_
  split at e
  · rename_i es he
    cases e
    rw [he] at d
    cases d with
    | tup hs ha =>
      refine ⟨_, rfl, ⟨_, sqT_mono g.i hs⟩, q F1 H1 _ g fun i F2 H2 s1 s2 => ?_⟩
      have hl := DpAll.len ha
      refine ⟨fun _ e => ⟨_, sqT_mono (s1.trans s2) hs, by omega⟩, fun d e => ?_⟩
      obtain ⟨w, e1, h1⟩ := DpAll.get ha e
      refine ⟨⟨_, w, sqT_mono (s1.trans s2) hs, e1⟩, fun x H3 y => ?_⟩
      obtain ⟨rfl, y⟩ := y
      have e2 := y _ (sqT_mono (s1.trans s2) hs)
      rw [e1] at e2
      cases e2
      exact ⟨F2, Grow.refl s2, dp_mono s1 h1⟩
  · cases e
theorem walks_rng {F : Hp} (lo : Int) (n : Nat) : Walks K F (Itr lo n) (intsFrom lo n) := fun i F1 H1 s1 s2 => by
  refine ⟨fun _ e => by rw [intsFrom_len] at e; exact Nat.le_of_eq e.symm, fun d e => ?_⟩
  have hi : i < n := by
    have := (List.getElem?_eq_some_iff.mp e).1
    rw [intsFrom_len] at this
    exact this
  rw [intsFrom_get n lo i hi] at e
  cases e
  refine ⟨hi, fun x H2 y => ?_⟩
  obtain ⟨rfl, rfl⟩ := y
  exact ⟨F1, Grow.refl s2, .int _⟩
theorem di_r1 {ta : TA} {t : AF} (h : DA K ta t) : DI K (iRng1 ta) (iR1 t) := fun B F H σ env ds S fh bh e R q => by
  obtain ⟨as, ea, e⟩ := bnd e
  split at e
  · split at e
    · rename_i n hn
      cases e
      refine h B F H σ env _ S fh bh ea _ fun F1 H1 vs g d => ?_
      cases d with
      | cons d1 d2 =>
        cases d1
        cases d2
        exact ⟨n, rfl, hn.1, hn.2, q F1 H1 _ g (walks_rng 0 n.toNat)⟩
    · cases e
  · cases e
theorem di_r2 {ta : TA} {t : AF} (h : DA K ta t) : DI K (iRng2 ta) (iR2 t) := fun B F H σ env ds S fh bh e R q => by
  obtain ⟨as, ea, e⟩ := bnd e
  split at e
  · split at e
    · rename_i a b hn
      cases e
      refine h B F H σ env _ S fh bh ea _ fun F1 H1 vs g d => ?_
      cases d with
      | cons d1 d2 =>
        cases d1
        cases d2 with
        | cons d1 d2 =>
          cases d1
          cases d2
          exact ⟨a, b, rfl, ⟨hn.1.1, hn.1.2, hn.2.1, hn.2.2⟩, q F1 H1 _ g (walks_rng a (b - a).toNat)⟩
    · cases e
  · cases e

/-! ### for, while, comprehensions -/
@[simp] def forD (g : GF) (body : SF) : List PyData → SF
  | [], env => some (.nx env)
  | d :: ds, env => (g d env).bind fun e1 => turnO (body e1) (forD g body ds)
@[simp] def sFor (it : IF) (g : GF) (body : SF) : SF := fun env => (it env).bind fun ds => forD g body ds env
theorem ds_for {wi : TI} {it : IF} {t : TG} {g : GF} {ws : List Nat} {tb : TS} {body : SF} (hi : DI K wi it) (hg : DG K ws t g) (hb : DS K tb body) : DS K (tFor wi t tb) (sFor it g body) := fun F0 H0 F H σ env o S e D q => by
  obtain ⟨ds, ed, e⟩ := bnd e
  refine hi H0 F H σ env ds S.s S.fh S.bh ed _ fun F1 H1 J g1 wk => ?_
  refine ⟨fun i m σ2 H2 => ∃ F2 e2, Same F1 F2 ∧ Sta K F0 H0 F2 H2 σ2 e2 ∧ forD g body (ds.drop i) e2 = some o ∧ i + m = ds.length, ⟨ds.length, F1, env, Same.refl F1, S.grow g1, e, by omega⟩, ?_⟩
  rintro i m σ2 H2 ⟨F2, e2, s2, S2, eq, em⟩
  obtain ⟨wn, wg⟩ := wk i F2 H2 s2 S2.fh
  cases hd : ds[i]? with
  | none =>
    have hl : ds.length ≤ i := List.getElem?_eq_none_iff.mp hd
    rw [List.drop_eq_nil_of_le hl] at eq
    cases eq
    exact .inl ⟨wn hd (by omega), q F2 H2 σ2 (g1.f.trans s2) S2⟩
  | some d =>
    obtain ⟨go, yl⟩ := wg d hd
    have hi : i < ds.length := (List.getElem?_eq_some_iff.mp hd).1
    have hdr : ds.drop i = d :: ds.drop (i + 1) := by
      rw [List.drop_eq_getElem_cons hi]
      rw [List.getElem?_eq_getElem hi] at hd
      cases hd
      rfl
    rw [hdr] at eq
    obtain ⟨e3, ee, eq⟩ := bnd eq
    refine .inr ⟨go, fun σ' H' => ∃ F' e', Same F1 F' ∧ Sta K F0 H0 F' H' σ' e' ∧ forD g body (ds.drop (i + 1)) e' = some o, fun σ' H' ⟨F', e', a, b, c⟩ => ⟨m - 1, by omega, F', e', a, b, c, by omega⟩, fun x H' hy => ?_⟩
    obtain ⟨F3, g3, dx⟩ := yl x H' hy
    have S3 := S2.grow g3
    refine hg H0 F3 H' σ2 e2 e3 x d S3.s g3.i S3.bh dx ee _ fun F4 H4 σ4 g4 S4 _ => ?_
    have S5 : Sta K F0 H0 F4 H4 σ4 e3 := ⟨S3.g.trans g4, S4⟩
    have s4 : Same F1 F4 := (s2.trans g3.f).trans g4.f
    cases eb : body e3 with
    | none =>
      rw [eb, turnO_no] at eq
      cases eq
    | some ob =>
      rw [eb] at eq
      refine hb F0 H0 F4 H4 σ4 e3 ob S5 eb _ ?_
      cases ob with
      | nx e4 => exact fun F5 H5 σ5 s5 S5 => ⟨F5, e4, s4.trans s5, S5, eq⟩
      | ct e4 => exact fun F5 H5 σ5 s5 S5 => ⟨F5, e4, s4.trans s5, S5, eq⟩
      | bk e4 =>
        rw [turnO_bk] at eq
        cases eq
        exact fun F5 H5 σ5 s5 S5 => q F5 H5 σ5 (g1.f.trans (s4.trans s5)) S5
      | rt r =>
        rw [turnO_rt] at eq
        cases eq
        exact q
def whileD (c : TF) (body : SF) : Nat → SF
  | 0, _ => none
  | n + 1, env => (c env).bind fun b => if b = true then turnO (body env) (whileD c body n) else some (.nx env)
theorem ds_while {c : TT} {cf : TF} {tb : TS} {body : SF} (n : Nat) (hc : DT K c cf) (hb : DS K tb body) : DS K (tWhile c tb) (whileD cf body n) := fun F0 H0 F H σ env o S e D q => by
  refine ⟨fun m σ2 H2 => ∃ F2 e2, Same F F2 ∧ Sta K F0 H0 F2 H2 σ2 e2 ∧ whileD cf body m e2 = some o, ⟨n, F, env, Same.refl F, S, e⟩, ?_⟩
  rintro m σ2 H2 ⟨F2, e2, s2, S2, eq⟩
  cases m with
  | zero => cases eq
  | succ m =>
    obtain ⟨b, eb, eq⟩ := bnd eq
    refine hc H0 F2 H2 σ2 e2 b S2.s S2.fh S2.bh eb _ fun F3 H3 g3 => ?_
    have S3 := S2.grow g3
    cases b with
    | false =>
      cases eq
      exact iteF (q F3 H3 σ2 (s2.trans g3.f) S3)
    | true =>
      rw [if_pos rfl] at eq
      refine iteT ⟨fun σ' H' => ∃ F' e', Same F F' ∧ Sta K F0 H0 F' H' σ' e' ∧ whileD cf body m e' = some o, fun σ' H' w => ⟨m, Nat.lt_succ_self m, w⟩, ?_⟩
      cases ebd : body e2 with
      | none =>
        rw [ebd, turnO_no] at eq
        cases eq
      | some ob =>
        rw [ebd] at eq
        refine hb F0 H0 F3 H3 σ2 e2 ob S3 ebd _ ?_
        have s4 := s2.trans g3.f
        cases ob with
        | nx e4 => exact fun F5 H5 σ5 s5 S5 => ⟨F5, e4, s4.trans s5, S5, eq⟩
        | ct e4 => exact fun F5 H5 σ5 s5 S5 => ⟨F5, e4, s4.trans s5, S5, eq⟩
        | bk e4 =>
          rw [turnO_bk] at eq
          cases eq
          exact fun F5 H5 σ5 s5 S5 => q F5 H5 σ5 (s4.trans s5) S5
        | rt r =>
          rw [turnO_rt] at eq
          cases eq
          exact q
@[simp] def wipeD (env : En) : List Nat → En
  | [] => env
  | v :: vs => (wipeD env vs).set v .no
theorem Slots.wipe {B F H : Hp} {σ : L2.St} {env : En} (S : Slots K B F H σ env) : ∀ vs : List Nat, Slots K B F H (wipe σ vs) (wipeD env vs)
  | [] => S
  | v :: vs => by
    obtain ⟨l, ad, h1, h2⟩ := Slots.wipe S vs
    refine ⟨?_, ad, fun i w s e1 e2 => ?_, fun i j ds es hij e1 e2 => ?_⟩
    · show ((L2.wipe σ vs).set v none).length = ((wipeD env vs).set v .no).length
      rw [List.length_set, List.length_set, l]
    · have e1 : ((L2.wipe σ vs).set v none)[i]? = some w := e1
      have e2 : ((wipeD env vs).set v .no)[i]? = some s := e2
      by_cases hv : v = i
      · subst hv
        rw [List.getElem?_set] at e2
        simp at e2
        obtain ⟨_, rfl⟩ := e2
        trivial
      · rw [List.getElem?_set_ne hv] at e1 e2
        exact h1 i w s e1 e2
    · have q : ∀ (m : Nat) (zs : List PyData), (wipeD env (v :: vs))[m]? = some (Sl.own zs) → (wipeD env vs)[m]? = some (Sl.own zs) := fun m zs g => by
        have g : ((wipeD env vs).set v .no)[m]? = some (Sl.own zs) := g
        by_cases hm : v = m
        · subst hm
          rw [List.getElem?_set] at g
          simp at g
        · rw [List.getElem?_set_ne hm] at g
          exact g
      exact h2 i j ds es hij (q _ _ e1) (q _ _ e2)
def lcD (vs : List Nat) (g : GF) (c : TF) (f : EF) (env : En) : List PyData → Option (List PyData)
  | [] => some []
  | d :: ds => (g d (wipeD env vs)).bind fun e1 => (c e1).bind fun b => if b = true then (f e1).bind fun r => (lcD vs g c f env ds).bind fun rs => some (r.frz :: rs) else lcD vs g c f env ds
@[simp] noncomputable def eLc (vs : List Nat) (it : IF) (g : GF) (c : TF) (f : EF) : EF := fun env => (it env).bind fun ds => if Fits ds.length then (lcD vs g c f env ds).bind fun rs => some (.own rs) else none
@[simp] def tYesD : TF := fun _ => some true
theorem dt_yes : DT K tYes tYesD := fun B F H σ env b S fh bh e Q q => by
  cases e
  exact q F H (Grow.refl fh)
theorem de_lc {wi : TI} {it : IF} {t : TG} {g : GF} {ws vs : List Nat} {tt : TT} {c : TF} {te : TE} {f : EF} (hi : DI K wi it) (hg : DG K ws t g) (hw : ∀ i ∈ ws, i ∈ vs) (hc : DT K tt c) (he : DE K te f) : DE K (tLc wi t tt te vs) (eLc vs it g c f) := fun B F H σ env r S fh bh e Q q => by
  obtain ⟨ds, ed, e⟩ := bnd e
  split at e
  case isFalse => cases e
  rename_i hlen
  obtain ⟨rs, er, e⟩ := bnd e
  cases e
  refine hi B F H σ env ds S fh bh ed _ fun F1 H1 J g1 wk => ?_
  intro D hD
  have S1 := S.grow g1
  have hFD : F1 D = none := g1.i.free hD
  have gD : Grow F1 H1 F1 (upd H1 D (.lst [])) := Grow.new g1.i hD
  refine ⟨fun i m H2 => ∃ F2 acc bs as rs', Grow F1 H1 F2 H2 ∧ H2 D = some (.lst acc) ∧ F2 D = none ∧ DpAll K F2 acc bs ∧ as.length ≤ i ∧ as.length = bs.length ∧ lcD vs g c f env (ds.drop i) = some rs' ∧ bs ++ rs' = rs ∧ i + m = ds.length ∧ (as : List Nat).length = bs.length, ⟨ds.length, F1, [], [], [], rs, gD, upd_same, hFD, .nil, Nat.le_refl _, rfl, er, rfl, by omega, rfl⟩, ?_⟩
  rintro i m H2 ⟨F2, acc, bs, as, rs', G2, hA, hF2, dA, hal, hab, el, eb, em, _⟩
  have la := DpAll.len dA
  obtain ⟨wn, wg⟩ := wk i F2 H2 G2.f G2.i
  cases hd : ds[i]? with
  | none =>
    have hl : ds.length ≤ i := List.getElem?_eq_none_iff.mp hd
    rw [List.drop_eq_nil_of_le hl] at el
    cases el
    rw [List.append_nil] at eb
    subst eb
    exact .inl ⟨wn hd (by omega), q F2 H2 _ (g1.trans G2) ⟨D, acc, rfl, hF2, g1.h.free hD, hA, dA⟩⟩
  | some d =>
    obtain ⟨go, yl⟩ := wg d hd
    have hi2 : i < ds.length := (List.getElem?_eq_some_iff.mp hd).1
    have hdr : ds.drop i = d :: ds.drop (i + 1) := by
      rw [List.drop_eq_getElem_cons hi2]
      rw [List.getElem?_eq_getElem hi2] at hd
      cases hd
      rfl
    rw [hdr] at el
    obtain ⟨e3, ee, el⟩ := bnd el
    obtain ⟨b, ebt, el⟩ := bnd el
    refine .inr ⟨go, fun H' => ∃ F' acc bs as rs', Grow F1 H1 F' H' ∧ H' D = some (.lst acc) ∧ F' D = none ∧ DpAll K F' acc bs ∧ as.length ≤ i + 1 ∧ as.length = bs.length ∧ lcD vs g c f env (ds.drop (i + 1)) = some rs' ∧ bs ++ rs' = rs ∧ (as : List Nat).length = bs.length,
      fun H' ⟨F', acc, bs, as, rs', a1, a2, a3, a4, a5, a6, a7, a8, a9⟩ => ⟨m - 1, by omega, F', acc, bs, as, rs', a1, a2, a3, a4, a5, a6, a7, a8, by omega, a9⟩, fun x H' hy => ?_⟩
    obtain ⟨F3, g3, dx⟩ := yl x H' hy
    have G3 := G2.trans g3
    have S3 : Slots K B F3 H' (L2.wipe σ vs) (wipeD env vs) := (S1.grow G3).wipe vs
    have bh3 : Same B H' := (bh.trans g1.h).trans G3.h
    refine hg B F3 H' _ _ e3 x d S3 g3.i bh3 dx ee _ fun F4 H4 σ4 g4 S4 hw4 => ⟨?_, ?_⟩
    · rw [hw4 vs hw]
      have w2 : ∀ (us : List Nat) (τ : L2.St), (∀ i ∈ us, ∀ y, τ[i]? = some y → y = none) → L2.wipe τ us = τ := fun us => by
        induction us with
        | nil => exact fun τ _ => rfl
        | cons u us ih =>
          intro τ h
          unfold L2.wipe
          rw [ih τ (fun i hi => h i (List.mem_cons_of_mem _ hi))]
          refine List.ext_getElem? fun j => ?_
          by_cases hj : u = j
          · subst hj
            cases hy : τ[u]? with
            | none => rw [List.getElem?_eq_none (by rw [List.length_set]; exact List.getElem?_eq_none_iff.mp hy)]
            | some y =>
              rw [h u List.mem_cons_self y hy, List.getElem?_set_self (List.getElem?_eq_some_iff.mp hy).1]
          · rw [List.getElem?_set_ne hj]
      refine w2 vs _ fun i hi y hy => ?_
      have w3 : ∀ (us : List Nat), i ∈ us → ∀ y, (L2.wipe σ us)[i]? = some y → y = none := fun us => by
        induction us with
        | nil => intro h; cases h
        | cons u us ih =>
          intro h y hy
          unfold L2.wipe at hy
          by_cases hj : u = i
          · subst hj
            rw [List.getElem?_set] at hy
            simp at hy
            exact hy.2.symm
          · rw [List.getElem?_set_ne hj] at hy
            exact ih (by cases h with
              | head => exact absurd rfl hj
              | tail _ h => exact h) y hy
      exact w3 vs hi y hy
    · have bh4 : Same B H4 := bh3.trans g4.h
      refine hc B F4 H4 σ4 e3 b S4 g4.i bh4 ebt _ fun F5 H5 g5 => ?_
      have G5 := (G3.trans g4).trans g5
      have h25 : Grow F2 H2 F5 H5 := (g3.trans g4).trans g5
      have hD2 : H2 D ≠ none := by rw [hA]; exact Option.some_ne_none _
      cases b with
      | false =>
        rw [if_neg Bool.false_ne_true] at el ⊢
        exact ⟨F5, acc, bs, as, rs', G5, h25.h _ _ hA, h25.n _ hD2 hF2, dpa_mono h25.f dA, by omega, hab, el, eb, hab⟩
      | true =>
        rw [if_pos rfl] at el ⊢
        obtain ⟨r1, er1, el⟩ := bnd el
        obtain ⟨rs1, er2, el⟩ := bnd el
        cases el
        refine he.z (S4.grow g5) g5.i (bh4.trans g5.h) er1 fun F6 H6 y g6 dy => ?_
        have h26 := h25.trans g6
        have G6 := G5.trans g6
        refine ⟨acc, h26.h _ _ hA, by
          rw [la, ← hab]
          exact Nat.lt_of_le_of_lt (Nat.le_trans hal (Nat.le_trans (Nat.le_of_lt hi2) hlen)) (by decide), F6, acc ++ [y], bs ++ [r1.frz], as ++ [0], rs1, ?_, upd_same, h26.n _ hD2 hF2, DpAll.app (dpa_mono h26.f dA) (.cons dy .nil), by rw [List.length_append]; exact Nat.succ_le_succ hal, by rw [List.length_append, List.length_append, hab]; rfl, er2, by rw [List.append_assoc]; exact eb, by rw [List.length_append, List.length_append, hab]; rfl⟩
        have hFD6 : F6 D = none := h26.n _ hD2 hF2
        exact ⟨G6.f, same_updF G6.h hD, same_updF G6.i hFD6, G6.n⟩
end
end Dn
namespace Dn
open PySem PySem.Spec PyProof.Rows L2

/-! ### operators by values -/
def divLim : Nat := 2 ^ 8000
def mulLim : Nat := 2 ^ 400000
theorem OpR.or {X : Cx} {f : Value → Value → Sem Value} {r r' : R2} (h : OpR X f r) (h' : OpR X f r') : OpR X f (fun x y H Q => r x y H Q ∨ r' x y H Q) := by
  intro pins s σ H x y v u Q I rx ry q
  rcases q with q | q
  · exact h pins s σ H x y v u Q I rx ry q
  · exact h' pins s σ H x y v u Q I rx ry q
theorem op_fdivG {X : Cx} : OpR X (binaryOp .FloorDiv) (rI (fun _ j => j ≠ 0 ∧ j.natAbs < divLim) fun i j => .int (i.fdiv j)) := opI fun i j _ _ _ _ _ hc q =>
  floordiv_int hc.1 q (.inl (PyProof.noPylong_of_log2 (Nat.lt_of_lt_of_le (PySem.Flt.log2_lt_of (by decide : 0 < 8000) (show j.natAbs < 2 ^ 8000 from hc.2)) (by decide))))
def MulOk (i j : Int) : Prop := i.natAbs < 2 ^ 64 ∨ j.natAbs < 2 ^ 64 ∨ (i.natAbs < mulLim ∧ j.natAbs < mulLim)
noncomputable instance (i j : Int) : Decidable (MulOk i j) := Classical.propDecidable _
theorem MulOk.ok {i j : Int} (h : MulOk i j) : IntMulOk i j := by
  rcases h with h | h | ⟨h1, h2⟩
  · exact CMul.ok (.inl ⟨by omega, by omega⟩)
  · exact CMul.ok (.inr ⟨by omega, by omega⟩)
  · exact CMulW.ok (wide_mul (show i.natAbs < 2 ^ 400000 from h1) (show j.natAbs < 2 ^ 400000 from h2) (by decide) (by decide) (by decide))
theorem op_mulG {X : Cx} : OpR X (binaryOp .Mult) (rI MulOk fun i j => .int (i * j)) := opI fun _ _ _ _ _ _ _ hc q => mul_int q hc.ok
/-- list + list, both only read -/
def rCatL (K : PySem.W.Frag) : R2 := fun x y H Q => ∃ l b xs zs, x = .ref l ∧ y = .ref b ∧ SqL K H l xs ∧ SqL K H b zs ∧ xs.length + zs.length ≤ sizeLine ∧ ∀ p, H p = none → Q (.ref p) (upd H p (.lst (xs ++ zs)))
theorem op_catL {X : Cx} : OpR X (binaryOp .Add) (rCatL X.K) := by
  intro pins s σ H x y v u Q I rx ry h
  obtain ⟨l, b, xs, zs, rfl, rfl, hH, hB, hz, q⟩ := h
  cases rx
  cases ry
  obtain ⟨its, r, pl, _⟩ := I.list hH
  obtain ⟨its2, r2, pl2, _⟩ := I.list hB
  obtain ⟨⟨cls, dd, data, sl⟩, ho, hc, n, hd⟩ := pl.isList
  obtain ⟨⟨cls2, dd2, data2, sl2⟩, ho2, hc2, n2, hd2⟩ := pl2.isList
  simp only at hc hd hc2 hd2
  subst hc hd hc2 hd2
  have e : its.toArray ++ its2.toArray = (its ++ its2).toArray := by simp
  refine concat_meets ⟨_, ho, rfl⟩ ⟨_, ho2, rfl⟩ noFill_list_add seq_list_add PySem.F.slot_list_add PySem.F.entry_list_add (PySem.F.args_list_add_2 _ _) (list_addW l b its.toArray its2.toArray n n2 dd dd2 sl sl2 (by rw [List.size_toArray, List.size_toArray, ← r.length, ← r2.length]; exact hz)) ⟨ho, ho2, ?_⟩
  rw [e]
  exact ⟨.ref _, _, I.lnew (t' := s.toks) (r.append r2) (by rw [List.length_append]; omega), rfl, q _ I.fresh⟩

section
variable {K : PySem.W.Frag}
theorem szL {n : Nat} (h : Fits n) : n ≤ sizeLine := Nat.le_trans h (by decide)
theorem dp_int {F : Hp} {v : V} {i : Int} (h : Dp K F v (.int i)) : v = .int i := by cases h; rfl
theorem dp_bool {F : Hp} {v : V} {i : Bool} (h : Dp K F v (.bool i)) : v = .bl i := by cases h; rfl
theorem dp_str {F : Hp} {v : V} {x : Str} (h : Dp K F v (.str x)) : v = .str x := by cases h; rfl
theorem dp_list {F : Hp} {v : V} {ds : List PyData} (h : Dp K F v (.list ds)) : ∃ a xs, v = .ref a ∧ SqL K F a xs ∧ DpAll K F xs ds := by cases h with | lst hs ha => exact ⟨_, _, rfl, hs, ha⟩
theorem dp_tuple {F : Hp} {v : V} {ds : List PyData} (h : Dp K F v (.tuple ds)) : ∃ a xs, v = .ref a ∧ SqT K F a xs ∧ DpAll K F xs ds := by cases h with | tup hs ha => exact ⟨_, _, rfl, hs, ha⟩
theorem newL {F H : Hp} {p : Addr} {xs : List V} {ds : List PyData} (fh : Same F H) (hp : H p = none) (h : DpAll K F xs ds) : RepR K F H (upd H p (.lst xs)) (.ref p) (.own ds) := ⟨p, xs, rfl, fh.free hp, hp, upd_same, h⟩
theorem newT {F H : Hp} {p : Addr} {xs : List V} {ds : List PyData} (fh : Same F H) (hp : H p = none) (h : DpAll K F xs ds) : Grow F H (upd F p (.tup xs)) (upd H p (.tup xs)) ∧ RepR K (upd F p (.tup xs)) H (upd H p (.tup xs)) (.ref p) (.val (.tuple ds)) :=
  ⟨(Grow.new fh hp).frz hp (fh.free hp) upd_same, .tup (.inl (.inl upd_same)) (dpa_mono (same_upd (fh.free hp)) h)⟩

@[simp] noncomputable def gAdd : PyData → PyData → Option R
  | .int i, .int j => some (.val (.int (i + j)))
  | .str x, .str y => if Fits (x.length + y.length) then some (.val (.str (x ++ y))) else none
  | .list xs, .list ys => if Fits (xs.length + ys.length) then some (.own (xs ++ ys)) else none
  | .tuple (x :: xs), .tuple (y :: ys) => if Fits (xs.length + ys.length + 2) then some (.val (.tuple (x :: xs ++ y :: ys))) else none
  | .tuple (x :: xs), .tuple [] => if Fits (xs.length + 2) then some (.val (.tuple (x :: xs))) else none
  | _, _ => none
def rAddG (K : PySem.W.Frag) : R2 := fun x y H Q => (rI0 (fun i j => .int (i + j)) x y H Q ∨ (∃ i j, x = .str i ∧ y = .str j ∧ i.length + j.length ≤ sizeLine ∧ Q (.str (i ++ j)) H)) ∨ (rCatL K x y H Q ∨ rCatT K x y H Q)
theorem op_addG {X : Cx} : OpR X (binaryOp .Add) (rAddG X.K) := OpR.or (OpR.or op_add op_add_str) (OpR.or op_catL op_catT)
theorem rv_add : RVD K (rAddG K) gAdd := fun F H x y dx dy r fh d1 d2 e Q q => by
  unfold gAdd at e
  split at e
  · cases e
    rw [dp_int d1, dp_int d2]
    exact .inl (.inl ⟨_, _, rfl, rfl, q F H _ (Grow.refl fh) (.int _)⟩)
  · split at e
    · cases e
      rename_i hl
      rw [dp_str d1, dp_str d2]
      exact .inl (.inr ⟨_, _, rfl, rfl, szL hl, q F H _ (Grow.refl fh) (.str _)⟩)
    · cases e
  · split at e
    · cases e
      rename_i hl
      obtain ⟨a, xs, rfl, s1, a1⟩ := dp_list d1
      obtain ⟨b, ys, rfl, s2, a2⟩ := dp_list d2
      refine .inr (.inl ⟨a, b, xs, ys, rfl, rfl, sqL_mono fh s1, sqL_mono fh s2, by rw [DpAll.len a1, DpAll.len a2]; exact szL hl, fun p hp => ?_⟩)
      exact q F _ _ (Grow.new fh hp) (newL fh hp (DpAll.app a1 a2))
    · cases e
  · split at e
    · cases e
      rename_i hl
      obtain ⟨a, xs, rfl, s1, a1⟩ := dp_tuple d1
      obtain ⟨b, ys, rfl, s2, a2⟩ := dp_tuple d2
      have l1 := DpAll.len a1
      have l2 := DpAll.len a2
      rw [List.length_cons] at l1 l2
      refine .inr (.inr ⟨a, b, xs, ys, rfl, rfl, sqT_mono fh s1, sqT_mono fh s2, (fun z => by subst z; cases l1), by rw [l1, l2]; exact szL (show Fits _ from (by have h : _ ≤ 100000 := hl; show _ ≤ 100000; omega)), (fun z => by subst z; cases l2), fun _ p hp => ?_⟩)
      obtain ⟨g, rr⟩ := newT fh hp (DpAll.app a1 a2)
      exact q _ _ _ g rr
    · cases e
  · split at e
    · cases e
      rename_i hl
      obtain ⟨a, xs, rfl, s1, a1⟩ := dp_tuple d1
      obtain ⟨b, ys, rfl, s2, a2⟩ := dp_tuple d2
      have l1 := DpAll.len a1
      rw [List.length_cons] at l1
      cases a2
      refine .inr (.inr ⟨a, b, xs, [], rfl, rfl, sqT_mono fh s1, sqT_mono fh s2, (fun z => by subst z; cases l1), by rw [l1]; exact szL (show Fits _ from (by have h : _ ≤ 100000 := hl; show _ ≤ 100000; simp; omega)), fun _ => q F H _ (Grow.refl fh) (.tup s1 a1), fun z => absurd rfl z⟩)
    · cases e
  · cases e
@[simp] def gI (C : Int → Int → Prop) [∀ i j, Decidable (C i j)] (g : Int → Int → PyData) : PyData → PyData → Option R
  | .int i, .int j => if C i j then some (.val (g i j)) else none
  | _, _ => none
@[simp] def gI0 (g : Int → Int → PyData) : PyData → PyData → Option R
  | .int i, .int j => some (.val (g i j))
  | _, _ => none
theorem rv_I {C : Int → Int → Prop} [∀ i j, Decidable (C i j)] {g : Int → Int → PyData} {gv : Int → Int → V} (h : ∀ F i j, C i j → Dp K F (gv i j) (g i j)) : RVD K (rI C gv) (gI C g) := fun F H x y dx dy r fh d1 d2 e Q q => by
  unfold gI at e
  split at e
  · split at e
    · cases e
      rename_i hc
      rw [dp_int d1, dp_int d2]
      exact ⟨_, _, rfl, rfl, hc, q F H _ (Grow.refl fh) (h F _ _ hc)⟩
    · cases e
  · cases e
theorem rv_I0 {g : Int → Int → PyData} {gv : Int → Int → V} (h : ∀ F i j, Dp K F (gv i j) (g i j)) : RVD K (rI0 gv) (gI0 g) := fun F H x y dx dy r fh d1 d2 e Q q => by
  unfold gI0 at e
  split at e
  · cases e
    rw [dp_int d1, dp_int d2]
    exact ⟨_, _, rfl, rfl, q F H _ (Grow.refl fh) (h F _ _)⟩
  · cases e
def gSub := gI0 fun i j => .int (i - j)
noncomputable def gMul := gI MulOk fun i j => .int (i * j)
def FdOk (_ j : Int) : Prop := j ≠ 0 ∧ j.natAbs < divLim
noncomputable instance (i j : Int) : Decidable (FdOk i j) := Classical.propDecidable _
def NzOk (_ j : Int) : Prop := j ≠ 0
noncomputable instance (i j : Int) : Decidable (NzOk i j) := Classical.propDecidable _
noncomputable def gFdiv := gI FdOk fun i j => .int (i.fdiv j)
noncomputable def gMod := gI NzOk fun i j => .int (i.fmod j)
def PowOk (i j : Int) : Prop := 0 ≤ j ∧ j ≤ 1000000 ∧ i.natAbs < 2 ^ 64
noncomputable instance (i j : Int) : Decidable (PowOk i j) := Classical.propDecidable _
noncomputable def gPow := gI PowOk fun i j => .int (i ^ j.toNat)
def gLt := gI0 fun i j => .bool (decide (i < j))
def gLe := gI0 fun i j => .bool (decide (i ≤ j))
def gGt := gI0 fun i j => .bool (decide (j < i))
def gGe := gI0 fun i j => .bool (decide (j ≤ i))
section
variable {i j : Int}
@[simp] theorem gSub_int : gSub (.int i) (.int j) = some (.val (.int (i - j))) := rfl
@[simp] theorem gMul_int : gMul (.int i) (.int j) = if MulOk i j then some (.val (.int (i * j))) else none := rfl
@[simp] theorem gFdiv_int : gFdiv (.int i) (.int j) = if FdOk i j then some (.val (.int (i.fdiv j))) else none := rfl
@[simp] theorem gMod_int : gMod (.int i) (.int j) = if NzOk i j then some (.val (.int (i.fmod j))) else none := rfl
@[simp] theorem gPow_int : gPow (.int i) (.int j) = if PowOk i j then some (.val (.int (i ^ j.toNat))) else none := rfl
@[simp] theorem gLt_int : gLt (.int i) (.int j) = some (.val (.bool (decide (i < j)))) := rfl
@[simp] theorem gLe_int : gLe (.int i) (.int j) = some (.val (.bool (decide (i ≤ j)))) := rfl
@[simp] theorem gGt_int : gGt (.int i) (.int j) = some (.val (.bool (decide (j < i)))) := rfl
@[simp] theorem gGe_int : gGe (.int i) (.int j) = some (.val (.bool (decide (j ≤ i)))) := rfl
end
theorem rv_sub : RVD K (rI0 fun i j => .int (i - j)) gSub := rv_I0 fun _ _ _ => .int _
theorem rv_mul : RVD K (rI MulOk fun i j => .int (i * j)) gMul := rv_I fun _ _ _ _ => .int _
theorem rv_fdiv : RVD K (rI (fun _ j => j ≠ 0 ∧ j.natAbs < divLim) fun i j => .int (i.fdiv j)) gFdiv := rv_I (C := FdOk) fun _ _ _ _ => .int _
theorem rv_mod : RVD K (rI (fun _ j => j ≠ 0) fun i j => .int (i.fmod j)) gMod := rv_I (C := NzOk) fun _ _ _ _ => .int _
theorem rv_pow : RVD K (rI CPow fun i j => .int (i ^ j.toNat)) gPow := rv_I (C := PowOk) fun _ _ _ _ => .int _
theorem rv_lt : RVD K (rI0 fun i j => .bl (decide (i < j))) gLt := rv_I0 fun _ _ _ => .bl _
theorem rv_le : RVD K (rI0 fun i j => .bl (decide (i ≤ j))) gLe := rv_I0 fun _ _ _ => .bl _
theorem rv_gt : RVD K (rI0 fun i j => .bl (decide (j < i))) gGt := rv_I0 fun _ _ _ => .bl _
theorem rv_ge : RVD K (rI0 fun i j => .bl (decide (j ≤ i))) gGe := rv_I0 fun _ _ _ => .bl _
@[simp] def gNeg : PyData → Option R
  | .int i => some (.val (.int (-i)))
  | _ => none
theorem ru_neg : RUD K (rU fun i => .int (-i)) gNeg := fun F H x dx r fh d1 e Q q => by
  unfold gNeg at e
  split at e
  · cases e
    rw [dp_int d1]
    exact ⟨_, rfl, q F H _ (Grow.refl fh) (.int _)⟩
  · cases e
/-- == and != of data -/
def Shp (d : PyData) : Prop := SeqAt.shaped d = true
noncomputable instance (d : PyData) : Decidable (Shp d) := Classical.propDecidable _
noncomputable def gEq : PyData → PyData → Option R := fun d e => if Shp d ∧ Shp e then some (.val (.bool (PyData.eqv d e))) else none
noncomputable def gNe : PyData → PyData → Option R := fun d e => if Shp d ∧ Shp e then some (.val (.bool (!PyData.eqv d e))) else none
theorem rv_eq : RVD K (rEqD K) gEq := fun F H x y dx dy r fh d1 d2 e Q q => by
  unfold gEq at e
  split at e
  · cases e
    rename_i h
    exact ⟨dx, dy, dp_mono fh d1, dp_mono fh d2, h.1, h.2, q F H _ (Grow.refl fh) (.bl _)⟩
  · cases e
theorem rv_ne : RVD K (rNeD K) gNe := fun F H x y dx dy r fh d1 d2 e Q q => by
  unfold gNe at e
  split at e
  · cases e
    rename_i h
    exact ⟨dx, dy, dp_mono fh d1, dp_mono fh d2, h.1, h.2, q F H _ (Grow.refl fh) (.bl _)⟩
  · cases e
/-- in, not in -/
def memD (d : PyData) (ds : List PyData) : Bool := ds.any fun z => PyData.eqv z d
/-- subscripts -/
@[simp] noncomputable def gIx : PyData → PyData → Option R
  | .list ds, .int k => (atI ds k).bind fun d => some (.val d)
  | .tuple ds, .int k => (atI ds k).bind fun d => some (.val d)
  | .str z, .int k => if Fits (z.length) then (atI z.cps.toList k).bind fun c => some (.val (.str ⟨#[c]⟩)) else none
  | _, _ => none
theorem DpAll.at {F : Hp} {xs : List V} {ds : List PyData} {k : Int} {d : PyData} (h : DpAll K F xs ds) (e : atI ds k = some d) : ∃ v, atI xs k = some v ∧ Dp K F v d := by
  unfold atI at e ⊢
  rw [DpAll.len h]
  cases q : ixN ds.length k with
  | none => rw [q] at e; cases e
  | some j =>
    rw [q] at e
    exact DpAll.get h e
theorem rv_ix : RVD K (rIx K) gIx := fun F H x y dx dy r fh d1 d2 e Q q => by
  unfold gIx at e
  split at e
  · obtain ⟨d, ed, e⟩ := bnd e
    cases e
    obtain ⟨a, xs, rfl, s1, a1⟩ := dp_list d1
    rw [dp_int d2]
    obtain ⟨v, ev, dv⟩ := DpAll.at a1 ed
    exact .inl ⟨a, xs, _, v, rfl, rfl, sqL_mono fh s1, ev, q F H _ (Grow.refl fh) dv⟩
  · obtain ⟨d, ed, e⟩ := bnd e
    cases e
    obtain ⟨a, xs, rfl, s1, a1⟩ := dp_tuple d1
    rw [dp_int d2]
    obtain ⟨v, ev, dv⟩ := DpAll.at a1 ed
    exact .inr (.inl ⟨a, xs, _, v, rfl, rfl, sqT_mono fh s1, ev, q F H _ (Grow.refl fh) dv⟩)
  · split at e
    · rename_i hl
      obtain ⟨c, ec, e⟩ := bnd e
      cases e
      rw [dp_str d1, dp_int d2]
      exact .inr (.inr ⟨_, _, c, rfl, rfl, szL hl, ec, q F H _ (Grow.refl fh) (.str _)⟩)
    · cases e
  · cases e
/-- an item of an owned list -/
@[simp] def eIxO (i : Nat) (fk : EF) : EF := fun env => match env[i]? with
  | some (.own ds) => (fk env).bind fun k => match k.frz with
    | .int k => (atI ds k).bind fun d => some (.val d)
    | _ => none
  | _ => none
theorem de_ixO {i : Nat} {tk : TE} {fk : EF} (hk : DE K tk fk) : DE K (tOp (rIx K) (tVar i) tk) (eIxO i fk) := fun B F H σ env r S fh bh e Q q => by
  unfold eIxO at e
  split at e
  · rename_i ds hd
    obtain ⟨k, ek, e⟩ := bnd e
    split at e
    · rename_i k' hk'
      obtain ⟨d, ed, e⟩ := bnd e
      cases e
      obtain ⟨p, xs, h1, h0, h2, h3, h4⟩ := S.own hd
      refine ⟨_, h1, hk.z S fh bh ek fun F1 H1 y g1 dy => ?_⟩
      rw [hk'] at dy
      rw [dp_int dy]
      obtain ⟨v, ev, dv⟩ := DpAll.at h4 ed
      exact .inl ⟨p, xs, _, v, rfl, rfl, .inl (.inl (g1.h _ _ h3)), ev, q F1 H1 _ g1 (dp_mono g1.f dv)⟩
    · cases e
  · cases e

/-! ### calls of built-ins by values -/
@[simp] noncomputable def gLen : List PyData → Option R
  | [.list ds] => some (.val (.int ds.length))
  | [.tuple ds] => some (.val (.int ds.length))
  | [.str z] => if Fits (z.length) then some (.val (.int z.length)) else none
  | _ => none
theorem dpa1 {F : Hp} {vs : List V} {d : PyData} (h : DpAll K F vs [d]) : ∃ v, vs = [v] ∧ Dp K F v d := by
  cases h with
  | cons h t => cases t; exact ⟨_, rfl, h⟩
theorem dpa2 {F : Hp} {vs : List V} {d e : PyData} (h : DpAll K F vs [d, e]) : ∃ v w, vs = [v, w] ∧ Dp K F v d ∧ Dp K F w e := by
  cases h with
  | cons h t =>
    obtain ⟨w, rfl, h2⟩ := dpa1 t
    exact ⟨_, w, rfl, h, h2⟩
theorem rc_len : RCD K (fun xs H Q => ∃ x n, xs = [x] ∧ LenV K x H n ∧ Q (.int n) H) gLen := fun F H vs ds r fh h e Q q => by
  unfold gLen at e
  split at e
  · cases e
    obtain ⟨v, rfl, d⟩ := dpa1 h
    obtain ⟨a, xs, rfl, s1, a1⟩ := dp_list d
    exact ⟨_, xs.length, rfl, .inl ⟨xs, sqL_mono fh s1, rfl⟩, by rw [DpAll.len a1]; exact q F H _ (Grow.refl fh) (.int _)⟩
  · cases e
    obtain ⟨v, rfl, d⟩ := dpa1 h
    obtain ⟨a, xs, rfl, s1, a1⟩ := dp_tuple d
    exact ⟨_, xs.length, rfl, .inr ⟨xs, sqT_mono fh s1, rfl⟩, by rw [DpAll.len a1]; exact q F H _ (Grow.refl fh) (.int _)⟩
  · split at e
    · cases e
      rename_i hl
      obtain ⟨v, rfl, d⟩ := dpa1 h
      rw [dp_str d]
      exact ⟨_, _, rfl, ⟨szL hl, rfl⟩, q F H _ (Grow.refl fh) (.int _)⟩
    · cases e
  · cases e
@[simp] def gAbs : List PyData → Option R
  | [.int i] => some (.val (.int (if i < 0 then -i else i)))
  | _ => none
theorem rc_abs : RCD K (fun xs H Q => ∃ i, xs = [.int i] ∧ Q (.int (if i < 0 then -i else i)) H) gAbs := fun F H vs ds r fh h e Q q => by
  unfold gAbs at e
  split at e
  · cases e
    obtain ⟨v, rfl, d⟩ := dpa1 h
    rw [dp_int d]
    exact ⟨_, rfl, q F H _ (Grow.refl fh) (.int _)⟩
  · cases e
@[simp] def gInt : List PyData → Option R
  | [.int i] => some (.val (.int i))
  | [.bool b] => some (.val (.int (if b then 1 else 0)))
  | _ => none
theorem rc_int : RCD K (fun xs H Q => (∃ i, xs = [.int i] ∧ Q (.int i) H) ∨ ∃ k, xs = [.bl k] ∧ Q (.int (if k then 1 else 0)) H) gInt := fun F H vs ds r fh h e Q q => by
  unfold gInt at e
  split at e
  · cases e
    obtain ⟨v, rfl, d⟩ := dpa1 h
    rw [dp_int d]
    exact .inl ⟨_, rfl, q F H _ (Grow.refl fh) (.int _)⟩
  · cases e
    obtain ⟨v, rfl, d⟩ := dpa1 h
    rw [dp_bool d]
    exact .inr ⟨_, rfl, q F H _ (Grow.refl fh) (.int _)⟩
  · cases e
def StrOk (i : Int) : Prop := i.natAbs < 2 ^ 1000
noncomputable instance (i : Int) : Decidable (StrOk i) := Classical.propDecidable _
noncomputable def gStr : List PyData → Option R
  | [.int i] => if StrOk i then some (.val (.str (toString i))) else none
  | _ => none
theorem rc_str : RCD K (fun xs H Q => ∃ i, xs = [.int i] ∧ i.natAbs.log2 < 1920 ∧ Q (.str (toString i)) H) gStr := fun F H vs ds r fh h e Q q => by
  unfold gStr at e
  split at e
  · split at e
    · cases e
      rename_i i hl
      obtain ⟨v, rfl, d⟩ := dpa1 h
      rw [dp_int d]
      exact ⟨_, rfl, Nat.lt_of_lt_of_le (PySem.Flt.log2_lt_of (by decide : 0 < 1000) (show i.natAbs < 2 ^ 1000 from hl)) (by decide), q F H _ (Grow.refl fh) (.str _)⟩
    · cases e
  · cases e
@[simp] def gGcd : List PyData → Option R
  | [.int a, .int b] => some (.val (.int (Nat.gcd a.natAbs b.natAbs : Nat)))
  | _ => none
theorem rc_gcd : RCD K rGcd gGcd := fun F H vs ds r fh h e Q q => by
  unfold gGcd at e
  split at e
  · cases e
    obtain ⟨v, w, rfl, d1, d2⟩ := dpa2 h
    rw [dp_int d1, dp_int d2]
    exact ⟨_, _, rfl, q F H _ (Grow.refl fh) (.int _)⟩
  · cases e
def boolsD : List PyData → Option (List Bool)
  | [] => some []
  | .bool b :: r => (boolsD r).bind fun bs => some (b :: bs)
  | _ :: _ => none
def intsD : List PyData → Option (List Int)
  | [] => some []
  | .int b :: r => (intsD r).bind fun bs => some (b :: bs)
  | _ :: _ => none
theorem boolsD_ok {F : Hp} : ∀ {ds : List PyData} {xs : List V} {bs : List Bool}, DpAll K F xs ds → boolsD ds = some bs → xs = bs.map V.bl
  | [], _, _, .nil, e => by cases e; rfl
  | d :: ds, _, _, .cons h t, e => by
    cases d with
    | bool b =>
      obtain ⟨cs, ec, e⟩ := bnd (show (boolsD ds).bind _ = _ from e)
      cases e
      rw [dp_bool h, boolsD_ok t ec]
      rfl
    | none => cases e
    | int _ => cases e
    | str _ => cases e
    | list _ => cases e
    | tuple _ => cases e
    | dict _ => cases e
theorem intsD_ok {F : Hp} : ∀ {ds : List PyData} {xs : List V} {bs : List Int}, DpAll K F xs ds → intsD ds = some bs → xs = bs.map V.int
  | [], _, _, .nil, e => by cases e; rfl
  | d :: ds, _, _, .cons h t, e => by
    cases d with
    | int b =>
      obtain ⟨cs, ec, e⟩ := bnd (show (intsD ds).bind _ = _ from e)
      cases e
      rw [dp_int h, intsD_ok t ec]
      rfl
    | none => cases e
    | bool _ => cases e
    | str _ => cases e
    | list _ => cases e
    | tuple _ => cases e
    | dict _ => cases e
theorem boolsD_map (bs : List Bool) : boolsD (bs.map PyData.bool) = some bs := by
  induction bs with
  | nil => rfl
  | cons b r ih => show (boolsD (r.map PyData.bool)).bind _ = _; rw [ih]; rfl
theorem intsD_map (bs : List Int) : intsD (bs.map PyData.int) = some bs := by
  induction bs with
  | nil => rfl
  | cons b r ih => show (intsD (r.map PyData.int)).bind _ = _; rw [ih]; rfl
@[simp] def gAll : List PyData → Option R
  | [.list ds] => (boolsD ds).bind fun bs => some (.val (.bool (bs.all id)))
  | _ => none
@[simp] def gAny : List PyData → Option R
  | [.list ds] => (boolsD ds).bind fun bs => some (.val (.bool (bs.any id)))
  | _ => none
@[simp] def gSum : List PyData → Option R
  | [.list ds] => (intsD ds).bind fun bs => some (.val (.int bs.sum))
  | _ => none
theorem rc_all : RCD K (rAll K) gAll := fun F H vs ds r fh h e Q q => by
  unfold gAll at e
  split at e
  · obtain ⟨bs, eb, e⟩ := bnd e
    cases e
    obtain ⟨v, rfl, d⟩ := dpa1 h
    obtain ⟨a, xs, rfl, s1, a1⟩ := dp_list d
    rw [boolsD_ok a1 eb] at s1
    exact ⟨a, bs, rfl, sqL_mono fh s1, q F H _ (Grow.refl fh) (.bl _)⟩
  · cases e
theorem rc_any : RCD K (rAny K) gAny := fun F H vs ds r fh h e Q q => by
  unfold gAny at e
  split at e
  · obtain ⟨bs, eb, e⟩ := bnd e
    cases e
    obtain ⟨v, rfl, d⟩ := dpa1 h
    obtain ⟨a, xs, rfl, s1, a1⟩ := dp_list d
    rw [boolsD_ok a1 eb] at s1
    exact ⟨a, bs, rfl, sqL_mono fh s1, q F H _ (Grow.refl fh) (.bl _)⟩
  · cases e
theorem rc_sum : RCD K (rSum K) gSum := fun F H vs ds r fh h e Q q => by
  unfold gSum at e
  split at e
  · obtain ⟨bs, eb, e⟩ := bnd e
    cases e
    obtain ⟨v, rfl, d⟩ := dpa1 h
    obtain ⟨a, xs, rfl, s1, a1⟩ := dp_list d
    rw [intsD_ok a1 eb] at s1
    exact ⟨a, bs, rfl, sqL_mono fh s1, q F H _ (Grow.refl fh) (.int _)⟩
  · cases e
@[simp] def gList : List PyData → Option R
  | [.list ds] => some (.own ds)
  | [.tuple ds] => some (.own ds)
  | _ => none
theorem rc_list : RCD K (fun xs H Q => ∃ p ys, xs = [.ref p] ∧ (SqL K H p ys ∨ SqT K H p ys) ∧ ∀ l, H l = none → Q (.ref l) (upd H l (.lst ys))) gList := fun F H vs ds r fh h e Q q => by
  unfold gList at e
  split at e
  · cases e
    obtain ⟨v, rfl, d⟩ := dpa1 h
    obtain ⟨a, xs, rfl, s1, a1⟩ := dp_list d
    exact ⟨a, xs, rfl, .inl (sqL_mono fh s1), fun l hl => q F _ _ (Grow.new fh hl) (newL fh hl a1)⟩
  · cases e
    obtain ⟨v, rfl, d⟩ := dpa1 h
    obtain ⟨a, xs, rfl, s1, a1⟩ := dp_tuple d
    exact ⟨a, xs, rfl, .inr (sqT_mono fh s1), fun l hl => q F _ _ (Grow.new fh hl) (newL fh hl a1)⟩
  · cases e
/-! isinstance -/
@[simp] def tyD : PyData → String
  | .none => "NoneType"
  | .bool _ => "bool"
  | .int _ => "int"
  | .str _ => "str"
  | .list _ => "list"
  | .tuple _ => "tuple"
  | .dict _ => "dict"
theorem dp_ty {F : Hp} {v : V} {d : PyData} (h : Dp K F v d) : TyX K F v (.type (tyD d)) := by
  cases h with
  | non => exact .base .non
  | bl b => exact .base (.bl b)
  | int i => exact .base (.int i)
  | str x => exact .base (.str x)
  | lst hs _ =>
    rcases hs with (h | ⟨o, h⟩) | ⟨o, its, n, h, c, _⟩
    · exact .base (.lst h)
    · exact .base (.frz h)
    · exact .kList h c
  | tup hs _ =>
    rcases hs with (h | ⟨o, h⟩) | ⟨o, its, n, h, c, _⟩
    · exact .base (.tup h)
    · exact .fTuple h
    · exact .kTuple h c
@[simp] def isiS (T t : String) : Bool := t == T || (T == "int" && t == "bool")
@[simp] def isi (T : String) : PyData → Bool := fun d => isiS T (tyD d)
theorem kit_all : (["int", "bool", "str", "tuple", "list"].all fun T => ["NoneType", "bool", "int", "str", "list", "tuple", "dict"].all fun t => kitB t T == some (isiS T t)) = true := by decide +kernel
theorem tyD_mem (d : PyData) : tyD d ∈ ["NoneType", "bool", "int", "str", "list", "tuple", "dict"] := by cases d <;> simp [tyD]
theorem kit_isi {d : PyData} {T : String} (hT : T ∈ ["int", "bool", "str", "tuple", "list"]) : PySem.W.kitOne K (.type (tyD d)) (.type T) = some (isi T d) := by
  have h := List.all_eq_true.mp (List.all_eq_true.mp kit_all T hT) (tyD d) (tyD_mem d)
  exact kit_ty (by simpa [isi] using h)
/-- slices -/
def sxD (ds : List PyData) (lo hi : Option Int) : List PyData := (ds.drop (HT.sIx ds.length 0 lo)).take (HT.sIx ds.length ds.length hi - HT.sIx ds.length 0 lo)
theorem DpAll.cut {F : Hp} {xs : List V} {ds : List PyData} (lo hi : Option Int) (h : DpAll K F xs ds) : DpAll K F (cutV xs lo hi) (sxD ds lo hi) := by
  unfold cutV sxD
  rw [DpAll.len h]
  exact DpAll.take _ (DpAll.drop _ h)
abbrev OF := En → Option (Option Int)
def DO (K : PySem.W.Frag) (to : TO) (f : OF) : Prop := ∀ (B F H : Hp) (σ : L2.St) (env : En) (o : Option Int), Slots K B F H σ env → Same F H → Same B H → f env = some o →
  ∀ Q : Option Int → Hp → Prop, (∀ F' H', Grow F H F' H' → Q o H') → to σ H Q
@[simp] def oNone : OF := fun _ => some none
@[simp] def oSome (f : EF) : OF := fun env => (f env).bind fun r => match r.frz with
  | .int i => some (some i)
  | _ => none
theorem do_none : DO K tNoPart oNone := fun B F H σ env o S fh bh e Q q => by
  cases e
  exact q F H (Grow.refl fh)
theorem do_some {te : TE} {f : EF} (h : DE K te f) : DO K (tPart te) (oSome f) := fun B F H σ env o S fh bh e Q q => by
  obtain ⟨r, er, e⟩ := bnd e
  split at e
  · rename_i i hi
    cases e
    refine h.z S fh bh er fun F1 H1 v g d => ?_
    rw [hi] at d
    rw [dp_int d]
    exact ⟨i, rfl, q F1 H1 g⟩
  · cases e
/-- a slice of a list; of a tuple -/
@[simp] def eSl (f : EF) (lo hi : OF) : EF := fun env => (f env).bind fun r => (lo env).bind fun a => (hi env).bind fun b => match r.frz with
  | .list ds => some (.own (sxD ds a b))
  | .tuple ds => some (.val (.tuple (sxD ds a b)))
  | _ => none
def rSlLA (K : PySem.W.Frag) : V → Option Int → Option Int → Hp → VK → Prop := fun x lo hi H Q => rSlL K x lo hi H Q ∨ rSlA K x lo hi H Q
theorem sl_la {X : Cx} : SlR X (rSlLA X.K) := SlR.or sl_list sl_tupA
@[simp] def eSlO (i : Nat) (lo hi : OF) : EF := fun env => match env[i]? with
  | some (.own ds) => (lo env).bind fun a => (hi env).bind fun b => some (.own (sxD ds a b))
  | _ => none
theorem cut_whole {xs : List V} {lo hi : Option Int} (h : HT.sIx xs.length 0 lo = 0 ∧ HT.sIx xs.length xs.length hi = xs.length) : cutV xs lo hi = xs := by
  unfold cutV
  rw [h.1, h.2, List.drop_zero, Nat.sub_zero, List.take_length]
theorem de_sl {te : TE} {f : EF} {tl th : TO} {lo hi : OF} (h : DE K te f) (hl : DO K tl lo) (hh : DO K th hi) : DE K (tSl (rSlLA K) te tl th) (eSl f lo hi) := fun B F H σ env r S fh bh e Q q => by
  obtain ⟨r0, er, e⟩ := bnd e
  obtain ⟨a, ea, e⟩ := bnd e
  obtain ⟨b, eb, e⟩ := bnd e
  split at e
  · rename_i ds hd
    cases e
    refine h.z S fh bh er fun F1 H1 v g1 d => ?_
    rw [hd] at d
    obtain ⟨p, xs, rfl, s1, a1⟩ := dp_list d
    refine hl B F1 H1 σ env a (S.grow g1) g1.i (bh.trans g1.h) ea _ fun F2 H2 g2 => ?_
    have g12 := g1.trans g2
    refine hh B F2 H2 σ env b (S.grow g12) g12.i (bh.trans g12.h) eb _ fun F3 H3 g3 => ?_
    have g13 := g12.trans g3
    have s3 : SqL K F3 p xs := sqL_mono (g2.f.trans g3.f) s1
    refine Or.inl ⟨p, xs, rfl, sqL_mono g3.i s3, fun c hc => q F3 _ _ (g13.trans (Grow.new g3.i hc)) ?_⟩
    exact (newL g3.i hc (DpAll.cut a b (dpa_mono (g2.f.trans g3.f) a1))).back g13
  · rename_i ds hd
    cases e
    refine h.z S fh bh er fun F1 H1 v g1 d => ?_
    rw [hd] at d
    obtain ⟨p, xs, rfl, s1, a1⟩ := dp_tuple d
    refine hl B F1 H1 σ env a (S.grow g1) g1.i (bh.trans g1.h) ea _ fun F2 H2 g2 => ?_
    have g12 := g1.trans g2
    refine hh B F2 H2 σ env b (S.grow g12) g12.i (bh.trans g12.h) eb _ fun F3 H3 g3 => ?_
    have g13 := g12.trans g3
    have s3 : SqT K F3 p xs := sqT_mono (g2.f.trans g3.f) s1
    have a3 := dpa_mono (g2.f.trans g3.f) a1
    have dc := DpAll.cut a b a3
    refine Or.inr ⟨p, xs, rfl, sqT_mono g3.i s3, fun hw => ?_, fun hw c hc => ?_⟩
    · rw [cut_whole hw] at dc
      exact q F3 _ _ g13 (.tup s3 dc)
    · have hf : F3 c = none := g3.i.free hc
      have g4 : Grow F3 H3 F3 (upd H3 c (.tup (cutV xs a b))) := Grow.new g3.i hc
      exact q _ _ _ ((g13.trans g4).frz (g13.h.free hc) hf upd_same) (.tup (.inl (.inl upd_same)) (dpa_mono (same_upd hf) dc))
  · cases e
theorem de_slO {i : Nat} {tl th : TO} {lo hi : OF} (hl : DO K tl lo) (hh : DO K th hi) : DE K (tSl (rSlL K) (tVar i) tl th) (eSlO i lo hi) := fun B F H σ env r S fh bh e Q q => by
  unfold eSlO at e
  split at e
  · rename_i ds hd
    obtain ⟨a, ea, e⟩ := bnd e
    obtain ⟨b, eb, e⟩ := bnd e
    cases e
    obtain ⟨p, xs, h1, h0, h2, h3, h4⟩ := S.own hd
    refine ⟨_, h1, ?_⟩
    refine hl B F H σ env a S fh bh ea _ fun F2 H2 g2 => ?_
    refine hh B F2 H2 σ env b (S.grow g2) g2.i (bh.trans g2.h) eb _ fun F3 H3 g3 => ?_
    have g13 := g2.trans g3
    refine ⟨p, xs, rfl, .inl (.inl (g13.h _ _ h3)), fun c hc => q F3 _ _ (g13.trans (Grow.new g3.i hc)) ?_⟩
    exact (newL g3.i hc (DpAll.cut a b (dpa_mono g13.f h4))).back g13
  · cases e
/-- in, not in a list -/
@[simp] noncomputable def gIn : PyData → PyData → Option R := fun d y => match y with
  | .list ds => if Shp d ∧ Shp (.list ds) then some (.val (.bool (memD d ds))) else none
  | _ => none
@[simp] noncomputable def gNotIn : PyData → PyData → Option R := fun d y => match y with
  | .list ds => if Shp d ∧ Shp (.list ds) then some (.val (.bool (!memD d ds))) else none
  | _ => none
theorem rv_in : RVD K (rInD K) gIn := fun F H x y dx dy r fh d1 d2 e Q q => by
  unfold gIn at e
  split at e
  · split at e
    · rename_i hh
      cases e
      exact ⟨dx, _, dp_mono fh d1, dp_mono fh d2, hh.1, hh.2, q F H _ (Grow.refl fh) (.bl _)⟩
    · cases e
  · cases e
theorem rv_notIn : RVD K (rNotInD K) gNotIn := fun F H x y dx dy r fh d1 d2 e Q q => by
  unfold gNotIn at e
  split at e
  · split at e
    · rename_i hh
      cases e
      exact ⟨dx, _, dp_mono fh d1, dp_mono fh d2, hh.1, hh.2, q F H _ (Grow.refl fh) (.bl _)⟩
    · cases e
  · cases e
end
end Dn
namespace Dn
open PySem PySem.Spec PyProof.Rows L2
section
variable {X : Cx} {e a b c o i : Expr} {es : List Expr} {pos p apos : Pos} {te ta tb tc : TE} {t : TA} {tt tu : TT} {f g h : EF} {af : AF} {u v : TF} {x y : Str}

theorem sv (i : Nat) {x : Str} {pos : Pos} (hN : X.N[i]? = some x := by rfl) (hv : Vis X.env.scope x := by first | exact Or.inl rfl | exact Or.inr (Or.inl rfl) | exact Or.inr (Or.inr rfl)) (hd : (x == ("__debug__" : Str)) = false := by decide)
    (hcd : (x == ("__classdict__" : Str)) = false := by decide) : SE X (.Name x pos) (tVar i) (eVar i) := ⟨pe_var hN hv hd hcd, de_var⟩
/-- x is True -/
@[simp] def gIsB : PyData → PyData → Option R
  | .bool a, .bool b => some (.val (.bool (decide (a = b))))
  | _, _ => none
theorem rv_isB {K : PySem.W.Frag} : RVD K rIsB gIsB := fun F H x y dx dy r fh d1 d2 e Q q => by
  unfold gIsB at e
  split at e
  · cases e
    rw [dp_bool d1, dp_bool d2]
    exact ⟨_, _, rfl, rfl, q F H _ (Grow.refl fh) (.bl _)⟩
  · cases e
theorem se_isB (h1 : SE X a ta f) (h2 : SE X b tb g) : SE X (.Compare a [.Is] [b] pos) (tOp rIsB ta tb) (eBin gIsB f g) := ⟨pe_cmpR op_isBl h1.pe h2.pe (nomark _), de_bin rv_isB h1.de h2.de⟩
/-- a name whose slot holds an owned list: PE alone -/
theorem ov (i : Nat) {x : Str} {pos : Pos} (hN : X.N[i]? = some x := by rfl) (hv : Vis X.env.scope x := by first | exact Or.inl rfl | exact Or.inr (Or.inl rfl) | exact Or.inr (Or.inr rfl)) (hd : (x == ("__debug__" : Str)) = false := by decide)
    (hcd : (x == ("__classdict__" : Str)) = false := by decide) : PE X (.Name x pos) (tVar i) := pe_var hN hv hd hcd
theorem se_int {i j pos} : SE X (.Constant (.int i) j pos) (tC (.int i)) (eC (.int i)) := ⟨pe_int, de_c fun _ => .int _⟩
theorem se_bl {b j pos} : SE X (.Constant (.bool b) j pos) (tC (.bl b)) (eC (.bool b)) := ⟨pe_bl, de_c fun _ => .bl _⟩
theorem se_non {j pos} : SE X (.Constant .none j pos) (tC .non) (eC .none) := ⟨pe_non, de_c fun _ => .non⟩
theorem se_str {x j pos} : SE X (.Constant (.str x) j pos) (tC (.str x)) (eC (.str x)) := ⟨pe_str, de_c fun _ => .str _⟩
/-- a constant of the module -/
theorem se_glob {v : V} {w : Value} {d : PyData} (hg : Gl X x) (hm : X.mg x = some w) (r : RelV v w) (hd : ∀ F, Dp X.K F v d) (hdb : (x == ("__debug__" : Str)) = false := by decide) : SE X (.Name x pos) (tC v) (eC d) := ⟨pe_glob hg hm r hdb, de_c hd⟩
theorem se_add {K : PySem.W.Frag} (h1 : SE X a ta f) (h2 : SE X b tb g) (hK : X.K = K := by rfl) : SE X (.BinOp a .Add b pos) (tOp (rAddG K) ta tb) (eBin gAdd f g) := by
  subst hK
  exact ⟨pe_op op_addG h1.pe h2.pe, de_bin rv_add h1.de h2.de⟩
theorem se_sub (h1 : SE X a ta f) (h2 : SE X b tb g) : SE X (.BinOp a .Sub b pos) (tOp (rI0 fun i j => .int (i - j)) ta tb) (eBin gSub f g) := ⟨pe_op op_sub h1.pe h2.pe, de_bin rv_sub h1.de h2.de⟩
theorem se_mul (h1 : SE X a ta f) (h2 : SE X b tb g) : SE X (.BinOp a .Mult b pos) (tOp (rI MulOk fun i j => .int (i * j)) ta tb) (eBin gMul f g) := ⟨pe_op op_mulG h1.pe h2.pe, de_bin rv_mul h1.de h2.de⟩
theorem se_fdiv (h1 : SE X a ta f) (h2 : SE X b tb g) : SE X (.BinOp a .FloorDiv b pos) (tOp (rI (fun _ j => j ≠ 0 ∧ j.natAbs < divLim) fun i j => .int (i.fdiv j)) ta tb) (eBin gFdiv f g) := ⟨pe_op op_fdivG h1.pe h2.pe, de_bin rv_fdiv h1.de h2.de⟩
theorem se_mod (h1 : SE X a ta f) (h2 : SE X b tb g) : SE X (.BinOp a .Mod b pos) (tOp (rI (fun _ j => j ≠ 0) fun i j => .int (i.fmod j)) ta tb) (eBin gMod f g) := ⟨pe_op op_modN h1.pe h2.pe, de_bin rv_mod h1.de h2.de⟩
theorem se_pow (h1 : SE X a ta f) (h2 : SE X b tb g) : SE X (.BinOp a .Pow b pos) (tOp (rI CPow fun i j => .int (i ^ j.toNat)) ta tb) (eBin gPow f g) := ⟨pe_op op_pow h1.pe h2.pe, de_bin rv_pow h1.de h2.de⟩
theorem se_neg (h1 : SE X a ta f) : SE X (.UnaryOp .USub a pos) (tUn (rU fun i => .int (-i)) ta) (eUn gNeg f) := ⟨pe_un un_neg h1.pe, de_un ru_neg h1.de⟩
theorem se_lt (h1 : SE X a ta f) (h2 : SE X b tb g) : SE X (.Compare a [.Lt] [b] pos) (tOp (rI0 fun i j => .bl (decide (i < j))) ta tb) (eBin gLt f g) := ⟨pe_cmpR op_lt h1.pe h2.pe (nomark _), de_bin rv_lt h1.de h2.de⟩
theorem se_le (h1 : SE X a ta f) (h2 : SE X b tb g) : SE X (.Compare a [.LtE] [b] pos) (tOp (rI0 fun i j => .bl (decide (i ≤ j))) ta tb) (eBin gLe f g) := ⟨pe_cmpR op_le h1.pe h2.pe (nomark _), de_bin rv_le h1.de h2.de⟩
theorem se_gt (h1 : SE X a ta f) (h2 : SE X b tb g) : SE X (.Compare a [.Gt] [b] pos) (tOp (rI0 fun i j => .bl (decide (j < i))) ta tb) (eBin gGt f g) := ⟨pe_cmpR op_gt h1.pe h2.pe (nomark _), de_bin rv_gt h1.de h2.de⟩
theorem se_ge (h1 : SE X a ta f) (h2 : SE X b tb g) : SE X (.Compare a [.GtE] [b] pos) (tOp (rI0 fun i j => .bl (decide (j ≤ i))) ta tb) (eBin gGe f g) := ⟨pe_cmpR op_ge h1.pe h2.pe (nomark _), de_bin rv_ge h1.de h2.de⟩
theorem se_eq {K : PySem.W.Frag} (hu : X.A.units + 64 < cLine) (h1 : SE X a ta f) (h2 : SE X b tb g) (hK : X.K = K := by rfl) : SE X (.Compare a [.Eq] [b] pos) (tOp (rEqD K) ta tb) (eBin gEq f g) := by
  subst hK
  exact ⟨pe_cmpR (op_eqD hu) h1.pe h2.pe (nomark _), de_bin rv_eq h1.de h2.de⟩
theorem se_ne {K : PySem.W.Frag} (hu : X.A.units + 64 < cLine) (h1 : SE X a ta f) (h2 : SE X b tb g) (hK : X.K = K := by rfl) : SE X (.Compare a [.NotEq] [b] pos) (tOp (rNeD K) ta tb) (eBin gNe f g) := by
  subst hK
  exact ⟨pe_cmpR (op_neD hu) h1.pe h2.pe (nomark _), de_bin rv_ne h1.de h2.de⟩
theorem se_in {K : PySem.W.Frag} (hu : X.A.units + 65 < cLine) (h1 : SE X a ta f) (h2 : SE X b tb g) (hm : behindInMarks .In b = false := by rfl) (hK : X.K = K := by rfl) : SE X (.Compare a [.In] [b] pos) (tOp (rInD K) ta tb) (eBin gIn f g) := by
  subst hK
  exact ⟨pe_cmpR (op_inD hu) h1.pe h2.pe hm, de_bin rv_in h1.de h2.de⟩
theorem se_notIn {K : PySem.W.Frag} (hu : X.A.units + 65 < cLine) (h1 : SE X a ta f) (h2 : SE X b tb g) (hm : behindInMarks .NotIn b = false := by rfl) (hK : X.K = K := by rfl) : SE X (.Compare a [.NotIn] [b] pos) (tOp (rNotInD K) ta tb) (eBin gNotIn f g) := by
  subst hK
  exact ⟨pe_cmpR (op_notInD hu) h1.pe h2.pe hm, de_bin rv_notIn h1.de h2.de⟩
/-- x is None -/
@[simp] def isNone : PyData → Bool
  | .none => true
  | _ => false
@[simp] def gIsN : PyData → PyData → Option R := fun d e => match e with
  | .none => some (.val (.bool (isNone d)))
  | _ => none
@[simp] def gNotN : PyData → PyData → Option R := fun d e => match e with
  | .none => some (.val (.bool (!isNone d)))
  | _ => none
theorem dp_isN {K : PySem.W.Frag} {F : Hp} {v : V} {d : PyData} (h : Dp K F v d) : decide (v = .non) = isNone d := by cases h <;> rfl
theorem rv_isN {K : PySem.W.Frag} : RVD K (fun x y H Q => y = .non ∧ Q (.bl (decide (x = .non))) H) gIsN := fun F H x y dx dy r fh d1 d2 e Q q => by
  unfold gIsN at e
  split at e
  · cases e
    cases d2
    refine ⟨rfl, q F H _ (Grow.refl fh) ?_⟩
    rw [dp_isN d1]
    cases dx <;> exact .bl _
  · cases e
theorem rv_notN {K : PySem.W.Frag} : RVD K (fun x y H Q => y = .non ∧ Q (.bl (!decide (x = .non))) H) gNotN := fun F H x y dx dy r fh d1 d2 e Q q => by
  unfold gNotN at e
  split at e
  · cases e
    cases d2
    refine ⟨rfl, q F H _ (Grow.refl fh) ?_⟩
    rw [dp_isN d1]
    cases dx <;> exact .bl _
  · cases e
theorem se_isN (h1 : SE X a ta f) {j pos'} : SE X (.Compare a [.Is] [.Constant .none j pos'] pos) (tOp (fun x y H Q => y = .non ∧ Q (.bl (decide (x = .non))) H) ta (tC .non)) (eBin gIsN f (eC .none)) := ⟨pe_cmpR op_isN h1.pe pe_non (nomark _), de_bin rv_isN h1.de (de_c fun _ => .non)⟩
theorem se_notN (h1 : SE X a ta f) {j pos'} : SE X (.Compare a [.IsNot] [.Constant .none j pos'] pos) (tOp (fun x y H Q => y = .non ∧ Q (.bl (!decide (x = .non))) H) ta (tC .non)) (eBin gNotN f (eC .none)) := ⟨pe_cmpR op_notN h1.pe pe_non (nomark _), de_bin rv_notN h1.de (de_c fun _ => .non)⟩
theorem se_ix {K : PySem.W.Frag} (h1 : SE X a ta f) (h2 : SE X b tb g) (hs : PlainIx b := by exact fun _ _ => rfl) (hK : X.K = K := by rfl) : SE X (.Subscript a b pos) (tOp (rIx K) ta tb) (eBin gIx f g) := by
  subst hK
  exact ⟨pe_ix ix_seq h1.pe h2.pe hs, de_bin rv_ix h1.de h2.de⟩
theorem se_ixO {K : PySem.W.Frag} {j : Nat} (h1 : PE X a (tVar j)) (h2 : SE X b tb g) (hs : PlainIx b := by exact fun _ _ => rfl) (hK : X.K = K := by rfl) : SE X (.Subscript a b pos) (tOp (rIx K) (tVar j) tb) (eIxO j g) := by
  subst hK
  exact ⟨pe_ix ix_seq h1 h2.pe hs, de_ixO h2.de⟩
structure SO (X : Cx) (e : Option Expr) (to : TO) (f : OF) : Prop where
  po : PO X e to
  d : DO X.K to f
theorem so_none : SO X none tNoPart oNone := ⟨po_none, do_none⟩
theorem so_some (h1 : SE X a ta f) : SO X (some a) (tPart ta) (oSome f) := ⟨po_some h1.pe, do_some h1.de⟩
theorem se_sl {K : PySem.W.Frag} {lo hi : Option Expr} {tl th : TO} {ol oh : OF} {p2 : Pos} (h1 : SE X a ta f) (hl : SO X lo tl ol) (hh : SO X hi th oh) (hK : X.K = K := by rfl) : SE X (.Subscript a (.Slice lo hi none p2) pos) (tSl (rSlLA K) ta tl th) (eSl f ol oh) := by
  subst hK
  exact ⟨pe_slice sl_la h1.pe hl.po hh.po, de_sl h1.de hl.d hh.d⟩
theorem se_slO {K : PySem.W.Frag} {j : Nat} {lo hi : Option Expr} {tl th : TO} {ol oh : OF} {p2 : Pos} (h1 : PE X a (tVar j)) (hl : SO X lo tl ol) (hh : SO X hi th oh) (hK : X.K = K := by rfl) : SE X (.Subscript a (.Slice lo hi none p2) pos) (tSl (rSlL K) (tVar j) tl th) (eSlO j ol oh) := by
  subst hK
  exact ⟨pe_slice sl_list h1 hl.po hh.po, de_slO hl.d hh.d⟩
theorem sa_nil : SA X [] tNil aNil := ⟨pa_nil, da_nil⟩
theorem sa_cons (h1 : SE X e te f) (h2 : SA X es t af) (hs : starEach (e :: es) X.env = (false, eval e X.env) :: starEach es X.env := by rfl) : SA X (e :: es) (tCons te t) (aCons f af) := ⟨pa_cons h1.pe h2.pa hs, da_cons h1.de h2.da⟩
theorem se_tup {x1} (h1 : SA X es t af) : SE X (.Tuple es x1 pos) (tTup t) (eTup af) := ⟨pe_tup h1.pa, de_tup h1.da⟩
theorem se_lst (h1 : SA X es t af) : SE X (.List es pos) (tLst t) (eLst af) := ⟨pe_lst h1.pa, de_lst h1.da⟩
theorem se_peek (h1 : SE X e te f) : SE X e te (ePeek f) := ⟨h1.pe, de_peek h1.de⟩
theorem st_peek (h1 : ST X e tt u) : ST X e tt (tPeek u) := ⟨h1.pt, dt_peek h1.dt⟩
/-- calls of built-ins -/
theorem se_cb {id : String} {r : List V → Hp → VK → Prop} {g : List PyData → Option R} (hc : CallR X (.builtin id) r) (hr : RCD X.K r g) (hg : Gl X x) (hm : X.mg x = none) (hv : bootBuiltins x = some (.builtin id)) (ha : SA X (e :: es) t af) (hn : x ≠ "__name__" := by decide) (hdb : (x == ("__debug__" : Str)) = false := by decide)
    (he : starEach (e :: es) X.env = (false, eval e X.env) :: starEach es X.env := by rfl) (hpl : (backTo pos (starEach es X.env)).any (·.1) = false := by rfl) : SE X (.Call (.Name x p) (e :: es) [] pos) (tCB r t) (eCall g af) :=
  ⟨pe_callB hc hg hm hv ha.pa hn hdb he hpl, de_cb hr ha.da⟩
theorem se_cty {T : String} {r : List V → Hp → VK → Prop} {g : List PyData → Option R} (hc : CallR X (.type T) r) (hr : RCD X.K r g) (hg : Gl X x) (hm : X.mg x = none) (hv : bootBuiltins x = some (.type T)) (ha : SA X (e :: es) t af) (hn : x ≠ "__name__" := by decide) (hdb : (x == ("__debug__" : Str)) = false := by decide)
    (he : starEach (e :: es) X.env = (false, eval e X.env) :: starEach es X.env := by rfl) (hpl : (backTo pos (starEach es X.env)).any (·.1) = false := by rfl) : SE X (.Call (.Name x p) (e :: es) [] pos) (tCB r t) (eCall g af) :=
  ⟨pe_callTy hc hg hm hv ha.pa hn hdb he hpl, de_cb hr ha.da⟩
/-- a function of a library's module, imported by its name -/
theorem se_cfun {id : String} {r : List V → Hp → VK → Prop} {g : List PyData → Option R} (hc : CallR X (.builtin id) r) (hr : RCD X.K r g) (hg : Gl X x) (hm : X.mg x = some (.builtin id)) (ha : SA X (e :: es) t af) (hdb : (x == ("__debug__" : Str)) = false := by decide)
    (he : starEach (e :: es) X.env = (false, eval e X.env) :: starEach es X.env := by rfl) (hpl : (backTo pos (starEach es X.env)).any (·.1) = false := by rfl) : SE X (.Call (.Name x p) (e :: es) [] pos) (tCB r t) (eCall g af) :=
  ⟨pe_callBfun hc hg hm ha.pa hdb he hpl, de_cb hr ha.da⟩
theorem se_c_len {K : PySem.W.Frag} (hg : Gl X x) (hm : X.mg x = none) (hv : bootBuiltins x = some (.builtin "len")) (ha : SA X (e :: es) t af) (hn : x ≠ "__name__" := by decide) (hdb : (x == ("__debug__" : Str)) = false := by decide)
    (he : starEach (e :: es) X.env = (false, eval e X.env) :: starEach es X.env := by rfl) (hpl : (backTo pos (starEach es X.env)).any (·.1) = false := by rfl) (hK : X.K = K := by rfl) : SE X (.Call (.Name x p) (e :: es) [] pos) (tCB (fun xs H Q => ∃ x n, xs = [x] ∧ LenV K x H n ∧ Q (.int n) H) t) (eCall gLen af) := by
  subst hK
  exact se_cb call_len rc_len hg hm hv ha hn hdb he hpl
theorem se_c_abs (hg : Gl X x) (hm : X.mg x = none) (hv : bootBuiltins x = some (.builtin "abs")) (ha : SA X (e :: es) t af) (hn : x ≠ "__name__" := by decide) (hdb : (x == ("__debug__" : Str)) = false := by decide)
    (he : starEach (e :: es) X.env = (false, eval e X.env) :: starEach es X.env := by rfl) (hpl : (backTo pos (starEach es X.env)).any (·.1) = false := by rfl) : SE X (.Call (.Name x p) (e :: es) [] pos) (tCB (fun xs H Q => ∃ i, xs = [.int i] ∧ Q (.int (if i < 0 then -i else i)) H) t) (eCall gAbs af) := se_cb call_abs rc_abs hg hm hv ha hn hdb he hpl
theorem se_c_all {K : PySem.W.Frag} (hg : Gl X x) (hm : X.mg x = none) (hv : bootBuiltins x = some (.builtin "all")) (ha : SA X (e :: es) t af) (hn : x ≠ "__name__" := by decide) (hdb : (x == ("__debug__" : Str)) = false := by decide)
    (he : starEach (e :: es) X.env = (false, eval e X.env) :: starEach es X.env := by rfl) (hpl : (backTo pos (starEach es X.env)).any (·.1) = false := by rfl) (hc : X.calm = true := by rfl) (hK : X.K = K := by rfl) : SE X (.Call (.Name x p) (e :: es) [] pos) (tCB (rAll K) t) (eCall gAll af) := by
  subst hK
  exact se_cb (cr_all hc) rc_all hg hm hv ha hn hdb he hpl
theorem se_c_any {K : PySem.W.Frag} (hg : Gl X x) (hm : X.mg x = none) (hv : bootBuiltins x = some (.builtin "any")) (ha : SA X (e :: es) t af) (hn : x ≠ "__name__" := by decide) (hdb : (x == ("__debug__" : Str)) = false := by decide)
    (he : starEach (e :: es) X.env = (false, eval e X.env) :: starEach es X.env := by rfl) (hpl : (backTo pos (starEach es X.env)).any (·.1) = false := by rfl) (hc : X.calm = true := by rfl) (hK : X.K = K := by rfl) : SE X (.Call (.Name x p) (e :: es) [] pos) (tCB (rAny K) t) (eCall gAny af) := by
  subst hK
  exact se_cb (cr_any hc) rc_any hg hm hv ha hn hdb he hpl
theorem se_c_sum {K : PySem.W.Frag} (hg : Gl X x) (hm : X.mg x = none) (hv : bootBuiltins x = some (.builtin "sum")) (ha : SA X (e :: es) t af) (hn : x ≠ "__name__" := by decide) (hdb : (x == ("__debug__" : Str)) = false := by decide)
    (he : starEach (e :: es) X.env = (false, eval e X.env) :: starEach es X.env := by rfl) (hpl : (backTo pos (starEach es X.env)).any (·.1) = false := by rfl) (hc : X.calm = true := by rfl) (hK : X.K = K := by rfl) : SE X (.Call (.Name x p) (e :: es) [] pos) (tCB (rSum K) t) (eCall gSum af) := by
  subst hK
  exact se_cb (cr_sum hc) rc_sum hg hm hv ha hn hdb he hpl
theorem se_c_int (hg : Gl X x) (hm : X.mg x = none) (hv : bootBuiltins x = some (.type "int")) (ha : SA X (e :: es) t af) (hn : x ≠ "__name__" := by decide) (hdb : (x == ("__debug__" : Str)) = false := by decide)
    (he : starEach (e :: es) X.env = (false, eval e X.env) :: starEach es X.env := by rfl) (hpl : (backTo pos (starEach es X.env)).any (·.1) = false := by rfl) : SE X (.Call (.Name x p) (e :: es) [] pos) (tCB (fun xs H Q => (∃ i, xs = [.int i] ∧ Q (.int i) H) ∨ ∃ k, xs = [.bl k] ∧ Q (.int (if k then 1 else 0)) H) t) (eCall gInt af) := se_cty call_int1 rc_int hg hm hv ha hn hdb he hpl
theorem se_c_str (hg : Gl X x) (hm : X.mg x = none) (hv : bootBuiltins x = some (.type "str")) (ha : SA X (e :: es) t af) (hn : x ≠ "__name__" := by decide) (hdb : (x == ("__debug__" : Str)) = false := by decide)
    (he : starEach (e :: es) X.env = (false, eval e X.env) :: starEach es X.env := by rfl) (hpl : (backTo pos (starEach es X.env)).any (·.1) = false := by rfl) : SE X (.Call (.Name x p) (e :: es) [] pos) (tCB (fun xs H Q => ∃ i, xs = [.int i] ∧ i.natAbs.log2 < 1920 ∧ Q (.str (toString i)) H) t) (eCall gStr af) := se_cty call_str_int rc_str hg hm hv ha hn hdb he hpl
theorem se_c_list {K : PySem.W.Frag} (hg : Gl X x) (hm : X.mg x = none) (hv : bootBuiltins x = some (.type "list")) (ha : SA X (e :: es) t af) (hn : x ≠ "__name__" := by decide) (hdb : (x == ("__debug__" : Str)) = false := by decide)
    (he : starEach (e :: es) X.env = (false, eval e X.env) :: starEach es X.env := by rfl) (hpl : (backTo pos (starEach es X.env)).any (·.1) = false := by rfl) (hK : X.K = K := by rfl) : SE X (.Call (.Name x p) (e :: es) [] pos) (tCB (fun xs H Q => ∃ p ys, xs = [.ref p] ∧ (SqL K H p ys ∨ SqT K H p ys) ∧ ∀ l, H l = none → Q (.ref l) (upd H l (.lst ys))) t) (eCall gList af) := by
  subst hK
  exact se_cty call_list_of rc_list hg hm hv ha hn hdb he hpl
/-- isinstance with a built-in class -/
@[simp] def eIsi (T : String) (f : EF) : EF := fun env => (f env).bind fun r => some (.val (.bool (isi T r.frz)))
theorem de_isi {K : PySem.W.Frag} {T : String} (hT : T ∈ ["int", "bool", "str", "tuple", "list"]) (h1 : DE K ta f) : DE K (tCB (rIsi K) (tCons ta (tCons (tC (.ty T)) tNil))) (eIsi T f) := fun B F H σ env r S fh bh e Q q => by
  obtain ⟨a, ea, e⟩ := bnd e
  cases e
  refine h1.z S fh bh ea fun F1 H1 x g1 d1 => ?_
  exact ⟨x, .ty T, _, _, _, rfl, .ty T, dp_ty (dp_mono g1.i d1), kit_isi hT, q F1 H1 _ g1 (.bl _)⟩
theorem se_isi {K : PySem.W.Frag} {T : String} {pT : Pos} {xT : Str} (hT : T ∈ ["int", "bool", "str", "tuple", "list"]) (hg : Gl X x) (hm : X.mg x = none) (hv : bootBuiltins x = some (.builtin "isinstance")) (hgT : Gl X xT) (hmT : X.mg xT = none) (hvT : bootBuiltins xT = some (.type T)) (h1 : SE X a ta f) (hn : x ≠ "__name__" := by decide) (hdb : (x == ("__debug__" : Str)) = false := by decide)
    (hnT : xT ≠ "__name__" := by decide) (hdT : (xT == ("__debug__" : Str)) = false := by decide)
    (he1 : starEach [.Name xT pT] X.env = (false, eval (.Name xT pT) X.env) :: starEach [] X.env := by rfl)
    (he : starEach [a, .Name xT pT] X.env = (false, eval a X.env) :: starEach [.Name xT pT] X.env := by rfl) (hpl : (backTo pos (starEach [.Name xT pT] X.env)).any (·.1) = false := by rfl) (hK : X.K = K := by rfl) : SE X (.Call (.Name x p) [a, .Name xT pT] [] pos) (tCB (rIsi K) (tCons ta (tCons (tC (.ty T)) tNil))) (eIsi T f) := by
  subst hK
  exact ⟨pe_callB call_isi hg hm hv (pa_cons h1.pe (pa_cons (pe_bltn (v := .ty T) hgT hmT hvT rfl hnT hdT) pa_nil he1) he) hn hdb he hpl, de_isi hT h1.de⟩

/-! tests -/
theorem st_lt (h1 : SE X a ta f) (h2 : SE X b tb g) : ST X (.Compare a [.Lt] [b] pos) (tTest (tOp (rI0 fun i j => .bl (decide (i < j))) ta tb)) (tE (eBin gLt f g)) := ⟨pt_cmpR op_lt h1.pe h2.pe (nomark _), dt_test (de_bin rv_lt h1.de h2.de)⟩
theorem st_le (h1 : SE X a ta f) (h2 : SE X b tb g) : ST X (.Compare a [.LtE] [b] pos) (tTest (tOp (rI0 fun i j => .bl (decide (i ≤ j))) ta tb)) (tE (eBin gLe f g)) := ⟨pt_cmpR op_le h1.pe h2.pe (nomark _), dt_test (de_bin rv_le h1.de h2.de)⟩
theorem st_gt (h1 : SE X a ta f) (h2 : SE X b tb g) : ST X (.Compare a [.Gt] [b] pos) (tTest (tOp (rI0 fun i j => .bl (decide (j < i))) ta tb)) (tE (eBin gGt f g)) := ⟨pt_cmpR op_gt h1.pe h2.pe (nomark _), dt_test (de_bin rv_gt h1.de h2.de)⟩
theorem st_ge (h1 : SE X a ta f) (h2 : SE X b tb g) : ST X (.Compare a [.GtE] [b] pos) (tTest (tOp (rI0 fun i j => .bl (decide (j ≤ i))) ta tb)) (tE (eBin gGe f g)) := ⟨pt_cmpR op_ge h1.pe h2.pe (nomark _), dt_test (de_bin rv_ge h1.de h2.de)⟩
theorem st_eq {K : PySem.W.Frag} (hu : X.A.units + 64 < cLine) (h1 : SE X a ta f) (h2 : SE X b tb g) (hK : X.K = K := by rfl) : ST X (.Compare a [.Eq] [b] pos) (tTest (tOp (rEqD K) ta tb)) (tE (eBin gEq f g)) := by
  subst hK
  exact ⟨pt_cmpR (op_eqD hu) h1.pe h2.pe (nomark _), dt_test (de_bin rv_eq h1.de h2.de)⟩
theorem st_ne {K : PySem.W.Frag} (hu : X.A.units + 64 < cLine) (h1 : SE X a ta f) (h2 : SE X b tb g) (hK : X.K = K := by rfl) : ST X (.Compare a [.NotEq] [b] pos) (tTest (tOp (rNeD K) ta tb)) (tE (eBin gNe f g)) := by
  subst hK
  exact ⟨pt_cmpR (op_neD hu) h1.pe h2.pe (nomark _), dt_test (de_bin rv_ne h1.de h2.de)⟩
theorem st_in {K : PySem.W.Frag} (hu : X.A.units + 65 < cLine) (h1 : SE X a ta f) (h2 : SE X b tb g) (hm : behindInMarks .In b = false := by rfl) (hK : X.K = K := by rfl) : ST X (.Compare a [.In] [b] pos) (tTest (tOp (rInD K) ta tb)) (tE (eBin gIn f g)) := by
  subst hK
  exact ⟨pt_cmpR (op_inD hu) h1.pe h2.pe hm, dt_test (de_bin rv_in h1.de h2.de)⟩
theorem st_notIn {K : PySem.W.Frag} (hu : X.A.units + 65 < cLine) (h1 : SE X a ta f) (h2 : SE X b tb g) (hm : behindInMarks .NotIn b = false := by rfl) (hK : X.K = K := by rfl) : ST X (.Compare a [.NotIn] [b] pos) (tTest (tOp (rNotInD K) ta tb)) (tE (eBin gNotIn f g)) := by
  subst hK
  exact ⟨pt_cmpR (op_notInD hu) h1.pe h2.pe hm, dt_test (de_bin rv_notIn h1.de h2.de)⟩
theorem st_isN (h1 : SE X a ta f) {j pos'} : ST X (.Compare a [.Is] [.Constant .none j pos'] pos) (tTest (tOp (fun x y H Q => y = .non ∧ Q (.bl (decide (x = .non))) H) ta (tC .non))) (tE (eBin gIsN f (eC .none))) := ⟨pt_cmpR op_isN h1.pe pe_non (nomark _), dt_test (de_bin rv_isN h1.de (de_c fun _ => .non))⟩
theorem st_notN (h1 : SE X a ta f) {j pos'} : ST X (.Compare a [.IsNot] [.Constant .none j pos'] pos) (tTest (tOp (fun x y H Q => y = .non ∧ Q (.bl (!decide (x = .non))) H) ta (tC .non))) (tE (eBin gNotN f (eC .none))) := ⟨pt_cmpR op_notN h1.pe pe_non (nomark _), dt_test (de_bin rv_notN h1.de (de_c fun _ => .non))⟩
/-- a call, a name, a constant that is True or False -/
theorem st_val (h1 : SE X e te f) (he : ∀ whole, isTrue e X.env whole = (do let v ← whole; standAt e.pos; holding [v] (truthy v)) := by intro _; rfl) : ST X e (tB te) (tE f) := ⟨pt_val h1.pe he, dt_B h1.de⟩
theorem sw_and1 (h1 : ST X a tt u) : SW X (.BoolOp .And [a] pos) tt u := ⟨pw_and1 h1.pt, h1.dt⟩
theorem sw_or1 (h1 : ST X a tt u) : SW X (.BoolOp .Or [a] pos) tt u := ⟨pw_or1 h1.pt, h1.dt⟩
theorem sw_and {rest : List Expr} (h1 : ST X a tt u) (h2 : SW X (.BoolOp .And (b :: rest) pos) tu v) : SW X (.BoolOp .And (a :: b :: rest) pos) (tAnd tt tu) (tAndD u v) := ⟨pw_and h1.pt h2.pw, dt_and h1.dt h2.dt⟩
theorem sw_or {rest : List Expr} (h1 : ST X a tt u) (h2 : SW X (.BoolOp .Or (b :: rest) pos) tu v) : SW X (.BoolOp .Or (a :: b :: rest) pos) (tOr tt tu) (tOrD u v) := ⟨pw_or h1.pt h2.pw, dt_or h1.dt h2.dt⟩
theorem st_not (h1 : ST X a tt u) : ST X (.UnaryOp .Not a pos) (tNot tt) (tNotD u) := ⟨pt_not h1.pt, dt_not h1.dt⟩
theorem se_one {op} (h1 : SE X a ta f) : SE X (.BoolOp op [a] pos) ta f := ⟨pe_one h1.pe, h1.de⟩
theorem se_and {rest : List Expr} (h1 : SE X a ta f) (h2 : SE X (.BoolOp .And (b :: rest) pos) tb g) : SE X (.BoolOp .And (a :: b :: rest) pos) (tAndV ta tb) (eIf (tE f) g (eC (.bool false))) := ⟨pe_and h1.pe h2.pe, de_andV h1.de h2.de⟩
theorem se_or {rest : List Expr} (h1 : SE X a ta f) (h2 : SE X (.BoolOp .Or (b :: rest) pos) tb g) : SE X (.BoolOp .Or (a :: b :: rest) pos) (tOrV ta tb) (eIf (tE f) (eC (.bool true)) g) := ⟨pe_or h1.pe h2.pe, de_orV h1.de h2.de⟩
theorem se_not (h1 : SE X a ta f) : SE X (.UnaryOp .Not a pos) (tNotV ta) (eT (tNotD (tE f))) := ⟨pe_not h1.pe, de_notV h1.de⟩
theorem se_if (hc : ST X c tt u) (h1 : SE X a ta f) (h2 : SE X b tb g) : SE X (.IfExp c a b pos) (tIf tt ta tb) (eIf u f g) := ⟨pe_ifExp hc.pt h1.pe h2.pe, de_ifE hc.dt h1.de h2.de⟩
/-! a chain of two comparisons -/
@[simp] def eChain (g1 g2 : PyData → PyData → Option R) (f g h : EF) : EF := fun env => (f env).bind fun a => (g env).bind fun b => (g1 a.frz b.frz).bind fun r => (toB r.frz).bind fun k => if k = true then (h env).bind fun c => g2 b.frz c.frz else some (.val (.bool false))
theorem de_chain {K : PySem.W.Frag} {r1 r2 : R2} {g1 g2 : PyData → PyData → Option R} (k1 : RVD K r1 g1) (k2 : RVD K r2 g2) (h1 : DE K ta f) (h2 : DE K tb g) (h3 : DE K tc h) : DE K (tChain r1 r2 ta tb tc) (eChain g1 g2 f g h) := fun B F H σ env r S fh bh e Q q => by
  obtain ⟨a, ea, e⟩ := bnd e
  obtain ⟨b, eb, e⟩ := bnd e
  obtain ⟨r0, er, e⟩ := bnd e
  obtain ⟨k, ek, e⟩ := bnd e
  refine h1.z S fh bh ea fun F1 H1 x G1 d1 => ?_
  refine h2.z (S.grow G1) G1.i (bh.trans G1.h) eb fun F2 H2 y G2 d2 => ?_
  refine k1 F2 H2 x y _ _ r0 G2.i (dp_mono G2.f d1) d2 er _ fun F3 H3 v G3 rr => ?_
  obtain ⟨F4, G4, s4, d4⟩ := rr.frz G3
  rw [toB_some ek] at d4
  rw [dp_bool d4]
  have g4 := (G1.trans G2).trans G4
  refine ⟨k, rfl, ?_⟩
  cases k with
  | true =>
    refine iteT ?_
    obtain ⟨c, ec, e⟩ := bnd e
    refine h3.z (S.grow g4) g4.i (bh.trans g4.h) ec fun F5 H5 z G5 d5 => ?_
    refine k2 F5 H5 y z _ _ r G5.i (dp_mono (G4.f.trans G5.f) d2) d5 e Q fun F6 H6 w G6 rr6 => ?_
    exact q F6 H6 w ((g4.trans G5).trans G6) (rr6.back (g4.trans G5))
  | false =>
    cases e
    exact iteF (q F4 H3 _ g4 (.bl false))
theorem se_chain {op op' : CmpOp} {r1 r2 : R2} {g1 g2 : PyData → PyData → Option R} (ho : OpR X (compareOp op) r1) (k1 : RVD X.K r1 g1) (ho' : OpR X (compareOp op') r2) (k2 : RVD X.K r2 g2) (h1 : SE X a ta f) (h2 : SE X b tb g) (h3 : SE X c tc h) (hm : lastMarks [op, op'] [b, c] = false := by with_unfolding_all rfl) :
    SE X (.Compare a [op, op'] [b, c] pos) (tChain r1 r2 ta tb tc) (eChain g1 g2 f g h) := ⟨pe_chain ho ho' h1.pe h2.pe h3.pe hm, de_chain k1 k2 h1.de h2.de h3.de⟩
theorem st_chain {op op' : CmpOp} {r1 r2 : R2} {g1 g2 : PyData → PyData → Option R} (ho : OpR X (compareOp op) r1) (k1 : RVD X.K r1 g1) (ho' : OpR X (compareOp op') r2) (k2 : RVD X.K r2 g2) (h1 : SE X a ta f) (h2 : SE X b tb g) (h3 : SE X c tc h) (hm : lastMarks [op, op'] [b, c] = false := by with_unfolding_all rfl) :
    ST X (.Compare a [op, op'] [b, c] pos) (tTest (tChain r1 r2 ta tb tc)) (tE (eChain g1 g2 f g h)) := ⟨pt_chain ho ho' h1.pe h2.pe h3.pe hm, dt_test (de_chain k1 k2 h1.de h2.de h3.de)⟩

/-! ### walks and comprehensions -/
structure SG (X : Cx) (tg : Expr) (ws : List Nat) (t : TG) (g : GF) : Prop where
  pg : PG X tg t
  d : DG X.K ws t g
structure SI (X : Cx) (tg iter : Expr) (wi : TI) (f : IF) : Prop where
  pi : PI X tg iter wi
  d : DI X.K wi f
theorem sg_name {i : Nat} (hN : X.N.Nodup) (hi : X.N[i]? = some x) (hx : Loc X.env.scope x) (hf : X.fn x = true ∨ X.env.scope.names.lookup x = some .local := by first | exact .inl rfl | exact .inr rfl | assumption) : SG X (.Name x pos) [i] (gName i) (gtName i) := ⟨pg_name hN hi hx hf, dg_name⟩
theorem sg_tup2 {K : PySem.W.Frag} {i j : Nat} {e1 e2 : Expr} {k : Nat} (hc : X.calm = true) (h : PGs X [e1, e2] (gCons (gName i) (gCons (gName j) gNil)))
    (hn : (assignEach [e1, e2] X.env).length = 2 := by rfl) (hst : (assignEach [e1, e2] X.env).findIdx? (·.1) = none := by rfl) (hK : X.K = K := by rfl) : SG X (.Tuple [e1, e2] k pos) [i, j] (gTup K 2 (gCons (gName i) (gCons (gName j) gNil))) (gtTup2 i j) := by
  subst hK
  exact ⟨pg_tup hc h hn hst, dg_tup2⟩
theorem sg_tup3 {K : PySem.W.Frag} {i j l : Nat} {e1 e2 e3 : Expr} {k : Nat} (hc : X.calm = true) (h : PGs X [e1, e2, e3] (gCons (gName i) (gCons (gName j) (gCons (gName l) gNil))))
    (hn : (assignEach [e1, e2, e3] X.env).length = 3 := by rfl) (hst : (assignEach [e1, e2, e3] X.env).findIdx? (·.1) = none := by rfl) (hK : X.K = K := by rfl) : SG X (.Tuple [e1, e2, e3] k pos) [i, j, l] (gTup K 3 (gCons (gName i) (gCons (gName j) (gCons (gName l) gNil)))) (gtTup3 i j l) := by
  subst hK
  exact ⟨pg_tup hc h hn hst, dg_tup3⟩
variable {tg iter elt : Expr} {wi : TI} {it : IF} {tG : TG} {gf : GF} {ws : List Nat} {body : List Stmt} {tS tS' : TS} {sf sg : SF} {st : Stmt}
theorem si_list {K : PySem.W.Frag} (h1 : SE X a ta f) (hK : X.K = K := by rfl) : SI X tg a (iList K ta) (iL f) := by
  subst hK
  exact ⟨pi_list h1.pe, di_list h1.de⟩
theorem si_tup {K : PySem.W.Frag} (h1 : SE X a ta f) (hK : X.K = K := by rfl) : SI X tg a (iTup K ta) (iT f) := by
  subst hK
  exact ⟨pi_tup h1.pe, di_tup h1.de⟩
theorem si_r1 {p pos : Pos} (hg : Gl X "range") (hm : X.mg "range" = none) (ha : SA X [a] t af) (hs : starEach [a] X.env = [(false, eval a X.env)] := by rfl) : SI X tg (.Call (.Name "range" p) [a] [] pos) (iRng1 t) (iR1 af) := ⟨pi_range1 hg hm ha.pa hs, di_r1 ha.da⟩
theorem si_r2 {p pos : Pos} (hg : Gl X "range") (hm : X.mg "range" = none) (ha : SA X [a, b] t af) (hs : starEach [a, b] X.env = [(false, eval a X.env), (false, eval b X.env)] := by rfl) (hs2 : starEach [b] X.env = [(false, eval b X.env)] := by rfl) : SI X tg (.Call (.Name "range" p) [a, b] [] pos) (iRng2 t) (iR2 af) := ⟨pi_range2 hg hm ha.pa hs hs2, di_r2 ha.da⟩
def iPeek (f : IF) : IF := fun env => (f (env.map unown)).bind fun ds => if ds.all flat = true then some ds else none
structure STs (X : Cx) (ifs : List Expr) (tt : TT) (f : TF) : Prop where
  pts : PTs X ifs tt
  dt : DT X.K tt f
theorem sts_nil : STs X [] tYes tYesD := ⟨pts_nil, dt_yes⟩
theorem sts_one (h1 : ST X c tt u) : STs X [c] tt u := ⟨pts_one h1.pt, h1.dt⟩
theorem se_lc {ifs : List Expr} {scope : Scope} {own : List (Str × Nat)} (hc : X.calm = true) (hN : X.N.Nodup) (hi : SI X tg iter wi it) (ok : BlkOk X.N X.env.scope scope own)
    (hg : ∀ (s : Shared) (H : Hp) (C : Addr) (cl : List (Str × Addr)) (fp : List Addr), SG (X.blk s H scope (compEnvC scope cl C X.env) fp) tg ws tG gf) (hw : ∀ i ∈ ws, i ∈ own.map (·.2))
    (ht : ∀ (s : Shared) (H : Hp) (C : Addr) (cl : List (Str × Addr)) (fp : List Addr), STs (X.blk s H scope (compEnvC scope cl C X.env) fp) ifs tt u)
    (he : ∀ (s : Shared) (H : Hp) (C : Addr) (cl : List (Str × Addr)) (fp : List Addr), SE (X.blk s H scope (compEnvC scope cl C X.env) fp) elt te f) (hs : ∀ x, foldedSetIterable iter X.env x = pure x := by intro _; rfl) :
    SE X (.ListComp elt [⟨tg, iter, ifs, 0⟩] scope pos) (tLc wi tG tt te (own.map (·.2))) (eLc (own.map (·.2)) it gf u f) :=
  ⟨pe_lc hc hN hi.pi ok (fun s H C cl fp => (hg s H C cl fp).pg) (fun s H C cl fp => (ht s H C cl fp).pts) (fun s H C cl fp => (he s H C cl fp).pe) hs,
   de_lc hi.d (hg X.s_0 X.H_0 0 [] []).d hw (ht X.s_0 X.H_0 0 [] []).dt (he X.s_0 X.H_0 0 [] []).de⟩
theorem ss_setLc {i : Nat} {y : Str} {py spos : Pos} {ifs : List Expr} {scope : Scope} {own : List (Str × Nat)} (hc : X.calm = true) (hN : X.N.Nodup) (hy : X.N[i]? = some y) (hyl : X.env.scope.names.lookup y = some .local)
    (hsw : swapsWith (.ListComp elt [⟨tg, iter, ifs, 0⟩] scope pos) (some (.Name y py)) spos.line X.env = pure true) (hi : SI X tg iter wi it) (ok : BlkOk X.N X.env.scope scope own)
    (hg : ∀ (s : Shared) (H : Hp) (C : Addr) (cl : List (Str × Addr)) (fp : List Addr), SG (X.blk s H scope (compEnvC scope cl C X.env) fp) tg ws tG gf) (hw : ∀ i ∈ ws, i ∈ own.map (·.2))
    (ht : ∀ (s : Shared) (H : Hp) (C : Addr) (cl : List (Str × Addr)) (fp : List Addr), STs (X.blk s H scope (compEnvC scope cl C X.env) fp) ifs tt u)
    (he : ∀ (s : Shared) (H : Hp) (C : Addr) (cl : List (Str × Addr)) (fp : List Addr), SE (X.blk s H scope (compEnvC scope cl C X.env) fp) elt te f) (hs : ∀ x, foldedSetIterable iter X.env x = pure x := by intro _; rfl) :
    SS X (.Assign [.Name y py] (.ListComp elt [⟨tg, iter, ifs, 0⟩] scope pos) spos) (tAsg (tLc wi tG tt te (own.map (·.2))) (gName i)) (sSet i (eLc (own.map (·.2)) it gf u f)) :=
  ⟨ps_setLc hc hN hy hyl hsw hi.pi ok (fun s H C cl fp => (hg s H C cl fp).pg) (fun s H C cl fp => (ht s H C cl fp).pts) (fun s H C cl fp => (he s H C cl fp).pe) hs,
   ds_set (de_lc hi.d (hg X.s_0 X.H_0 0 [] []).d hw (ht X.s_0 X.H_0 0 [] []).dt (he X.s_0 X.H_0 0 [] []).de)⟩

/-! ### statements -/
variable {rest : List Stmt}
theorem ss_nil : SSs X [] tNext sNext := ⟨pss_nil, ds_next⟩
theorem ss_one (h1 : SS X st tS sf) : SSs X [st] tS sf := ⟨pss_one h1.ps, h1.ds⟩
theorem ss_cons (h1 : SS X st tS sf) (h2 : SSs X rest tS' sg) : SSs X (st :: rest) (tSeq tS tS') (sSeq sf sg) := ⟨pss_cons h1.ps h2.ps, ds_seq h1.ds h2.ds⟩
/-- an owned list is frozen ahead of a statement -/
theorem ss_frz (i : Nat) (h1 : SS X st tS sf) : SS X st tS (sFrz i sf) := ⟨h1.ps, ds_frz h1.ds⟩
theorem ss_ret (h1 : SE X e te f) : SS X (.Return (some e) pos) (tRet te) (sRet f) := ⟨ps_ret h1.pe, ds_ret h1.de⟩
theorem ss_retN : SS X (.Return none pos) tRetN sRetN := ⟨ps_retN, ds_retN⟩
theorem ss_retO {i : Nat} (h1 : PE X e (tVar i)) : SS X (.Return (some e) pos) (tRet (tVar i)) (sRetOwn i) := ⟨ps_ret h1, ds_retOwn⟩
theorem ss_break : SS X (.Break pos) tBreak sBreak := ⟨ps_break, ds_break⟩
theorem ss_cont : SS X (.Continue pos) tCont sCont := ⟨ps_continue, ds_cont⟩
theorem ss_pass : SS X (.Pass pos) tNext sNext := ⟨ps_pass, ds_next⟩
theorem ss_if {b1 b2 : List Stmt} (hc : ST X c tt u) (h1 : SSs X b1 tS sf) (h2 : SSs X b2 tS' sg) : SS X (.If c b1 b2 pos) (tIfS tt tS tS') (sIf u sf sg) := ⟨ps_if hc.pt h1.ps h2.ps, ds_if hc.dt h1.ds h2.ds⟩
theorem ss_set {i : Nat} {pos' : Pos} (hN : X.N.Nodup) (hi : X.N[i]? = some x) (hx : Loc X.env.scope x) (h1 : SE X e te f) (hs : swapsWith e (some (.Name x pos')) pos.line X.env = pure false := by rfl) (hf : X.fn x = true ∨ X.env.scope.names.lookup x = some .local := by first | exact .inl rfl | exact .inr rfl | assumption) :
    SS X (.Assign [.Name x pos'] e pos) (tAsg te (gName i)) (sSet i f) := ⟨ps_set hN hi hx h1.pe hs hf, ds_set h1.de⟩
theorem ss_asg (h1 : SE X e te f) (hg : SG X tg ws tG gf) (hs : swapsWithSole [tg] e pos.line X.env = pure false := by rfl) (hw : swappedStores [tg] e X.env = pure none := by rfl)
    (h2 : (assignEach [tg] X.env).map (·.2) = [assign tg X.env] := by rfl) : SS X (.Assign [tg] e pos) (tAsg te tG) (sAsg gf f) := ⟨ps_asg h1.pe hg.pg hs hw h2, ds_asg h1.de hg.d⟩
theorem ss_put {j : Nat} {pk : Pos} (h1 : SE X e te f) (h0 : PE X o (tVar j)) (h2 : SE X i ta g)
    (ha : ∀ v, assign (.Subscript o i pk) X.env v = (do
      let ov ← holding [v] (eval o X.env)
      let iv ← holding [v, ov] (eval i X.env)
      standAt pk
      holding [v, ov, iv] (setItem ov iv v)
      release [v, ov, iv] []) := by intro _; rfl)
    (hs : swapsWithSole [.Subscript o i pk] e pos.line X.env = pure false := by rfl) (hw : swappedStores [.Subscript o i pk] e X.env = pure none := by rfl)
    (h3 : (assignEach [.Subscript o i pk] X.env).map (·.2) = [assign (.Subscript o i pk) X.env] := by rfl) : SS X (.Assign [.Subscript o i pk] e pos) (tAsg te (L2.gSub (tVar j) ta rSetL)) (sPut j g f) :=
  ⟨ps_asg h1.pe (pg_sub h0 h2.pe set_list ha) hs hw h3, ds_put h1.de h2.de⟩
theorem ss_drop (h1 : SE X e te f) (hs : swapsWith e none pos.line X.env = pure false := by rfl) : SS X (.Expr e pos) (tDrop te) (sDrop f) := ⟨ps_expr h1.pe hs, ds_drop h1.de⟩
theorem ss_append {j : Nat} {cpos : Pos} (h0 : PE X o (tVar j)) (h1 : SE X e te f) (hs : swapsWith (.Call (.Attribute o "append" apos) [e] [] cpos) none pos.line X.env = pure false := by rfl)
    (hbase : attributeBase o "append" X.env (eval o X.env) = eval o X.env := by rfl)
    (hfew : ((backTo cpos (starEach [e] X.env)).all (fun x => !x.1) && (backToKw cpos (keywordEach [] X.env)).all (fun x => x.1.isSome)
      && decide ([e].length + ([] : List Keyword).length + (if ([] : List Keyword).isEmpty then 0 else 1) < 30)) = true := by rfl)
    (hline : (apos.endLine == cpos.line) = true := by rfl) (hst : starEach [e] X.env = (false, eval e X.env) :: starEach [] X.env := by rfl) (hplain : (backTo cpos (starEach [] X.env)).any (·.1) = false := by rfl) :
    SS X (.Expr (.Call (.Attribute o "append" apos) [e] [] cpos) pos) (tDrop (tBM X.K "list" rAppend (tVar j) (tCons te tNil))) (sAppend j f) :=
  ⟨ps_expr (pe_bm PySem.F.plainAttrs_list PySem.F.slot_list_append PySem.F.type_list_append mt_append h0 (pa_cons h1.pe pa_nil hst) hbase hfew hline hst hplain) hs, ds_append h1.de⟩
theorem ss_for (hp : PassesOwn (model X.prog X.w) X.A X.env X.xe) (hc : X.calm = true) (hi : SI X tg iter wi it) (hg : SG X tg ws tG gf) (hb : SSs X body tS sf) (hs : ∀ x, foldedSetIterable iter X.env x = pure x := by intro _; rfl) :
    SS X (.For tg iter body [] pos) (tFor wi tG tS) (sFor it gf sf) := ⟨ps_for hp hc hi.pi hg.pg hb.ps hs, ds_for hi.d hg.d hb.ds⟩
theorem ss_while (n : Nat) (hp : PassesOwn (model X.prog X.w) X.A X.env X.xe) (hc : ST X c tt u) (hb : SSs X body tS sf) : SS X (.While c body [] pos) (tWhile tt tS) (whileD u sf n) := ⟨ps_while hp hc.pt hb.ps, ds_while n hc.dt hb.ds⟩
end

/-! ### defs -/
@[simp] def startD (N n : Nat) (ds : List PyData) : En := ds.map Sl.val ++ List.replicate (N - n) .no
def resO (o : Option Out) : Option R := match o with
  | some (.rt r) => some r
  | some (.nx _) => some (.val .none)
  | _ => none
@[simp] theorem resO_rt {r : R} : resO (some (.rt r)) = some r := rfl
@[simp] theorem resO_nx {e : En} : resO (some (.nx e)) = some (.val .none) := rfl
theorem resO_ite {c : Prop} [Decidable c] {x y : Option Out} : resO (if c then x else y) = if c then resO x else resO y := by split <;> rfl
@[irreducible] def fnD (N n : Nat) (f : SF) (ds : List PyData) : Option R := if ds.length = n then resO (f (startD N n ds)) else none
def spD (K : PySem.W.Frag) (n : Nat) (g : List PyData → Option R) : Sp := fun vs H Q _ => vs.length = n ∧ ∃ F ds r, Same F H ∧ DpAll K F vs ds ∧ g ds = some r ∧ ∀ F' H' v, Grow F H F' H' → RepR K F' H H' v r → Q v H'
section
variable {P : Program} {w : World} {K : PySem.W.Frag} {mg : Str → Option Value} {base : Heap}
theorem slots_start {F H : Hp} {vs : List V} {ds : List PyData} {N : List Str} {n : Nat} (h : DpAll K F vs ds) (hn : vs.length = n) : Slots K H F H (L2.start N vs) (startD N.length n ds) := by
  have hl := DpAll.len h
  refine ⟨by simp [L2.start, startD, hl, hn] <;> omega, fun _ => 0, fun i v s e1 e2 => ?_, fun i j es fs hij e1 _ => ?_⟩
  · unfold L2.start at e1
    unfold startD at e2
    by_cases hi : i < vs.length
    · rw [List.getElem?_append_left (by simpa using hi), List.getElem?_map] at e1
      rw [List.getElem?_append_left (by simpa using (hl ▸ hi)), List.getElem?_map] at e2
      cases q : ds[i]? with
      | none => rw [q] at e2; cases e2
      | some d =>
        obtain ⟨u, eu, du⟩ := DpAll.get h q
        rw [q] at e2
        rw [eu] at e1
        cases e1
        cases e2
        exact ⟨u, rfl, du⟩
    · rw [List.getElem?_append_right (by simp; omega)] at e2
      rw [List.getElem?_replicate] at e2
      split at e2
      · cases e2
        trivial
      · cases e2
  · unfold startD at e1
    by_cases hi : i < ds.length
    · rw [List.getElem?_append_left (by simpa using hi), List.getElem?_map, List.getElem?_eq_getElem hi] at e1
      cases e1
    · rw [List.getElem?_append_right (by simp; omega), List.getElem?_replicate] at e1
      split at e1 <;> cases e1
/-- THE RULE for a def: its body as a term of rules -/
theorem okD {x qual : Str} {st : Stmt} {f : Addr} {fd : FuncData} {N ps : List Str} {k : Nat} {b : SF} (F : Fun K x qual st f fd) (S : FnScope N ps (defScope st))
    (hbody : ∀ (cdv : Value) (A : Around) (outer : List PySem.Env) (s : Shared) (H : Hp) (E : XK), Room k (A.deeper (envOfC qual (defScope st) s.heap.objs.size f cdv)) → ∃ t, SSs (cxOf CX0 P w K mg base N qual (defScope st) f cdv A outer s H E).nox (defBody st) t b) :
    FnOk P w K mg base CX0 (k + 1) f fd ps (spD K ps.length (fnD N.length ps.length b)) := by
  refine F.ok S (fun vs H Q E h => h.1) (fun cdv A outer s H vs Q E hr h => ?_)
  obtain ⟨hn, F0, ds, r, fh, hd, er, q⟩ := h
  obtain ⟨t, ht⟩ := hbody cdv A outer s H E hr
  refine ⟨t, ht.ps, ?_⟩
  unfold fnD at er
  split at er
  case isFalse => cases er
  have S0 : Sta K F0 H F0 H (L2.start N vs) (startD N.length ps.length ds) := ⟨Grow.refl fh, slots_start hd hn⟩
  unfold resO at er
  split at er
  · rename_i r' eb
    cases er
    exact ht.ds F0 H F0 H _ _ _ S0 eb _ q
  · rename_i e' eb
    cases er
    exact ht.ds F0 H F0 H _ _ _ S0 eb _ fun F' H' σ' _ S' => q F' H' _ S'.g .non
  · cases er
end
section
variable {X : Cx} {x : Str} {p pos : Pos} {e : Expr} {es : List Expr} {t : TA} {af : AF}
theorem de_call {K : PySem.W.Frag} {n : Nat} {g : List PyData → Option R} (hn : ∀ ds r, g ds = some r → ds.length = n) (h : DA K t af) : DE K (tCall (spD K n g) [] E0 t) (eCall g af) := fun B F H σ env r S fh bh e Q q => by
  obtain ⟨ds, ea, e⟩ := bnd e
  refine h B F H σ env ds S fh bh ea _ fun F1 H1 vs g1 d1 => ?_
  rw [List.append_nil]
  exact ⟨by rw [DpAll.len d1, hn _ _ e], F1, ds, r, g1.i, d1, e, fun F2 H2 v g2 rr => q F2 H2 v (g1.trans g2) (rr.back g1)⟩
theorem fnD_len {N n : Nat} {f : SF} {ds : List PyData} {r : R} (h : fnD N n f ds = some r) : ds.length = n := by
  unfold fnD at h
  split at h
  · assumption
  · cases h
theorem se_call {k f N n : Nat} {K : PySem.W.Frag} {fd : FuncData} {ps : List Str} {b : SF} (G : FnOk X.prog X.w X.K X.mg X.base CX0 k f fd ps (spD X.K n (fnD N n b))) (hr : Room k X.A) (hg : Gl X x) (hm : X.mg x = some (.ref f)) (hk : PySem.W.keepIn X.K (.ref f) = true) (hb : Binds X.K fd ps [])
    (ha : SA X (e :: es) t af) (hdb : (x == ("__debug__" : Str)) = false := by decide) (he : starEach (e :: es) X.env = (false, eval e X.env) :: starEach es X.env := by rfl) (hpl : (backTo pos (starEach es X.env)).any (·.1) = false := by rfl) (hK : X.K = K := by rfl) :
    SE X (.Call (.Name x p) (e :: es) [] pos) (tCall (spD K n (fnD N n b)) [] E0 t) (eCall (fnD N n b) af) := by
  subst hK
  exact ⟨pe_call G hr hg hm hk hb .nil pass0 ha.pa hdb he hpl, de_call (fun _ _ => fnD_len) ha.da⟩
end
end Dn
namespace Dn
open PySem PySem.Spec PyProof.Rows L2
/-! a walk over a list or a tuple -/
theorem pi_or {X : Cx} {tg l : Expr} {w1 w2 : TI} (h1 : PI X tg l w1) (h2 : PI X tg l w2) : PI X tg l (fun σ H R => w1 σ H R ∨ w2 σ H R) := ⟨fun pins s σ H R I h => by
  rcases h with h | h
  · exact h1.run pins s σ H R I h
  · exact h2.run pins s σ H R I h⟩
@[simp] def iS (f : EF) : IF := fun env => (f env).bind fun r => match r.frz with
  | .list ds => some ds
  | .tuple ds => some ds
  | _ => none
section
variable {X : Cx} {tg a : Expr} {ta : TE} {f : EF}
theorem di_seq {K : PySem.W.Frag} (h : DE K ta f) : DI K (fun σ H R => iList K ta σ H R ∨ iTup K ta σ H R) (iS f) := fun B F H σ env ds S fh bh e R q => by
  obtain ⟨r, er, e⟩ := bnd e
  cases hr : r.frz with
  | list es =>
    rw [hr] at e
    exact .inl (di_list h B F H σ env ds S fh bh (by unfold iL; rw [er]; show (match r.frz with | .list ds => some ds | _ => none) = _; rw [hr]; exact e) R q)
  | tuple es =>
    rw [hr] at e
    exact .inr (di_tup h B F H σ env ds S fh bh (by unfold iT; rw [er]; show (match r.frz with | .tuple ds => some ds | _ => none) = _; rw [hr]; exact e) R q)
  | none => rw [hr] at e; cases e
  | bool _ => rw [hr] at e; cases e
  | int _ => rw [hr] at e; cases e
  | str _ => rw [hr] at e; cases e
  | dict _ => rw [hr] at e; cases e
theorem si_seq {K : PySem.W.Frag} (h1 : SE X a ta f) (hK : X.K = K := by rfl) : SI X tg a (fun σ H R => iList K ta σ H R ∨ iTup K ta σ H R) (iS f) := by
  subst hK
  exact ⟨pi_or (pi_list h1.pe) (pi_tup h1.pe), di_seq h1.de⟩
end
/-! the law's own end -/
def spLaw (K : PySem.W.Frag) : Sp := fun vs H Q _ => ∃ (a : Addr) (ns : List Int), vs = [.ref a] ∧ SqL K H a (ns.map V.int) ∧ ns.length ≤ 63 ∧ ∀ H', Q (.bl true) H'
theorem law_of {P : Program} {w : World} {K : PySem.W.Frag} {mg : Str → Option Value} {base : Heap} {k : Nat} {f : Addr} {fd : FuncData} {ps : List Str} {g : List PyData → Option R} (h : ∀ ns : List Int, ns.length ≤ 63 → g [.list (ns.map PyData.int)] = some (.val (.bool true)))
    (G : FnOk P w K mg base CX0 k f fd ps (spD K 1 g)) : FnOk P w K mg base CX0 k f fd ps (spLaw K) := G.imp fun vs H Q E ⟨a, ns, e, hs, hl, q⟩ => by
  subst e
  refine ⟨rfl, H, _, _, Same.refl H, .cons (.lst hs (DpAll.ints ns)) .nil, h ns hl, fun F' H' v _ rr => ?_⟩
  cases rr
  exact q H'
theorem _root_.L2.Room.units65 {k : Nat} {A : Around} (r : L2.Room k A) : A.units + 65 < cLine := by have := r.un; omega
theorem boot_isi : bootBuiltins "isinstance" = some (.builtin "isinstance") := by decide +kernel
theorem boot_len_ : bootBuiltins "len" = some (.builtin "len") := by decide +kernel
theorem boot_abs_ : bootBuiltins "abs" = some (.builtin "abs") := by decide +kernel
theorem boot_all_ : bootBuiltins "all" = some (.builtin "all") := by decide +kernel
theorem boot_any_ : bootBuiltins "any" = some (.builtin "any") := by decide +kernel
theorem boot_sum_ : bootBuiltins "sum" = some (.builtin "sum") := by decide +kernel
theorem boot_repr_ : bootBuiltins "repr" = some (.builtin "repr") := by decide +kernel
theorem boot_sorted_ : bootBuiltins "sorted" = some (.builtin "sorted") := by decide +kernel
theorem boot_int_ : bootBuiltins "int" = some (.type "int") := by decide +kernel
theorem boot_str_ : bootBuiltins "str" = some (.type "str") := by decide +kernel
theorem boot_bool_ : bootBuiltins "bool" = some (.type "bool") := by decide +kernel
theorem boot_list_ : bootBuiltins "list" = some (.type "list") := by decide +kernel
theorem boot_tuple_ : bootBuiltins "tuple" = some (.type "tuple") := by decide +kernel
end Dn
/-! Dg1: the law's own call, where it is known that no repr is going on (guards); repr of data. -/
namespace Dn
open PySem PySem.Spec PyProof.Rows L2

/-- the law's def at one place A -/
def CallAt (P : Program) (w : World) (A : Around) (outer : List Env) (H : Hp) (s : Shared) (f : Addr) (us : List Value) (Q : VK) : Prop :=
  codeAny (model P w) A (.call (.ref f) ⟨us, []⟩)
    (fun r s' => match r with
      | .ok (.ret u) => CE outer P w H s Q u s'
      | _ => False) s

section
variable {P : Program} {w : World} {K : PySem.W.Frag} {mg : Str → Option Value} {base : Heap}
theorem callAt {x qual : Str} {st : Stmt} {f : Addr} {fd : FuncData} {N ps : List Str} {k : Nat}
    {A : Around} {outer : List Env} {s : Shared} {H : Hp} {us : List Value} {vs : List V} {Q : VK}
    (F : Fun K x qual st f fd) (S : FnScope N ps (defScope st)) (hr : Room (k + 1) A) (ev : Env0 P w K mg base A outer s H)
    (bnds : BindsTo s fd ⟨us, []⟩ (ps.zip us)) (rv : Vals vs us) (hl : vs.length = ps.length)
    (body : ∀ (cdv : Value), Room k (A.deeper (envOfC qual (defScope st) s.heap.objs.size f cdv)) →
      ∃ t, PSs (cxOf CX0 P w K mg base N qual (defScope st) f cdv A outer s H E0).nox (defBody st) t ∧ t { nx := fun _ H' => Q .non H', rt := Q } (L2.start N vs) H) :
    CallAt P w A outer H s f us Q := by
  obtain ⟨oc, od, kV, doc, pm, an, cdv, ct, osl, rfl, lk, hcd⟩ := F.ex
  have old : ∀ b o, base.get? b = some o → s.heap.get? b = some o := fun b o e => (ev.bs b o e).1
  have inK : K.In s.heap := ev.mod.kin.keeps old
  have kinds : ∀ y ∈ ps.zip us, (defScope st).names.lookup y.1 = some .local ∨
      ((defScope st).names.lookup y.1 = some .cell ∧ ((cellsFrom (s.heap.objs.size + 1) (defScope st).names []).lookup y.1).isSome = true) := by
    rintro ⟨n, v⟩ hy
    rcases S.par n (List.of_mem_zip hy).1 with l | l
    · exact Or.inl l
    · exact Or.inr ⟨l, PySem.W.cellsFrom_some _ _ _ (Or.inl l)⟩
  unfold CallAt
  refine codeAny_call_function hr.depth
    (inK _ _ lk) rfl S.co S.gen rfl
    (PySem.W.codeRec_of inK hcd) (bnds _ _ _ _ ?_)
  refine wpAny_newFunctionEnv_cells S.kind kinds
    fun env he s1 xx => ?_
  subst he
  refine ⟨(ev.mod.nolimit.keeps old).keeps xx.toInCall.keep, codeAny_func ?_⟩
  obtain ⟨t, ht, hq⟩ := body cdv (hr.deeper _)
  have I0 := inv_start (CX := CX0) (E := E0) S hr.hd ev hl rv xx
  refine wpAny_mono (ht.nox.run [] s1 (L2.start N vs) H _ I0 hq)
    (fun fl s' hs => ?_) fun e s' hs => hs
  cases fl with
  | ret u =>
    obtain ⟨v, σ', H', J, r, q⟩ := hs
    exact ⟨v, H', J.os, J.bare, J.base, J.hok, r, q⟩
  | next =>
    obtain ⟨σ', H', J, q⟩ := hs
    exact ⟨V.non, H', J.os, J.bare, J.base, J.hok, rfl, q⟩
  | brk => obtain ⟨_, _, _, q⟩ := hs; exact q.elim
  | cont => obtain ⟨_, _, _, q⟩ := hs; exact q.elim
end

/-- the abstract heap at the head: the script alone, frozen, unless the module has it -/
noncomputable def headH (K : PySem.W.Frag) (a : Addr) (vs : List Value) (ns : List Int) : Hp := fun b =>
  if b = a ∧ K.lookup a = none then some (.frz { cls := .type "list", data := .seq vs.toArray } (.lst (ns.map V.int))) else none
theorem headH_some {K : PySem.W.Frag} {a b : Addr} {vs : List Value} {ns : List Int} {u : HO} (h : headH K a vs ns b = some u) :
    b = a ∧ K.lookup a = none ∧ u = .frz { cls := .type "list", data := .seq vs.toArray } (.lst (ns.map V.int)) := by
  unfold headH at h
  split at h
  · rename_i c
    cases h
    exact ⟨c.1, c.2, rfl⟩
  · cases h
theorem law_at {P : Program} {w : World} {K : PySem.W.Frag} {mg mb : Str → Option Value} {k : Nat} {fa a : Addr} {fd : FuncData} {N : List Str} {st : Stmt} {s₁ : Shared} {vs : List Value} {ns : List Int} {x qual : Str} {b : SF}
    (F : Fun K x qual st fa fd) (S : FnScope N ["script"] (defScope st))
    (KX : K.In s₁.heap) (gns : s₁.heap.Ns mainGlobals mg) (bns : s₁.heap.Ns builtinsNs mb) (boots : ∀ x : Str, x ≠ "__name__" → mb x = bootBuiltins x) (lim : s₁.heap.NoLimit) (gens : s₁.gens = #[])
    (ha : s₁.heap.get? a = some { cls := .type "list", data := .seq vs.toArray }) (hi : IntsAre vs ns) (hl : ns.length ≤ sizeLine) (hr : Room (k + 1) callerA)
    (bnd : ∀ (s : Shared) (u : Value), BindsTo s fd ⟨[u], []⟩ [("script", u)])
    (val : fnD N.length 1 b [.list (ns.map PyData.int)] = some (.val (.bool true)))
    (body : ∀ (base : Heap), K.In base → base.Ns mainGlobals mg → ∀ (cdv : Value) (s : Shared) (H : Hp), Room k (callerA.deeper (envOfC qual (defScope st) s.heap.objs.size fa cdv)) →
      ∃ t, SSs (cxOf CX0 P w K mg base N qual (defScope st) fa cdv callerA [] s H E0).nox (defBody st) t b) :
    codeAny (model P w) callerA (.call (.ref fa) ⟨[.ref a], []⟩) (fun r s' => r = .ok (.ret (.bool true)) ∧ OldK s₁.heap s'.heap ∧ s'.os = s₁.os ∧ AllBare s'.gens) s₁ := by
  have iv := vals_ints hi
  have il := hi.length
  generalize hH : headH K a vs ns = H
  have at_ : ∀ {b : Addr} {u : HO}, H b = some u → b = a ∧ K.lookup a = none ∧ u = .frz { cls := .type "list", data := .seq vs.toArray } (.lst (ns.map V.int)) := fun {b u} e => headH_some (hH ▸ e)
  have free : ∀ {b : Addr} {o : Obj}, s₁.heap.get? b = some o → (∀ es n, o.data ≠ .seq es n) → H b = none := fun {b o} e d => by
    cases q : H b with
    | none => rfl
    | some u =>
      obtain ⟨rfl, _, _⟩ := at_ q
      rw [ha] at e
      cases e
      exact absurd rfl (d _ _)
  have keepNs : ∀ {c : Addr} {m : Str → Option Value}, s₁.heap.Ns c m → (hidT s₁.heap H).Ns c m := fun {c m} ⟨o, es, ep, e, d, r⟩ =>
    ⟨o, es, ep, hidT_get e (free e fun _ _ z => by rw [d] at z; cases z), d, r⟩
  have KB : K.In (hidT s₁.heap H) := fun c o e => hidT_get (KX c o e) (by
    cases q : H c with
    | none => rfl
    | some u =>
      obtain ⟨rfl, n, _⟩ := at_ q
      rw [n] at e
      cases e)
  obtain ⟨mc, l1, l2⟩ := lim
  have md : Mod K mg (hidT s₁.heap H) := ⟨KB, keepNs gns, ⟨mb, keepNs bns, boots⟩, mc, keepNs l1, l2⟩
  have hok : HOk P w H s₁.heap := fun c u z => by
    obtain ⟨rfl, n, rfl⟩ := at_ z
    exact ⟨ha, by rw [List.length_map]; exact hl, vs, _, iv, ha⟩
  have e0 : Env0 P w K mg (hidT s₁.heap H) callerA [] s₁ H :=
    ⟨rfl, md, fun c o e => of_hidT e, Nat.le_of_eq (hidT_size _ _), trivial, fun c hc => (by cases hc), hok, .of_eq gens⟩
  have sq : SqL K H a (ns.map V.int) := by
    cases hk : K.lookup a with
    | some o =>
      have e := KX a o hk
      rw [ha] at e
      cases e
      exact Or.inr ⟨_, vs.toArray, _, hk, rfl, rfl, rfl, by rw [List.size_toArray, il]; exact hl, by simpa using iv⟩
    | none =>
      refine Or.inl (Or.inr ⟨{ cls := .type "list", data := .seq vs.toArray }, ?_⟩)
      rw [← hH]
      unfold headH
      rw [if_pos ⟨rfl, hk⟩]
  have run : CallAt P w callerA [] H s₁ fa [.ref a] (fun v _ => v = .bl true) := by
    refine callAt (vs := [.ref a]) F S hr e0 (bnd s₁ (.ref a)) (.cons rfl .nil) rfl fun cdv room => ?_
    obtain ⟨t, ht⟩ := body _ KB (keepNs gns) cdv s₁ H room
    refine ⟨t, ht.ps, ?_⟩
    unfold fnD at val
    rw [if_pos (show [PyData.list (ns.map PyData.int)].length = 1 from rfl)] at val
    have d0 : DpAll K H [V.ref a] [.list (ns.map PyData.int)] := .cons (.lst sq (DpAll.ints ns)) .nil
    have S0 : Sta K H H H H (L2.start N [V.ref a]) (startD N.length 1 [.list (ns.map PyData.int)]) := ⟨Grow.refl (Same.refl H), slots_start d0 rfl⟩
    unfold resO at val
    split at val
    · rename_i r' eb
      cases val
      refine ht.ds H H H H _ _ _ S0 eb _ ?_
      intro F' H' v g rr
      cases rr
      rfl
    · cases val
    · cases val
  unfold CallAt at run
  refine codeAny_mono run fun r s' h => ?_
  cases r with
  | error e => exact h.elim
  | ok fl =>
    cases fl with
    | next => exact h.elim
    | brk => exact h.elim
    | cont => exact h.elim
    | ret u =>
      obtain ⟨v, H', os, bare, un, hok', r', rfl⟩ := h
      obtain rfl : u = Value.bool true := r'
      refine ⟨rfl, OldK.of_keep fun c o e => ?_, os, bare⟩
      cases q : H c with
      | none => exact un.keep c o e q (fun z => by cases z) (fun z => by cases z)
      | some u =>
        obtain ⟨rfl, n, rfl⟩ := at_ q
        have z1 := (hok c _ q).1
        have z2 := (hok' c _ (un.frzs c _ _ q)).1
        rw [e] at z1
        cases z1
        exact z2
end Dn
namespace Dn
open PySem PySem.Spec PyProof.Rows L2

/-! ### repr of a list or a tuple -/
def Shw (d : PyData) : Prop := d.showable = true ∧ Shp d ∧ d.shown.length ≤ sizeLine
noncomputable instance (d : PyData) : Decidable (Shw d) := Classical.propDecidable _
noncomputable def gRepr : List PyData → Option R
  | [.list ds] => if Shw (.list ds) then some (.val (.str (PyData.shown (.list ds)))) else none
  | [.tuple ds] => if Shw (.tuple ds) then some (.val (.str (PyData.shown (.tuple ds)))) else none
  | _ => none
def rRepr (K : PySem.W.Frag) : List V → Hp → VK → Prop := fun xs H Q => ∃ (a : Addr) (d : PyData), xs = [.ref a] ∧ Dp K H (.ref a) d ∧ Shw d ∧ Q (.str d.shown) H
section
variable {X : Cx}
theorem call_reprD (hg : X.A.guards = some []) (hu : X.A.units + 66 < cLine) : CallR X (.builtin "repr") (rRepr X.K) := by
  intro pins s σ H xs us Q I r h
  obtain ⟨a, d, rfl, hd, ⟨h1, h2, h3⟩, q⟩ := h
  obtain ⟨u, rfl, ru⟩ := Vals.one r
  cases (show u = Value.ref a from ru)
  obtain ⟨as, rd⟩ := Dp.reads I d _ _ hd ru
  have h2 : SeqAt.shaped d = true := h2
  have dp := SeqAt.depth_of_shaped h2
  refine repr_of_reads' (h₀ := s.heap) rd h1 (PyData.noDict_hsm (PyData.hasDict_of_canLay d (SeqAt.canLay_of_shaped h2))) hg (by omega) (fun _ _ e => e) (fun h' u tk hk => ?_) h3
  exact ⟨.str d.shown, H, I.kept hk, ⟨_, rfl⟩, q⟩
end
theorem rc_repr {K : PySem.W.Frag} : RCD K (rRepr K) gRepr := fun F H vs ds r fh h e Q q => by
  unfold gRepr at e
  split at e
  · split at e
    · cases e
      rename_i hs
      obtain ⟨v, rfl, d⟩ := dpa1 h
      have d' := d
      obtain ⟨a, xs, rfl, s1, a1⟩ := dp_list d
      exact ⟨a, _, rfl, dp_mono fh d', hs, q F H _ (Grow.refl fh) (.str _)⟩
    · cases e
  · split at e
    · cases e
      rename_i hs
      obtain ⟨v, rfl, d⟩ := dpa1 h
      have d' := d
      obtain ⟨a, xs, rfl, s1, a1⟩ := dp_tuple d
      exact ⟨a, _, rfl, dp_mono fh d', hs, q F H _ (Grow.refl fh) (.str _)⟩
    · cases e
  · cases e

/-! ### == and != : texts by themselves, all else by data -/
noncomputable def gEqT : PyData → PyData → Option R := fun d e => match d, e with
  | .str a, .str b => some (.val (.bool (decide (a = b))))
  | d, e => gEq d e
noncomputable def gNeT : PyData → PyData → Option R := fun d e => match d, e with
  | .str a, .str b => some (.val (.bool (!decide (a = b))))
  | d, e => gNe d e
@[simp] theorem gEqT_str {a b : Str} : gEqT (.str a) (.str b) = some (.val (.bool (decide (a = b)))) := rfl
@[simp] theorem gNeT_str {a b : Str} : gNeT (.str a) (.str b) = some (.val (.bool (!decide (a = b)))) := rfl
theorem rv_eqT {K : PySem.W.Frag} : RVD K (fun x y H Q => rEq x y H Q ∨ rEqD K x y H Q) gEqT := fun F H x y dx dy r fh d1 d2 e Q q => by
  unfold gEqT at e
  split at e
  · cases e
    rw [dp_str d1, dp_str d2]
    refine .inl ⟨rfl, ?_⟩
    have := q F H _ (Grow.refl fh) (.bl _)
    rename_i a b
    rwa [show decide (V.str a = V.str b) = decide (a = b) by rw [decide_eq_decide]; exact ⟨fun z => by cases z; rfl, fun z => by rw [z]⟩]
  · exact .inr (rv_eq F H x y _ _ r fh d1 d2 e Q q)
theorem rv_neT {K : PySem.W.Frag} : RVD K (fun x y H Q => rNe x y H Q ∨ rNeD K x y H Q) gNeT := fun F H x y dx dy r fh d1 d2 e Q q => by
  unfold gNeT at e
  split at e
  · cases e
    rw [dp_str d1, dp_str d2]
    refine .inl ⟨rfl, ?_⟩
    have := q F H _ (Grow.refl fh) (.bl _)
    rename_i a b
    rwa [show decide (V.str a = V.str b) = decide (a = b) by rw [decide_eq_decide]; exact ⟨fun z => by cases z; rfl, fun z => by rw [z]⟩]
  · exact .inr (rv_ne F H x y _ _ r fh d1 d2 e Q q)
section
variable {X : Cx} {a b c e : Expr} {ta tb tc te : TE} {f g h : EF} {pos : Pos} {es : List Expr} {t : TA} {af : AF} {x : Str} {p : Pos}
theorem se_eqT {K : PySem.W.Frag} (hu : X.A.units + 64 < cLine) (h1 : SE X a ta f) (h2 : SE X b tb g) (hK : X.K = K := by rfl) : SE X (.Compare a [.Eq] [b] pos) (tOp (fun x y H Q => rEq x y H Q ∨ rEqD K x y H Q) ta tb) (eBin gEqT f g) := by
  subst hK
  exact ⟨pe_cmpR (op_eq.or (op_eqD hu)) h1.pe h2.pe (nomark _), de_bin rv_eqT h1.de h2.de⟩
theorem se_neT {K : PySem.W.Frag} (hu : X.A.units + 64 < cLine) (h1 : SE X a ta f) (h2 : SE X b tb g) (hK : X.K = K := by rfl) : SE X (.Compare a [.NotEq] [b] pos) (tOp (fun x y H Q => rNe x y H Q ∨ rNeD K x y H Q) ta tb) (eBin gNeT f g) := by
  subst hK
  exact ⟨pe_cmpR (op_ne.or (op_neD hu)) h1.pe h2.pe (nomark _), de_bin rv_neT h1.de h2.de⟩
theorem st_eqT {K : PySem.W.Frag} (hu : X.A.units + 64 < cLine) (h1 : SE X a ta f) (h2 : SE X b tb g) (hK : X.K = K := by rfl) : ST X (.Compare a [.Eq] [b] pos) (tTest (tOp (fun x y H Q => rEq x y H Q ∨ rEqD K x y H Q) ta tb)) (tE (eBin gEqT f g)) := by
  subst hK
  exact ⟨pt_cmpR (op_eq.or (op_eqD hu)) h1.pe h2.pe (nomark _), dt_test (de_bin rv_eqT h1.de h2.de)⟩
theorem st_neT {K : PySem.W.Frag} (hu : X.A.units + 64 < cLine) (h1 : SE X a ta f) (h2 : SE X b tb g) (hK : X.K = K := by rfl) : ST X (.Compare a [.NotEq] [b] pos) (tTest (tOp (fun x y H Q => rNe x y H Q ∨ rNeD K x y H Q) ta tb)) (tE (eBin gNeT f g)) := by
  subst hK
  exact ⟨pt_cmpR (op_ne.or (op_neD hu)) h1.pe h2.pe (nomark _), dt_test (de_bin rv_neT h1.de h2.de)⟩
theorem se_c_repr {K : PySem.W.Frag} (hgd : X.A.guards = some []) (hu : X.A.units + 66 < cLine) (hg : Gl X x) (hm : X.mg x = none) (hv : bootBuiltins x = some (.builtin "repr")) (ha : SA X (e :: es) t af) (hn : x ≠ "__name__" := by decide) (hdb : (x == ("__debug__" : Str)) = false := by decide)
    (he : starEach (e :: es) X.env = (false, eval e X.env) :: starEach es X.env := by rfl) (hpl : (backTo pos (starEach es X.env)).any (·.1) = false := by rfl) (hK : X.K = K := by rfl) : SE X (.Call (.Name x p) (e :: es) [] pos) (tCB (rRepr K) t) (eCall gRepr af) := by
  subst hK
  exact se_cb (call_reprD hgd hu) rc_repr hg hm hv ha hn hdb he hpl
/-! ### min, max of two ints -/
@[simp] def gMin2 : List PyData → Option R
  | [.int i, .int j] => some (.val (.int (if j < i then j else i)))
  | _ => none
@[simp] def gMax2 : List PyData → Option R
  | [.int i, .int j] => some (.val (.int (if j > i then j else i)))
  | _ => none
theorem rc_min2 {K : PySem.W.Frag} : RCD K (fun xs H Q => ∃ i j, xs = [.int i, .int j] ∧ Q (.int (if j < i then j else i)) H) gMin2 := fun F H vs ds r fh h e Q q => by
  unfold gMin2 at e
  split at e
  · cases e
    obtain ⟨v, w, rfl, d1, d2⟩ := dpa2 h
    rw [dp_int d1, dp_int d2]
    exact ⟨_, _, rfl, q F H _ (Grow.refl fh) (.int _)⟩
  · cases e
theorem rc_max2 {K : PySem.W.Frag} : RCD K (fun xs H Q => ∃ i j, xs = [.int i, .int j] ∧ Q (.int (if j > i then j else i)) H) gMax2 := fun F H vs ds r fh h e Q q => by
  unfold gMax2 at e
  split at e
  · cases e
    obtain ⟨v, w, rfl, d1, d2⟩ := dpa2 h
    rw [dp_int d1, dp_int d2]
    exact ⟨_, _, rfl, q F H _ (Grow.refl fh) (.int _)⟩
  · cases e
theorem se_c_min2 (hg : Gl X x) (hm : X.mg x = none) (hv : bootBuiltins x = some (.builtin "min")) (ha : SA X (e :: es) t af) (hn : x ≠ "__name__" := by decide) (hdb : (x == ("__debug__" : Str)) = false := by decide)
    (he : starEach (e :: es) X.env = (false, eval e X.env) :: starEach es X.env := by rfl) (hpl : (backTo pos (starEach es X.env)).any (·.1) = false := by rfl) (hc : X.calm = true := by rfl) :
    SE X (.Call (.Name x p) (e :: es) [] pos) (tCB (fun xs H Q => ∃ i j, xs = [.int i, .int j] ∧ Q (.int (if j < i then j else i)) H) t) (eCall gMin2 af) := se_cb (call_min2 hc) rc_min2 hg hm hv ha hn hdb he hpl
theorem se_c_max2 (hg : Gl X x) (hm : X.mg x = none) (hv : bootBuiltins x = some (.builtin "max")) (ha : SA X (e :: es) t af) (hn : x ≠ "__name__" := by decide) (hdb : (x == ("__debug__" : Str)) = false := by decide)
    (he : starEach (e :: es) X.env = (false, eval e X.env) :: starEach es X.env := by rfl) (hpl : (backTo pos (starEach es X.env)).any (·.1) = false := by rfl) (hc : X.calm = true := by rfl) :
    SE X (.Call (.Name x p) (e :: es) [] pos) (tCB (fun xs H Q => ∃ i j, xs = [.int i, .int j] ∧ Q (.int (if j > i then j else i)) H) t) (eCall gMax2 af) := se_cb (call_max2 hc) rc_max2 hg hm hv ha hn hdb he hpl
theorem boot_min_ : bootBuiltins "min" = some (.builtin "min") := by decide +kernel
theorem boot_max_ : bootBuiltins "max" = some (.builtin "max") := by decide +kernel
theorem boot_enumerate_ : bootBuiltins "enumerate" = some (.type "enumerate") := by decide +kernel
/-! ### [..] * n -/
@[simp] noncomputable def eRep (t : AF) (n : EF) : EF := fun env => (t env).bind fun ds => (n env).bind fun r => match r.frz with
  | .int k => if Few ds.length ∧ InR k ∧ Fits (ds.length * k.toNat) then some (.own (List.replicate k.toNat ds).flatten) else none
  | _ => none
theorem dpa_flatten {K : PySem.W.Frag} {F : Hp} {vs : List V} {ds : List PyData} (h : DpAll K F vs ds) : ∀ n : Nat, DpAll K F (List.replicate n vs).flatten (List.replicate n ds).flatten
  | 0 => .nil
  | n + 1 => by
    rw [List.replicate_succ, List.replicate_succ, List.flatten_cons, List.flatten_cons]
    exact DpAll.app h (dpa_flatten h n)
theorem de_rep {K : PySem.W.Frag} (h1 : DA K t af) (h2 : DE K tb g) : DE K (tOp rRep (tLst t) tb) (eRep af g) := fun B F H σ env r S fh bh e Q q => by
  obtain ⟨ds, ea, e⟩ := bnd e
  obtain ⟨n, en, e⟩ := bnd e
  split at e
  case h_2 => cases e
  rename_i k hk
  split at e
  case isFalse => cases e
  rename_i c
  cases e
  refine h1 B F H σ env ds S fh bh ea _ fun F1 H1 vs g1 d1 => ⟨by rw [DpAll.len d1]; exact sz1000 c.1, fun p hp => ?_⟩
  have gn : Grow F1 H1 F1 (upd H1 p (.lst vs)) := Grow.new g1.i hp
  have g2 := g1.trans gn
  refine h2.z (S.grow g2) g2.i (bh.trans g2.h) en fun F3 H3 y g3 d3 => ?_
  rw [hk] at d3
  rw [dp_int d3]
  refine ⟨p, k, vs, rfl, rfl, g3.h _ _ upd_same, by have := c.2.1.1; omega, by have := c.2.1.2; omega, ?_, fun p2 hp2 => ?_⟩
  · rw [DpAll.len d1]
    exact Nat.le_trans c.2.2 (by rw [sizeLine_eq]; decide)
  · have g4 := (g2.trans g3).trans (Grow.new (o := .lst (List.replicate k.toNat vs).flatten) g3.i hp2)
    exact q _ _ _ g4 ⟨p2, _, rfl, g3.i.free hp2, (g2.trans g3).h.free hp2, upd_same, dpa_mono g3.f (dpa_flatten d1 _)⟩
theorem se_rep {es : List Expr} {pos pos2 : Pos} (h1 : SA X es t af) (h2 : SE X b tb g) : SE X (.BinOp (.List es pos) .Mult b pos2) (tOp rRep (tLst t) tb) (eRep af g) := ⟨pe_op op_rep (pe_lst h1.pa) h2.pe, de_rep h1.da h2.de⟩
/-! ### xs.index(x) -/
def fstD (d : PyData) : List PyData → Option Nat
  | [] => none
  | z :: zs => if PyData.eqv z d = true then some 0 else (fstD d zs).map (· + 1)
theorem fstD_at {d : PyData} : ∀ {ds : List PyData} {j : Nat}, fstD d ds = some j → ∃ z, ds[j]? = some z ∧ PyData.eqv z d = true ∧ ∀ (m : Nat) (z' : PyData), m < j → ds[m]? = some z' → PyData.eqv z' d = false
  | [], _, h => by cases h
  | z :: zs, j, h => by
    unfold fstD at h
    split at h
    · cases h
      rename_i e
      exact ⟨z, rfl, e, fun m _ hm => absurd hm (Nat.not_lt_zero m)⟩
    · rename_i e
      cases q : fstD d zs with
      | none => rw [q] at h; cases h
      | some i =>
        rw [q] at h
        cases h
        obtain ⟨y, h1, h2, h3⟩ := fstD_at q
        refine ⟨y, h1, h2, fun m z' hm hz => ?_⟩
        cases m with
        | zero => cases hz; exact Bool.eq_false_iff.mpr e
        | succ m => exact h3 m z' (Nat.lt_of_succ_lt_succ hm) hz
@[simp] noncomputable def gIndex : PyData → PyData → Option R := fun y d => match y with
  | .list ds => if Shp (.list ds) ∧ Shp d then (fstD d ds).bind fun j => some (.val (.int (j : Nat))) else none
  | _ => none
theorem de_index {K : PySem.W.Frag} (h1 : DE K ta f) (h2 : DE K te g) : DE K (tBM K "list" (rIndexD K) ta (tCons te tNil)) (eBin gIndex f g) := fun B F H σ env r S fh bh e Q q => by
  obtain ⟨a, ea, e⟩ := bnd e
  obtain ⟨b, eb, e⟩ := bnd e
  unfold gIndex at e
  split at e
  case h_2 => cases e
  rename_i ds hds
  split at e
  case isFalse => cases e
  rename_i c
  obtain ⟨j, hj, e⟩ := bnd e
  cases e
  refine h1.z S fh bh ea fun F1 H1 x g1 d1 => ?_
  rw [hds] at d1
  have d1' := d1
  obtain ⟨p, xs, rfl, s1, a1⟩ := dp_list d1
  refine ⟨Or.inl ⟨rfl, _, sqL_mono g1.i s1⟩, ?_⟩
  refine h2.z (S.grow g1) g1.i (bh.trans g1.h) eb fun F2 H2 y g2 d2 => ?_
  obtain ⟨z, z1, z2, z3⟩ := fstD_at hj
  refine ⟨p, y, b.frz, ds, j, z, rfl, rfl, dp_mono (g2.f.trans g2.i) d1', dp_mono g2.i d2, c.1, c.2, z1, z2, z3, q F2 H2 _ (g1.trans g2) (.int _)⟩
theorem se_index {K : PySem.W.Frag} {o : Expr} {apos cpos : Pos} (hu : X.A.units + 65 < cLine) (h0 : SE X o ta f) (h1 : SE X e te g)
    (hbase : attributeBase o "index" X.env (eval o X.env) = eval o X.env := by rfl)
    (hfew : ((backTo cpos (starEach [e] X.env)).all (fun x => !x.1) && (backToKw cpos (keywordEach [] X.env)).all (fun x => x.1.isSome)
      && decide ([e].length + ([] : List Keyword).length + (if ([] : List Keyword).isEmpty then 0 else 1) < 30)) = true := by rfl)
    (hline : (apos.endLine == cpos.line) = true := by rfl) (hst : starEach [e] X.env = (false, eval e X.env) :: starEach [] X.env := by rfl) (hplain : (backTo cpos (starEach [] X.env)).any (·.1) = false := by rfl) (hK : X.K = K := by rfl) :
    SE X (.Call (.Attribute o "index" apos) [e] [] cpos) (tBM K "list" (rIndexD K) ta (tCons te tNil)) (eBin gIndex f g) := by
  subst hK
  exact ⟨pe_bm PySem.F.plainAttrs_list PySem.F.slot_list_index PySem.F.type_list_index (mt_indexD hu) h0.pe (pa_cons h1.pe pa_nil hst) hbase hfew hline hst hplain, de_index h0.de h1.de⟩
/-! ### the truth of a value -/
@[simp] def truD : PyData → Option Bool
  | .none => some false
  | .bool b => some b
  | .int i => some (i != 0)
  | .list ds => some (!ds.isEmpty)
  | .tuple ds => some (!ds.isEmpty)
  | _ => none
@[simp] def tTru (f : EF) : TF := fun env => (f env).bind fun r => truD r.frz
theorem empty_dp {K : PySem.W.Frag} {F : Hp} {vs : List V} {ds : List PyData} (h : DpAll K F vs ds) : (!ds.isEmpty) = !vs.isEmpty := by
  cases h <;> rfl
theorem dt_tru {K : PySem.W.Frag} (h : DE K ta f) : DT K (fun σ H Q => ta σ H fun x H' => ∃ k, TruV K x H' k ∧ Q k H') (tTru f) := fun B F H σ env b S fh bh e Q q => by
  obtain ⟨a, ea, e⟩ := bnd e
  refine h.z S fh bh ea fun F1 H1 x g1 d1 => ⟨b, ?_, q F1 H1 g1⟩
  cases hd : a.frz with
  | none => rw [hd] at e d1; cases d1; cases e; rfl
  | bool _ => rw [hd] at e d1; cases d1; cases e; rfl
  | int _ => rw [hd] at e d1; cases d1; cases e; rfl
  | str _ => rw [hd] at e; cases e
  | dict _ => rw [hd] at e; cases e
  | list ds =>
    rw [hd] at e d1
    obtain ⟨p, xs, rfl, s1, a1⟩ := dp_list d1
    cases e
    exact .inl ⟨xs, sqL_mono g1.i s1, empty_dp a1⟩
  | tuple ds =>
    rw [hd] at e d1
    obtain ⟨p, xs, rfl, s1, a1⟩ := dp_tuple d1
    cases e
    exact .inr (.inl ⟨xs, sqT_mono g1.i s1, empty_dp a1⟩)
theorem st_tru {K : PySem.W.Frag} (h1 : SE X a ta f) (he : ∀ whole, isTrue a X.env whole = (do let v ← whole; standAt a.pos; holding [v] (truthy v)) := by intro _; rfl) (hK : X.K = K := by rfl) : ST X a (fun σ H Q => ta σ H fun x H' => ∃ k, TruV K x H' k ∧ Q k H') (tTru f) := by
  subst hK
  exact ⟨pt_truth h1.pe he, dt_tru h1.de⟩
end
/-! ### simp rules -/
@[simp] theorem gEqT_int {i j : Int} : gEqT (.int i) (.int j) = some (.val (.bool (decide (i = j)))) := by
  show gEq _ _ = _
  unfold gEq
  rw [if_pos ⟨rfl, rfl⟩]
  show some (R.val (PyData.bool (i == j))) = _
  rw [Bool.beq_eq_decide_eq]
@[simp] theorem gNeT_int {i j : Int} : gNeT (.int i) (.int j) = some (.val (.bool (!decide (i = j)))) := by
  show gNe _ _ = _
  unfold gNe
  rw [if_pos ⟨rfl, rfl⟩]
  show some (R.val (PyData.bool (!(i == j)))) = _
  rw [Bool.beq_eq_decide_eq]
@[simp] theorem gEqT_bool {i j : Bool} : gEqT (.bool i) (.bool j) = some (.val (.bool (decide (i = j)))) := by
  show gEq _ _ = _
  unfold gEq
  rw [if_pos ⟨rfl, rfl⟩]
  cases i <;> cases j <;> rfl
@[simp] theorem gNeT_bool {i j : Bool} : gNeT (.bool i) (.bool j) = some (.val (.bool (!decide (i = j)))) := by
  show gNe _ _ = _
  unfold gNe
  rw [if_pos ⟨rfl, rfl⟩]
  cases i <;> cases j <;> rfl
@[simp] theorem gEqT_tup {a b : List PyData} : gEqT (.tuple a) (.tuple b) = gEq (.tuple a) (.tuple b) := rfl
@[simp] theorem gEqT_lst {a b : List PyData} : gEqT (.list a) (.list b) = gEq (.list a) (.list b) := rfl
@[simp] theorem gNeT_tup {a b : List PyData} : gNeT (.tuple a) (.tuple b) = gNe (.tuple a) (.tuple b) := rfl
@[simp] theorem gNeT_lst {a b : List PyData} : gNeT (.list a) (.list b) = gNe (.list a) (.list b) := rfl
end Dn
namespace Dn
open PySem PySem.Spec PyProof.Rows L2
/-- the law: its def, what it computes, and its derivation at the head -/
def LawG (P : Program) (w : World) (K : PySem.W.Frag) (mg : Str → Option Value) (k : Nat) (fa : Addr) : Prop :=
  ∃ (fd : FuncData) (N : List Str) (st : Stmt) (x qual : Str) (b : SF), Fun K x qual st fa fd ∧ FnScope N ["script"] (defScope st) ∧
    (∀ (s : Shared) (u : Value), BindsTo s fd ⟨[u], []⟩ [("script", u)]) ∧
    (∀ ns : List Int, ns.length ≤ 63 → fnD N.length 1 b [.list (ns.map PyData.int)] = some (.val (.bool true))) ∧
    ∀ (base : Heap), K.In base → base.Ns mainGlobals mg → ∀ (cdv : Value) (s : Shared) (H : Hp), Room k (callerA.deeper (envOfC qual (defScope st) s.heap.objs.size fa cdv)) →
      ∃ t, SSs (cxOf CX0 P w K mg base N qual (defScope st) fa cdv callerA [] s H E0).nox (defBody st) t b
theorem walkG {l : PySem.W.OpenLaw} {k : Nat} {q : Program} {loose : List Str} {XP : (Str → Option Value) → Heap → Prop} {YP : World → Heap → Prop} {d : DefRec} {K : Params → PySem.W.Frag}
    (hn : l.most = some 63) (hdf : d.params.defaults = []) (hr : Room (k + 1) callerA) (hY : ∀ (w : World) (h : Heap), YP w h → (K w.params).In h)
    (F : ∀ (w : World) (mg : Str → Option Value) (fa : Addr) (h : Heap), (K w.params).In h → h.Ns mainGlobals mg → mg d.name = some (.ref fa) → LawG l.prog w (K w.params) mg k fa) :
    PySem.W.WalkO q loose XP YP l.row.toRowW d [] (fun f vs => PySem.call f vs) :=
  Att.attach_call hn hdf fun w s₀ s₁ mg mb fa o pm cd doc a vs ns G Y ho hd hcd hmg hobj hints hlen hg => by
    have kin := hY w _ Y
    obtain ⟨fd, N, st, x, qual, b, F1, S, bnd, val, body⟩ := F w mg fa _ kin G.T.g hmg
    exact law_at F1 S kin G.T.g G.T.b G.T.builtins G.T.nolimit hg hobj hints (Nat.le_trans hlen (by rw [sizeLine_eq]; decide)) hr bnd (val ns hlen) body

theorem _root_.L2.Room.units66 {k : Nat} {A : Around} (r : L2.Room k A) : A.units + 66 < cLine := by have := r.un; omega

/-! ### a, b = x, y of plain names -/
@[simp] def sPar (i j : Nat) (t : AF) : SF := fun env => (t env).bind fun ds => match ds with
  | [a, b] => some (.nx ((env.set i (.val a)).set j (.val b)))
  | _ => none
theorem ds_par {K : PySem.W.Frag} {i j : Nat} {t : TA} {af : AF} (h : DA K t af) : DS K (tPar i j t) (sPar i j af) := fun F0 H0 F H σ env o S e D q => by
  obtain ⟨ds, ea, e⟩ := bnd e
  split at e
  case h_2 => cases e
  rename_i a b
  cases e
  refine h H0 F H σ env _ S.s S.g.i S.bh ea _ fun F1 H1 vs g d1 => ?_
  obtain ⟨v, w, rfl, d1, d2⟩ := dpa2 d1
  have S1 := S.grow g
  refine ⟨v, w, rfl, q F1 H1 _ g.f ⟨S1.g, ?_⟩⟩
  exact ((S1.s.put (r := .val a) S1.bh (Grow.refl S1.g.i) d1).put (r := .val b) S1.bh (Grow.refl S1.g.i) d2)
theorem ss_par {X : Cx} {i j : Nat} {x y : Str} {a b : Expr} {ta : TA} {af : AF} {px py pt pos : Pos} {kt k2 pt2} (hN : X.N.Nodup) (ha : SA X [a, b] ta af) (hc : X.calm = true := by rfl) (hi : X.N[i]? = some x := by rfl) (hj : X.N[j]? = some y := by rfl) (hij : i ≠ j := by decide)
    (hx : X.env.scope.names.lookup x = some .local := by rfl) (hy : X.env.scope.names.lookup y = some .local := by rfl)
    (hw : swappedStores [.Tuple [.Name x px, .Name y py] kt pt] (.Tuple [a, b] k2 pt2) X.env = pure (some [x, y]) := by rfl)
    (hs : swapsWithSole [.Tuple [.Name x px, .Name y py] kt pt] (.Tuple [a, b] k2 pt2) pos.line X.env = pure false := by rfl) :
    SS X (.Assign [.Tuple [.Name x px, .Name y py] kt pt] (.Tuple [a, b] k2 pt2) pos) (tPar i j ta) (sPar i j af) := ⟨ps_par hc hN hi hj hij hx hy ha.pa hw hs, ds_par ha.da⟩
/-! ### a tuple that the module's top has made -/
def constV : List Value → List PyData → Bool
  | [], [] => true
  | .int i _ :: vs, .int j :: ds => decide (i = j) && constV vs ds
  | .str x _ :: vs, .str y :: ds => decide (x = y) && constV vs ds
  | .bool x :: vs, .bool y :: ds => decide (x = y) && constV vs ds
  | .none :: vs, .none :: ds => constV vs ds
  | _, _ => false
theorem constV_ok {K : PySem.W.Frag} {F : Hp} : ∀ {vs : List Value} {ds : List PyData}, constV vs ds = true → ∃ xs, Vals xs vs ∧ DpAll K F xs ds
  | vs, ds, h => by
    unfold constV at h
    split at h
    · exact ⟨[], .nil, .nil⟩
    · rw [Bool.and_eq_true] at h
      obtain ⟨xs, h1, h2⟩ := constV_ok (K := K) (F := F) h.2
      have e := of_decide_eq_true h.1
      subst e
      exact ⟨V.int _ :: xs, .cons ⟨_, rfl⟩ h1, .cons (.int _) h2⟩
    · rw [Bool.and_eq_true] at h
      obtain ⟨xs, h1, h2⟩ := constV_ok (K := K) (F := F) h.2
      have e := of_decide_eq_true h.1
      subst e
      exact ⟨V.str _ :: xs, .cons ⟨_, rfl⟩ h1, .cons (.str _) h2⟩
    · rw [Bool.and_eq_true] at h
      obtain ⟨xs, h1, h2⟩ := constV_ok (K := K) (F := F) h.2
      have e := of_decide_eq_true h.1
      subst e
      exact ⟨V.bl _ :: xs, .cons rfl h1, .cons (.bl _) h2⟩
    · obtain ⟨xs, h1, h2⟩ := constV_ok (K := K) (F := F) h
      exact ⟨V.non :: xs, .cons rfl h1, .cons .non h2⟩
    · cases h
theorem tup_c {K : PySem.W.Frag} {a : Addr} {od : Option Addr} {its : Array Value} {n : Nat} {sl : Array (Option Value)} {ds : List PyData} (h : K.lookup a = some ⟨.type "tuple", od, .seq its n, sl⟩) (hv : (constV its.toList ds && decide (its.size ≤ 1000)) = true) : ∀ F, Dp K F (.ref a) (.tuple ds) := fun F => by
  rw [Bool.and_eq_true] at hv
  obtain ⟨xs, h1, h2⟩ := constV_ok (K := K) (F := F) hv.1
  exact .tup (.inr ⟨_, its, n, h, rfl, rfl, sz1000 (of_decide_eq_true hv.2), h1⟩) h2

/-! ### in a list or a tuple -/
def rInT (K : PySem.W.Frag) (k : Bool) : R2 := fun x y H Q => ∃ d ds, Dp K H x d ∧ Dp K H y (.tuple ds) ∧ SeqAt.shaped d = true ∧ SeqAt.shaped (.tuple ds) = true ∧ Q (.bl (if k then !memD d ds else memD d ds)) H
section
variable {X : Cx}
theorem op_inT (hu : X.A.units + 65 < cLine) : OpR X (compareOp .In) (rInT X.K false) := by
  intro pins s σ H x y v u Q I rx ry h
  obtain ⟨d, ds, hd, he, sd, se, q⟩ := h
  obtain ⟨as, r1⟩ := Dp.reads I d x v hd rx
  obtain ⟨bs, r2⟩ := Dp.reads I (.tuple ds) y u he ry
  have se' : SeqAt.shaped (.list ds) = true := se
  exact SeqAt.in_tuple_reads r2 r1 (SeqAt.canLay_of_shaped (d := .list ds) se') (SeqAt.canLay_of_shaped sd) (room_in_shaped sd hu) ⟨.bl _, H, I, rfl, q⟩
theorem op_notInT (hu : X.A.units + 65 < cLine) : OpR X (compareOp .NotIn) (rInT X.K true) := by
  intro pins s σ H x y v u Q I rx ry h
  obtain ⟨d, ds, hd, he, sd, se, q⟩ := h
  obtain ⟨as, r1⟩ := Dp.reads I d x v hd rx
  obtain ⟨bs, r2⟩ := Dp.reads I (.tuple ds) y u he ry
  have se' : SeqAt.shaped (.list ds) = true := se
  exact SeqAt.notIn_tuple_reads r2 r1 (SeqAt.canLay_of_shaped (d := .list ds) se') (SeqAt.canLay_of_shaped sd) (room_in_shaped sd hu) ⟨.bl _, H, I, rfl, q⟩
end
noncomputable def gInG : PyData → PyData → Option R := fun d y => match y with
  | .list ds => if Shp d ∧ Shp (.list ds) then some (.val (.bool (memD d ds))) else none
  | .tuple ds => if Shp d ∧ Shp (.tuple ds) then some (.val (.bool (memD d ds))) else none
  | _ => none
noncomputable def gNotInG : PyData → PyData → Option R := fun d y => match y with
  | .list ds => if Shp d ∧ Shp (.list ds) then some (.val (.bool (!memD d ds))) else none
  | .tuple ds => if Shp d ∧ Shp (.tuple ds) then some (.val (.bool (!memD d ds))) else none
  | _ => none
theorem rv_inG {K : PySem.W.Frag} : RVD K (fun x y H Q => rInD K x y H Q ∨ rInT K false x y H Q) gInG := fun F H x y dx dy r fh d1 d2 e Q q => by
  unfold gInG at e
  split at e
  · split at e
    · rename_i hh
      cases e
      exact .inl ⟨dx, _, dp_mono fh d1, dp_mono fh d2, hh.1, hh.2, q F H _ (Grow.refl fh) (.bl _)⟩
    · cases e
  · split at e
    · rename_i hh
      cases e
      exact .inr ⟨dx, _, dp_mono fh d1, dp_mono fh d2, hh.1, hh.2, q F H _ (Grow.refl fh) (.bl _)⟩
    · cases e
  · cases e
theorem rv_notInG {K : PySem.W.Frag} : RVD K (fun x y H Q => rNotInD K x y H Q ∨ rInT K true x y H Q) gNotInG := fun F H x y dx dy r fh d1 d2 e Q q => by
  unfold gNotInG at e
  split at e
  · split at e
    · rename_i hh
      cases e
      exact .inl ⟨dx, _, dp_mono fh d1, dp_mono fh d2, hh.1, hh.2, q F H _ (Grow.refl fh) (.bl _)⟩
    · cases e
  · split at e
    · rename_i hh
      cases e
      exact .inr ⟨dx, _, dp_mono fh d1, dp_mono fh d2, hh.1, hh.2, q F H _ (Grow.refl fh) (.bl _)⟩
    · cases e
  · cases e
section
variable {X : Cx} {a b : Expr} {ta tb : TE} {f g : EF} {pos : Pos}
theorem se_inG {K : PySem.W.Frag} (hu : X.A.units + 65 < cLine) (h1 : SE X a ta f) (h2 : SE X b tb g) (hm : behindInMarks .In b = false := by rfl) (hK : X.K = K := by rfl) : SE X (.Compare a [.In] [b] pos) (tOp (fun x y H Q => rInD K x y H Q ∨ rInT K false x y H Q) ta tb) (eBin gInG f g) := by
  subst hK
  exact ⟨pe_cmpR ((op_inD hu).or (op_inT hu)) h1.pe h2.pe hm, de_bin rv_inG h1.de h2.de⟩
theorem se_notInG {K : PySem.W.Frag} (hu : X.A.units + 65 < cLine) (h1 : SE X a ta f) (h2 : SE X b tb g) (hm : behindInMarks .NotIn b = false := by rfl) (hK : X.K = K := by rfl) : SE X (.Compare a [.NotIn] [b] pos) (tOp (fun x y H Q => rNotInD K x y H Q ∨ rInT K true x y H Q) ta tb) (eBin gNotInG f g) := by
  subst hK
  exact ⟨pe_cmpR ((op_notInD hu).or (op_notInT hu)) h1.pe h2.pe hm, de_bin rv_notInG h1.de h2.de⟩
theorem st_inG {K : PySem.W.Frag} (hu : X.A.units + 65 < cLine) (h1 : SE X a ta f) (h2 : SE X b tb g) (hm : behindInMarks .In b = false := by rfl) (hK : X.K = K := by rfl) : ST X (.Compare a [.In] [b] pos) (tTest (tOp (fun x y H Q => rInD K x y H Q ∨ rInT K false x y H Q) ta tb)) (tE (eBin gInG f g)) := by
  subst hK
  exact ⟨pt_cmpR ((op_inD hu).or (op_inT hu)) h1.pe h2.pe hm, dt_test (de_bin rv_inG h1.de h2.de)⟩
theorem st_notInG {K : PySem.W.Frag} (hu : X.A.units + 65 < cLine) (h1 : SE X a ta f) (h2 : SE X b tb g) (hm : behindInMarks .NotIn b = false := by rfl) (hK : X.K = K := by rfl) : ST X (.Compare a [.NotIn] [b] pos) (tTest (tOp (fun x y H Q => rNotInD K x y H Q ∨ rInT K true x y H Q) ta tb)) (tE (eBin gNotInG f g)) := by
  subst hK
  exact ⟨pt_cmpR ((op_notInD hu).or (op_notInT hu)) h1.pe h2.pe hm, dt_test (de_bin rv_notInG h1.de h2.de)⟩
end
end Dn
namespace Dn
open PySem PySem.Spec PyProof.Rows L2
/-! ### x += e for ints -/
@[simp] def gAddI : PyData → PyData → Option R := gI0 fun i j => .int (i + j)
@[simp] def sAug (i : Nat) (g : PyData → PyData → Option R) (f : EF) : SF := fun env => match env[i]? with
  | some (.val d) => (f env).bind fun r => (g d r.frz).bind fun z => some (.nx (env.set i z.sl))
  | _ => none
theorem rv_addI {K : PySem.W.Frag} : RVD K (rI0 fun i j => .int (i + j)) gAddI := fun F H x y dx dy r fh d1 d2 e Q q => by
  cases dx <;> cases dy <;> first | (cases e; done) | skip
  cases e
  rw [dp_int d1, dp_int d2]
  exact ⟨_, _, rfl, rfl, q F H _ (Grow.refl fh) (.int _)⟩
theorem ds_aug {K : PySem.W.Frag} {te : TE} {f : EF} {i : Nat} {r : R2} {g : PyData → PyData → Option R} (hr : RVD K r g) (h : DE K te f) : DS K (tAug i te r) (sAug i g f) := fun F0 H0 F H σ env o S e D q => by
  unfold sAug at e
  split at e
  · rename_i d hd
    obtain ⟨a, ea, e⟩ := bnd e
    obtain ⟨z, ez, e⟩ := bnd e
    cases e
    obtain ⟨v, h1, h2⟩ := S.s.val hd
    refine ⟨v, h1, h.atZ S ea fun F' H' y g1 dy => ?_⟩
    refine hr F' H' v y d _ z g1.i (dp_mono g1.f h2) dy ez _ fun F2 H2 w g2 rr => ?_
    exact q F2 H2 _ (g1.f.trans g2.f) ⟨S.g.trans (g1.trans g2), S.s.put S.bh (g1.trans g2) (rr.back g1)⟩
  · cases e
section
variable {X : Cx} {e : Expr} {te : TE} {f : EF} {pos pos' : Pos} {x : Str}
theorem ss_augI {i : Nat} (hN : X.N.Nodup) (h1 : SE X e te f) (hi : X.N[i]? = some x := by rfl) (hx : Loc X.env.scope x := by first | exact Or.inl rfl | exact Or.inr rfl) (hf : X.fn x = true ∨ X.env.scope.names.lookup x = some .local := by first | exact .inl rfl | exact .inr rfl) :
    SS X (.AugAssign (.Name x pos') .Add e pos) (tAug i te (rI0 fun i j => .int (i + j))) (sAug i gAddI f) := ⟨ps_aug hN hi hx h1.pe iop_add hf, ds_aug rv_addI h1.de⟩
end

/-! ### list(range(n)) -/
def rRng1 : List V → Hp → VK → Prop := fun vs H Q => ∃ j : Int, vs = [V.int j] ∧ ∀ p, H p = none → Q (.ref p) (upd H p (.rng 0 j))
def rListRng : List V → Hp → VK → Prop := fun xs H Q => ∃ (a : Addr) (j : Int), xs = [V.ref a] ∧ H a = some (.rng 0 j) ∧ -(2 ^ 62) ≤ j ∧ j < 2 ^ 62 ∧ j.toNat ≤ 100000 ∧
  ∀ l, H l = none → Q (.ref l) (upd H l (.lst ((List.range j.toNat).map fun k : Nat => V.int (k : Int))))
section
variable {X : Cx}
theorem cr_range1 : CallR X (.type "range") rRng1 := by
  intro pins s σ H vs us Q I r h
  obtain ⟨j, rfl, q⟩ := h
  obtain ⟨u, rfl, ru⟩ := Vals.one r
  obtain ⟨t, rfl⟩ := ru
  refine call_range_1 ⟨.ref s.heap.objs.size, upd H s.heap.objs.size (.rng 0 j), I.laid (t' := s.toks + 1 + 1) (fun b o e => Heap.get?_push_of_some _ e) (Nat.le_refl _) ?_, rfl, q _ (I.hok.fresh (Nat.le_refl _))⟩
  exact ⟨s.toks, t, s.toks + 1, Heap.get?_push_size _ rfl⟩
theorem vals_acc {n : Nat} : ∀ {acc : List Value}, acc.length = n → ∀ (lo : Nat), (∀ i v, acc[i]? = some v → ∃ t, v = Value.int ((lo + i : Nat) : Int) t) → Vals ((List.range n).map fun k : Nat => V.int ((lo + k : Nat) : Int)) acc := by
  induction n with
  | zero => intro acc h lo _; rw [List.eq_nil_of_length_eq_zero h]; exact .nil
  | succ n ih =>
    intro acc h lo hv
    cases acc with
    | nil => cases h
    | cons v acc =>
      rw [List.range_succ_eq_map, List.map_cons, List.map_map]
      refine .cons ?_ ?_
      · obtain ⟨t, e⟩ := hv 0 v rfl
        exact ⟨t, e⟩
      · have := ih (acc := acc) (by simpa using h) (lo + 1) fun i w hw => by
          obtain ⟨t, e⟩ := hv (i + 1) w (by simpa using hw)
          exact ⟨t, by rw [e, Nat.add_assoc, Nat.add_comm 1 i]⟩
        have e : ((fun k : Nat => V.int ((lo + k : Nat) : Int)) ∘ Nat.succ) = fun k : Nat => V.int ((lo + 1 + k : Nat) : Int) := by
          funext k
          show V.int ((lo + (k + 1) : Nat) : Int) = _
          rw [Nat.add_assoc, Nat.add_comm 1 k]
        rw [e]
        exact this
theorem call_list_rng (hc : X.calm = true) : CallR X (.type "list") rListRng := by
  intro pins s σ H xs us Q I r h
  obtain ⟨a, j, rfl, ha, b1, b2, hl, q⟩ := h
  obtain ⟨u, rfl, ru⟩ := Vals.one r
  cases (show u = Value.ref a from ru)
  obtain ⟨t, u, v, ho⟩ := I.hok a _ ha
  have hsz : Builtin.Range.rangeSize 0 j 1 = (j.toNat : Int) := by rw [rangeSize_one]; split <;> omega
  have hl24 : j.toNat ≤ 2 ^ 24 := Nat.le_trans hl (by decide)
  refine call_list_range (A := X.A) (n := j.toNat) (I.ok.hd hc) ho (small_one (by decide) (by decide) b1 b2) hsz hl24 fun h' tk acc' c' hk hS hacc => ?_
  refine ⟨.ref s.heap.objs.size, _, I.laid (t' := tk) (o := .lst ((List.range j.toNat).map fun k : Nat => V.int (k : Int))) hk (Nat.le_refl _) ?_, rfl, q _ (I.hok.fresh (Nat.le_refl _))⟩
  refine ⟨by rw [List.length_map, List.length_range, sizeLine_eq]; omega, acc'.toList, c', ?_, by simpa using hS⟩
  have := vals_acc (n := j.toNat) (acc := acc'.toList) (by have := hacc.1; simpa using this) 0 fun i v hv => by
    obtain ⟨t, e⟩ := hacc.2 i v (by simpa using hv)
    exact ⟨t, by rw [e]; simp⟩
  simpa using this
end
@[simp] noncomputable def eListR (f : EF) : EF := fun env => (f env).bind fun r => match r.frz with
  | .int n => if InR n ∧ Fits n.toNat then some (.own (intsFrom 0 n.toNat)) else none
  | _ => none
theorem dpa_range {K : PySem.W.Frag} {F : Hp} (n : Nat) : DpAll K F ((List.range n).map fun k : Nat => V.int (k : Int)) (intsFrom 0 n) := by
  have e : intsFrom 0 n = ((List.range n).map fun k : Nat => (k : Int)).map PyData.int := by
    refine List.ext_getElem? fun i => ?_
    rw [List.map_map, List.getElem?_map]
    by_cases h : i < n
    · rw [intsFrom_get n 0 i h, List.getElem?_range h, Int.zero_add]
      rfl
    · rw [List.getElem?_eq_none (by rw [intsFrom_len]; omega), List.getElem?_eq_none (by rw [List.length_range]; omega)]
      rfl
  rw [e]
  have := DpAll.ints (K := K) (H := F) ((List.range n).map fun k : Nat => (k : Int))
  rwa [List.map_map] at this
theorem boot_range_ : bootBuiltins "range" = some (.type "range") := by decide +kernel
section
variable {X : Cx} {e : Expr} {te : TE} {f : EF} {pos pos' : Pos} {x y : Str} {p p' : Pos}
theorem de_listR {K : PySem.W.Frag} (h : DE K te f) : DE K (tCB rListRng (tCons (tCB rRng1 (tCons te tNil)) tNil)) (eListR f) := fun B F H σ env r S fh bh e Q q => by
  obtain ⟨a, ea, e⟩ := bnd e
  split at e
  case h_2 => cases e
  rename_i n hn
  split at e
  case isFalse => cases e
  rename_i c
  cases e
  refine h.z S fh bh ea fun F1 H1 x g1 d1 => ?_
  rw [hn] at d1
  rw [dp_int d1]
  refine ⟨n, rfl, fun p hp => ⟨p, n, rfl, upd_same, c.1.1, c.1.2, c.2, fun l hl => ?_⟩⟩
  have g2 := g1.trans (Grow.new (o := .rng 0 n) g1.i hp)
  have g3 := g2.trans (Grow.new (o := .lst ((List.range n.toNat).map fun k : Nat => V.int (k : Int))) g2.i hl)
  exact q F1 _ _ g3 ⟨l, _, rfl, g2.i.free hl, g2.h.free hl, upd_same, dpa_range n.toNat⟩
theorem se_listR (hg : Gl X "list") (hm : X.mg "list" = none) (hg2 : Gl X "range") (hm2 : X.mg "range" = none) (h1 : SE X e te f) (hc : X.calm = true := by rfl)
    (he2 : starEach [e] X.env = (false, eval e X.env) :: starEach [] X.env := by rfl) (hpl2 : (backTo pos' (starEach [] X.env)).any (·.1) = false := by rfl)
    (he : starEach [.Call (.Name "range" p') [e] [] pos'] X.env = (false, eval (.Call (.Name "range" p') [e] [] pos') X.env) :: starEach [] X.env := by rfl) (hpl : (backTo pos (starEach [] X.env)).any (·.1) = false := by rfl) :
    SE X (.Call (.Name "list" p) [.Call (.Name "range" p') [e] [] pos'] [] pos) (tCB rListRng (tCons (tCB rRng1 (tCons te tNil)) tNil)) (eListR f) :=
  ⟨pe_callTy (call_list_rng hc) hg hm boot_list_ (pa_cons (pe_callTy cr_range1 hg2 hm2 boot_range_ (pa_cons h1.pe pa_nil he2) (by decide) (by decide) he2 hpl2) pa_nil he) (by decide) (by decide) he hpl, de_listR h1.de⟩
end
end Dn
/-! Dg5: three new lists in a new tuple come back, and each is owned again. -/
namespace Dn
open PySem PySem.Spec PyProof.Rows L2
@[simp] def sRetT3 (i j k : Nat) : SF := fun env => match env[i]?, env[j]?, env[k]? with
  | some (.own as), some (.own bs), some (.own cs) => some (.rt (.own3 as bs cs))
  | _, _, _ => none
@[simp] def sAsg3 (i j k : Nat) (f : EF) : SF := fun env => (f env).bind fun r => match r with
  | .own3 as bs cs => some (.nx (((env.set i (.own as)).set j (.own bs)).set k (.own cs)))
  | _ => none
section
variable {K : PySem.W.Frag}
theorem ds_retT3 {i j k : Nat} (hij : i ≠ j) (hik : i ≠ k) (hjk : j ≠ k) : DS K (tRet (tTup (tCons (tVar i) (tCons (tVar j) (tCons (tVar k) tNil))))) (sRetT3 i j k) := fun F0 H0 F H σ env o S e D q => by
  unfold sRetT3 at e
  split at e
  · rename_i as bs cs ha hb hc
    cases e
    obtain ⟨l, ad, h1, h2⟩ := S.s
    have get : ∀ m ds, env[m]? = some (Sl.own ds) → ∃ xs, σ[m]? = some (some (.ref (ad m))) ∧ H0 (ad m) = none ∧ F (ad m) = none ∧ H (ad m) = some (.lst xs) ∧ DpAll K F xs ds := fun m ds e => by
      have hi : m < env.length := (List.getElem?_eq_some_iff.mp e).1
      have hs : σ[m]? = some σ[m] := List.getElem?_eq_getElem (by omega)
      obtain ⟨xs, e1, h⟩ := h1 m _ _ hs e
      exact ⟨xs, by rw [hs, e1], h⟩
    obtain ⟨xs, x1, x0, x2, x3, x4⟩ := get i as ha
    obtain ⟨ys, y1, y0, y2, y3, y4⟩ := get j bs hb
    obtain ⟨zs, z1, z0, z2, z3, z4⟩ := get k cs hc
    refine ⟨_, x1, _, y1, _, z1, sz1000 (n := 3) (by decide), fun p hp => ?_⟩
    refine q F _ _ (S.g.trans (Grow.new S.fh hp)) ?_
    have ne : ∀ a xs, H a = some (.lst xs) → a ≠ p := fun a xs e z => by rw [z, hp] at e; cases e
    refine ⟨p, ad i, ad j, ad k, xs, ys, zs, rfl, S.fh.free hp, S.bh.free hp, upd_same, ⟨x2, x0, ?_, x4⟩, ⟨y2, y0, ?_, y4⟩, ⟨z2, z0, ?_, z4⟩, h2 i j _ _ hij ha hb, h2 i k _ _ hik ha hc, h2 j k _ _ hjk hb hc⟩
    · rw [upd_ne (ne _ _ x3)]; exact x3
    · rw [upd_ne (ne _ _ y3)]; exact y3
    · rw [upd_ne (ne _ _ z3)]; exact z3
  · cases e
/-- a slot gets an owned list that no other slot holds -/
theorem Slots.putO {B F H : Hp} {σ : L2.St} {env : En} {i : Nat} {q : Addr} {xs : List V} {ds : List PyData} (S : Slots K B F H σ env) (hB : B q = none) (hF : F q = none) (hH : H q = some (.lst xs)) (hd : DpAll K F xs ds)
    (hn : ∀ (m : Nat) (zs : List PyData), env[m]? = some (Sl.own zs) → σ[m]? ≠ some (some (V.ref q))) : Slots K B F H (σ.set i (some (V.ref q))) (env.set i (.own ds)) := by
  obtain ⟨l, ad, h1, h2⟩ := S
  have old : ∀ (m : Nat) (zs : List PyData), env[m]? = some (Sl.own zs) → ad m ≠ q := fun m zs e z => by
    have hi : m < env.length := (List.getElem?_eq_some_iff.mp e).1
    have hs : σ[m]? = some σ[m] := List.getElem?_eq_getElem (by omega)
    obtain ⟨ys, e1, _⟩ := h1 m _ _ hs e
    exact hn m zs e (by rw [hs, e1, z])
  refine ⟨by simp [l], fun m => if m = i then q else ad m, fun j w s e1 e2 => ?_, fun j k es fs hjk e1 e2 => ?_⟩
  · by_cases hj : i = j
    · subst hj
      rw [List.getElem?_set] at e1 e2
      simp at e1 e2
      obtain ⟨_, rfl⟩ := e1
      obtain ⟨_, rfl⟩ := e2
      show SlOk K B F H _ (if i = i then q else ad i) _
      rw [if_pos rfl]
      exact ⟨xs, rfl, hB, hF, hH, hd⟩
    · rw [List.getElem?_set_ne hj] at e1 e2
      show SlOk K B F H _ (if j = i then q else ad j) _
      rw [if_neg (fun z => hj z.symm)]
      exact h1 j w s e1 e2
  · show (if j = i then q else ad j) ≠ (if k = i then q else ad k)
    by_cases hj : j = i
    · have hk : k ≠ i := fun z => hjk (hj.trans z.symm)
      rw [if_pos hj, if_neg hk]
      rw [List.getElem?_set_ne (fun z => hk z.symm)] at e2
      exact (old k _ e2).symm
    · rw [if_neg hj]
      rw [List.getElem?_set_ne (fun z => hj z.symm)] at e1
      by_cases hk : k = i
      · rw [if_pos hk]
        exact old j _ e1
      · rw [if_neg hk]
        rw [List.getElem?_set_ne (fun z => hk z.symm)] at e2
        exact h2 j k _ _ hjk e1 e2
theorem fresh_set {σ : L2.St} {env : En} {i : Nat} {a q : Addr} {s : Sl} (haq : a ≠ q) (hn : ∀ (m : Nat) (zs : List PyData), env[m]? = some (Sl.own zs) → σ[m]? ≠ some (some (V.ref q))) :
    ∀ (m : Nat) (zs : List PyData), (env.set i s)[m]? = some (Sl.own zs) → (σ.set i (some (V.ref a)))[m]? ≠ some (some (V.ref q)) := fun m zs e z => by
  by_cases hm : i = m
  · subst hm
    rw [List.getElem?_set] at z
    simp at z
    exact haq z.2
  · rw [List.getElem?_set_ne hm] at e z
    exact hn m zs e z
theorem ds_asg3 {te : TE} {f : EF} {i j k : Nat} (h : DE K te f) : DS K (tAsg te (gTup K 3 (gCons (gName i) (gCons (gName j) (gCons (gName k) gNil))))) (sAsg3 i j k f) := fun F0 H0 F H σ env o S e D q => by
  obtain ⟨r, er, e⟩ := bnd e
  cases r with
  | val d => cases e
  | own ds => cases e
  | own3 as bs cs =>
    cases e
    refine h.at S er fun F' H' v g rr => ?_
    obtain ⟨p, a, b, c, xs, ys, zs, rfl, p1, p2, p3, ⟨a1, a2, a3, a4⟩, ⟨b1, b2, b3, b4⟩, ⟨c1, c2, c3, c4⟩, ab, ac, bc⟩ := rr
    have S' := S.grow g
    have fr : ∀ q, H q = none → ∀ (m : Nat) (zs : List PyData), env[m]? = some (Sl.own zs) → σ[m]? ≠ some (some (V.ref q)) := fun q hq m zs e z => by
      obtain ⟨p', ws, w1, _, _, w3, _⟩ := S.s.own e
      rw [z] at w1
      cases w1
      rw [hq] at w3
      cases w3
    have T1 := S'.s.putO (i := i) (S.bh.free a2) a1 a3 a4 (fr a a2)
    have T2 := T1.putO (i := j) (S.bh.free b2) b1 b3 b4 (fresh_set ab (fr b b2))
    have T3 := T2.putO (i := k) (S.bh.free c2) c1 c3 c4 (fresh_set bc (fresh_set ac (fr c c2)))
    exact ⟨_, _, rfl, .inl (.inl p3), rfl, _, _, rfl, _, _, rfl, _, _, rfl, rfl, q F' H' _ g.f ⟨S'.g, T3⟩⟩
end
theorem ss_retT3 {X : Cx} {i j k : Nat} {es : List Expr} {x1} {pos pos2 : Pos} (h1 : PA X es (tCons (tVar i) (tCons (tVar j) (tCons (tVar k) tNil)))) (hij : i ≠ j := by decide) (hik : i ≠ k := by decide) (hjk : j ≠ k := by decide) :
    SS X (.Return (some (.Tuple es x1 pos2)) pos) (tRet (tTup (tCons (tVar i) (tCons (tVar j) (tCons (tVar k) tNil))))) (sRetT3 i j k) := ⟨ps_ret (pe_tup h1), ds_retT3 hij hik hjk⟩
theorem ss_asg3 {X : Cx} {K : PySem.W.Frag} {e : Expr} {te : TE} {f : EF} {i j l : Nat} {e1 e2 e3 : Expr} {k : Nat} {pos pos2 : Pos} (h1 : SE X e te f) (hc : X.calm = true) (h : PGs X [e1, e2, e3] (gCons (gName i) (gCons (gName j) (gCons (gName l) gNil))))
    (hn : (assignEach [e1, e2, e3] X.env).length = 3 := by rfl) (hst : (assignEach [e1, e2, e3] X.env).findIdx? (·.1) = none := by rfl) (hK : X.K = K := by rfl)
    (hs : swapsWithSole [.Tuple [e1, e2, e3] k pos2] e pos.line X.env = pure false := by rfl) (hw : swappedStores [.Tuple [e1, e2, e3] k pos2] e X.env = pure none := by rfl)
    (h2 : (assignEach [.Tuple [e1, e2, e3] k pos2] X.env).map (·.2) = [assign (.Tuple [e1, e2, e3] k pos2) X.env] := by rfl) :
    SS X (.Assign [.Tuple [e1, e2, e3] k pos2] e pos) (tAsg te (gTup K 3 (gCons (gName i) (gCons (gName j) (gCons (gName l) gNil))))) (sAsg3 i j l f) := by
  subst hK
  exact ⟨ps_asg h1.pe (pg_tup hc h hn hst) hs hw h2, ds_asg3 h1.de⟩
end Dn
/-! Dg6: texts: f-strings, join, extend. -/
namespace Dn
open PySem PySem.Spec PyProof.Rows L2
noncomputable def gFmt : PyData → Option R
  | .str y => if Fits y.length then some (.val (.str y)) else none
  | .int i => if StrOk i then some (.val (.str (toString i))) else none
  | _ => none
@[simp] noncomputable def eFmt (f : EF) : EF := fun env => (f env).bind fun r => gFmt r.frz
noncomputable def jsD : Str → List PyData → Option Str
  | acc, [] => some acc
  | acc, .str y :: r => if Fits (acc.length + y.length) then jsD (acc ++ y) r else none
  | _, _ :: _ => none
@[simp] noncomputable def eJs (t : AF) : EF := fun env => (t env).bind fun ds => (jsD Str.empty ds).bind fun y => some (.val (.str y))
def strsD : List PyData → Option (List Str)
  | [] => some []
  | .str y :: r => (strsD r).bind fun ys => some (y :: ys)
  | _ :: _ => none
/-- the room that a joined text takes -/
def JFits (a : Str) (ys : List Str) : Prop := (ys.map (·.length)).sum + ys.length * a.length ≤ 100000
noncomputable instance (a : Str) (ys : List Str) : Decidable (JFits a ys) := Classical.propDecidable _
noncomputable def gJoin : PyData → PyData → Option R
  | .str a, .list ds => (strsD ds).bind fun ys => if JFits a ys then some (.val (.str (Txt.join a ys))) else none
  | _, _ => none
@[simp] noncomputable def eJoin (f g : EF) : EF := fun env => (f env).bind fun a => (g env).bind fun b => gJoin a.frz b.frz
@[simp] noncomputable def sExtend (i : Nat) (f : EF) : SF := fun env => match env[i]? with
  | some (.own ds) => (f env).bind fun r => match r with
    | .own es => if Fits (ds.length + es.length) then some (.nx (env.set i (.own (ds ++ es)))) else none
    | _ => none
  | _ => none
section
variable {K : PySem.W.Frag}
theorem app_len {a b : Str} : (a ++ b).length = a.length + b.length := by
  show (a.cps ++ b.cps).size = _
  exact Array.size_append
theorem de_fmt {te : TE} {f : EF} (h : DE K te f) : DE K (tFmt te) (eFmt f) := fun B F H σ env r S fh bh e Q q => by
  obtain ⟨r0, e0, e⟩ := bnd e
  refine h.z S fh bh e0 fun F1 H1 v g1 d1 => ?_
  unfold gFmt at e
  split at e
  · rename_i y hy
    split at e
    · rename_i hl
      cases e
      rw [hy] at d1
      rw [dp_str d1]
      exact .inl ⟨y, rfl, szL hl, q F1 H1 _ g1 (.str _)⟩
    · cases e
  · rename_i i hi
    split at e
    · rename_i hl
      cases e
      rw [hi] at d1
      rw [dp_int d1]
      exact .inr ⟨i, rfl, Nat.lt_of_lt_of_le (PySem.Flt.log2_lt_of (by decide : 0 < 1000) (show i.natAbs < 2 ^ 1000 from hl)) (by decide), q F1 H1 _ g1 (.str _)⟩
    · cases e
  · cases e
def DJ (K : PySem.W.Frag) (ts : List TE) (af : AF) : Prop := ∀ (B F H : Hp) (σ : L2.St) (env : En) (ds : List PyData) (acc out : Str), Slots K B F H σ env → Same F H → Same B H → af env = some ds → jsD acc ds = some out →
  ∀ Q : Str → Hp → Prop, (∀ F' H', Grow F H F' H' → Q out H') → tJs ts acc σ H Q
theorem dj_nil : DJ K [] aNil := fun B F H σ env ds acc out S fh bh e j Q q => by
  cases e
  cases j
  exact q F H (Grow.refl fh)
theorem dj_cons {te : TE} {ts : List TE} {f : EF} {g : AF} (h1 : DE K te f) (h2 : DJ K ts g) : DJ K (te :: ts) (aCons f g) := fun B F H σ env ds acc out S fh bh e j Q q => by
  obtain ⟨a, ea, e⟩ := bnd e
  obtain ⟨b, eb, e⟩ := bnd e
  cases e
  refine h1.z S fh bh ea fun F1 H1 x g1 d1 => ?_
  generalize a.frz = z at d1 j
  cases z with
  | str y =>
    have j : (if Fits (acc.length + y.length) then jsD (acc ++ y) b else none) = some out := j
    split at j
    · rename_i hl
      rw [dp_str d1]
      refine ⟨y, rfl, by rw [app_len]; exact szL hl, ?_⟩
      exact h2 B F1 H1 σ env b _ out (S.grow g1) g1.i (bh.trans g1.h) eb j Q fun F2 H2 g2 => q F2 H2 (g1.trans g2)
    · cases j
  | _ => cases j
theorem de_js {ts : List TE} {af : AF} (h : DJ K ts af) : DE K (fun σ H Q => tJs ts Str.empty σ H fun out H1 => Q (.str out) H1) (eJs af) := fun B F H σ env r S fh bh e Q q => by
  obtain ⟨ds, e0, e⟩ := bnd e
  obtain ⟨y, e1, e⟩ := bnd e
  cases e
  exact h B F H σ env ds Str.empty y S fh bh e0 e1 _ fun F' H' g => q F' H' _ g (.str _)
theorem strs_dp {F : Hp} : ∀ {vs : List V} {ds : List PyData} {ys : List Str}, DpAll K F vs ds → strsD ds = some ys → vs = ys.map V.str
  | _, [], _, h, e => by cases h; cases e; rfl
  | _, .str y :: r, _, h, e => by
    obtain ⟨zs, e0, e⟩ := bnd e
    cases e
    cases h with
    | cons d t => rw [dp_str d, strs_dp t e0]; rfl
  | _, .none :: _, _, _, e => by cases e
  | _, .bool _ :: _, _, _, e => by cases e
  | _, .int _ :: _, _, _, e => by cases e
  | _, .list _ :: _, _, _, e => by cases e
  | _, .tuple _ :: _, _, _, e => by cases e
  | _, .dict _ :: _, _, _, e => by cases e
theorem de_join {to te : TE} {f g : EF} (h1 : DE K to f) (h2 : DE K te g) : DE K (tM1 (fun x xs H Q => ∃ a p, ∃ ys : List Str, x = .str a ∧ xs = [.ref p] ∧ (SqL K H p (ys.map V.str) ∨ SqT K H p (ys.map V.str)) ∧
      (ys.map (·.length)).sum + ys.length * a.length ≤ 16777216 ∧ Q (.str (Txt.join a ys)) H) to te) (eJoin f g) := fun B F H σ env r S fh bh e Q q => by
  obtain ⟨a, ea, e⟩ := bnd e
  obtain ⟨b, eb, e⟩ := bnd e
  unfold gJoin at e
  split at e
  · rename_i x ds hx hd
    obtain ⟨ys, ey, e⟩ := bnd e
    split at e
    · rename_i hl
      cases e
      refine h1.z S fh bh ea fun F1 H1 v g1 d1 => ?_
      rw [hx] at d1
      refine ⟨⟨x, dp_str d1⟩, ?_⟩
      refine h2.z (S.grow g1) g1.i (bh.trans g1.h) eb fun F2 H2 w g2 d2 => ?_
      rw [hd] at d2
      obtain ⟨p, xs, rfl, sq, ax⟩ := dp_list d2
      rw [strs_dp ax ey] at sq
      refine ⟨x, p, ys, dp_str d1, rfl, .inl (sqL_mono g2.i sq), ?_, q F2 H2 _ (g1.trans g2) (.str _)⟩
      have hl : _ ≤ 100000 := hl
      exact Nat.le_trans hl (by decide)
    · cases e
  · cases e
theorem ds_extend {te : TE} {f : EF} {i : Nat} (h : DE K te f) : DS K (tDrop (tBM K "list" rExtend (tVar i) (tCons te tNil))) (sExtend i f) := fun F0 H0 F H σ env o S e D q => by
  unfold sExtend at e
  split at e
  · rename_i ds hd
    obtain ⟨r, er, e⟩ := bnd e
    split at e
    · rename_i es
      split at e
      · rename_i hl
        cases e
        obtain ⟨p, xs, h1, h0, h2, h3, h4⟩ := S.s.own hd
        refine ⟨_, h1, Or.inl ⟨rfl, _, .inl (.inl h3)⟩, h.at S er fun F' H' v g rr => ?_⟩
        obtain ⟨b, zs, rfl, b1, b2, b3, b4⟩ := rr
        have S' := S.grow g
        refine ⟨p, b, xs, zs, rfl, rfl, g.h _ _ h3, b3, by rw [DpAll.len h4, DpAll.len b4]; exact szL hl, ?_⟩
        exact q F' _ _ g.f (S'.turn hd h1 (DpAll.app (dpa_mono g.f h4) b4))
      · cases e
    · cases e
  · cases e
end
section
variable {X : Cx} {e o : Expr} {es : List Expr} {te to : TE} {ts : List TE} {f g : EF} {af : AF} {pos apos : Pos}
theorem se_fmt (h : SE X e te f) : SE X (.FormattedValue e (-1) none pos) (tFmt te) (eFmt f) := ⟨pe_fmt h.pe, de_fmt h.de⟩
structure SJ (X : Cx) (es : List Expr) (ts : List TE) (af : AF) : Prop where
  pj : PJ X es ts
  dj : DJ X.K ts af
theorem sj_nil : SJ X [] [] aNil := ⟨.nil, dj_nil⟩
theorem sj_cons (h1 : SE X e te f) (h2 : SJ X es ts af) : SJ X (e :: es) (te :: ts) (aCons f af) := ⟨.cons h1.pe h2.pj, dj_cons h1.de h2.dj⟩
theorem se_js {v1 v2 : Expr} {rest : List Expr} (h : SJ X (v1 :: v2 :: rest) ts af) : SE X (.JoinedStr (v1 :: v2 :: rest) pos) (fun σ H Q => tJs ts Str.empty σ H fun out H1 => Q (.str out) H1) (eJs af) := ⟨pe_joined h.pj, de_js h.dj⟩
theorem se_join {K : PySem.W.Frag} (h1 : SE X o to f) (h2 : SE X e te g) (hs : starEach [e] X.env = [(false, eval e X.env)] := by rfl) (hbase : attributeBase o "join" X.env (eval o X.env) = eval o X.env := by rfl) (hline : (apos.endLine == pos.line) = true := by rfl) (hK : X.K = K := by rfl) :
    SE X (.Call (.Attribute o "join" apos) [e] [] pos) (tM1 (fun x xs H Q => ∃ a p, ∃ ys : List Str, x = .str a ∧ xs = [.ref p] ∧ (SqL K H p (ys.map V.str) ∨ SqT K H p (ys.map V.str)) ∧
      (ys.map (·.length)).sum + ys.length * a.length ≤ 16777216 ∧ Q (.str (Txt.join a ys)) H) to te) (eJoin f g) := by
  subst hK
  exact ⟨pe_join h1.pe h2.pe hs hbase hline, de_join h1.de h2.de⟩
theorem ss_extend {j : Nat} {cpos : Pos} (h0 : PE X o (tVar j)) (h1 : SE X e te f) (hs : swapsWith (.Call (.Attribute o "extend" apos) [e] [] cpos) none pos.line X.env = pure false := by rfl)
    (hbase : attributeBase o "extend" X.env (eval o X.env) = eval o X.env := by rfl)
    (hfew : ((backTo cpos (starEach [e] X.env)).all (fun x => !x.1) && (backToKw cpos (keywordEach [] X.env)).all (fun x => x.1.isSome)
      && decide ([e].length + ([] : List Keyword).length + (if ([] : List Keyword).isEmpty then 0 else 1) < 30)) = true := by rfl)
    (hline : (apos.endLine == cpos.line) = true := by rfl) (hst : starEach [e] X.env = (false, eval e X.env) :: starEach [] X.env := by rfl) (hplain : (backTo cpos (starEach [] X.env)).any (·.1) = false := by rfl) :
    SS X (.Expr (.Call (.Attribute o "extend" apos) [e] [] cpos) pos) (tDrop (tBM X.K "list" rExtend (tVar j) (tCons te tNil))) (sExtend j f) :=
  ⟨ps_expr (pe_bm PySem.F.plainAttrs_list PySem.F.slot_list_extend PySem.F.type_list_extend mt_extend h0 (pa_cons h1.pe pa_nil hst) hbase hfew hline hst hplain) hs, ds_extend h1.de⟩
end
end Dn
/-! Dg7: texts that are read: partition, prefixes, digits, int(text), a text's truth. -/
namespace Dn
open PySem PySem.Spec PyProof.Rows L2
@[simp] noncomputable def gRmPre : PyData → PyData → Option R
  | .str a, .str b => if Fits a.length then some (.val (.str (Txt.removeprefix a b))) else none
  | _, _ => none
@[simp] noncomputable def gStarts : PyData → PyData → Option R
  | .str a, .str b => some (.val (.bool (Txt.startswith a b)))
  | _, _ => none
@[simp] noncomputable def gPart : PyData → PyData → Option R
  | .str a, .str b => if Fits a.length ∧ (b.length == 0) = false then some (.val (.tuple [.str (Txt.partition a b).1, .str (Txt.partition a b).2.1, .str (Txt.partition a b).2.2])) else none
  | _, _ => none
@[simp] def gAscii : PyData → Option R
  | .str a => some (.val (.bool (Txt.isascii a)))
  | _ => none
@[simp] def gDigit : PyData → Option R
  | .str a => some (.val (.bool (Txt.isdigit a)))
  | _ => none
@[simp] noncomputable def gIntS : List PyData → Option R
  | [.str a] => (PySem.intText? a).bind fun n => if Fits (a.length + 99360) then some (.val (.int n)) else none
  | _ => none
@[simp] noncomputable def truS : PyData → Option Bool
  | .str y => if Fits y.length then some ((y.length : Int) != 0) else none
  | _ => none
@[simp] noncomputable def tTruS (f : EF) : TF := fun env => (f env).bind fun r => truS r.frz
@[simp] def eM0 (g : PyData → Option R) (f : EF) : EF := fun env => (f env).bind fun a => g a.frz
@[simp] def eM1 (g : PyData → PyData → Option R) (f h : EF) : EF := fun env => (f env).bind fun a => (h env).bind fun b => g a.frz b.frz
section
variable {K : PySem.W.Frag}
/-- what a text's method of one text gives -/
def RM1 (K : PySem.W.Frag) (r : V → List V → Hp → VK → Prop) (g : PyData → PyData → Option R) : Prop := ∀ (F H : Hp) (x y : V) (dx dy : PyData) (r' : R), Same F H → Dp K F x dx → Dp K F y dy → g dx dy = some r' →
  (∃ a, x = .str a) ∧ ∀ Q : VK, (∀ F' H' v, Grow F H F' H' → RepR K F' H H' v r' → Q v H') → r x [y] H Q
def RM0 (K : PySem.W.Frag) (r : V → List V → Hp → VK → Prop) (g : PyData → Option R) : Prop := ∀ (F H : Hp) (x : V) (dx : PyData) (r' : R), Same F H → Dp K F x dx → g dx = some r' →
  (∃ a, x = .str a) ∧ ∀ Q : VK, (∀ F' H' v, Grow F H F' H' → RepR K F' H H' v r' → Q v H') → r x [] H Q
theorem de_m0 {r : V → List V → Hp → VK → Prop} {g : PyData → Option R} {to : TE} {f : EF} (hr : RM0 K r g) (h : DE K to f) : DE K (tM0 r to) (eM0 g f) := fun B F H σ env r' S fh bh e Q q => by
  obtain ⟨a, ea, e⟩ := bnd e
  refine h.z S fh bh ea fun F1 H1 x g1 d1 => ?_
  obtain ⟨s, t⟩ := hr F1 H1 x _ r' g1.i d1 e
  exact ⟨s, t Q fun F3 H3 v g3 rr => q F3 H3 v (g1.trans g3) (rr.back g1)⟩
/-- the second text is there ahead: its reading changes nothing that the first one's text says -/
theorem de_m1 {r : V → List V → Hp → VK → Prop} {g : PyData → PyData → Option R} {to te : TE} {f h : EF} (hs : ∀ dx dy r', g dx dy = some r' → ∃ a, dx = .str a) (hr : RM1 K r g) (h1 : DE K to f) (h2 : DE K te h) : DE K (tM1 r to te) (eM1 g f h) := fun B F H σ env r' S fh bh e Q q => by
  obtain ⟨a, ea, e⟩ := bnd e
  obtain ⟨b, eb, e⟩ := bnd e
  refine h1.z S fh bh ea fun F1 H1 x g1 d1 => ?_
  obtain ⟨y, hy⟩ := hs _ _ _ e
  have dd := d1
  rw [hy] at dd
  refine ⟨⟨y, dp_str dd⟩, ?_⟩
  refine h2.z (S.grow g1) g1.i (bh.trans g1.h) eb fun F2 H2 w g2 d2 => ?_
  exact (hr F2 H2 x w _ _ r' g2.i (dp_mono g2.f d1) d2 e).2 Q fun F3 H3 v g3 rr => q F3 H3 v ((g1.trans g2).trans g3) (rr.back (g1.trans g2))
abbrev rRmPre : V → List V → Hp → VK → Prop := fun x xs H Q => ∃ a b, x = .str a ∧ xs = [.str b] ∧ a.length ≤ sizeLine ∧ Q (.str (Txt.removeprefix a b)) H
abbrev rStarts : V → List V → Hp → VK → Prop := fun x xs H Q => ∃ a b, x = .str a ∧ xs = [.str b] ∧ Q (.bl (Txt.startswith a b)) H
abbrev rPart : V → List V → Hp → VK → Prop := fun x xs H Q => ∃ a b, x = .str a ∧ xs = [.str b] ∧ (b.length == 0) = false ∧ a.length ≤ sizeLine ∧
      ∀ p, H p = none → Q (.ref p) (upd H p (.tup [.str (Txt.partition a b).1, .str (Txt.partition a b).2.1, .str (Txt.partition a b).2.2]))
abbrev rAscii : V → List V → Hp → VK → Prop := fun x xs H Q => ∃ a, x = .str a ∧ xs = [] ∧ True ∧ Q (.bl (Txt.isascii a)) H
abbrev rDigit : V → List V → Hp → VK → Prop := fun x xs H Q => ∃ a, x = .str a ∧ xs = [] ∧ True ∧ Q (.bl (Txt.isdigit a)) H
theorem rm_pre : RM1 K rRmPre gRmPre := fun F H x y dx dy r' fh d1 d2 e => by
  unfold gRmPre at e
  split at e
  · split at e
    · rename_i hl
      cases e
      rw [dp_str d1, dp_str d2]
      exact ⟨⟨_, rfl⟩, fun Q q => ⟨_, _, rfl, rfl, szL hl, q F H _ (Grow.refl fh) (.str _)⟩⟩
    · cases e
  · cases e
theorem rm_starts : RM1 K rStarts gStarts := fun F H x y dx dy r' fh d1 d2 e => by
  unfold gStarts at e
  split at e
  · cases e
    rw [dp_str d1, dp_str d2]
    exact ⟨⟨_, rfl⟩, fun Q q => ⟨_, _, rfl, rfl, q F H _ (Grow.refl fh) (.bl _)⟩⟩
  · cases e
theorem rm_part : RM1 K rPart gPart := fun F H x y dx dy r' fh d1 d2 e => by
  unfold gPart at e
  split at e
  · split at e
    · rename_i hl
      cases e
      rw [dp_str d1, dp_str d2]
      refine ⟨⟨_, rfl⟩, fun Q q => ⟨_, _, rfl, rfl, hl.2, szL hl.1, fun p hp => ?_⟩⟩
      obtain ⟨g, rr⟩ := newT fh hp (DpAll.cons (.str _) (DpAll.cons (.str _) (DpAll.cons (.str _) .nil)))
      exact q _ _ _ g rr
    · cases e
  · cases e
theorem rm_ascii : RM0 K rAscii gAscii := fun F H x dx r' fh d1 e => by
  unfold gAscii at e
  split at e
  · cases e
    rw [dp_str d1]
    exact ⟨⟨_, rfl⟩, fun Q q => ⟨_, rfl, rfl, trivial, q F H _ (Grow.refl fh) (.bl _)⟩⟩
  · cases e
theorem rm_digit : RM0 K rDigit gDigit := fun F H x dx r' fh d1 e => by
  unfold gDigit at e
  split at e
  · cases e
    rw [dp_str d1]
    exact ⟨⟨_, rfl⟩, fun Q q => ⟨_, rfl, rfl, trivial, q F H _ (Grow.refl fh) (.bl _)⟩⟩
  · cases e
theorem hs_pre : ∀ dx dy r', gRmPre dx dy = some r' → ∃ a, dx = .str a := fun dx dy r' e => by
  unfold gRmPre at e
  split at e
  · exact ⟨_, rfl⟩
  · cases e
theorem hs_starts : ∀ dx dy r', gStarts dx dy = some r' → ∃ a, dx = .str a := fun dx dy r' e => by
  unfold gStarts at e
  split at e
  · exact ⟨_, rfl⟩
  · cases e
theorem hs_part : ∀ dx dy r', gPart dx dy = some r' → ∃ a, dx = .str a := fun dx dy r' e => by
  unfold gPart at e
  split at e
  · exact ⟨_, rfl⟩
  · cases e
theorem rc_intS : RCD K (fun xs H Q => ∃ a n, xs = [.str a] ∧ PySem.intText? a = some n ∧ a.length ≤ 640 ∧ Q (.int n) H) gIntS := fun F H vs ds r fh h e Q q => by
  unfold gIntS at e
  split at e
  · obtain ⟨n, hn, e⟩ := bnd e
    split at e
    · rename_i hl
      cases e
      obtain ⟨v, rfl, d⟩ := dpa1 h
      rw [dp_str d]
      have hl : _ ≤ 100000 := hl
      exact ⟨_, _, rfl, hn, by omega, q F H _ (Grow.refl fh) (.int _)⟩
    · cases e
  · cases e
theorem dt_truS {ta : TE} {f : EF} (h : DE K ta f) : DT K (fun σ H Q => ta σ H fun x H' => ∃ k, TruV K x H' k ∧ Q k H') (tTruS f) := fun B F H σ env b S fh bh e Q q => by
  obtain ⟨r, er, e⟩ := bnd e
  refine h.z S fh bh er fun F1 H1 x g1 d1 => ?_
  unfold truS at e
  split at e
  · rename_i y hy
    split at e
    · rename_i hl
      cases e
      rw [hy] at d1
      rw [dp_str d1]
      exact ⟨_, ⟨szL hl, rfl⟩, q F1 H1 g1⟩
    · cases e
  · cases e
end
section
variable {X : Cx} {e o a : Expr} {es : List Expr} {te to ta : TE} {t : TA} {f g : EF} {af : AF} {pos apos p : Pos} {x : Str}
theorem se_rmpre (h1 : SE X o to f) (h2 : SE X e te g) (hs : starEach [e] X.env = [(false, eval e X.env)] := by rfl) (hbase : attributeBase o "removeprefix" X.env (eval o X.env) = eval o X.env := by rfl) (hline : (apos.endLine == pos.line) = true := by rfl) :
    SE X (.Call (.Attribute o "removeprefix" apos) [e] [] pos) (tM1 rRmPre to te) (eM1 gRmPre f g) := ⟨pe_m1 PySem.F.slot_str_removeprefix PySem.F.type_str_removeprefix mt_removeprefix h1.pe h2.pe hs hbase hline, de_m1 hs_pre rm_pre h1.de h2.de⟩
theorem se_starts (h1 : SE X o to f) (h2 : SE X e te g) (hs : starEach [e] X.env = [(false, eval e X.env)] := by rfl) (hbase : attributeBase o "startswith" X.env (eval o X.env) = eval o X.env := by rfl) (hline : (apos.endLine == pos.line) = true := by rfl) :
    SE X (.Call (.Attribute o "startswith" apos) [e] [] pos) (tM1 rStarts to te) (eM1 gStarts f g) := ⟨pe_m1 PySem.F.slot_str_startswith PySem.F.type_str_startswith mt_startswith h1.pe h2.pe hs hbase hline, de_m1 hs_starts rm_starts h1.de h2.de⟩
theorem se_part (h1 : SE X o to f) (h2 : SE X e te g) (hs : starEach [e] X.env = [(false, eval e X.env)] := by rfl) (hbase : attributeBase o "partition" X.env (eval o X.env) = eval o X.env := by rfl) (hline : (apos.endLine == pos.line) = true := by rfl) :
    SE X (.Call (.Attribute o "partition" apos) [e] [] pos) (tM1 rPart to te) (eM1 gPart f g) := ⟨pe_partition h1.pe h2.pe hs hbase hline, de_m1 hs_part rm_part h1.de h2.de⟩
theorem se_ascii (h1 : SE X o to f) (hbase : attributeBase o "isascii" X.env (eval o X.env) = eval o X.env := by rfl) (hline : (apos.endLine == pos.line) = true := by rfl) :
    SE X (.Call (.Attribute o "isascii" apos) [] [] pos) (tM0 rAscii to) (eM0 gAscii f) := ⟨pe_m0 PySem.F.slot_str_isascii PySem.F.type_str_isascii mt_isascii h1.pe hbase hline, de_m0 rm_ascii h1.de⟩
theorem se_digit (h1 : SE X o to f) (hbase : attributeBase o "isdigit" X.env (eval o X.env) = eval o X.env := by rfl) (hline : (apos.endLine == pos.line) = true := by rfl) :
    SE X (.Call (.Attribute o "isdigit" apos) [] [] pos) (tM0 rDigit to) (eM0 gDigit f) := ⟨pe_m0 PySem.F.slot_str_isdigit PySem.F.type_str_isdigit mt_isdigit h1.pe hbase hline, de_m0 rm_digit h1.de⟩
theorem se_c_intS (hg : Gl X x) (hm : X.mg x = none) (hv : bootBuiltins x = some (.type "int")) (ha : SA X (e :: es) t af) (hn : x ≠ "__name__" := by decide) (hdb : (x == ("__debug__" : Str)) = false := by decide)
    (he : starEach (e :: es) X.env = (false, eval e X.env) :: starEach es X.env := by rfl) (hpl : (backTo pos (starEach es X.env)).any (·.1) = false := by rfl) : SE X (.Call (.Name x p) (e :: es) [] pos) (tCB (fun xs H Q => ∃ a n, xs = [.str a] ∧ PySem.intText? a = some n ∧ a.length ≤ 640 ∧ Q (.int n) H) t) (eCall gIntS af) := se_cty call_int_str rc_intS hg hm hv ha hn hdb he hpl
theorem st_truS {K : PySem.W.Frag} (h1 : SE X a ta f) (he : ∀ whole, isTrue a X.env whole = (do let v ← whole; standAt a.pos; holding [v] (truthy v)) := by intro _; rfl) (hK : X.K = K := by rfl) : ST X a (fun σ H Q => ta σ H fun x H' => ∃ k, TruV K x H' k ∧ Q k H') (tTruS f) := by
  subst hK
  exact ⟨pt_truth h1.pe he, dt_truS h1.de⟩
end
end Dn
/-! Dg8: zip of two lists, enumerate of a list, where a tuple target takes them apart. -/
namespace Dn
open PySem PySem.Spec PyProof.Rows L2
def zipD (xs ys : List PyData) : List PyData := List.zipWith (fun x y => .tuple [x, y]) xs ys
def enumD (xs : List PyData) : List PyData := xs.zipIdx.map fun p => .tuple [.int (p.2 : Nat), p.1]
@[simp] def iZ (t : AF) : IF := fun env => (t env).bind fun ds => match ds with
  | [.list xs, .list ys] => some (zipD xs ys)
  | _ => none
@[simp] def iEn (t : AF) : IF := fun env => (t env).bind fun ds => match ds with
  | [.list xs] => some (enumD xs)
  | _ => none
section
variable {K : PySem.W.Frag}
theorem zipD_get {xs ys : List PyData} {i : Nat} {d : PyData} (e : (zipD xs ys)[i]? = some d) : ∃ x y, xs[i]? = some x ∧ ys[i]? = some y ∧ d = .tuple [x, y] := by
  unfold zipD at e
  rw [List.getElem?_zipWith] at e
  cases hx : xs[i]? with
  | none => rw [hx] at e; cases e
  | some x =>
    cases hy : ys[i]? with
    | none => rw [hx, hy] at e; cases e
    | some y =>
      rw [hx, hy] at e
      cases e
      exact ⟨x, y, rfl, rfl, rfl⟩
theorem walks_zip {F H : Hp} {a b : Addr} {vs ws : List V} {xs ys : List PyData} (fh : Same F H) (h1 : SqL K F a vs) (h2 : SqL K F b ws) (d1 : DpAll K F vs xs) (d2 : DpAll K F ws ys) : Walks K F (Itz K a b) (zipD xs ys) := fun i F1 H1 s1 s2 => by
  have l1 := DpAll.len d1
  have l2 := DpAll.len d2
  have q1 := sqL_mono (s1.trans s2) h1
  have q2 := sqL_mono (s1.trans s2) h2
  refine ⟨fun _ e => ⟨vs, ws, q1, q2, ?_⟩, fun d e => ?_⟩
  · unfold zipD at e
    rw [List.length_zipWith] at e
    omega
  · obtain ⟨x, y, ex, ey, rfl⟩ := zipD_get e
    obtain ⟨v, e1, k1⟩ := DpAll.get d1 ex
    obtain ⟨w, e2, k2⟩ := DpAll.get d2 ey
    refine ⟨⟨vs, ws, v, w, q1, q2, e1, e2⟩, fun z H2 yl => ?_⟩
    obtain ⟨T, v', w', rfl, hT, rfl, z1, z2⟩ := yl
    have z1 := z1 _ q1
    have z2 := z2 _ q2
    rw [e1] at z1
    rw [e2] at z2
    cases z1
    cases z2
    have fT : F1 T = none := s2.free hT
    exact ⟨upd F1 T (.tup [v, w]), (Grow.new s2 hT).frz hT fT upd_same, .tup (.inl (.inl upd_same)) (.cons (dp_mono (s1.trans (same_upd fT)) k1) (.cons (dp_mono (s1.trans (same_upd fT)) k2) .nil))⟩
theorem walks_enum {F H : Hp} {a : Addr} {vs : List V} {xs : List PyData} (fh : Same F H) (h1 : SqL K F a vs) (d1 : DpAll K F vs xs) : Walks K F (Ite K a) (enumD xs) := fun i F1 H1 s1 s2 => by
  have l1 := DpAll.len d1
  have q1 := sqL_mono (s1.trans s2) h1
  refine ⟨fun _ e => ⟨vs, q1, ?_⟩, fun d e => ?_⟩
  · unfold enumD at e
    rw [List.length_map, List.length_zipIdx] at e
    omega
  · unfold enumD at e
    rw [List.getElem?_map, List.getElem?_zipIdx] at e
    cases ex : xs[i]? with
    | none => rw [ex] at e; cases e
    | some x =>
      rw [ex] at e
      cases e
      obtain ⟨v, e1, k1⟩ := DpAll.get d1 ex
      refine ⟨⟨vs, v, q1, e1⟩, fun z H2 yl => ?_⟩
      obtain ⟨T, v', rfl, hT, rfl, z1⟩ := yl
      have z1 := z1 _ q1
      rw [e1] at z1
      cases z1
      have fT : F1 T = none := s2.free hT
      rw [show (0 + i) = i from Nat.zero_add i]
      exact ⟨upd F1 T (.tup [.int (i : Nat), v]), (Grow.new s2 hT).frz hT fT upd_same, .tup (.inl (.inl upd_same)) (.cons (.int _) (.cons (dp_mono (s1.trans (same_upd fT)) k1) .nil))⟩
theorem di_zip {ta : TA} {t : AF} (h : DA K ta t) : DI K (iZip K ta) (iZ t) := fun B F H σ env ds S fh bh e R q => by
  obtain ⟨as, ea, e⟩ := bnd e
  split at e
  · cases e
    refine h B F H σ env _ S fh bh ea _ fun F1 H1 vs g d => ?_
    obtain ⟨v, w, rfl, d1, d2⟩ := dpa2 d
    obtain ⟨a, xs, rfl, s1, a1⟩ := dp_list d1
    obtain ⟨b, ys, rfl, s2, a2⟩ := dp_list d2
    exact ⟨a, b, xs, ys, rfl, sqL_mono g.i s1, sqL_mono g.i s2, q F1 H1 _ g (walks_zip g.i s1 s2 a1 a2)⟩
  · cases e
theorem di_enum {ta : TA} {t : AF} (h : DA K ta t) : DI K (iEnum K ta) (iEn t) := fun B F H σ env ds S fh bh e R q => by
  obtain ⟨as, ea, e⟩ := bnd e
  split at e
  · cases e
    refine h B F H σ env _ S fh bh ea _ fun F1 H1 vs g d => ?_
    obtain ⟨v, rfl, d1⟩ := dpa1 d
    obtain ⟨a, xs, rfl, s1, a1⟩ := dp_list d1
    exact ⟨a, xs, rfl, sqL_mono g.i s1, q F1 H1 _ g (walks_enum g.i s1 a1)⟩
  · cases e
end
section
variable {X : Cx} {e e2 : Expr} {ta : TA} {af : AF} {p pos tpos : Pos} {elts : List Expr} {kk : Nat}
theorem si_zip {K : PySem.W.Frag} (hg : Gl X "zip") (hm : X.mg "zip" = none) (ha : SA X [e, e2] ta af)
    (hs : starEach [e, e2] X.env = (false, eval e X.env) :: starEach [e2] X.env := by rfl) (hpl : (backTo pos (starEach [e2] X.env)).any (·.1) = false := by rfl) (hK : X.K = K := by rfl) :
    SI X (.Tuple elts kk tpos) (.Call (.Name "zip" p) [e, e2] [] pos) (iZip K ta) (iZ af) := by
  subst hK
  exact ⟨pi_zip hg hm ha.pa hs hpl, di_zip ha.da⟩
theorem si_enum {K : PySem.W.Frag} (hg : Gl X "enumerate") (hm : X.mg "enumerate" = none) (ha : SA X [e] ta af) (hs : starEach [e] X.env = [(false, eval e X.env)] := by rfl) (hK : X.K = K := by rfl) :
    SI X (.Tuple elts kk tpos) (.Call (.Name "enumerate" p) [e] [] pos) (iEnum K ta) (iEn af) := by
  subst hK
  exact ⟨pi_enum hg hm ha.pa hs, di_enum ha.da⟩
end
end Dn
/-! Dg9: xs[::-1]. -/
namespace Dn
open PySem PySem.Spec PyProof.Rows L2
@[simp] def eRev (f : EF) : EF := fun env => (f env).bind fun r => match r.frz with
  | .list ds => some (.own ds.reverse)
  | _ => none
theorem DpAll.rev {K : PySem.W.Frag} {H : Hp} : ∀ {vs : List V} {ds : List PyData}, DpAll K H vs ds → DpAll K H vs.reverse ds.reverse
  | _, _, .nil => .nil
  | _, _, .cons h t => by
    rw [List.reverse_cons, List.reverse_cons]
    exact DpAll.app (DpAll.rev t) (.cons h .nil)
theorem de_rev {K : PySem.W.Frag} {te : TE} {f : EF} (h : DE K te f) : DE K (tRevL K te) (eRev f) := fun B F H σ env r S fh bh e Q q => by
  obtain ⟨a, ea, e⟩ := bnd e
  refine h.z S fh bh ea fun F1 H1 v g d => ?_
  split at e
  · rename_i ds hd
    cases e
    rw [hd] at d
    obtain ⟨p, xs, rfl, s, ax⟩ := dp_list d
    refine ⟨p, xs, rfl, sqL_mono g.i s, fun l hl => ?_⟩
    exact q F1 _ _ (g.trans (Grow.new g.i hl)) (RepR.back g (newL g.i hl (DpAll.rev ax)))
  · cases e
theorem se_rev {X : Cx} {K : PySem.W.Frag} {e : Expr} {te : TE} {f : EF} {k : Nat} {p1 p2 p3 pos : Pos} (h : SE X e te f) (hK : X.K = K := by rfl) : SE X (.Subscript e (.Slice none none (some (.UnaryOp .USub (.Constant (.int 1) k p1) p2)) p3) pos) (tRevL K te) (eRev f) := by
  subst hK
  exact ⟨pe_revL h.pe, de_rev h.de⟩
end Dn
/-! Ds1: expressions that change an owned list (handed to a def that stores into it), or raise. -/
namespace Dn
open PySem PySem.Spec PyProof.Rows L2
/-- an own exception: its class by name, its fields -/
structure Xn where
  cls : Str
  fs : List (Str × PyData)
inductive Ans (α : Type) where
  | ok (a : α) (env : En)
  | ex (e : Xn) (env : En)
abbrev EM := En → Option (Ans R)
abbrev TM := En → Option (Ans Bool)
abbrev AM := En → Option (Ans (List PyData))
def bM {α β : Type} (m : Option (Ans α)) (k : α → En → Option (Ans β)) : Option (Ans β) := match m with
  | some (.ok a e) => k a e
  | some (.ex x e) => some (.ex x e)
  | none => none
section
variable {α β : Type} {a : α} {e : En} {x : Xn} {k : α → En → Option (Ans β)}
@[simp] theorem bM_ok : bM (some (.ok a e)) k = k a e := rfl
@[simp] theorem bM_ex : bM (some (.ex x e)) k = some (.ex x e) := rfl
@[simp] theorem bM_no : bM none k = none := rfl
theorem bM_ite {c : Prop} [Decidable c] {x y : Option (Ans α)} : bM (if c then x else y) k = if c then bM x k else bM y k := by split <;> rfl
end

/-! ### what may change: the owned lists -/
def ers (H : Hp) (p : Addr) : Hp := fun a => if a = p then none else H a
theorem ers_ne {H : Hp} {p a : Addr} (h : a ≠ p) : ers H p a = H a := if_neg h
theorem ers_same {H : Hp} {p : Addr} : ers H p p = none := if_pos rfl
theorem ers_some {H : Hp} {p a : Addr} {o : HO} (h : ers H p a = some o) : a ≠ p ∧ H a = some o := by
  unfold ers at h
  split at h
  · cases h
  · exact ⟨by assumption, h⟩
/-- a is the place of no owned list -/
def Free (σ : L2.St) (env : En) (a : Addr) : Prop := ∀ (k : Nat) (ds : List PyData), env[k]? = some (.own ds) → σ[k]? ≠ some (some (.ref a))
def OwnIn (H : Hp) (σ : L2.St) (env : En) : Prop := ∀ (k : Nat) (ds : List PyData) (q : Addr), env[k]? = some (.own ds) → σ[k]? = some (some (.ref q)) → H q ≠ none
structure Gm (F H : Hp) (σ : L2.St) (env : En) (F' H' : Hp) (env' : En) : Prop where
  f : Same F F'
  h : ∀ (a : Addr) (o : HO), H a = some o → Free σ env a → H' a = some o
  d : ∀ a : Addr, H a ≠ none → H' a ≠ none
  n : ∀ a : Addr, H a ≠ none → F a = none → F' a = none
  o : ∀ (k : Nat) (ds : List PyData), env'[k]? = some (.own ds) → ∃ es, env[k]? = some (.own es)
section
variable {F H F1 H1 F2 H2 : Hp} {σ : L2.St} {env env1 env2 : En}
theorem Gm.refl : Gm F H σ env F H env := ⟨Same.refl F, fun _ _ h _ => h, fun _ h => h, fun _ _ h => h, fun _ ds h => ⟨ds, h⟩⟩
theorem Free.back {a : Addr} (o : ∀ (k : Nat) (ds : List PyData), env1[k]? = some (.own ds) → ∃ es, env[k]? = some (.own es)) (h : Free σ env a) : Free σ env1 a := fun k ds e => by
  obtain ⟨es, q⟩ := o k ds e
  exact h k es q
theorem Gm.trans (a : Gm F H σ env F1 H1 env1) (b : Gm F1 H1 σ env1 F2 H2 env2) : Gm F H σ env F2 H2 env2 :=
  ⟨a.f.trans b.f, fun x o h hf => b.h x o (a.h x o h hf) (hf.back a.o), fun x h => b.d x (a.d x h), fun x h hf => b.n x (a.d x h) (a.n x h hf), fun k ds h => by
    obtain ⟨es, q⟩ := b.o k ds h
    exact a.o k es q⟩
theorem Gm.of {F' H' : Hp} (g : Grow F H F' H') : Gm F H σ env F' H' env := ⟨g.f, fun x o h _ => g.h x o h, fun x h => same_ne g.h h, g.n, fun _ ds h => ⟨ds, h⟩⟩
theorem Gm.gone {a : Addr} (g : Gm F H σ env F1 H1 env1) (h : H1 a = none) : H a = none := by
  cases q : H a with
  | none => rfl
  | some o => exact absurd h (g.d a (by rw [q]; exact Option.some_ne_none o))
end
section
variable {K : PySem.W.Frag} {B F H F' H' F0 H0 : Hp} {σ : L2.St} {env env' : En}
theorem Slots.ownIn (S : Slots K B F H σ env) : OwnIn H σ env := fun k ds q e1 e2 => by
  obtain ⟨p, xs, h1, _, _, h2, _⟩ := S.own e1
  rw [e2] at h1
  cases h1
  rw [h2]
  exact Option.some_ne_none _
theorem Gm.ownIn (g : Gm F H σ env F' H' env') (h : OwnIn H σ env) : OwnIn H σ env' := fun k ds q e1 e2 => by
  obtain ⟨es, q1⟩ := g.o k ds e1
  exact h k es q q1 e2
/-- a slot gets what has come; Hx: what stood when it was asked -/
theorem Slots.putM {Hx : Hp} {i : Nat} {v : V} {r : R} (S : Slots K B F' H' σ env') (bx : Same B Hx) (w : OwnIn Hx σ env') (h : RepR K F' Hx H' v r) : Slots K B F' H' (σ.set i (some v)) (env'.set i r.sl) := by
  have w' : ∀ (m : Nat) (zs : List PyData), env'[m]? = some (Sl.own zs) → ∀ q, Hx q = none → σ[m]? ≠ some (some (.ref q)) := fun m zs e q hq z => w m zs q e z hq
  obtain ⟨l, ad, h1, h2⟩ := S
  cases r with
  | val d =>
    refine ⟨by simp [l], ad, fun j w s e1 e2 => ?_, fun j k ds es hjk e1 e2 => ?_⟩
    · by_cases hj : i = j
      · subst hj
        rw [List.getElem?_set] at e1 e2
        simp at e1 e2
        obtain ⟨_, rfl⟩ := e1
        obtain ⟨_, rfl⟩ := e2
        exact ⟨v, rfl, h⟩
      · rw [List.getElem?_set_ne hj] at e1 e2
        exact h1 j w s e1 e2
    · have q : ∀ m zs, (env'.set i (R.val d).sl)[m]? = some (Sl.own zs) → env'[m]? = some (Sl.own zs) := fun m zs e => by
        by_cases hm : i = m
        · subst hm
          rw [List.getElem?_set] at e
          simp at e
        · rw [List.getElem?_set_ne hm] at e
          exact e
      exact h2 j k ds es hjk (q _ _ e1) (q _ _ e2)
  | own3 as bs cs =>
    refine ⟨by simp [l], ad, fun j w s e1 e2 => ?_, fun j k ds es hjk e1 e2 => ?_⟩
    · by_cases hj : i = j
      · subst hj
        rw [List.getElem?_set] at e1 e2
        simp at e1 e2
        obtain ⟨_, rfl⟩ := e2
        trivial
      · rw [List.getElem?_set_ne hj] at e1 e2
        exact h1 j w s e1 e2
    · have q : ∀ m zs, (env'.set i (R.own3 as bs cs).sl)[m]? = some (Sl.own zs) → env'[m]? = some (Sl.own zs) := fun m zs e => by
        by_cases hm : i = m
        · subst hm
          rw [List.getElem?_set] at e
          simp [R.sl] at e
        · rw [List.getElem?_set_ne hm] at e
          exact e
      exact h2 j k ds es hjk (q _ _ e1) (q _ _ e2)
  | own ds =>
    obtain ⟨p, xs, rfl, f1, f2, f3, f4⟩ := h
    have old : ∀ m zs, env'[m]? = some (Sl.own zs) → ad m ≠ p := fun m zs e z => by
      have hi : m < env'.length := (List.getElem?_eq_some_iff.mp e).1
      have hs : σ[m]? = some σ[m] := List.getElem?_eq_getElem (by omega)
      obtain ⟨ys, e0, _⟩ := h1 m _ _ hs e
      exact w' m zs e p f2 (by rw [hs, e0, z])
    refine ⟨by simp [l], fun m => if m = i then p else ad m, fun j w s e1 e2 => ?_, fun j k es fs hjk e1 e2 => ?_⟩
    · by_cases hj : i = j
      · subst hj
        rw [List.getElem?_set] at e1 e2
        simp at e1 e2
        obtain ⟨_, rfl⟩ := e1
        obtain ⟨_, rfl⟩ := e2
        show SlOk K B F' H' _ (if i = i then p else ad i) _
        rw [if_pos rfl]
        exact ⟨xs, rfl, bx.free f2, f1, f3, f4⟩
      · rw [List.getElem?_set_ne hj] at e1 e2
        show SlOk K B F' H' _ (if j = i then p else ad j) _
        rw [if_neg (fun z => hj z.symm)]
        exact h1 j w s e1 e2
    · show (if j = i then p else ad j) ≠ (if k = i then p else ad k)
      by_cases hj : j = i
      · have hk : k ≠ i := fun z => hjk (hj.trans z.symm)
        rw [if_pos hj, if_neg hk]
        rw [List.getElem?_set_ne (fun z => hk z.symm)] at e2
        exact (old k _ e2).symm
      · rw [if_neg hj]
        rw [List.getElem?_set_ne (fun z => hj z.symm)] at e1
        by_cases hk : k = i
        · rw [if_pos hk]
          exact old j _ e1
        · rw [if_neg hk]
          rw [List.getElem?_set_ne (fun z => hk z.symm)] at e2
          exact h2 j k _ _ hjk e1 e2
/-- a def has stored into the owned list of slot i -/
theorem Slots.state {i : Nat} {p : Addr} {ds es : List PyData} {ys : List V} (S : Slots K B F H σ env) (e : env[i]? = some (.own ds)) (hp : σ[i]? = some (some (.ref p)))
    (gf : Same F F') (gh : Same (ers H p) H') (gn : ∀ a : Addr, ers H p a ≠ none → F a = none → F' a = none) (hy : H' p = some (.lst ys)) (fy : F' p = none) (dy : DpAll K F' ys es) : Slots K B F' H' σ (env.set i (.own es)) := by
  obtain ⟨l, ad, h1, h2⟩ := S
  obtain ⟨xs, e1, b0, b1, b2, b3⟩ := h1 i _ _ hp e
  have ep : p = ad i := by
    have := Option.some.inj e1
    cases this
    rfl
  have q : ∀ m zs, (env.set i (.own es))[m]? = some (Sl.own zs) → ∃ ws, env[m]? = some (Sl.own ws) := fun m zs g => by
    by_cases hm : i = m
    · subst hm
      exact ⟨ds, e⟩
    · rw [List.getElem?_set_ne hm] at g
      exact ⟨zs, g⟩
  refine ⟨by simp [l], ad, fun j w s g1 g2 => ?_, fun j k fs gs hjk g1 g2 => ?_⟩
  · by_cases hj : i = j
    · subst hj
      rw [hp] at g1
      cases g1
      rw [List.getElem?_set] at g2
      simp at g2
      obtain ⟨_, rfl⟩ := g2
      exact ⟨ys, by rw [ep], by rw [← ep]; exact ep ▸ b0, by rw [← ep]; exact fy, by rw [← ep]; exact hy, dy⟩
    · rw [List.getElem?_set_ne hj] at g2
      have o := h1 j w s g1 g2
      cases s with
      | no => trivial
      | val d =>
        obtain ⟨x, c1, c2⟩ := o
        exact ⟨x, c1, dp_mono gf c2⟩
      | own zs =>
        obtain ⟨xs', c1, c0, c2, c3, c4⟩ := o
        have ne : ad j ≠ p := by rw [ep]; exact h2 j i _ _ (fun z => hj z.symm) g2 e
        have c3' : ers H p (ad j) = some (.lst xs') := by rw [ers_ne ne]; exact c3
        exact ⟨xs', c1, c0, gn _ (by rw [c3']; exact Option.some_ne_none _) c2, gh _ _ c3', dpa_mono gf c4⟩
  · obtain ⟨w1, r1⟩ := q _ _ g1
    obtain ⟨w2, r2⟩ := q _ _ g2
    exact h2 j k _ _ hjk r1 r2
theorem Slots.refreeze {F2 : Hp} (S : Slots K B F H σ env) (s : Same F F2) (h : ∀ (k : Nat) (ds : List PyData) (q : Addr), env[k]? = some (.own ds) → σ[k]? = some (some (.ref q)) → F q = none → F2 q = none) : Slots K B F2 H σ env := by
  obtain ⟨l, ad, h1, h2⟩ := S
  refine ⟨l, ad, fun j w t e1 e2 => ?_, h2⟩
  have o := h1 j w t e1 e2
  cases t with
  | no => trivial
  | val d =>
    obtain ⟨x, c1, c2⟩ := o
    exact ⟨x, c1, dp_mono s c2⟩
  | own zs =>
    obtain ⟨xs', c1, c0, c2, c3, c4⟩ := o
    exact ⟨xs', c1, c0, h j zs _ e2 (by rw [e1, c1]) c2, c3, dpa_mono s c4⟩
/-- a result may be frozen -/
theorem RepR.frzM {v : V} {r : R} (i : Same F' H') (d : ∀ a : Addr, H a ≠ none → H' a ≠ none) (h : RepR K F' H H' v r) : ∃ F2, Same F' F2 ∧ Same F2 H' ∧ (∀ a : Addr, H a ≠ none → F' a = none → F2 a = none) ∧ Dp K F2 v r.frz := by
  let Hr : Hp := fun a => if H a = none then none else H' a
  have hn : ∀ a, H a = none → Hr a = none := fun a q => if_pos q
  have g : Grow F' Hr F' H' := ⟨Same.refl F', fun a o q => by
    have q : (if H a = none then none else H' a) = some o := q
    split at q
    · cases q
    · exact q, i, fun _ _ q => q⟩
  have rr : RepR K F' Hr H' v r := by
    cases r with
    | val d => exact h
    | own ds =>
      obtain ⟨p, xs, e, a, b, c, d⟩ := h
      exact ⟨p, xs, e, a, hn _ b, c, d⟩
    | own3 as bs cs =>
      obtain ⟨p, a, b, c, xs, ys, zs, e, p1, p2, p3, ⟨a1, a2, a3, a4⟩, ⟨b1, b2, b3, b4⟩, ⟨c1, c2, c3, c4⟩, n⟩ := h
      exact ⟨p, a, b, c, xs, ys, zs, e, p1, hn _ p2, p3, ⟨a1, hn _ a2, a3, a4⟩, ⟨b1, hn _ b2, b3, b4⟩, ⟨c1, hn _ c2, c3, c4⟩, n⟩
  obtain ⟨F2, g2, s2, dv⟩ := rr.frz g
  refine ⟨F2, s2, g2.i, fun a ha hf => g2.n a ?_ hf, dv⟩
  show (if H a = none then none else H' a) ≠ none
  rw [if_neg ha]
  exact d a ha
theorem RepR.backM {Hx : Hp} {v : V} {r : R} (d : ∀ a : Addr, Hx a ≠ none → H a ≠ none) (h : RepR K F' H H' v r) : RepR K F' Hx H' v r := by
  have n : ∀ a, H a = none → Hx a = none := fun a e => by
    cases q : Hx a with
    | none => rfl
    | some o => exact absurd e (d a (by rw [q]; exact Option.some_ne_none o))
  cases r with
  | val d => exact h
  | own ds =>
    obtain ⟨p, xs, e, a, b, c, d⟩ := h
    exact ⟨p, xs, e, a, n _ b, c, d⟩
  | own3 as bs cs =>
    obtain ⟨p, a, b, c, xs, ys, zs, rfl, p1, p2, p3, ⟨a1, a2, a3, a4⟩, ⟨b1, b2, b3, b4⟩, ⟨c1, c2, c3, c4⟩, z⟩ := h
    exact ⟨p, a, b, c, xs, ys, zs, rfl, p1, n _ p2, p3, ⟨a1, n _ a2, a3, a4⟩, ⟨b1, n _ b2, b3, b4⟩, ⟨c1, n _ c2, c3, c4⟩, z⟩
/-- the state is left as it is, but for what is frozen -/
theorem Sta.refreeze {F2 Hx : Hp} (S : Sta K F0 H0 F H σ env) (s : Same F F2) (i : Same F2 H) (b : Same H0 Hx) (w : OwnIn Hx σ env) (n : ∀ a : Addr, Hx a ≠ none → F a = none → F2 a = none) : Sta K F0 H0 F2 H σ env :=
  ⟨⟨S.g.f.trans s, S.g.h, i, fun a ha hf => n a (same_ne b ha) (S.g.n a ha hf)⟩, S.s.refreeze s fun k ds q e1 e2 hq => n q (w k ds q e1 e2) hq⟩
theorem Gm.refreeze {F2 : Hp} (g : Gm F H σ env F' H' env') (s : Same F' F2) (n : ∀ a : Addr, H a ≠ none → F' a = none → F2 a = none) : Gm F H σ env F2 H' env' :=
  ⟨g.f.trans s, g.h, g.d, fun a ha hf => n a ha (g.n a ha hf), g.o⟩
end
/-- an exception of an own class -/
def XnOk (mg : Str → Option Value) (K : PySem.W.Frag) (F : Hp) (e : Xn) (cls : Value) (d : Option Addr) : Prop :=
  mg e.cls = some cls ∧ ((e.fs = [] ∧ d = none) ∨ e.fs ≠ [] ∧ ∃ (dd : Addr) (vs : List (Str × V)), d = some dd ∧ F dd = some (.xd vs) ∧ vs.map Prod.fst = e.fs.map Prod.fst ∧ DpAll K F (vs.map Prod.snd) (e.fs.map Prod.snd))
theorem XnOk.mono {mg : Str → Option Value} {K : PySem.W.Frag} {F F' : Hp} {e : Xn} {cls : Value} {d : Option Addr} (s : Same F F') (h : XnOk mg K F e cls d) : XnOk mg K F' e cls d := by
  obtain ⟨h1, h2 | ⟨hn, dd, vs, a, b, c, g⟩⟩ := h
  · exact ⟨h1, .inl h2⟩
  · exact ⟨h1, .inr ⟨hn, dd, vs, a, s _ _ b, c, dpa_mono s g⟩⟩

/-! ### what a reading computes -/
section
variable (mg : Str → Option Value) (K : PySem.W.Frag) (W : WX)
def ExOk (F0 H0 F H : Hp) (σ : L2.St) (env : En) (e : Xn) (env' : En) : Prop := ∀ F' H' cls d, Gm F H σ env F' H' env' → Sta K F0 H0 F' H' σ env' → XnOk mg K F' e cls d → W cls d σ H'
def EmOk (F0 H0 F H : Hp) (σ : L2.St) (env : En) (Q : VK) : Ans R → Prop
  | .ok r env' => ∀ F' H' v, Gm F H σ env F' H' env' → Sta K F0 H0 F' H' σ env' → RepR K F' H H' v r → Q v H'
  | .ex e env' => ExOk mg K W F0 H0 F H σ env e env'
def TmOk (F0 H0 F H : Hp) (σ : L2.St) (env : En) (Q : Bool → Hp → Prop) : Ans Bool → Prop
  | .ok b env' => ∀ F' H', Gm F H σ env F' H' env' → Sta K F0 H0 F' H' σ env' → Q b H'
  | .ex e env' => ExOk mg K W F0 H0 F H σ env e env'
def AmOk (F0 H0 F H : Hp) (σ : L2.St) (env : En) (Q : List V → Hp → Prop) : Ans (List PyData) → Prop
  | .ok ds env' => ∀ F' H' vs, Gm F H σ env F' H' env' → Sta K F0 H0 F' H' σ env' → DpAll K F' vs ds → Q vs H'
  | .ex e env' => ExOk mg K W F0 H0 F H σ env e env'
def DEM (te : TE) (f : EM) : Prop := ∀ (F0 H0 F H : Hp) (σ : L2.St) (env : En) (a : Ans R), Sta K F0 H0 F H σ env → f env = some a → ∀ Q : VK, EmOk mg K W F0 H0 F H σ env Q a → te σ H Q
def DTM (tt : TT) (f : TM) : Prop := ∀ (F0 H0 F H : Hp) (σ : L2.St) (env : En) (a : Ans Bool), Sta K F0 H0 F H σ env → f env = some a → ∀ Q : Bool → Hp → Prop, TmOk mg K W F0 H0 F H σ env Q a → tt σ H Q
def DAM (ta : TA) (f : AM) : Prop := ∀ (F0 H0 F H : Hp) (σ : L2.St) (env : En) (a : Ans (List PyData)), Sta K F0 H0 F H σ env → f env = some a → ∀ Q : List V → Hp → Prop, AmOk mg K W F0 H0 F H σ env Q a → ta σ H Q
end
section
variable {mg : Str → Option Value} {K : PySem.W.Frag} {W : WX} {F0 H0 F H : Hp} {σ : L2.St} {env : En}
theorem ExOk.on {F1 H1 : Hp} {env1 env' : En} {e : Xn} (g : Gm F H σ env F1 H1 env1) (h : ExOk mg K W F0 H0 F H σ env e env') : ExOk mg K W F0 H0 F1 H1 σ env1 e env' := fun F' H' cls d g1 S x => h F' H' cls d (g.trans g1) S x
/-- an expression, frozen: the two ways out -/
theorem DEM.z {te : TE} {f : EM} (h : DEM mg K W te f) (S : Sta K F0 H0 F H σ env) {r : R} {env' : En} (e : f env = some (.ok r env')) {Q : VK} (q : ∀ F' H' v, Gm F H σ env F' H' env' → Sta K F0 H0 F' H' σ env' → Dp K F' v r.frz → Q v H') : te σ H Q :=
  h F0 H0 F H σ env _ S e Q fun F' H' v g S' rr => by
    obtain ⟨F2, s, i, n, d⟩ := rr.frzM S'.fh g.d
    exact q F2 H' v (g.refreeze s n) (S'.refreeze s i S.bh (g.ownIn S.s.ownIn) n) d
theorem DEM.x {te : TE} {f : EM} (h : DEM mg K W te f) (S : Sta K F0 H0 F H σ env) {x : Xn} {env' : En} (e : f env = some (.ex x env')) {Q : VK} (q : ExOk mg K W F0 H0 F H σ env x env') : te σ H Q := h F0 H0 F H σ env _ S e Q q
theorem bMd {α β : Type} {m : Option (Ans α)} {k : α → En → Option (Ans β)} {a : Ans β} (h : bM m k = some a) : (∃ x e, m = some (.ok x e) ∧ k x e = some a) ∨ ∃ x e, m = some (.ex x e) ∧ a = .ex x e := by
  cases m with
  | none => cases h
  | some z =>
    cases z with
    | ok x e => exact .inl ⟨x, e, rfl, h⟩
    | ex x e =>
      cases h
      exact .inr ⟨x, e, rfl, rfl⟩
/-- nothing changes -/
@[simp] def mP (f : EF) : EM := fun env => (f env).bind fun r => some (.ok r env)
@[simp] def mPT (f : TF) : TM := fun env => (f env).bind fun r => some (.ok r env)
@[simp] def mPA (f : AF) : AM := fun env => (f env).bind fun r => some (.ok r env)
theorem dem_p {te : TE} {f : EF} (h : DE K te f) : DEM mg K W te (mP f) := fun F0 H0 F H σ env a S e Q q => by
  obtain ⟨r, er, e⟩ := bnd e
  cases e
  exact h.at S er fun F' H' v g rr => q F' H' v (.of g) (S.grow g) rr
theorem dtm_p {te : TT} {f : TF} (h : DT K te f) : DTM mg K W te (mPT f) := fun F0 H0 F H σ env a S e Q q => by
  obtain ⟨r, er, e⟩ := bnd e
  cases e
  exact h H0 F H σ env r S.s S.fh S.bh er Q fun F' H' g => q F' H' (.of g) (S.grow g)
theorem dam_p {te : TA} {f : AF} (h : DA K te f) : DAM mg K W te (mPA f) := fun F0 H0 F H σ env a S e Q q => by
  obtain ⟨r, er, e⟩ := bnd e
  cases e
  exact h H0 F H σ env r S.s S.fh S.bh er Q fun F' H' vs g d => q F' H' vs (.of g) (S.grow g) d
@[simp] def mBin (g : PyData → PyData → Option R) (f1 f2 : EM) : EM := fun env => bM (f1 env) fun a e1 => bM (f2 e1) fun b e2 => (g a.frz b.frz).bind fun r => some (.ok r e2)
@[simp] def mUn (g : PyData → Option R) (f : EM) : EM := fun env => bM (f env) fun a e1 => (g a.frz).bind fun r => some (.ok r e1)
theorem dem_bin {r : R2} {g : PyData → PyData → Option R} {ta tb : TE} {f1 f2 : EM} (hr : RVD K r g) (h1 : DEM mg K W ta f1) (h2 : DEM mg K W tb f2) : DEM mg K W (tOp r ta tb) (mBin g f1 f2) := fun F0 H0 F H σ env ans S e Q q => by
  rcases bMd e with ⟨a, e1, ea, e⟩ | ⟨x, e1, ea, rfl⟩
  case inr => exact h1.x S ea q
  refine h1.z S ea fun F1 H1 x g1 S1 d1 => ?_
  rcases bMd e with ⟨b, e2, eb, e⟩ | ⟨x, e2, eb, rfl⟩
  case inr => exact h2.x S1 eb (ExOk.on g1 q)
  obtain ⟨r', er, e⟩ := bnd e
  cases e
  refine h2.z S1 eb fun F2 H2 y g2 S2 d2 => ?_
  refine hr F2 H2 x y _ _ r' S2.fh (dp_mono g2.f d1) d2 er Q fun F3 H3 v g3 rr => ?_
  exact q F3 H3 v ((g1.trans g2).trans (.of g3)) (S2.grow g3) (rr.backM fun a h => g2.d a (g1.d a h))
theorem dem_un {r : V → Hp → VK → Prop} {g : PyData → Option R} {ta : TE} {f : EM} (hr : RUD K r g) (h1 : DEM mg K W ta f) : DEM mg K W (tUn r ta) (mUn g f) := fun F0 H0 F H σ env ans S e Q q => by
  rcases bMd e with ⟨a, e1, ea, e⟩ | ⟨x, e1, ea, rfl⟩
  case inr => exact h1.x S ea q
  obtain ⟨r', er, e⟩ := bnd e
  cases e
  refine h1.z S ea fun F1 H1 x g1 S1 d1 => ?_
  exact hr F1 H1 x _ r' S1.fh d1 er Q fun F3 H3 v g3 rr => q F3 H3 v (g1.trans (.of g3)) (S1.grow g3) (rr.backM g1.d)
@[simp] def mCons (f : EM) (t : AM) : AM := fun env => bM (f env) fun a e1 => bM (t e1) fun ds e2 => some (.ok (a.frz :: ds) e2)
theorem dam_cons {te : TE} {t : TA} {f : EM} {g : AM} (h1 : DEM mg K W te f) (h2 : DAM mg K W t g) : DAM mg K W (tCons te t) (mCons f g) := fun F0 H0 F H σ env ans S e Q q => by
  rcases bMd e with ⟨a, e1, ea, e⟩ | ⟨x, e1, ea, rfl⟩
  case inr => exact h1.x S ea q
  refine h1.z S ea fun F1 H1 x g1 S1 d1 => ?_
  rcases bMd e with ⟨b, e2, eb, e⟩ | ⟨x, e2, eb, rfl⟩
  case inr => exact h2 F0 H0 F1 H1 σ e1 _ S1 eb _ (ExOk.on g1 q)
  cases e
  exact h2 F0 H0 F1 H1 σ e1 _ S1 eb _ fun F2 H2 vs g2 S2 d2 => q F2 H2 (x :: vs) (g1.trans g2) S2 (.cons (dp_mono g2.f d1) d2)
/-- new objects made of arguments -/
theorem DAM.run {t : TA} {g : AM} (h : DAM mg K W t g) (S : Sta K F0 H0 F H σ env) {ds : List PyData} {e1 : En} (e : g env = some (.ok ds e1)) {Q : List V → Hp → Prop} (q : ∀ F' H' vs, Gm F H σ env F' H' e1 → Sta K F0 H0 F' H' σ e1 → DpAll K F' vs ds → Q vs H') : t σ H Q := h F0 H0 F H σ env _ S e Q q
@[simp] noncomputable def mTup (t : AM) : EM := fun env => bM (t env) fun ds e1 => if Few ds.length then some (.ok (.val (.tuple ds)) e1) else none
@[simp] noncomputable def mLst (t : AM) : EM := fun env => bM (t env) fun ds e1 => if Few ds.length then some (.ok (.own ds) e1) else none
theorem dem_tup {t : TA} {g : AM} (h : DAM mg K W t g) : DEM mg K W (tTup t) (mTup g) := fun F0 H0 F H σ env ans S e Q q => by
  rcases bMd e with ⟨ds, e1, ea, e⟩ | ⟨x, e1, ea, rfl⟩
  case inr => exact h F0 H0 F H σ env _ S ea _ q
  split at e
  · rename_i hl
    cases e
    refine h.run S ea fun F1 H1 vs g1 S1 d1 => ⟨by rw [DpAll.len d1]; exact sz1000 hl, fun p hp => ?_⟩
    have hf : F1 p = none := S1.fh.free hp
    have g2 : Grow F1 H1 (upd F1 p (.tup vs)) (upd H1 p (.tup vs)) := (Grow.new S1.fh hp).frz hp hf upd_same
    exact q _ _ _ (g1.trans (.of g2)) (S1.grow g2) (.tup (.inl (.inl upd_same)) (dpa_mono (same_upd hf) d1))
  · cases e
theorem dem_lst {t : TA} {g : AM} (h : DAM mg K W t g) : DEM mg K W (tLst t) (mLst g) := fun F0 H0 F H σ env ans S e Q q => by
  rcases bMd e with ⟨ds, e1, ea, e⟩ | ⟨x, e1, ea, rfl⟩
  case inr => exact h F0 H0 F H σ env _ S ea _ q
  split at e
  · rename_i hl
    cases e
    refine h.run S ea fun F1 H1 vs g1 S1 d1 => ⟨by rw [DpAll.len d1]; exact sz1000 hl, fun p hp => ?_⟩
    have g2 : Grow F1 H1 F1 (upd H1 p (.lst vs)) := Grow.new S1.fh hp
    exact q _ _ _ (g1.trans (.of g2)) (S1.grow g2) ⟨p, vs, rfl, S1.fh.free hp, g1.gone hp, upd_same, d1⟩
  · cases e
@[simp] def mCall (g : List PyData → Option R) (t : AM) : EM := fun env => bM (t env) fun ds e1 => (g ds).bind fun r => some (.ok r e1)
theorem dem_cb {r : List V → Hp → VK → Prop} {g : List PyData → Option R} {t : TA} {a : AM} (hr : RCD K r g) (h : DAM mg K W t a) : DEM mg K W (tCB r t) (mCall g a) := fun F0 H0 F H σ env ans S e Q q => by
  rcases bMd e with ⟨ds, e1, ea, e⟩ | ⟨x, e1, ea, rfl⟩
  case inr => exact h F0 H0 F H σ env _ S ea _ q
  obtain ⟨r', er, e⟩ := bnd e
  cases e
  refine h.run S ea fun F1 H1 vs g1 S1 d1 => ?_
  exact hr F1 H1 vs ds r' S1.fh d1 er Q fun F3 H3 v g3 rr => q F3 H3 v (g1.trans (.of g3)) (S1.grow g3) (rr.backM g1.d)
theorem dem_call {n : Nat} {g : List PyData → Option R} {t : TA} {af : AM} (hn : ∀ ds r, g ds = some r → ds.length = n) (h : DAM mg K W t af) : DEM mg K W (L2.tCall (spD K n g) [] E0 t) (mCall g af) := fun F0 H0 F H σ env ans S e Q q => by
  rcases bMd e with ⟨ds, e1, ea, e⟩ | ⟨x, e1, ea, rfl⟩
  case inr => exact h F0 H0 F H σ env _ S ea _ q
  obtain ⟨r', er, e⟩ := bnd e
  cases e
  refine h.run S ea fun F1 H1 vs g1 S1 d1 => ?_
  rw [List.append_nil]
  exact ⟨by rw [DpAll.len d1, hn _ _ er], F1, ds, r', S1.fh, d1, er, fun F2 H2 v g2 rr => q F2 H2 v (g1.trans (.of g2)) (S1.grow g2) (rr.backM g1.d)⟩
/-! tests -/
@[simp] def mTE (f : EM) : TM := fun env => bM (f env) fun a e1 => (toB a.frz).bind fun b => some (.ok b e1)
@[simp] def mAnd (f g : TM) : TM := fun env => bM (f env) fun a e1 => if a = true then g e1 else some (.ok false e1)
@[simp] def mOr (f g : TM) : TM := fun env => bM (f env) fun a e1 => if a = true then some (.ok true e1) else g e1
@[simp] def mNot (f : TM) : TM := fun env => bM (f env) fun a e1 => some (.ok (!a) e1)
@[simp] def mT (f : TM) : EM := fun env => bM (f env) fun b e1 => some (.ok (.val (.bool b)) e1)
@[simp] def mIf (c : TM) (f g : EM) : EM := fun env => bM (c env) fun b e1 => if b = true then f e1 else g e1
theorem dtm_test {te : TE} {f : EM} (h : DEM mg K W te f) : DTM mg K W (tTest te) (mTE f) := fun F0 H0 F H σ env ans S e Q q => by
  rcases bMd e with ⟨a, e1, ea, e⟩ | ⟨x, e1, ea, rfl⟩
  case inr => exact h.x S ea q
  obtain ⟨b, eb, e⟩ := bnd e
  cases e
  refine h.z S ea fun F1 H1 x g1 S1 d1 => ?_
  rw [toB_some eb] at d1
  cases d1
  exact ⟨b, rfl, q F1 H1 g1 S1⟩
theorem dtm_B {te : TE} {f : EM} (h : DEM mg K W te f) : DTM mg K W (tB te) (mTE f) := dtm_test h
theorem TmOk.on {F1 H1 : Hp} {env1 : En} {a : Ans Bool} {Q : Bool → Hp → Prop} (g : Gm F H σ env F1 H1 env1) (h : TmOk mg K W F0 H0 F H σ env Q a) : TmOk mg K W F0 H0 F1 H1 σ env1 Q a := by
  cases a with
  | ok b e => exact fun F' H' g' S' => h F' H' (g.trans g') S'
  | ex x e => exact ExOk.on g h
theorem EmOk.on {F1 H1 : Hp} {env1 : En} {a : Ans R} {Q : VK} (g : Gm F H σ env F1 H1 env1) (h : EmOk mg K W F0 H0 F H σ env Q a) : EmOk mg K W F0 H0 F1 H1 σ env1 Q a := by
  cases a with
  | ok b e => exact fun F' H' v g' S' rr => h F' H' v (g.trans g') S' (rr.backM g.d)
  | ex x e => exact ExOk.on g h
theorem dtm_and {t u : TT} {f g : TM} (h1 : DTM mg K W t f) (h2 : DTM mg K W u g) : DTM mg K W (tAnd t u) (mAnd f g) := fun F0 H0 F H σ env ans S e Q q => by
  rcases bMd e with ⟨a, e1, ea, e⟩ | ⟨x, e1, ea, rfl⟩
  case inr => exact h1 F0 H0 F H σ env _ S ea _ q
  refine h1 F0 H0 F H σ env _ S ea _ fun F1 H1 g1 S1 => ?_
  cases a with
  | true => exact iteT (h2 F0 H0 F1 H1 σ e1 _ S1 e Q (q.on g1))
  | false =>
    cases e
    exact iteF (q F1 H1 g1 S1)
theorem dtm_or {t u : TT} {f g : TM} (h1 : DTM mg K W t f) (h2 : DTM mg K W u g) : DTM mg K W (tOr t u) (mOr f g) := fun F0 H0 F H σ env ans S e Q q => by
  rcases bMd e with ⟨a, e1, ea, e⟩ | ⟨x, e1, ea, rfl⟩
  case inr => exact h1 F0 H0 F H σ env _ S ea _ q
  refine h1 F0 H0 F H σ env _ S ea _ fun F1 H1 g1 S1 => ?_
  cases a with
  | false => exact iteF (h2 F0 H0 F1 H1 σ e1 _ S1 e Q (q.on g1))
  | true =>
    cases e
    exact iteT (q F1 H1 g1 S1)
theorem dtm_not {t : TT} {f : TM} (h1 : DTM mg K W t f) : DTM mg K W (tNot t) (mNot f) := fun F0 H0 F H σ env ans S e Q q => by
  rcases bMd e with ⟨a, e1, ea, e⟩ | ⟨x, e1, ea, rfl⟩
  case inr => exact h1 F0 H0 F H σ env _ S ea _ q
  cases e
  exact h1 F0 H0 F H σ env _ S ea _ fun F1 H1 g1 S1 => q F1 H1 g1 S1
theorem dem_ifE {c : TT} {ta tb : TE} {t : TM} {f g : EM} (hc : DTM mg K W c t) (h1 : DEM mg K W ta f) (h2 : DEM mg K W tb g) : DEM mg K W (tIf c ta tb) (mIf t f g) := fun F0 H0 F H σ env ans S e Q q => by
  rcases bMd e with ⟨a, e1, ea, e⟩ | ⟨x, e1, ea, rfl⟩
  case inr => exact hc F0 H0 F H σ env _ S ea _ q
  refine hc F0 H0 F H σ env _ S ea _ fun F1 H1 g1 S1 => ?_
  cases a with
  | true => exact iteT (h1 F0 H0 F1 H1 σ e1 _ S1 e Q (q.on g1))
  | false => exact iteF (h2 F0 H0 F1 H1 σ e1 _ S1 e Q (q.on g1))
theorem dem_andV {ta tb : TE} {f g : EM} (h1 : DEM mg K W ta f) (h2 : DEM mg K W tb g) : DEM mg K W (tAndV ta tb) (mIf (mTE f) g (mP (eC (.bool false)))) := fun F0 H0 F H σ env ans S e Q q => by
  rcases bMd e with ⟨a, e1, ea, e⟩ | ⟨x, e1, ea, rfl⟩
  case inr =>
    rcases bMd ea with ⟨b, e2, eb, ea⟩ | ⟨x', e2, eb, ez⟩
    · obtain ⟨c, _, ea⟩ := bnd ea
      cases ea
    · cases ez
      exact h1.x S eb q
  rcases bMd ea with ⟨b, e2, eb, ea⟩ | ⟨x', e2, eb, ez⟩
  case inr => cases ez
  obtain ⟨c, ec, ea⟩ := bnd ea
  cases ea
  refine h1.z S eb fun F1 H1 x g1 S1 d1 => ?_
  rw [toB_some ec] at d1
  cases d1
  refine ⟨a, rfl, ?_⟩
  cases a with
  | true => exact iteT (h2 F0 H0 F1 H1 σ e1 _ S1 e Q (q.on g1))
  | false =>
    cases e
    exact iteF (q F1 H1 _ g1 S1 (.bl false))
theorem dem_orV {ta tb : TE} {f g : EM} (h1 : DEM mg K W ta f) (h2 : DEM mg K W tb g) : DEM mg K W (tOrV ta tb) (mIf (mTE f) (mP (eC (.bool true))) g) := fun F0 H0 F H σ env ans S e Q q => by
  rcases bMd e with ⟨a, e1, ea, e⟩ | ⟨x, e1, ea, rfl⟩
  case inr =>
    rcases bMd ea with ⟨b, e2, eb, ea⟩ | ⟨x', e2, eb, ez⟩
    · obtain ⟨c, _, ea⟩ := bnd ea
      cases ea
    · cases ez
      exact h1.x S eb q
  rcases bMd ea with ⟨b, e2, eb, ea⟩ | ⟨x', e2, eb, ez⟩
  case inr => cases ez
  obtain ⟨c, ec, ea⟩ := bnd ea
  cases ea
  refine h1.z S eb fun F1 H1 x g1 S1 d1 => ?_
  rw [toB_some ec] at d1
  cases d1
  refine ⟨a, rfl, ?_⟩
  cases a with
  | false => exact iteF (h2 F0 H0 F1 H1 σ e1 _ S1 e Q (q.on g1))
  | true =>
    cases e
    exact iteT (q F1 H1 _ g1 S1 (.bl true))
theorem dem_notV {ta : TE} {f : EM} (h1 : DEM mg K W ta f) : DEM mg K W (tNotV ta) (mT (mNot (mTE f))) := fun F0 H0 F H σ env ans S e Q q => by
  rcases bMd e with ⟨a, e1, ea, e⟩ | ⟨x, e1, ea, rfl⟩
  case inr =>
    rcases bMd ea with ⟨b, e2, eb, ea⟩ | ⟨x', e2, eb, ez⟩
    · cases ea
    · cases ez
      rcases bMd eb with ⟨b, e2, eb, ea⟩ | ⟨x', e2, eb, ez⟩
      · obtain ⟨c, _, ea⟩ := bnd ea
        cases ea
      · cases ez
        exact h1.x S eb q
  cases e
  rcases bMd ea with ⟨b, e2, eb, ea⟩ | ⟨x', e2, eb, ez⟩
  case inr => cases ez
  cases ea
  rcases bMd eb with ⟨b, e2, eb, ea⟩ | ⟨x', e2, eb, ez⟩
  case inr => cases ez
  obtain ⟨c, ec, ea⟩ := bnd ea
  cases ea
  refine h1.z S eb fun F1 H1 x g1 S1 d1 => ?_
  rw [toB_some ec] at d1
  cases d1
  exact ⟨_, rfl, q F1 H1 _ g1 S1 (.bl _)⟩
end
end Dn
/-! Ds2: statements that change an owned list by a def, or raise. -/
namespace Dn
open PySem PySem.Spec PyProof.Rows L2
inductive OutM where
  | nx (env : En)
  | rt (r : R) (o : Option En)
  | bk (env : En)
  | ct (env : En)
  | ex (e : Xn) (env : En)
abbrev SFm := En → Option OutM
/-- the slots of I hold what they held -/
def Pin (I : List Nat) (z : Nat → Option (Option V)) (σ : L2.St) : Prop := ∀ i ∈ I, σ[i]? = z i
def Apart (σ : L2.St) (env : En) (v : V) (r : R) : Prop := ∀ (k : Nat) (es ds : List PyData), r = .own ds → env[k]? = some (.own es) → σ[k]? ≠ some (some v)
section
variable (mg : Str → Option Value) (K : PySem.W.Frag) (W : WX) (I : List Nat)
def EndOkM (z : Nat → Option (Option V)) (F0 H0 G : Hp) (D : Ends) : OutM → Prop
  | .nx env => ∀ F H σ, Same G F → Sta K F0 H0 F H σ env → Pin I z σ → D.nx σ H
  | .rt r none => ∀ F H v, Grow F0 H0 F H → RepR K F H0 H v r → D.rt v H
  | .rt r (some env) => ∀ F H σ v, Sta K F0 H0 F H σ env → Pin I z σ → RepR K F H0 H v r → Apart σ env v r → D.rt v H
  | .bk env => ∀ F H σ, Same G F → Sta K F0 H0 F H σ env → Pin I z σ → D.bk σ H
  | .ct env => ∀ F H σ, Same G F → Sta K F0 H0 F H σ env → Pin I z σ → D.ct σ H
  | .ex e env => ∀ F H σ cls d, Same G F → Sta K F0 H0 F H σ env → Pin I z σ → XnOk mg K F e cls d → W cls d σ H
def DSM (ts : TS) (f : SFm) : Prop := ∀ (z : Nat → Option (Option V)) (F0 H0 F H : Hp) (σ : L2.St) (env : En) (o : OutM), Sta K F0 H0 F H σ env → Pin I z σ → f env = some o → ∀ D : Ends, EndOkM mg K W I z F0 H0 F D o → ts D σ H
end
def bX {α : Type} (m : Option (Ans α)) (k : α → En → Option OutM) : Option OutM := match m with
  | some (.ok a e) => k a e
  | some (.ex x e) => some (.ex x e)
  | none => none
section
variable {α : Type} {a : α} {e : En} {x : Xn} {k : α → En → Option OutM}
@[simp] theorem bX_ok : bX (some (.ok a e)) k = k a e := rfl
@[simp] theorem bX_ex : bX (some (.ex x e)) k = some (.ex x e) := rfl
@[simp] theorem bX_no : bX none k = none := rfl
theorem bX_ite {c : Prop} [Decidable c] {x y : Option (Ans α)} : bX (if c then x else y) k = if c then bX x k else bX y k := by split <;> rfl
theorem bXd {m : Option (Ans α)} {o : OutM} (h : bX m k = some o) : (∃ x e, m = some (.ok x e) ∧ k x e = some o) ∨ ∃ x e, m = some (.ex x e) ∧ o = .ex x e := by
  cases m with
  | none => cases h
  | some z =>
    cases z with
    | ok x e => exact .inl ⟨x, e, rfl, h⟩
    | ex x e =>
      cases h
      exact .inr ⟨x, e, rfl, rfl⟩
end
def bindM (o : Option OutM) (g : SFm) : Option OutM := match o with
  | some (.nx e) => g e
  | o => o
def turnM (o : Option OutM) (k : SFm) : Option OutM := match o with
  | some (.nx e) => k e
  | some (.ct e) => k e
  | some (.bk e) => some (.nx e)
  | some (.rt r q) => some (.rt r q)
  | some (.ex x e) => some (.ex x e)
  | none => none
section
variable {g k : SFm} {e : En} {r : R} {q : Option En} {x : Xn}
@[simp] theorem bindM_nx : bindM (some (.nx e)) g = g e := rfl
@[simp] theorem bindM_rt : bindM (some (.rt r q)) g = some (.rt r q) := rfl
@[simp] theorem bindM_bk : bindM (some (.bk e)) g = some (.bk e) := rfl
@[simp] theorem bindM_ct : bindM (some (.ct e)) g = some (.ct e) := rfl
@[simp] theorem bindM_ex : bindM (some (.ex x e)) g = some (.ex x e) := rfl
@[simp] theorem bindM_no : bindM none g = none := rfl
theorem bindM_ite {c : Prop} [Decidable c] {x y : Option OutM} : bindM (if c then x else y) g = if c then bindM x g else bindM y g := by split <;> rfl
@[simp] theorem turnM_nx : turnM (some (.nx e)) k = k e := rfl
@[simp] theorem turnM_ct : turnM (some (.ct e)) k = k e := rfl
@[simp] theorem turnM_bk : turnM (some (.bk e)) k = some (.nx e) := rfl
@[simp] theorem turnM_rt : turnM (some (.rt r q)) k = some (.rt r q) := rfl
@[simp] theorem turnM_ex : turnM (some (.ex x e)) k = some (.ex x e) := rfl
@[simp] theorem turnM_no : turnM none k = none := rfl
theorem turnM_ite {c : Prop} [Decidable c] {x y : Option OutM} : turnM (if c then x else y) k = if c then turnM x k else turnM y k := by split <;> rfl
end
@[simp] def mNext : SFm := fun env => some (.nx env)
@[simp] def mSeq (f g : SFm) : SFm := fun env => bindM (f env) g
@[simp] def mRet (f : EM) : SFm := fun env => bX (f env) fun r e => some (.rt r (some e))
@[simp] def mRetN : SFm := fun env => some (.rt (.val .none) (some env))
@[simp] def mRetOwn (i : Nat) : SFm := fun env => match env[i]? with
  | some (.own ds) => some (.rt (.own ds) (some (env.set i .no)))
  | _ => none
@[simp] def mBreak : SFm := fun env => some (.bk env)
@[simp] def mCont : SFm := fun env => some (.ct env)
@[simp] def mIfS (c : TM) (f g : SFm) : SFm := fun env => bX (c env) fun b e => if b = true then f e else g e
@[simp] def mSet (i : Nat) (f : EM) : SFm := fun env => bX (f env) fun r e => some (.nx (e.set i r.sl))
@[simp] def mDrop (f : EM) : SFm := fun env => bX (f env) fun _ e => some (.nx e)
@[simp] noncomputable def mAppend (i : Nat) (f : EM) : SFm := fun env => match env[i]? with
  | some (.own _) => bX (f env) fun r e => match e[i]? with
    | some (.own ds) => if Fits (ds.length + 1) then some (.nx (e.set i (.own (ds ++ [r.frz])))) else none
    | _ => none
  | _ => none
@[simp] def mPut (i : Nat) (fi : EF) (fv : EM) : SFm := fun env => bX (fv env) fun r e => match e[i]? with
  | some (.own ds) => (fi e).bind fun k => match k.frz with
    | .int k => (ixN ds.length k).bind fun j => some (.nx (e.set i (.own (ds.set j r.frz))))
    | _ => none
  | _ => none
@[simp] def mFrz (i : Nat) (f : SFm) : SFm := fun env => f (frzAt i env)
@[simp] def mAsg (g : GF) (f : EM) : SFm := fun env => bX (f env) fun r e => (g r.frz e).bind fun e2 => some (.nx e2)
/-- a statement that changes nothing so, in a def without a state -/
def liftO : Out → OutM
  | .nx e => .nx e
  | .rt r => .rt r none
  | .bk e => .bk e
  | .ct e => .ct e
@[simp] theorem liftO_nx {e : En} : liftO (.nx e) = .nx e := rfl
@[simp] theorem liftO_rt {r : R} : liftO (.rt r) = .rt r none := rfl
@[simp] theorem liftO_bk {e : En} : liftO (.bk e) = .bk e := rfl
@[simp] theorem liftO_ct {e : En} : liftO (.ct e) = .ct e := rfl
@[simp] def mS (f : SF) : SFm := fun env => (f env).bind fun o => some (liftO o)

theorem wipe_get {σ : L2.St} {k : Nat} : ∀ {vs : List Nat}, k ∉ vs → (L2.wipe σ vs)[k]? = σ[k]?
  | [], _ => rfl
  | v :: vs, h => by
    show ((L2.wipe σ vs).set v none)[k]? = _
    rw [List.getElem?_set_ne (fun z => h (by rw [z]; exact List.mem_cons_self)), wipe_get fun z => h (List.mem_cons_of_mem _ z)]
theorem wipeD_get {env : En} {k : Nat} : ∀ {vs : List Nat}, k ∉ vs → (wipeD env vs)[k]? = env[k]?
  | [], _ => rfl
  | v :: vs, h => by
    show ((wipeD env vs).set v .no)[k]? = _
    rw [List.getElem?_set_ne (fun z => h (by rw [z]; exact List.mem_cons_self)), wipeD_get fun z => h (List.mem_cons_of_mem _ z)]
theorem wipeD_no {env : En} {k : Nat} : ∀ {vs : List Nat}, k ∈ vs → ∀ ds, (wipeD env vs)[k]? ≠ some (.own ds)
  | [], h, _ => by cases h
  | v :: vs, h, ds => by
    show ((wipeD env vs).set v .no)[k]? ≠ _
    by_cases e : v = k
    · subst e
      rw [List.getElem?_set]
      simp
    · rw [List.getElem?_set_ne e]
      exact wipeD_no (by cases h with | head => exact absurd rfl e | tail _ h => exact h) ds
section
variable {mg : Str → Option Value} {K : PySem.W.Frag} {W : WX} {I : List Nat} {z : Nat → Option (Option V)} {F0 H0 F H G : Hp} {σ : L2.St} {env : En}
theorem Pin.set {i : Nat} {v : Option V} (h : Pin I z σ) (hi : i ∉ I) : Pin I z (σ.set i v) := fun k hk => by
  rw [List.getElem?_set_ne (fun e => hi (by rw [e]; exact hk))]
  exact h k hk
theorem EndOkM.mono {G' : Hp} {D : Ends} {o : OutM} (s : Same G G') (h : EndOkM mg K W I z F0 H0 G D o) : EndOkM mg K W I z F0 H0 G' D o := by
  cases o with
  | nx env => exact fun F H σ a b c => h F H σ (s.trans a) b c
  | rt r q => cases q <;> exact h
  | bk env => exact fun F H σ a b c => h F H σ (s.trans a) b c
  | ct env => exact fun F H σ a b c => h F H σ (s.trans a) b c
  | ex e env => exact fun F H σ cls d a b c x => h F H σ cls d (s.trans a) b c x
theorem exOf {x : Xn} {e1 : En} {D : Ends} (p : Pin I z σ) (q : EndOkM mg K W I z F0 H0 F D (.ex x e1)) : ExOk mg K W F0 H0 F H σ env x e1 := fun F' H' cls d g S xx => q F' H' σ cls d g.f S p xx
theorem dsm_next : DSM mg K W I tNext mNext := fun z F0 H0 F H σ env o S p e D q => by
  cases e
  exact q F H σ (Same.refl F) S p
theorem dsm_seq {t u : TS} {f g : SFm} (h1 : DSM mg K W I t f) (h2 : DSM mg K W I u g) : DSM mg K W I (tSeq t u) (mSeq f g) := fun z F0 H0 F H σ env o S p e D q => by
  unfold mSeq at e
  cases e1 : f env with
  | none =>
    rw [e1, bindM_no] at e
    cases e
  | some o1 =>
    rw [e1] at e
    refine h1 z F0 H0 F H σ env o1 S p e1 _ ?_
    cases o1 with
    | nx env1 => exact fun F1 H1 σ1 s1 S1 p1 => h2 z F0 H0 F1 H1 σ1 env1 o S1 p1 e D (q.mono s1)
    | rt r w =>
      rw [bindM_rt] at e
      cases e
      cases w <;> exact q
    | bk env1 =>
      rw [bindM_bk] at e
      cases e
      exact q
    | ct env1 =>
      rw [bindM_ct] at e
      cases e
      exact q
    | ex x e1 =>
      rw [bindM_ex] at e
      cases e
      exact q
theorem dsm_s {ts : TS} {f : SF} (h : DS K ts f) : DSM mg K W [] ts (mS f) := fun z F0 H0 F H σ env o S p e D q => by
  obtain ⟨o', eo, e⟩ := bnd e
  cases e
  have hp : ∀ τ, Pin [] z τ := fun τ i hi => by cases hi
  refine h F0 H0 F H σ env o' S eo D ?_
  cases o' with
  | nx e => exact fun F H σ a b => q F H σ a b (hp σ)
  | rt r => exact q
  | bk e => exact fun F H σ a b => q F H σ a b (hp σ)
  | ct e => exact fun F H σ a b => q F H σ a b (hp σ)
theorem Apart.of {H' : Hp} {e' : En} {v : V} {r : R} {F' Hx : Hp} (w : OwnIn Hx σ e') (rr : RepR K F' Hx H' v r) : Apart σ e' v r := fun k es ds er e1 e2 => by
  subst er
  obtain ⟨p, xs, rfl, _, h2, _⟩ := rr
  exact w k es p e1 e2 h2
theorem dsm_ret {te : TE} {f : EM} (h : DEM mg K W te f) : DSM mg K W I (tRet te) (mRet f) := fun z F0 H0 F H σ env o S p e D q => by
  rcases bXd e with ⟨r, e1, er, e⟩ | ⟨x, e1, er, rfl⟩
  case inr => exact h.x S er (exOf p q)
  cases e
  exact h F0 H0 F H σ env _ S er D.rt fun F' H' v g S' rr => q F' H' σ v S' p (rr.backM fun a ha => same_ne S.bh ha) (.of (g.ownIn S.s.ownIn) rr)
theorem dsm_retN : DSM mg K W I tRetN mRetN := fun z F0 H0 F H σ env o S p e D q => by
  cases e
  exact q F H σ _ S p .non fun _ _ _ er => by cases er
theorem Slots.drop {B : Hp} {i : Nat} (S : Slots K B F H σ env) : Slots K B F H σ (env.set i .no) := by
  obtain ⟨l, ad, h1, h2⟩ := S
  have q : ∀ m s, (env.set i .no)[m]? = some s → s = .no ∨ (m ≠ i ∧ env[m]? = some s) := fun m s e => by
    by_cases hm : i = m
    · subst hm
      rw [List.getElem?_set] at e
      simp at e
      exact .inl e.2.symm
    · rw [List.getElem?_set_ne hm] at e
      exact .inr ⟨fun z => hm z.symm, e⟩
  refine ⟨by simp [l], ad, fun j w s e1 e2 => ?_, fun j k ds es hjk e1 e2 => ?_⟩
  · rcases q j s e2 with rfl | ⟨_, e2⟩
    · trivial
    · exact h1 j w s e1 e2
  · rcases q j _ e1 with e | ⟨_, e1⟩
    · cases e
    rcases q k _ e2 with e | ⟨_, e2⟩
    · cases e
    exact h2 j k ds es hjk e1 e2
theorem dsm_retOwn {i : Nat} : DSM mg K W I (tRet (tVar i)) (mRetOwn i) := fun z F0 H0 F H σ env o S p e D q => by
  unfold mRetOwn at e
  split at e
  · rename_i ds hd
    cases e
    obtain ⟨l, ad, h1, h2⟩ := S.s
    have hi : i < env.length := (List.getElem?_eq_some_iff.mp hd).1
    have hs : σ[i]? = some σ[i] := List.getElem?_eq_getElem (by omega)
    obtain ⟨xs, c1, c0, c2, c3, c4⟩ := h1 i _ _ hs hd
    refine ⟨_, by rw [hs, c1], q F H σ _ ⟨S.g, S.s.drop⟩ p ⟨ad i, xs, rfl, c2, c0, c3, c4⟩ fun k es ds' er e1 e2 => ?_⟩
    by_cases hk : i = k
    · subst hk
      rw [List.getElem?_set] at e1
      simp at e1
    · rw [List.getElem?_set_ne hk] at e1
      have hk2 : k < env.length := (List.getElem?_eq_some_iff.mp e1).1
      have hs2 : σ[k]? = some σ[k] := List.getElem?_eq_getElem (by omega)
      obtain ⟨ys, d1, _⟩ := h1 k _ _ hs2 e1
      rw [hs2, d1] at e2
      injection e2 with e2
      injection e2 with e2
      injection e2 with e2
      exact h2 k i _ _ (fun z => hk z.symm) e1 hd e2
  · cases e
theorem dsm_break : DSM mg K W I tBreak mBreak := fun z F0 H0 F H σ env o S p e D q => by
  cases e
  exact q F H σ (Same.refl F) S p
theorem dsm_cont : DSM mg K W I tCont mCont := fun z F0 H0 F H σ env o S p e D q => by
  cases e
  exact q F H σ (Same.refl F) S p
theorem dsm_if {c : TT} {t u : TS} {b : TM} {f g : SFm} (hc : DTM mg K W c b) (h1 : DSM mg K W I t f) (h2 : DSM mg K W I u g) : DSM mg K W I (tIfS c t u) (mIfS b f g) := fun z F0 H0 F H σ env o S p e D q => by
  rcases bXd e with ⟨a, e1, er, e⟩ | ⟨x, e1, er, rfl⟩
  case inr => exact hc F0 H0 F H σ env _ S er _ (exOf p q)
  refine hc F0 H0 F H σ env _ S er _ fun F1 H1 g1 S1 => ?_
  cases a with
  | true => exact iteT (h1 z F0 H0 F1 H1 σ e1 o S1 p e D (q.mono g1.f))
  | false => exact iteF (h2 z F0 H0 F1 H1 σ e1 o S1 p e D (q.mono g1.f))
theorem Sta.putM {F' H' : Hp} {env' : En} {i : Nat} {v : V} {r : R} (S : Sta K F0 H0 F H σ env) (g : Gm F H σ env F' H' env') (S' : Sta K F0 H0 F' H' σ env') (rr : RepR K F' H H' v r) : Sta K F0 H0 F' H' (σ.set i (some v)) (env'.set i r.sl) :=
  ⟨S'.g, S'.s.putM S.bh (g.ownIn S.s.ownIn) rr⟩
theorem dsm_set {te : TE} {f : EM} {i : Nat} (h : DEM mg K W te f) (hi : i ∉ I := by decide) : DSM mg K W I (tAsg te (gName i)) (mSet i f) := fun z F0 H0 F H σ env o S p e D q => by
  rcases bXd e with ⟨r, e1, er, e⟩ | ⟨x, e1, er, rfl⟩
  case inr => exact h.x S er (exOf p q)
  cases e
  exact h F0 H0 F H σ env _ S er _ fun F' H' v g S' rr => q F' H' _ g.f (S.putM g S' rr) (p.set hi)
theorem dsm_drop {te : TE} {f : EM} (h : DEM mg K W te f) : DSM mg K W I (tDrop te) (mDrop f) := fun z F0 H0 F H σ env o S p e D q => by
  rcases bXd e with ⟨r, e1, er, e⟩ | ⟨x, e1, er, rfl⟩
  case inr => exact h.x S er (exOf p q)
  cases e
  exact h F0 H0 F H σ env _ S er _ fun F' H' v g S' rr => q F' H' _ g.f S' p
theorem dsm_append {te : TE} {f : EM} {i : Nat} (h : DEM mg K W te f) : DSM mg K W I (tDrop (tBM K "list" rAppend (tVar i) (tCons te tNil))) (mAppend i f) := fun z F0 H0 F H σ env o S p e D q => by
  unfold mAppend at e
  split at e
  case h_2 => cases e
  rename_i ds0 hd0
  obtain ⟨p0, xs0, h1, _, _, h3, _⟩ := S.s.own hd0
  refine ⟨_, h1, Or.inl ⟨rfl, _, .inl (.inl h3)⟩, ?_⟩
  rcases bXd e with ⟨r, e1, er, e⟩ | ⟨x, e1, er, rfl⟩
  case inr => exact h.x S er (exOf p q)
  split at e
  case h_2 => cases e
  rename_i ds hd
  split at e
  case isFalse => cases e
  rename_i hl
  cases e
  refine h.z S er fun F' H' v g S' dv => ?_
  obtain ⟨p1, xs, k1, _, k2, k3, k4⟩ := S'.s.own hd
  rw [h1] at k1
  cases k1
  refine ⟨p0, xs, v, rfl, rfl, k3, by rw [DpAll.len k4]; exact Nat.lt_of_lt_of_le hl (by decide), ?_⟩
  exact q F' _ _ g.f (S'.turn hd h1 (DpAll.app k4 (.cons dv .nil))) p
theorem dsm_put {te ti : TE} {fi : EF} {fv : EM} {i : Nat} (hv : DEM mg K W te fv) (hi : DE K ti fi) : DSM mg K W I (tAsg te (L2.gSub (tVar i) ti rSetL)) (mPut i fi fv) := fun z F0 H0 F H σ env o S p e D q => by
  rcases bXd e with ⟨r, e1, er, e⟩ | ⟨x, e1, er, rfl⟩
  case inr => exact hv.x S er (exOf p q)
  split at e
  case h_2 => cases e
  rename_i ds hd
  obtain ⟨k, ek, e⟩ := bnd e
  split at e
  case h_2 => cases e
  rename_i k' hk
  obtain ⟨j, ej, e⟩ := bnd e
  cases e
  refine hv.z S er fun F1 H1 v g1 S1 dv => ?_
  obtain ⟨p0, xs, h1, h0, h2, h3, h4⟩ := S1.s.own hd
  refine ⟨_, h1, ?_⟩
  refine hi.atZ S1 ek fun F2 H2 kv g2 dk => ?_
  have S2 := S1.grow g2
  rw [hk] at dk
  cases dk
  refine ⟨p0, xs, _, j, rfl, rfl, g2.h _ _ h3, by rw [DpAll.len h4]; exact ej, ?_⟩
  exact q F2 _ _ (g1.f.trans g2.f) (S2.turn hd h1 (DpAll.set j (dpa_mono g2.f h4) (dp_mono g2.f dv))) p
end
end Dn
/-! Ds3: targets, loops, comprehensions whose parts change an owned list by a def, or raise. -/
namespace Dn
open PySem PySem.Spec PyProof.Rows L2
/-- what a target stores into -/
def GO (ws : List Nat) (g : GF) : Prop := ∀ (d : PyData) (env env' : En), g d env = some env' → (∀ k, k ∉ ws → env'[k]? = env[k]?) ∧ ∀ k ∈ ws, ∀ ds, env'[k]? ≠ some (.own ds)
theorem set_own {env : En} {i k : Nat} {d : PyData} {ds : List PyData} (h : (env.set i (.val d))[k]? = some (.own ds)) : k ≠ i ∧ env[k]? = some (.own ds) := by
  by_cases e : i = k
  · subst e
    rw [List.getElem?_set] at h
    simp at h
  · rw [List.getElem?_set_ne e] at h
    exact ⟨fun z => e z.symm, h⟩
theorem go_name {i : Nat} : GO [i] (gtName i) := fun d env env' e => by
  cases e
  refine ⟨fun k hk => List.getElem?_set_ne (fun z => hk (by simp [z])), fun k hk ds h => ?_⟩
  cases List.mem_singleton.mp hk
  exact (set_own h).1 rfl
theorem go_tup2 {i j : Nat} : GO [i, j] (gtTup2 i j) := fun d env env' e => by
  unfold gtTup2 at e
  split at e
  · cases e
    refine ⟨fun k hk => ?_, fun k hk ds h => ?_⟩
    · rw [List.getElem?_set_ne (fun z => hk (by simp [z])), List.getElem?_set_ne (fun z => hk (by simp [z]))]
    · obtain ⟨h1, h⟩ := set_own h
      obtain ⟨h2, h⟩ := set_own h
      simp at hk
      omega
  · cases e
theorem go_tup3 {i j l : Nat} : GO [i, j, l] (gtTup3 i j l) := fun d env env' e => by
  unfold gtTup3 at e
  split at e
  · cases e
    refine ⟨fun k hk => ?_, fun k hk ds h => ?_⟩
    · rw [List.getElem?_set_ne (fun z => hk (by simp [z])), List.getElem?_set_ne (fun z => hk (by simp [z])), List.getElem?_set_ne (fun z => hk (by simp [z]))]
    · obtain ⟨h1, h⟩ := set_own h
      obtain ⟨h2, h⟩ := set_own h
      obtain ⟨h3, h⟩ := set_own h
      simp at hk
      omega
  · cases e
theorem wipe_out {σ σ' : L2.St} {ws : List Nat} (h : ∀ vs, (∀ i ∈ ws, i ∈ vs) → L2.wipe σ' vs = L2.wipe σ vs) {k : Nat} (hk : k ∉ ws) : σ'[k]? = σ[k]? := by
  have e := h ws fun _ q => q
  rw [← wipe_get (vs := ws) hk, e, wipe_get hk]
section
variable {mg : Str → Option Value} {K : PySem.W.Frag} {W : WX} {I : List Nat} {z : Nat → Option (Option V)} {F0 H0 F H G : Hp} {σ : L2.St} {env : En}
theorem Pin.out {σ' : L2.St} {ws : List Nat} (h : ∀ vs, (∀ i ∈ ws, i ∈ vs) → L2.wipe σ' vs = L2.wipe σ vs) (hw : ∀ i ∈ ws, i ∉ I) (p : Pin I z σ) : Pin I z σ' := fun i hi => by
  rw [wipe_out h fun e => hw i e hi]
  exact p i hi
theorem dsm_asg {te : TE} {f : EM} {t : TG} {g : GF} {ws : List Nat} (h : DEM mg K W te f) (hg : DG K ws t g) (hw : ∀ i ∈ ws, i ∉ I := by decide) : DSM mg K W I (tAsg te t) (mAsg g f) := fun z F0 H0 F H σ env o S p e D q => by
  rcases bXd e with ⟨r, e1, er, e⟩ | ⟨x, e1, er, rfl⟩
  case inr => exact h.x S er (exOf p q)
  obtain ⟨e2, ee, e⟩ := bnd e
  cases e
  refine h.z S er fun F' H' v g1 S' dv => hg H0 F' H' σ e1 e2 v _ S'.s S'.fh S'.bh dv ee _ fun F2 H2 σ2 g2 S2 hw2 => ?_
  exact q F2 H2 σ2 (g1.f.trans g2.f) ⟨S'.g.trans g2, S2⟩ (p.out hw2 hw)
theorem dsm_frz {t : TS} {f : SFm} {i : Nat} (h : DSM mg K W I t f) : DSM mg K W I t (mFrz i f) := fun z F0 H0 F H σ env o S p e D q => by
  unfold mFrz frzAt at e
  split at e
  · rename_i ds hd
    obtain ⟨F', a, b, c, d⟩ := S.s.freeze S.fh hd
    exact h z F0 H0 F' H σ _ o ⟨⟨S.g.f.trans a, S.g.h, b, fun x hx hf => c x hx (S.g.n x hx hf)⟩, d⟩ p e D (q.mono a)
  · exact h z F0 H0 F H σ _ o S p e D q
@[simp] def mPar (i j : Nat) (t : AM) : SFm := fun env => bX (t env) fun ds e => match ds with
  | [a, b] => some (.nx ((e.set i (.val a)).set j (.val b)))
  | _ => none
theorem dsm_par {i j : Nat} {t : TA} {af : AM} (h : DAM mg K W t af) (hi : i ∉ I := by decide) (hj : j ∉ I := by decide) : DSM mg K W I (tPar i j t) (mPar i j af) := fun z F0 H0 F H σ env o S p e D q => by
  rcases bXd e with ⟨ds, e1, ea, e⟩ | ⟨x, e1, er, rfl⟩
  case inr => exact h F0 H0 F H σ env _ S er _ (exOf p q)
  split at e
  case h_2 => cases e
  rename_i a b
  cases e
  refine h.run S ea fun F1 H1 vs g S1 d1 => ?_
  obtain ⟨v, w, rfl, d1, d2⟩ := dpa2 d1
  refine ⟨v, w, rfl, q F1 H1 _ g.f ⟨S1.g, ?_⟩ ((p.set hi).set hj)⟩
  exact ((S1.s.put (r := .val a) S1.bh (Grow.refl S1.g.i) d1).put (r := .val b) S1.bh (Grow.refl S1.g.i) d2)
@[simp] def mAug (i : Nat) (g : PyData → PyData → Option R) (f : EM) : SFm := fun env => match env[i]? with
  | some (.val d) => bX (f env) fun r e => (g d r.frz).bind fun z => some (.nx (e.set i z.sl))
  | _ => none
theorem dsm_aug {te : TE} {f : EM} {i : Nat} {r : R2} {g : PyData → PyData → Option R} (hr : RVD K r g) (h : DEM mg K W te f) (hi : i ∉ I := by decide) : DSM mg K W I (tAug i te r) (mAug i g f) := fun z F0 H0 F H σ env o S p e D q => by
  unfold mAug at e
  split at e
  case h_2 => cases e
  rename_i d hd
  obtain ⟨v, h1, h2⟩ := S.s.val hd
  refine ⟨v, h1, ?_⟩
  rcases bXd e with ⟨a, e1, ea, e⟩ | ⟨x, e1, er, rfl⟩
  case inr => exact h.x S er (exOf p q)
  obtain ⟨z, ez, e⟩ := bnd e
  cases e
  refine h.z S ea fun F' H' y g1 S1 dy => ?_
  refine hr F' H' v y d _ z S1.fh (dp_mono g1.f h2) dy ez _ fun F2 H2 w g2 rr => ?_
  exact q F2 H2 _ (g1.f.trans g2.f) ⟨S1.g.trans g2, S1.s.put S1.bh g2 rr⟩ (p.set hi)

/-! ### what is walked -/
abbrev IM := En → Option (Ans (List PyData))
def DIM (mg : Str → Option Value) (K : PySem.W.Frag) (W : WX) (wi : TI) (f : IM) : Prop := ∀ (F0 H0 F H : Hp) (σ : L2.St) (env : En) (a : Ans (List PyData)), Sta K F0 H0 F H σ env → f env = some a → ∀ R : It → Hp → Prop,
  (match a with
    | .ok ds env' => ∀ F' H' J, Gm F H σ env F' H' env' → Sta K F0 H0 F' H' σ env' → Walks K F' J ds → R J H'
    | .ex e env' => ExOk mg K W F0 H0 F H σ env e env') → wi σ H R
@[simp] def mPI (f : IF) : IM := fun env => (f env).bind fun ds => some (.ok ds env)
theorem dim_p {wi : TI} {f : IF} (h : DI K wi f) : DIM mg K W wi (mPI f) := fun F0 H0 F H σ env a S e R q => by
  obtain ⟨ds, ed, e⟩ := bnd e
  cases e
  exact h H0 F H σ env ds S.s S.fh S.bh ed R fun F' H' J g w => q F' H' J (.of g) (S.grow g) w
@[simp] noncomputable def iR1M (t : AM) : IM := fun env => bM (t env) fun ds e => match ds with
  | [.int n] => if InR n then some (.ok (intsFrom 0 n.toNat) e) else none
  | _ => none
theorem dim_r1 {ta : TA} {t : AM} (h : DAM mg K W ta t) : DIM mg K W (iRng1 ta) (iR1M t) := fun F0 H0 F H σ env a S e R q => by
  rcases bMd e with ⟨ds, e1, ea, e⟩ | ⟨x, e1, ea, rfl⟩
  case inr => exact h F0 H0 F H σ env _ S ea _ q
  split at e
  case h_2 => cases e
  rename_i n
  split at e
  case isFalse => cases e
  rename_i hn
  cases e
  refine h.run S ea fun F1 H1 vs g S1 d => ?_
  cases d with
  | cons d1 d2 =>
    cases d1
    cases d2
    exact ⟨n, rfl, hn.1, hn.2, q F1 H1 _ g S1 (walks_rng 0 n.toNat)⟩
@[simp] def iSM (f : EM) : IM := fun env => bM (f env) fun r e => match r.frz with
  | .list ds => some (.ok ds e)
  | .tuple ds => some (.ok ds e)
  | _ => none
theorem dim_seq {ta : TE} {f : EM} (h : DEM mg K W ta f) : DIM mg K W (fun σ H R => iList K ta σ H R ∨ iTup K ta σ H R) (iSM f) := fun F0 H0 F H σ env a S e R q => by
  rcases bMd e with ⟨r, e1, ea, e⟩ | ⟨x, e1, ea, rfl⟩
  case inr => exact .inl (h.x S ea q)
  split at e
  · rename_i es he
    cases e
    refine .inl (h.z S ea fun F1 H1 v g S1 d => ?_)
    rw [he] at d
    cases d with
    | lst hs ha =>
      refine ⟨_, rfl, ⟨_, sqL_mono S1.fh hs⟩, q F1 H1 _ g S1 fun i F2 H2 s1 s2 => ?_⟩
      have hl := DpAll.len ha
      refine ⟨fun _ e => ⟨_, sqL_mono (s1.trans s2) hs, by omega⟩, fun d e => ?_⟩
      obtain ⟨w, e1, h1⟩ := DpAll.get ha e
      refine ⟨⟨_, w, sqL_mono (s1.trans s2) hs, e1⟩, fun x H3 y => ?_⟩
      obtain ⟨rfl, y⟩ := y
      have e2 := y _ (sqL_mono (s1.trans s2) hs)
      rw [e1] at e2
      cases e2
      exact ⟨F2, Grow.refl s2, dp_mono s1 h1⟩
  · rename_i es he
    cases e
    refine .inr (h.z S ea fun F1 H1 v g S1 d => ?_)
    rw [he] at d
    cases d with
    | tup hs ha =>
      refine ⟨_, rfl, ⟨_, sqT_mono S1.fh hs⟩, q F1 H1 _ g S1 fun i F2 H2 s1 s2 => ?_⟩
      have hl := DpAll.len ha
      refine ⟨fun _ e => ⟨_, sqT_mono (s1.trans s2) hs, by omega⟩, fun d e => ?_⟩
      obtain ⟨w, e1, h1⟩ := DpAll.get ha e
      refine ⟨⟨_, w, sqT_mono (s1.trans s2) hs, e1⟩, fun x H3 y => ?_⟩
      obtain ⟨rfl, y⟩ := y
      have e2 := y _ (sqT_mono (s1.trans s2) hs)
      rw [e1] at e2
      cases e2
      exact ⟨F2, Grow.refl s2, dp_mono s1 h1⟩
  · cases e
/-! ### loops -/
@[simp] def forM (g : GF) (body : SFm) : List PyData → SFm
  | [], env => some (.nx env)
  | d :: ds, env => (g d env).bind fun e1 => turnM (body e1) (forM g body ds)
@[simp] def mFor (it : IM) (g : GF) (body : SFm) : SFm := fun env => bX (it env) fun ds e => forM g body ds e
theorem dsm_for {wi : TI} {it : IM} {t : TG} {g : GF} {ws : List Nat} {tb : TS} {body : SFm} (hi : DIM mg K W wi it) (hg : DG K ws t g) (hb : DSM mg K W I tb body) (hw : ∀ i ∈ ws, i ∉ I := by decide) : DSM mg K W I (tFor wi t tb) (mFor it g body) := fun z F0 H0 F H σ env o S p e D q => by
  rcases bXd e with ⟨ds, e0, ed, e⟩ | ⟨x, e1, er, rfl⟩
  case inr => exact hi F0 H0 F H σ env _ S er _ (exOf p q)
  refine hi F0 H0 F H σ env _ S ed _ fun F1 H1 J g1 S1 wk => ?_
  refine ⟨fun i m σ2 H2 => ∃ F2 e2, Same F1 F2 ∧ Sta K F0 H0 F2 H2 σ2 e2 ∧ Pin I z σ2 ∧ forM g body (ds.drop i) e2 = some o ∧ i + m = ds.length, ⟨ds.length, F1, e0, Same.refl F1, S1, p, e, by omega⟩, ?_⟩
  rintro i m σ2 H2 ⟨F2, e2, s2, S2, p2, eq, em⟩
  obtain ⟨wn, wg⟩ := wk i F2 H2 s2 S2.fh
  cases hd : ds[i]? with
  | none =>
    have hl : ds.length ≤ i := List.getElem?_eq_none_iff.mp hd
    rw [List.drop_eq_nil_of_le hl] at eq
    cases eq
    exact .inl ⟨wn hd (by omega), q F2 H2 σ2 (g1.f.trans s2) S2 p2⟩
  | some d =>
    obtain ⟨go, yl⟩ := wg d hd
    have hi : i < ds.length := (List.getElem?_eq_some_iff.mp hd).1
    have hdr : ds.drop i = d :: ds.drop (i + 1) := by
      rw [List.drop_eq_getElem_cons hi]
      rw [List.getElem?_eq_getElem hi] at hd
      cases hd
      rfl
    rw [hdr] at eq
    obtain ⟨e3, ee, eq⟩ := bnd eq
    refine .inr ⟨go, fun σ' H' => ∃ F' e', Same F1 F' ∧ Sta K F0 H0 F' H' σ' e' ∧ Pin I z σ' ∧ forM g body (ds.drop (i + 1)) e' = some o, fun σ' H' ⟨F', e', a, b, pp, c⟩ => ⟨m - 1, by omega, F', e', a, b, pp, c, by omega⟩, fun x H' hy => ?_⟩
    obtain ⟨F3, g3, dx⟩ := yl x H' hy
    have S3 := S2.grow g3
    refine hg H0 F3 H' σ2 e2 e3 x d S3.s g3.i S3.bh dx ee _ fun F4 H4 σ4 g4 S4 hw4 => ?_
    have S5 : Sta K F0 H0 F4 H4 σ4 e3 := ⟨S3.g.trans g4, S4⟩
    have p4 : Pin I z σ4 := p2.out hw4 hw
    have s4 : Same F1 F4 := (s2.trans g3.f).trans g4.f
    cases eb : body e3 with
    | none =>
      rw [eb, turnM_no] at eq
      cases eq
    | some ob =>
      rw [eb] at eq
      refine hb z F0 H0 F4 H4 σ4 e3 ob S5 p4 eb _ ?_
      cases ob with
      | nx e4 => exact fun F5 H5 σ5 s5 S5 p5 => ⟨F5, e4, s4.trans s5, S5, p5, eq⟩
      | ct e4 => exact fun F5 H5 σ5 s5 S5 p5 => ⟨F5, e4, s4.trans s5, S5, p5, eq⟩
      | bk e4 =>
        rw [turnM_bk] at eq
        cases eq
        exact fun F5 H5 σ5 s5 S5 p5 => q F5 H5 σ5 (g1.f.trans (s4.trans s5)) S5 p5
      | rt r w =>
        rw [turnM_rt] at eq
        cases eq
        cases w <;> exact q
      | ex x e4 =>
        rw [turnM_ex] at eq
        cases eq
        exact fun F5 H5 σ5 cls d s5 S5 p5 xx => q F5 H5 σ5 cls d (g1.f.trans (s4.trans s5)) S5 p5 xx
def whileM (c : TM) (body : SFm) : Nat → SFm
  | 0, _ => none
  | n + 1, env => bX (c env) fun b e => if b = true then turnM (body e) (whileM c body n) else some (.nx e)
theorem dsm_whileN {c : TT} {cf : TM} {tb : TS} {body : SFm} (n : Nat) (hc : DTM mg K W c cf) (hb : DSM mg K W I tb body) : DSM mg K W I (tWhile c tb) (whileM cf body n) := fun z F0 H0 F H σ env o S p e D q => by
  refine ⟨fun m σ2 H2 => ∃ F2 e2, Same F F2 ∧ Sta K F0 H0 F2 H2 σ2 e2 ∧ Pin I z σ2 ∧ whileM cf body m e2 = some o, ⟨n, F, env, Same.refl F, S, p, e⟩, ?_⟩
  rintro m σ2 H2 ⟨F2, e2, s2, S2, p2, eq⟩
  cases m with
  | zero => cases eq
  | succ m =>
    rcases bXd eq with ⟨b, e3, eb, eq⟩ | ⟨x, e3, eb, rfl⟩
    case inr => exact hc F0 H0 F2 H2 σ2 e2 _ S2 eb _ (exOf p2 (q.mono s2))
    refine hc F0 H0 F2 H2 σ2 e2 _ S2 eb _ fun F3 H3 g3 S3 => ?_
    cases b with
    | false =>
      cases eq
      exact iteF (q F3 H3 σ2 (s2.trans g3.f) S3 p2)
    | true =>
      rw [if_pos rfl] at eq
      refine iteT ⟨fun σ' H' => ∃ F' e', Same F F' ∧ Sta K F0 H0 F' H' σ' e' ∧ Pin I z σ' ∧ whileM cf body m e' = some o, fun σ' H' w => ⟨m, Nat.lt_succ_self m, w⟩, ?_⟩
      cases ebd : body e3 with
      | none =>
        rw [ebd, turnM_no] at eq
        cases eq
      | some ob =>
        rw [ebd] at eq
        refine hb z F0 H0 F3 H3 σ2 e3 ob S3 p2 ebd _ ?_
        have s4 := s2.trans g3.f
        cases ob with
        | nx e4 => exact fun F5 H5 σ5 s5 S5 p5 => ⟨F5, e4, s4.trans s5, S5, p5, eq⟩
        | ct e4 => exact fun F5 H5 σ5 s5 S5 p5 => ⟨F5, e4, s4.trans s5, S5, p5, eq⟩
        | bk e4 =>
          rw [turnM_bk] at eq
          cases eq
          exact fun F5 H5 σ5 s5 S5 p5 => q F5 H5 σ5 (s4.trans s5) S5 p5
        | rt r w =>
          rw [turnM_rt] at eq
          cases eq
          cases w <;> exact q
        | ex x e4 =>
          rw [turnM_ex] at eq
          cases eq
          exact fun F5 H5 σ5 cls d s5 S5 p5 xx => q F5 H5 σ5 cls d (s4.trans s5) S5 p5 xx
open Classical in
/-- as many turns as it takes -/
noncomputable def mWhile (c : TM) (body : SFm) : SFm := fun env => if h : ∃ n o, whileM c body n env = some o then whileM c body h.choose env else none
theorem dsm_while {c : TT} {cf : TM} {tb : TS} {body : SFm} (hc : DTM mg K W c cf) (hb : DSM mg K W I tb body) : DSM mg K W I (tWhile c tb) (mWhile cf body) := fun z F0 H0 F H σ env o S p e D q => by
  unfold mWhile at e
  split at e
  case isFalse => cases e
  exact dsm_whileN _ hc hb z F0 H0 F H σ env o S p e D q
theorem whileM_mono {c : TM} {body : SFm} : ∀ {n m : Nat} {env : En} {o : OutM}, n ≤ m → whileM c body n env = some o → whileM c body m env = some o
  | 0, _, _, _, _, h => by cases h
  | n + 1, m, env, o, hm, h => by
    obtain ⟨k, rfl⟩ : ∃ k, m = k + 1 := ⟨m - 1, by omega⟩
    unfold whileM at h ⊢
    cases hc : c env with
    | none => rw [hc] at h; cases h
    | some a =>
      rw [hc] at h
      cases a with
      | ex x e => exact h
      | ok b e =>
        rw [bX_ok] at h ⊢
        split at h
        · rename_i hb
          rw [if_pos hb]
          cases hbd : body e with
          | none => rw [hbd] at h; cases h
          | some ob =>
            rw [hbd] at h
            cases ob with
            | nx e4 => exact whileM_mono (by omega) h
            | ct e4 => exact whileM_mono (by omega) h
            | bk e4 => exact h
            | rt r w => exact h
            | ex x e4 => exact h
        · rename_i hb
          rw [if_neg hb]
          exact h
theorem mWhile_eq {c : TM} {body : SFm} {n : Nat} {env : En} {o : OutM} (h : whileM c body n env = some o) : mWhile c body env = some o := by
  unfold mWhile
  have hx : ∃ n o, whileM c body n env = some o := ⟨n, o, h⟩
  rw [dif_pos hx]
  obtain ⟨o', h'⟩ := hx.choose_spec
  rw [h']
  have h1 := whileM_mono (Nat.le_max_left n hx.choose) h
  have h2 := whileM_mono (Nat.le_max_right n hx.choose) h'
  rw [h1] at h2
  exact h2.symm
end
section
open Classical in
/-- a while without a bound that is written out -/
noncomputable def sWhile (c : TF) (body : SF) : SF := fun env => if h : ∃ n o, whileD c body n env = some o then whileD c body h.choose env else none
theorem ds_whileU {K : PySem.W.Frag} {c : TT} {cf : TF} {tb : TS} {body : SF} (hc : DT K c cf) (hb : DS K tb body) : DS K (tWhile c tb) (sWhile cf body) := fun F0 H0 F H σ env o S e D q => by
  unfold sWhile at e
  split at e
  case isFalse => cases e
  exact ds_while _ hc hb F0 H0 F H σ env o S e D q
theorem whileD_mono {c : TF} {body : SF} : ∀ {n m : Nat} {env : En} {o : Out}, n ≤ m → whileD c body n env = some o → whileD c body m env = some o
  | 0, _, _, _, _, h => by cases h
  | n + 1, m, env, o, hm, h => by
    obtain ⟨k, rfl⟩ : ∃ k, m = k + 1 := ⟨m - 1, by omega⟩
    unfold whileD at h ⊢
    cases hc : c env with
    | none => rw [hc] at h; cases h
    | some b =>
      rw [hc, Option.bind_some] at h
      rw [Option.bind_some]
      split at h
      · rename_i hb
        rw [if_pos hb]
        cases hbd : body env with
        | none => rw [hbd] at h; cases h
        | some ob =>
          rw [hbd] at h
          cases ob with
          | nx e4 => exact whileD_mono (by omega) h
          | ct e4 => exact whileD_mono (by omega) h
          | bk e4 => exact h
          | rt r => exact h
      · rename_i hb
        rw [if_neg hb]
        exact h
theorem sWhile_eq {c : TF} {body : SF} {n : Nat} {env : En} {o : Out} (h : whileD c body n env = some o) : sWhile c body env = some o := by
  unfold sWhile
  have hx : ∃ n o, whileD c body n env = some o := ⟨n, o, h⟩
  rw [dif_pos hx]
  obtain ⟨o', h'⟩ := hx.choose_spec
  rw [h']
  have h1 := whileD_mono (Nat.le_max_left n hx.choose) h
  have h2 := whileD_mono (Nat.le_max_right n hx.choose) h'
  rw [h1] at h2
  exact h2.symm
theorem ss_whileU {X : Cx} {c : Expr} {body : List Stmt} {tt : TT} {u : TF} {tS : TS} {sf : SF} {pos : Pos} (hp : PassesOwn (model X.prog X.w) X.A X.env X.xe) (hc : ST X c tt u) (hb : SSs X body tS sf) : SS X (.While c body [] pos) (tWhile tt tS) (sWhile u sf) := ⟨ps_while hp hc.pt hb.ps, ds_whileU hc.dt hb.ds⟩
end
end Dn
/-! Ds4: comprehensions; defs with a state, defs that raise; their calls; the law's own end. -/
namespace Dn
open PySem PySem.Spec PyProof.Rows L2
def WF : WX := fun _ _ _ _ => False
/-- behind a comprehension its own names hold what they held, but for owned lists -/
@[simp] def restD (env0 : En) : List Nat → En → En
  | [], e => e
  | v :: vs, e => (restD env0 vs e).set v (match env0[v]? with
    | some (.val d) => .val d
    | _ => .no)
theorem restD_out {env0 e : En} {k : Nat} : ∀ {vs : List Nat}, k ∉ vs → (restD env0 vs e)[k]? = e[k]?
  | [], _ => rfl
  | v :: vs, h => by
    show ((restD env0 vs e).set v _)[k]? = _
    rw [List.getElem?_set_ne (fun z => h (by rw [z]; exact List.mem_cons_self)), restD_out fun z => h (List.mem_cons_of_mem _ z)]
theorem restD_len {env0 e : En} : ∀ {vs : List Nat}, (restD env0 vs e).length = e.length
  | [] => rfl
  | v :: vs => by
    show ((restD env0 vs e).set v _).length = _
    rw [List.length_set, restD_len]
theorem restD_in {env0 e : En} {k : Nat} {s : Sl} : ∀ {vs : List Nat}, k ∈ vs → (restD env0 vs e)[k]? = some s → s = .no ∨ ∃ d, s = .val d ∧ env0[k]? = some (.val d)
  | [], h, _ => by cases h
  | v :: vs, h, q => by
    have q : ((restD env0 vs e).set v _)[k]? = some s := q
    by_cases hv : v = k
    · subst hv
      rw [List.getElem?_set] at q
      simp at q
      obtain ⟨_, q⟩ := q
      split at q
      · rename_i d hd
        exact .inr ⟨d, q.symm, hd⟩
      · exact .inl q.symm
    · rw [List.getElem?_set_ne hv] at q
      exact restD_in (by cases h with | head => exact absurd rfl hv | tail _ h => exact h) q
noncomputable def lcM (vs : List Nat) (g : GF) (c : TM) (f : EM) : List PyData → En → Option (List PyData × En)
  | [], e => some ([], e)
  | d :: ds, e => (g d e).bind fun e1 => match c e1 with
    | some (.ok b e2) => if b = true then match f e2 with
        | some (.ok r e3) => (lcM vs g c f ds (wipeD e3 vs)).bind fun p => some (r.frz :: p.1, p.2)
        | _ => none
      else lcM vs g c f ds (wipeD e2 vs)
    | _ => none
@[simp] noncomputable def mLc (vs : List Nat) (it : IM) (g : GF) (c : TM) (f : EM) : EM := fun env => bM (it env) fun ds e0 => if Fits ds.length then (lcM vs g c f ds (wipeD e0 vs)).bind fun p => some (.ok (.own p.1) (restD e0 vs p.2)) else none
theorem Slots.rest {K : PySem.W.Frag} {B F H F' H' : Hp} {σ : L2.St} {env env' : En} {vs : List Nat} (S : Slots K B F H σ env) (S' : Slots K B F' H' (L2.wipe σ vs) env') (s : Same F F') : Slots K B F' H' σ (restD env vs env') := by
  obtain ⟨l', ad, h1, h2⟩ := S'
  obtain ⟨l, ad0, g1, g2⟩ := S
  have wl : (L2.wipe σ vs).length = σ.length := by
    clear h1 h2 l' g1 g2 l
    induction vs with
    | nil => rfl
    | cons v vs ih =>
      show ((L2.wipe σ vs).set v none).length = _
      rw [List.length_set, ih]
  have own_out : ∀ k ds, (restD env vs env')[k]? = some (.own ds) → k ∉ vs ∧ env'[k]? = some (.own ds) := fun k ds e => by
    by_cases hk : k ∈ vs
    · rcases restD_in hk e with z | ⟨d, z, _⟩ <;> cases z
    · exact ⟨hk, by rw [restD_out hk] at e; exact e⟩
  refine ⟨by rw [restD_len, ← l', wl], ad, fun i v s0 e1 e2 => ?_, fun i j ds es hij e1 e2 => ?_⟩
  · by_cases hk : i ∈ vs
    · rcases restD_in hk e2 with rfl | ⟨d, rfl, hd⟩
      · trivial
      · obtain ⟨x, c1, c2⟩ := g1 i v _ e1 hd
        exact ⟨x, c1, dp_mono s c2⟩
    · rw [restD_out hk] at e2
      exact h1 i v s0 (by rw [wipe_get hk]; exact e1) e2
  · obtain ⟨_, e1⟩ := own_out i ds e1
    obtain ⟨_, e2⟩ := own_out j es e2
    exact h2 i j ds es hij e1 e2
theorem wipe_wiped {σ : L2.St} : ∀ {vs : List Nat}, L2.wipe (L2.wipe σ vs) vs = L2.wipe σ vs := fun {vs} => by
  have w2 : ∀ (us : List Nat) (τ : L2.St), (∀ i ∈ us, ∀ y, τ[i]? = some y → y = none) → L2.wipe τ us = τ := fun us => by
    induction us with
    | nil => exact fun τ _ => rfl
    | cons u us ih =>
      intro τ h
      unfold L2.wipe
      rw [ih τ (fun i hi => h i (List.mem_cons_of_mem _ hi))]
      refine List.ext_getElem? fun j => ?_
      by_cases hj : u = j
      · subst hj
        cases hy : τ[u]? with
        | none => rw [List.getElem?_eq_none (by rw [List.length_set]; exact List.getElem?_eq_none_iff.mp hy)]
        | some y =>
          rw [h u List.mem_cons_self y hy, List.getElem?_set_self (List.getElem?_eq_some_iff.mp hy).1]
      · rw [List.getElem?_set_ne hj]
  refine w2 vs _ fun i hi y hy => ?_
  have w3 : ∀ (us : List Nat), i ∈ us → ∀ y, (L2.wipe σ us)[i]? = some y → y = none := fun us => by
    induction us with
    | nil => intro h; cases h
    | cons u us ih =>
      intro h y hy
      unfold L2.wipe at hy
      by_cases hj : u = i
      · subst hj
        rw [List.getElem?_set] at hy
        simp at hy
        exact hy.2.symm
      · rw [List.getElem?_set_ne hj] at hy
        exact ih (by cases h with
          | head => exact absurd rfl hj
          | tail _ h => exact h) y hy
  exact w3 vs hi y hy
section
variable {mg : Str → Option Value} {K : PySem.W.Frag} {W : WX} {F0 H0 F H : Hp} {σ : L2.St} {env : En}
/-- what is free at a slot list is free where fewer are owned -/
theorem Free.to {σ' : L2.St} {env' : En} {a : Addr} (h : Free σ env a) (o : ∀ (k : Nat) (ds : List PyData), env'[k]? = some (Sl.own ds) → (∃ es, env[k]? = some (Sl.own es)) ∧ σ'[k]? = σ[k]?) : Free σ' env' a := fun k ds e => by
  obtain ⟨⟨es, q⟩, s⟩ := o k ds e
  rw [s]
  exact h k es q
theorem dem_lc {wi : TI} {it : IM} {t : TG} {g : GF} {ws vs : List Nat} {tt : TT} {c : TM} {te : TE} {f : EM} (hi : DIM mg K W wi it) (hg : DG K ws t g) (ho : GO ws g) (hw : ∀ i ∈ ws, i ∈ vs) (hc : DTM mg K WF tt c) (he : DEM mg K WF te f) : DEM mg K W (tLc wi t tt te vs) (mLc vs it g c f) := fun F0 H0 F H σ env ans S e Q q => by
  rcases bMd e with ⟨ds, e0, ed, e⟩ | ⟨x, e1, ea, rfl⟩
  case inr => exact hi F0 H0 F H σ env _ S ea _ q
  split at e
  case isFalse => cases e
  rename_i hlen
  obtain ⟨⟨rs, ee⟩, er, e⟩ := bnd e
  cases e
  refine hi F0 H0 F H σ env _ S ed _ fun F1 H1 J g1 S1 wk => ?_
  intro D hD
  have hFD : F1 D = none := S1.fh.free hD
  have gD : Grow F1 H1 F1 (upd H1 D (.lst [])) := Grow.new S1.fh hD
  have oe0 : ∀ k ds, (wipeD e0 vs)[k]? = some (.own ds) → k ∉ vs ∧ e0[k]? = some (.own ds) := fun k ds e => by
    by_cases hk : k ∈ vs
    · exact absurd e (wipeD_no hk ds)
    · exact ⟨hk, by rw [wipeD_get hk] at e; exact e⟩
  refine ⟨fun i m H2 => ∃ F2 e2 acc bs rs', Gm F1 H1 σ e0 F2 H2 e2 ∧ Sta K F0 H0 F2 H2 (L2.wipe σ vs) e2 ∧ (∀ k ds, e2[k]? = some (.own ds) → k ∉ vs ∧ ∃ es, e0[k]? = some (.own es)) ∧ H2 D = some (.lst acc) ∧ F2 D = none ∧ DpAll K F2 acc bs ∧ bs.length ≤ i ∧ lcM vs g c f (ds.drop i) e2 = some (rs', ee) ∧ bs ++ rs' = rs ∧ i + m = ds.length,
    ⟨ds.length, F1, wipeD e0 vs, [], [], rs, ?_, ?_, fun k ds e => ⟨(oe0 k ds e).1, ds, (oe0 k ds e).2⟩, upd_same, hFD, .nil, Nat.le_refl _, er, rfl, by omega⟩, ?_⟩
  · have gm := Gm.of (σ := σ) (env := e0) gD
    exact ⟨gm.f, gm.h, gm.d, gm.n, fun k ds e => ⟨ds, (oe0 k ds e).2⟩⟩
  · have S2 := S1.grow gD
    exact ⟨S2.g, S2.s.wipe vs⟩
  rintro i m H2 ⟨F2, e2, acc, bs, rs', G2, S2, O2, hA, hF2, dA, hbl, el, eb, em⟩
  have la := DpAll.len dA
  obtain ⟨wn, wg⟩ := wk i F2 H2 G2.f S2.fh
  cases hd : ds[i]? with
  | none =>
    have hl : ds.length ≤ i := List.getElem?_eq_none_iff.mp hd
    rw [List.drop_eq_nil_of_le hl] at el
    cases el
    rw [List.append_nil] at eb
    subst eb
    refine .inl ⟨wn hd (by omega), ?_⟩
    have gm : Gm F1 H1 σ e0 F2 H2 (restD e0 vs ee) := ⟨G2.f, G2.h, G2.d, G2.n, fun k ds e => by
      by_cases hk : k ∈ vs
      · rcases restD_in hk e with z | ⟨d, z, _⟩ <;> cases z
      · rw [restD_out hk] at e
        exact (O2 k ds e).2⟩
    exact q F2 H2 _ (g1.trans gm) ⟨S2.g, S1.s.rest S2.s G2.f⟩ ⟨D, acc, rfl, hF2, g1.gone hD, hA, dA⟩
  | some d =>
    obtain ⟨go, yl⟩ := wg d hd
    have hi2 : i < ds.length := (List.getElem?_eq_some_iff.mp hd).1
    have hdr : ds.drop i = d :: ds.drop (i + 1) := by
      rw [List.drop_eq_getElem_cons hi2]
      rw [List.getElem?_eq_getElem hi2] at hd
      cases hd
      rfl
    rw [hdr] at el
    obtain ⟨e3, ee3, el⟩ := bnd el
    refine .inr ⟨go, fun H' => ∃ F' e' acc bs rs', Gm F1 H1 σ e0 F' H' e' ∧ Sta K F0 H0 F' H' (L2.wipe σ vs) e' ∧ (∀ k ds, e'[k]? = some (.own ds) → k ∉ vs ∧ ∃ es, e0[k]? = some (.own es)) ∧ H' D = some (.lst acc) ∧ F' D = none ∧ DpAll K F' acc bs ∧ bs.length ≤ i + 1 ∧ lcM vs g c f (ds.drop (i + 1)) e' = some (rs', ee) ∧ bs ++ rs' = rs,
      fun H' ⟨F', e', acc, bs, rs', a1, a2, a3, a4, a5, a6, a7, a8, a9⟩ => ⟨m - 1, by omega, F', e', acc, bs, rs', a1, a2, a3, a4, a5, a6, a7, a8, a9, by omega⟩, fun x H' hy => ?_⟩
    obtain ⟨F3, g3, dx⟩ := yl x H' hy
    have S3 := S2.grow g3
    refine hg H0 F3 H' _ _ e3 x d S3.s g3.i S3.bh dx ee3 _ fun F4 H4 σ4 g4 S4 hw4 => ⟨?_, ?_⟩
    · rw [hw4 vs hw]
      exact wipe_wiped
    · have Sa : Sta K F0 H0 F4 H4 σ4 e3 := ⟨S3.g.trans g4, S4⟩
      have g34 := g3.trans g4
      have hD2 : H2 D ≠ none := by rw [hA]; exact Option.some_ne_none _
      -- the owned slots of e3
      have O3 : ∀ k ds, e3[k]? = some (.own ds) → k ∉ vs ∧ (∃ es, e2[k]? = some (.own es)) ∧ σ4[k]? = σ[k]? := fun k ds e => by
        have hk : k ∉ ws := fun hk => (ho d e2 e3 ee3).2 k hk ds e
        have e' := e
        rw [(ho d e2 e3 ee3).1 k hk] at e'
        have hv := (O2 k ds e').1
        refine ⟨hv, ⟨ds, e'⟩, ?_⟩
        rw [wipe_out hw4 hk, wipe_get hv]
      -- what a turn leaves, seen from the comprehension's start
      have far : ∀ {F5 H5 : Hp} {e5 : En}, Gm F4 H4 σ4 e3 F5 H5 e5 → Sta K F0 H0 F5 H5 σ4 e5 → Gm F1 H1 σ e0 F5 H5 (wipeD e5 vs) ∧ Sta K F0 H0 F5 H5 (L2.wipe σ vs) (wipeD e5 vs) ∧
          (∀ k ds, (wipeD e5 vs)[k]? = some (.own ds) → k ∉ vs ∧ ∃ es, e0[k]? = some (.own es)) ∧ H5 D = some (.lst acc) ∧ F5 D = none ∧ Same F2 F5 := fun {F5 H5 e5} g5 S5 => by
        have O5 : ∀ k ds, (wipeD e5 vs)[k]? = some (.own ds) → k ∉ vs ∧ ∃ es, e0[k]? = some (.own es) := fun k ds e => by
          by_cases hk : k ∈ vs
          · exact absurd e (wipeD_no hk ds)
          · rw [wipeD_get hk] at e
            obtain ⟨es, e⟩ := g5.o k ds e
            obtain ⟨_, ⟨es, e⟩, _⟩ := O3 k es e
            exact ⟨hk, (O2 k es e).2⟩
        have fr : ∀ a, Free σ e0 a → Free σ4 e3 a := fun a h => Free.to h fun k ds e => by
          obtain ⟨_, ⟨es, e'⟩, s⟩ := O3 k ds e
          exact ⟨(O2 k es e').2, s⟩
        have s5 : Same F2 F5 := g34.f.trans g5.f
        have frD : Free σ4 e3 D := fun k ds e s => by
          obtain ⟨_, _, s'⟩ := O3 k ds e
          obtain ⟨_, ⟨es, e'⟩, _⟩ := O3 k ds e
          obtain ⟨es', e''⟩ := (O2 k es e').2
          obtain ⟨p, xs, k1, _, _, k2, _⟩ := S1.s.own e''
          rw [← s', s] at k1
          injection k1 with k1
          injection k1 with k1
          injection k1 with k1
          rw [k1] at hD
          rw [hD] at k2
          cases k2
        refine ⟨⟨G2.f.trans s5, fun a o h hf => g5.h a o (g34.h _ _ (G2.h a o h hf)) (fr a hf), fun a h => g5.d a (same_ne g34.h (G2.d a h)), fun a h hf => g5.n a (same_ne g34.h (G2.d a h)) (g34.n a (G2.d a h) (G2.n a h hf)), fun k ds e => (O5 k ds e).2⟩, ⟨S5.g, ?_⟩, O5, g5.h D _ (g34.h _ _ hA) frD, g5.n D (same_ne g34.h hD2) (g34.n D hD2 hF2), s5⟩
        have w := S5.s.wipe vs
        have we : L2.wipe σ4 vs = L2.wipe σ vs := by rw [hw4 vs hw]; exact wipe_wiped
        rw [we] at w
        exact w
      cases hcv : c e3 with
      | none => rw [hcv] at el; cases el
      | some ca =>
        rw [hcv] at el
        cases ca with
        | ex x e5 => cases el
        | ok b e5 =>
          refine hc F0 H0 F4 H4 σ4 e3 _ Sa hcv _ fun F5 H5 g5 S5 => ?_
          cases b with
          | false =>
            have el : lcM vs g c f (ds.drop (i + 1)) (wipeD e5 vs) = some (rs', ee) := el
            rw [if_neg Bool.false_ne_true]
            obtain ⟨a1, a2, a3, a4, a5, a6⟩ := far g5 S5
            exact ⟨F5, wipeD e5 vs, acc, bs, rs', a1, a2, a3, a4, a5, dpa_mono a6 dA, by omega, el, eb⟩
          | true =>
            rw [if_pos rfl]
            cases hfv : f e5 with
            | none => simp only [hfv, if_true] at el; cases el
            | some fa =>
              cases fa with
              | ex x e6 => simp only [hfv, if_true] at el; cases el
              | ok r1 e6 =>
                have el : ((lcM vs g c f (ds.drop (i + 1)) (wipeD e6 vs)).bind fun p => some (r1.frz :: p.1, p.2)) = some (rs', ee) := by
                  simp only [hfv, if_true] at el
                  exact el
                obtain ⟨⟨rs1, ee1⟩, er2, el⟩ := bnd el
                cases el
                refine he.z S5 hfv fun F6 H6 y g6 S6 dy => ?_
                obtain ⟨a1, a2, a3, a4, a5, a6⟩ := far (g5.trans g6) S6
                have hHD : H1 D = none := hD
                refine ⟨acc, a4, by rw [la]; exact Nat.lt_of_le_of_lt (Nat.le_trans hbl (Nat.le_trans (Nat.le_of_lt hi2) hlen)) (by decide), F6, wipeD e6 vs, acc ++ [y], bs ++ [r1.frz], rs1, ?_, ?_, a3, upd_same, a5, DpAll.app (dpa_mono a6 dA) (.cons dy .nil), by rw [List.length_append]; exact Nat.succ_le_succ hbl, er2, by rw [List.append_assoc]; exact eb⟩
                · refine ⟨a1.f, fun a o h hf => ?_, fun a h => ?_, a1.n, a1.o⟩
                  · rw [upd_ne (ne_of_none h hD)]
                    exact a1.h a o h hf
                  · by_cases ha : a = D
                    · subst ha
                      rw [upd_same]
                      exact Option.some_ne_none _
                    · rw [upd_ne ha]
                      exact a1.d a h
                · -- the list that is made is no owned one
                  obtain ⟨l, ad, k1, k2⟩ := a2.s
                  have hB : H0 D = none := by
                    cases qq : H0 D with
                    | none => rfl
                    | some o =>
                      have := S1.bh D o qq
                      rw [hD] at this
                      cases this
                  refine ⟨⟨a2.g.f, same_updF a2.g.h hB, same_updF a2.g.i a5, a2.g.n⟩, l, ad, fun j w s0 u1 u2 => ?_, k2⟩
                  have o := k1 j w s0 u1 u2
                  cases s0 with
                  | no => trivial
                  | val d => exact o
                  | own zs =>
                    obtain ⟨xs', c1, c0, c2, c3, c4⟩ := o
                    have hne : ad j ≠ D := fun zz => by
                      obtain ⟨hk, es, e''⟩ := a3 j zs u2
                      have hj : σ[j]? = some w := by rw [← wipe_get (vs := vs) hk]; exact u1
                      obtain ⟨p, xs, k1', _, _, k2', _⟩ := S1.s.own e''
                      rw [hj, c1] at k1'
                      injection k1' with k1'
                      injection k1' with k1'
                      injection k1' with k1'
                      rw [← k1', zz, hD] at k2'
                      cases k2'
                    exact ⟨xs', c1, c0, c2, by rw [upd_ne hne]; exact c3, c4⟩
end
end Dn
/-! Ds5: defs with a state, defs that raise; their calls; the law's own end. -/
namespace Dn
open PySem PySem.Spec PyProof.Rows L2
/-- what a def with a state does: its result, the state behind it -/
inductive FR where
  | rt (r : R) (st : List PyData)
  | ex (e : Xn) (st : List PyData)
/-- what a def that may raise does -/
inductive FX where
  | rt (r : R)
  | ex (e : Xn)
def stOf (env : En) : Option (List PyData) := match env[0]? with
  | some (Sl.own ds) => some ds
  | _ => none
def flatRes : R → Bool
  | .own3 _ _ _ => false
  | _ => true
def resS (o : Option OutM) : Option FR := match o with
  | some (.rt r (some env)) => if flatRes r = true then (stOf env).bind fun ds => some (.rt r ds) else none
  | some (.nx env) => (stOf env).bind fun ds => some (.rt (.val .none) ds)
  | some (.ex e env) => (stOf env).bind fun ds => some (.ex e ds)
  | _ => none
def resX (o : Option OutM) : Option FX := match o with
  | some (.rt r _) => some (.rt r)
  | some (.nx _) => some (.rt (.val .none))
  | some (.ex e _) => some (.ex e)
  | _ => none
@[simp] theorem resS_rt {r : R} {env : En} : resS (some (.rt r (some env))) = if flatRes r = true then (stOf env).bind fun ds => some (.rt r ds) else none := rfl
@[simp] theorem resS_nx {env : En} : resS (some (.nx env)) = (stOf env).bind fun ds => some (.rt (.val .none) ds) := rfl
@[simp] theorem resS_ex {e : Xn} {env : En} : resS (some (.ex e env)) = (stOf env).bind fun ds => some (.ex e ds) := rfl
@[simp] theorem resX_rt {r : R} {o : Option En} : resX (some (.rt r o)) = some (.rt r) := by cases o <;> rfl
@[simp] theorem resX_nx {env : En} : resX (some (.nx env)) = some (.rt (.val .none)) := rfl
@[simp] theorem resX_ex {e : Xn} {env : En} : resX (some (.ex e env)) = some (.ex e) := rfl
theorem resS_ite {c : Prop} [Decidable c] {x y : Option OutM} : resS (if c then x else y) = if c then resS x else resS y := by split <;> rfl
theorem resX_ite {c : Prop} [Decidable c] {x y : Option OutM} : resX (if c then x else y) = if c then resX x else resX y := by split <;> rfl
@[simp] def startS (N n : Nat) (st : List PyData) (ds : List PyData) : En := .own st :: ds.map Sl.val ++ List.replicate (N - n) .no
/-- a def whose first parameter is the state; N names, n parameters -/
@[irreducible] def fnS (N n : Nat) (f : SFm) (st : List PyData) (ds : List PyData) : Option FR := if ds.length + 1 = n then resS (f (startS N n st ds)) else none
@[irreducible] def fnX (N n : Nat) (f : SFm) (ds : List PyData) : Option FX := if ds.length = n then resX (f (startD N n ds)) else none
section
variable (mg : Str → Option Value) (K : PySem.W.Frag)
def SdOk (p : Addr) (F H : Hp) (Q : VK) (E : XK) : FR → Prop
  | .rt r es => ∀ F' H' v ys, Grow F (ers H p) F' H' → (∀ a : Addr, H a ≠ none → H' a ≠ none) → F' p = none → H' p = some (.lst ys) → DpAll K F' ys es → RepR K F' H H' v r → Q v H'
  | .ex e es => ∀ F' H' cls d ys, Grow F (ers H p) F' H' → (∀ a : Addr, H a ≠ none → H' a ≠ none) → F' p = none → H' p = some (.lst ys) → DpAll K F' ys es → XnOk mg K F' e cls d → E cls d H'
def XdOk (F H : Hp) (Q : VK) (E : XK) : FX → Prop
  | .rt r => ∀ F' H' v, Grow F H F' H' → RepR K F' H H' v r → Q v H'
  | .ex e => ∀ F' H' cls d, Grow F H F' H' → XnOk mg K F' e cls d → E cls d H'
def spS (n : Nat) (g : List PyData → List PyData → Option FR) : Sp := fun vs H Q E => vs.length = n ∧ ∃ p ws F xs st ds a, vs = .ref p :: ws ∧ Same F H ∧ F p = none ∧ H p = some (.lst xs) ∧ DpAll K F xs st ∧ DpAll K F ws ds ∧ g st ds = some a ∧ SdOk mg K p F H Q E a
def spX (n : Nat) (g : List PyData → Option FX) : Sp := fun vs H Q E => vs.length = n ∧ ∃ F ds a, Same F H ∧ DpAll K F vs ds ∧ g ds = some a ∧ XdOk mg K F H Q E a
end
structure SEM (X : Cx) (W : WX) (e : Expr) (te : TE) (f : EM) : Prop where
  pe : PE X e te
  de : DEM X.mg X.K W te f
structure STM (X : Cx) (W : WX) (e : Expr) (tt : TT) (f : TM) : Prop where
  pt : PT X e tt
  dt : DTM X.mg X.K W tt f
structure SWM (X : Cx) (W : WX) (e : Expr) (tt : TT) (f : TM) : Prop where
  pw : PW X e tt
  dt : DTM X.mg X.K W tt f
structure SAM (X : Cx) (W : WX) (es : List Expr) (ta : TA) (f : AM) : Prop where
  pa : PA X es ta
  da : DAM X.mg X.K W ta f
structure SSm (X : Cx) (W : WX) (I : List Nat) (st : Stmt) (ts : TS) (f : SFm) : Prop where
  ps : PS X st ts
  ds : DSM X.mg X.K W I ts f
structure SSsm (X : Cx) (W : WX) (I : List Nat) (st : List Stmt) (ts : TS) (f : SFm) : Prop where
  ps : PSs X st ts
  ds : DSM X.mg X.K W I ts f
theorem SWM.st {X : Cx} {W : WX} {e : Expr} {tt : TT} {f : TM} (h : SWM X W e tt f) : STM X W e tt f := ⟨h.pw.pt, h.dt⟩
/-! ### calls -/
@[simp] def mCallS (m : List PyData → List PyData → Option FR) (i : Nat) (t : AM) : EM := fun env => match env[i]? with
  | some (.own _) => bM (t env) fun ds e1 => match e1[i]? with
    | some (.own st) => match m st ds with
      | some (.rt r es) => some (.ok r (e1.set i (.own es)))
      | some (.ex e es) => some (.ex e (e1.set i (.own es)))
      | none => none
    | _ => none
  | _ => none
@[simp] def mCallX (m : List PyData → Option FX) (t : AM) : EM := fun env => bM (t env) fun ds e1 => match m ds with
    | some (.rt r) => some (.ok r e1)
    | some (.ex e) => some (.ex e e1)
    | none => none
section
variable {mg : Str → Option Value} {K : PySem.W.Frag} {W : WX} {F0 H0 F H : Hp} {σ : L2.St} {env : En}
/-- behind a def that has stored into the owned list of slot i -/
theorem Sta.state {F' H' : Hp} {i : Nat} {p : Addr} {ds es : List PyData} {ys : List V} (S : Sta K F0 H0 F H σ env) (e : env[i]? = some (.own ds)) (hp : σ[i]? = some (some (.ref p))) (g : Grow F (ers H p) F' H') (hy : H' p = some (.lst ys)) (fy : F' p = none) (dy : DpAll K F' ys es) :
    Sta K F0 H0 F' H' σ (env.set i (.own es)) := by
  obtain ⟨p', xs, h1, h0, h2, h3, h4⟩ := S.s.own e
  rw [hp] at h1
  cases h1
  refine ⟨⟨S.g.f.trans g.f, fun a o ha => ?_, g.i, fun a ha hf => ?_⟩, S.s.state e hp g.f g.h g.n hy fy dy⟩
  · have hne : a ≠ p := fun z => by rw [z, h0] at ha; cases ha
    exact g.h a o (by rw [ers_ne hne]; exact S.g.h _ _ ha)
  · have hne : a ≠ p := fun z => ha (by rw [z]; exact h0)
    exact g.n a (by rw [ers_ne hne]; exact same_ne S.g.h ha) (S.g.n a ha hf)
theorem gm_state {F' H' : Hp} {i : Nat} {p : Addr} {ds es : List PyData} (e : env[i]? = some (.own ds)) (hp : σ[i]? = some (some (.ref p))) (g : Grow F (ers H p) F' H') (hd : ∀ a : Addr, H a ≠ none → H' a ≠ none) (fp : F' p = none) :
    Gm F H σ env F' H' (env.set i (.own es)) := by
  refine ⟨g.f, fun a o ha hf => ?_, hd, fun a ha hf => ?_, fun k fs q => ?_⟩
  · have hne : a ≠ p := fun z => hf i ds e (by rw [z]; exact hp)
    exact g.h a o (by rw [ers_ne hne]; exact ha)
  · by_cases hne : a = p
    · rw [hne]; exact fp
    · exact g.n a (by rw [ers_ne hne]; exact ha) hf
  · by_cases hk : i = k
    · subst hk
      exact ⟨ds, e⟩
    · rw [List.getElem?_set_ne hk] at q
      exact ⟨fs, q⟩
theorem dem_callS {n i : Nat} {m : List PyData → List PyData → Option FR} {t : TA} {af : AM} (hn : ∀ st ds r, m st ds = some r → ds.length + 1 = n) (h : DAM mg K W t af) : DEM mg K W (tCallSD (spS mg K n m) [] (WE W) (tCons (tVar i) t)) (mCallS m i af) := fun F0 H0 F H σ env ans S e Q q => by
  unfold mCallS at e
  split at e
  case h_2 => cases e
  rename_i ds0 hd0
  obtain ⟨p, xs0, h1, _⟩ := S.s.own hd0
  refine ⟨_, h1, ?_⟩
  rcases bMd e with ⟨ds, e1, ea, e⟩ | ⟨x, e1, ea, rfl⟩
  case inr => exact h F0 H0 F H σ env _ S ea _ q
  split at e
  case h_2 => cases e
  rename_i st hst
  refine h.run S ea fun F1 H1 vs g1 S1 d1 => ?_
  show spS mg K n m ((V.ref p :: vs) ++ []) H1 Q (WE W σ)
  rw [List.append_nil]
  obtain ⟨p', xs, k1, k0, k2, k3, k4⟩ := S1.s.own hst
  rw [h1] at k1
  cases k1
  have hm : ∃ a, m st ds = some a := by
    cases q : m st ds with
    | none => rw [q] at e; cases e
    | some a => exact ⟨a, rfl⟩
  obtain ⟨a, em⟩ := hm
  rw [em] at e
  refine ⟨by rw [List.length_cons, DpAll.len d1, hn _ _ _ em], p, vs, F1, xs, st, ds, a, rfl, S1.fh, k2, k3, k4, d1, em, ?_⟩
  cases a with
  | rt r es =>
    cases e
    intro F2 H2 v ys g hd fp hy dy rr
    exact q F2 H2 v (g1.trans (gm_state hst h1 g hd fp)) (S1.state hst h1 g hy fp dy) (rr.backM g1.d)
  | ex x es =>
    cases e
    intro F2 H2 cls d ys g hd fp hy dy xx
    exact q F2 H2 cls d (g1.trans (gm_state hst h1 g hd fp)) (S1.state hst h1 g hy fp dy) xx
theorem dem_callX {n : Nat} {m : List PyData → Option FX} {t : TA} {af : AM} (hn : ∀ ds r, m ds = some r → ds.length = n) (h : DAM mg K W t af) : DEM mg K W (tCallSD (spX mg K n m) [] (WE W) t) (mCallX m af) := fun F0 H0 F H σ env ans S e Q q => by
  rcases bMd e with ⟨ds, e1, ea, e⟩ | ⟨x, e1, ea, rfl⟩
  case inr => exact h F0 H0 F H σ env _ S ea _ q
  refine h.run S ea fun F1 H1 vs g1 S1 d1 => ?_
  rw [List.append_nil]
  have hm : ∃ a, m ds = some a := by
    cases q : m ds with
    | none => rw [q] at e; cases e
    | some a => exact ⟨a, rfl⟩
  obtain ⟨a, em⟩ := hm
  rw [em] at e
  refine ⟨by rw [DpAll.len d1, hn _ _ em], F1, ds, a, S1.fh, d1, em, ?_⟩
  cases a with
  | rt r =>
    cases e
    intro F2 H2 v g rr
    exact q F2 H2 v (g1.trans (.of g)) (S1.grow g) (rr.backM g1.d)
  | ex x =>
    cases e
    intro F2 H2 cls d g xx
    exact q F2 H2 cls d (g1.trans (.of g)) (S1.grow g) xx
theorem fnS_len {N n : Nat} {f : SFm} {st ds : List PyData} {r : FR} (h : fnS N n f st ds = some r) : ds.length + 1 = n := by
  unfold fnS at h
  split at h
  · assumption
  · cases h
theorem fnX_len {N n : Nat} {f : SFm} {ds : List PyData} {r : FX} (h : fnX N n f ds = some r) : ds.length = n := by
  unfold fnX at h
  split at h
  · assumption
  · cases h
end
section
variable {X : Cx} {W : WX} {x : Str} {p pos : Pos} {o e : Expr} {es : List Expr} {t : TA} {af : AM}
theorem me_callS {k f N n i : Nat} {K : PySem.W.Frag} {mg : Str → Option Value} {fd : FuncData} {ps : List Str} {b : SFm} (G : FnOk X.prog X.w X.K X.mg X.base (L2.CX X.prog X.w) k f fd ps (spS X.mg X.K n (fnS N n b))) (hr : Room k X.A) (hg : Gl X x) (hm : X.mg x = some (.ref f)) (hk : PySem.W.keepIn X.K (.ref f) = true) (hb : Binds X.K fd ps []) (tk : Takes X W)
    (ho : PE X o (tVar i)) (ha : SAM X W es t af) (hdb : (x == ("__debug__" : Str)) = false := by decide) (he : starEach (o :: es) X.env = (false, eval o X.env) :: starEach es X.env := by rfl) (hpl : (backTo pos (starEach es X.env)).any (·.1) = false := by rfl) (hK : X.K = K := by rfl) (hM : X.mg = mg := by rfl) :
    SEM X W (.Call (.Name x p) (o :: es) [] pos) (tCallSD (spS mg K n (fnS N n b)) [] (WE W) (tCons (tVar i) t)) (mCallS (fnS N n b) i af) := by
  subst hK hM
  exact ⟨pe_callSD G hr hg hm hk hb .nil (fun σ => passAt tk σ) (pa_cons ho ha.pa he) hdb he hpl, dem_callS (fun _ _ _ => fnS_len) ha.da⟩
theorem me_callX {k f N n : Nat} {K : PySem.W.Frag} {mg : Str → Option Value} {fd : FuncData} {ps : List Str} {b : SFm} (G : FnOk X.prog X.w X.K X.mg X.base (L2.CX X.prog X.w) k f fd ps (spX X.mg X.K n (fnX N n b))) (hr : Room k X.A) (hg : Gl X x) (hm : X.mg x = some (.ref f)) (hk : PySem.W.keepIn X.K (.ref f) = true) (hb : Binds X.K fd ps []) (tk : Takes X W)
    (ha : SAM X W (e :: es) t af) (hdb : (x == ("__debug__" : Str)) = false := by decide) (he : starEach (e :: es) X.env = (false, eval e X.env) :: starEach es X.env := by rfl) (hpl : (backTo pos (starEach es X.env)).any (·.1) = false := by rfl) (hK : X.K = K := by rfl) (hM : X.mg = mg := by rfl) :
    SEM X W (.Call (.Name x p) (e :: es) [] pos) (tCallSD (spX mg K n (fnX N n b)) [] (WE W) t) (mCallX (fnX N n b) af) := by
  subst hK hM
  exact ⟨pe_callSD G hr hg hm hk hb .nil (fun σ => passAt tk σ) ha.pa hdb he hpl, dem_callX (fun _ _ => fnX_len) ha.da⟩
theorem me_call {k f N n : Nat} {K : PySem.W.Frag} {fd : FuncData} {ps : List Str} {b : SF} (G : FnOk X.prog X.w X.K X.mg X.base CX0 k f fd ps (spD X.K n (fnD N n b))) (hr : Room k X.A) (hg : Gl X x) (hm : X.mg x = some (.ref f)) (hk : PySem.W.keepIn X.K (.ref f) = true) (hb : Binds X.K fd ps [])
    (ha : SAM X W (e :: es) t af) (hdb : (x == ("__debug__" : Str)) = false := by decide) (he : starEach (e :: es) X.env = (false, eval e X.env) :: starEach es X.env := by rfl) (hpl : (backTo pos (starEach es X.env)).any (·.1) = false := by rfl) (hK : X.K = K := by rfl) :
    SEM X W (.Call (.Name x p) (e :: es) [] pos) (L2.tCall (spD K n (fnD N n b)) [] E0 t) (mCall (fnD N n b) af) := by
  subst hK
  exact ⟨pe_call G hr hg hm hk hb .nil pass0 ha.pa hdb he hpl, dem_call (fun _ _ => fnD_len) ha.da⟩
end

/-! ### defs -/
section
variable {P : Program} {w : World} {K : PySem.W.Frag} {mg : Str → Option Value} {base : Heap}
abbrev WD (E : XK) : WX := fun cls d _ H => E cls d H
theorem same_ers {H : Hp} {p : Addr} : Same (ers H p) H := fun a o e => (ers_some e).2
theorem slots_startS {F H : Hp} {p : Addr} {xs : List V} {ws : List V} {st ds : List PyData} {N : List Str} {n : Nat} (h : DpAll K F ws ds) (hn : ws.length + 1 = n) (fp : F p = none) (hp : H p = some (.lst xs)) (hx : DpAll K F xs st) :
    Slots K (ers H p) F H (L2.start N (.ref p :: ws)) (startS N.length n st ds) := by
  have hl := DpAll.len h
  have e1 : ∀ i s, (startS N.length n st ds)[i]? = some s → (i = 0 ∧ s = .own st) ∨ (∃ j d, i = j + 1 ∧ ds[j]? = some d ∧ s = .val d) ∨ s = .no := fun i s e => by
    cases i with
    | zero =>
      cases e
      exact .inl ⟨rfl, rfl⟩
    | succ j =>
      have e : (ds.map Sl.val ++ List.replicate (N.length - n) .no)[j]? = some s := e
      by_cases hj : j < ds.length
      · rw [List.getElem?_append_left (by simpa using hj), List.getElem?_map, List.getElem?_eq_getElem hj] at e
        cases e
        exact .inr (.inl ⟨j, _, rfl, List.getElem?_eq_getElem hj, rfl⟩)
      · rw [List.getElem?_append_right (by simp; omega), List.getElem?_replicate] at e
        split at e
        · cases e
          exact .inr (.inr rfl)
        · cases e
  have z0 : (L2.start N (.ref p :: ws))[0]? = some (some (.ref p)) := rfl
  have zs : ∀ j v, ws[j]? = some v → (L2.start N (.ref p :: ws))[j + 1]? = some (some v) := fun j v e => by
    unfold L2.start
    have hj : j < ws.length := (List.getElem?_eq_some_iff.mp e).1
    rw [List.getElem?_append_left (by simp; omega), List.getElem?_map, List.getElem?_cons_succ, e]
    rfl
  refine ⟨by simp [L2.start, startS, hl] at hn ⊢ <;> omega, fun _ => p, fun i v s q1 q2 => ?_, fun i j es fs hij q1 q2 => ?_⟩
  · rcases e1 i s q2 with ⟨rfl, rfl⟩ | ⟨j, d, rfl, hd, rfl⟩ | rfl
    · rw [z0] at q1
      cases q1
      exact ⟨xs, rfl, ers_same, fp, hp, hx⟩
    · obtain ⟨u, eu, du⟩ := DpAll.get h hd
      rw [zs j u eu] at q1
      cases q1
      exact ⟨u, rfl, du⟩
    · trivial
  · exfalso
    rcases e1 i _ q1 with ⟨rfl, _⟩ | ⟨_, _, _, _, z⟩ | z
    · rcases e1 j _ q2 with ⟨rfl, _⟩ | ⟨_, _, _, _, z⟩ | z
      · exact hij rfl
      · cases z
      · cases z
    · cases z
    · cases z
theorem stOf_some {env : En} {ds : List PyData} (h : stOf env = some ds) : env[0]? = some (.own ds) := by
  unfold stOf at h
  split at h
  · rename_i e
    cases h
    exact e
  · cases h
/-- THE RULE for a def whose first parameter is a state -/
theorem okS {x qual : Str} {st : Stmt} {f : Addr} {fd : FuncData} {N ps : List Str} {k : Nat} {b : SFm} (F : Fun K x qual st f fd) (S : FnScope N ps (defScope st))
    (hbody : ∀ (cdv : Value) (A : Around) (outer : List PySem.Env) (s : Shared) (H : Hp) (E : XK), Room k (A.deeper (envOfC qual (defScope st) s.heap.objs.size f cdv)) → ∃ t, SSsm (cxOf (L2.CX P w) P w K mg base N qual (defScope st) f cdv A outer s H E) (WD E) [0] (defBody st) t b) :
    FnOk P w K mg base (L2.CX P w) (k + 1) f fd ps (spS mg K ps.length (fnS N.length ps.length b)) := by
  refine F.okX S (fun vs H Q E h => h.1) (fun cdv A outer s H vs Q E hr h => ?_)
  obtain ⟨hn, p, ws, F0, xs, st0, ds, a, rfl, fh, fp, hp, hx, hd, er, q⟩ := h
  obtain ⟨t, ht⟩ := hbody cdv A outer s H E hr
  refine ⟨t, ht.ps, ?_⟩
  unfold fnS at er
  split at er
  case isFalse => cases er
  have gr : Grow F0 (ers H p) F0 H := ⟨Same.refl F0, same_ers, fh, fun _ _ h => h⟩
  have S0 : Sta K F0 (ers H p) F0 H (L2.start N (.ref p :: ws)) (startS N.length ps.length st0 ds) := ⟨gr, slots_startS hd (by simpa using hn) fp hp hx⟩
  have hdom : ∀ (F' H' : Hp) (ys : List V), Same (ers H p) H' → H' p = some (.lst ys) → ∀ a : Addr, H a ≠ none → H' a ≠ none := fun F' H' ys g hy a ha => by
    by_cases e : a = p
    · rw [e, hy]; exact Option.some_ne_none _
    · exact same_ne g (by rw [ers_ne e]; exact ha)
  have pin0 : Pin [0] (fun i => if i = 0 then some (some (V.ref p)) else none) (L2.start N (.ref p :: ws)) := fun i hi => by
    cases List.mem_singleton.mp hi
    rfl
  have get : ∀ {F' H' : Hp} {σ' : L2.St} {env' : En} {ds' : List PyData}, Sta K F0 (ers H p) F' H' σ' env' → Pin [0] (fun i => if i = 0 then some (some (V.ref p)) else none) σ' → stOf env' = some ds' →
      σ'[0]? = some (some (.ref p)) ∧ ∃ ys, F' p = none ∧ H' p = some (.lst ys) ∧ DpAll K F' ys ds' := fun {F' H' σ' env' ds'} S' p' e => by
    obtain ⟨p2, ys, k1, k0, k2, k3, k4⟩ := S'.s.own (stOf_some e)
    have k5 : σ'[0]? = some (some (.ref p)) := p' 0 (List.mem_singleton.mpr rfl)
    rw [k5] at k1
    cases k1
    exact ⟨k5, ys, k2, k3, k4⟩
  cases eb : b (startS N.length ps.length st0 ds) with
  | none => rw [eb] at er; cases er
  | some o =>
    rw [eb] at er
    refine ht.ds _ F0 (ers H p) F0 H _ _ _ S0 pin0 eb _ ?_
    cases o with
    | nx env =>
      obtain ⟨ds', e1, er⟩ := bnd er
      cases er
      intro F' H' σ' _ S' p'
      obtain ⟨_, ys, h1, h2, h3⟩ := get S' p' e1
      exact q F' H' _ ys S'.g (hdom F' H' ys S'.g.h h2) h1 h2 h3 .non
    | rt r w =>
      cases w with
      | none => cases er
      | some env =>
        rw [resS_rt] at er
        split at er
        case isFalse => cases er
        rename_i hfl
        obtain ⟨ds', e1, er⟩ := bnd er
        cases er
        intro F' H' σ' v S' p' rr ap
        obtain ⟨h0, ys, h1, h2, h3⟩ := get S' p' e1
        refine q F' H' v ys S'.g (hdom F' H' ys S'.g.h h2) h1 h2 h3 ?_
        cases r with
        | val d => exact rr
        | own es =>
          obtain ⟨p2, zs, rfl, a1, a2, a3, a4⟩ := rr
          have hne : p2 ≠ p := fun z => ap 0 ds' es rfl (stOf_some e1) (by rw [z]; exact h0)
          refine ⟨p2, zs, rfl, a1, ?_, a3, a4⟩
          rw [ers_ne hne] at a2
          exact a2
        | own3 _ _ _ => cases hfl
    | bk env => cases er
    | ct env => cases er
    | ex e env =>
      obtain ⟨ds', e1, er⟩ := bnd er
      cases er
      intro F' H' σ' cls d _ S' p' xx
      obtain ⟨_, ys, h1, h2, h3⟩ := get S' p' e1
      exact q F' H' cls d ys S'.g (hdom F' H' ys S'.g.h h2) h1 h2 h3 xx
theorem okX {x qual : Str} {st : Stmt} {f : Addr} {fd : FuncData} {N ps : List Str} {k : Nat} {b : SFm} (F : Fun K x qual st f fd) (S : FnScope N ps (defScope st))
    (hbody : ∀ (cdv : Value) (A : Around) (outer : List PySem.Env) (s : Shared) (H : Hp) (E : XK), Room k (A.deeper (envOfC qual (defScope st) s.heap.objs.size f cdv)) → ∃ t, SSsm (cxOf (L2.CX P w) P w K mg base N qual (defScope st) f cdv A outer s H E) (WD E) [] (defBody st) t b) :
    FnOk P w K mg base (L2.CX P w) (k + 1) f fd ps (spX mg K ps.length (fnX N.length ps.length b)) := by
  refine F.okX S (fun vs H Q E h => h.1) (fun cdv A outer s H vs Q E hr h => ?_)
  obtain ⟨hn, F0, ds, a, fh, hd, er, q⟩ := h
  obtain ⟨t, ht⟩ := hbody cdv A outer s H E hr
  refine ⟨t, ht.ps, ?_⟩
  unfold fnX at er
  split at er
  case isFalse => cases er
  have S0 : Sta K F0 H F0 H (L2.start N vs) (startD N.length ps.length ds) := ⟨Grow.refl fh, slots_start hd hn⟩
  have pin0 : Pin [] (fun _ => none) (L2.start N vs) := fun i hi => by cases hi
  cases eb : b (startD N.length ps.length ds) with
  | none => rw [eb] at er; cases er
  | some o =>
    rw [eb] at er
    refine ht.ds _ F0 H F0 H _ _ _ S0 pin0 eb _ ?_
    cases o with
    | nx env =>
      cases er
      exact fun F' H' σ' _ S' _ => q F' H' _ S'.g .non
    | rt r w =>
      rw [resX_rt] at er
      cases er
      cases w with
      | none => exact fun F' H' v g rr => q F' H' v g rr
      | some env => exact fun F' H' σ' v S' _ rr _ => q F' H' v S'.g rr
    | bk env => cases er
    | ct env => cases er
    | ex e env =>
      cases er
      exact fun F' H' σ' cls d _ S' _ xx => q F' H' cls d S'.g xx
end

/-! ### the law's own end -/
theorem law_atM {P : Program} {w : World} {K : PySem.W.Frag} {mg mb : Str → Option Value} {k : Nat} {fa a : Addr} {fd : FuncData} {N : List Str} {st : Stmt} {s₁ : Shared} {vs : List Value} {ns : List Int} {x qual : Str} {b : SFm}
    (F : Fun K x qual st fa fd) (S : FnScope N ["script"] (defScope st))
    (KX : K.In s₁.heap) (gns : s₁.heap.Ns mainGlobals mg) (bns : s₁.heap.Ns builtinsNs mb) (boots : ∀ x : Str, x ≠ "__name__" → mb x = bootBuiltins x) (lim : s₁.heap.NoLimit) (gens : s₁.gens = #[])
    (ha : s₁.heap.get? a = some { cls := .type "list", data := .seq vs.toArray }) (hi : IntsAre vs ns) (hl : ns.length ≤ sizeLine) (hr : Room (k + 1) callerA)
    (bnd : ∀ (s : Shared) (u : Value), BindsTo s fd ⟨[u], []⟩ [("script", u)])
    (val : fnX N.length 1 b [.list (ns.map PyData.int)] = some (.rt (.val (.bool true))))
    (body : ∀ (base : Heap), K.In base → base.Ns mainGlobals mg → ∀ (cdv : Value) (s : Shared) (H : Hp), Room k (callerA.deeper (envOfC qual (defScope st) s.heap.objs.size fa cdv)) →
      ∃ t, SSsm (cxOf CX0 P w K mg base N qual (defScope st) fa cdv callerA [] s H E0).nox WF [] (defBody st) t b) :
    codeAny (model P w) callerA (.call (.ref fa) ⟨[.ref a], []⟩) (fun r s' => r = .ok (.ret (.bool true)) ∧ OldK s₁.heap s'.heap ∧ s'.os = s₁.os ∧ AllBare s'.gens) s₁ := by
  have iv := vals_ints hi
  have il := hi.length
  generalize hH : headH K a vs ns = H
  have at_ : ∀ {b : Addr} {u : HO}, H b = some u → b = a ∧ K.lookup a = none ∧ u = .frz { cls := .type "list", data := .seq vs.toArray } (.lst (ns.map V.int)) := fun {b u} e => headH_some (hH ▸ e)
  have free : ∀ {b : Addr} {o : Obj}, s₁.heap.get? b = some o → (∀ es n, o.data ≠ .seq es n) → H b = none := fun {b o} e d => by
    cases q : H b with
    | none => rfl
    | some u =>
      obtain ⟨rfl, _, _⟩ := at_ q
      rw [ha] at e
      cases e
      exact absurd rfl (d _ _)
  have keepNs : ∀ {c : Addr} {m : Str → Option Value}, s₁.heap.Ns c m → (hidT s₁.heap H).Ns c m := fun {c m} ⟨o, es, ep, e, d, r⟩ =>
    ⟨o, es, ep, hidT_get e (free e fun _ _ z => by rw [d] at z; cases z), d, r⟩
  have KB : K.In (hidT s₁.heap H) := fun c o e => hidT_get (KX c o e) (by
    cases q : H c with
    | none => rfl
    | some u =>
      obtain ⟨rfl, n, _⟩ := at_ q
      rw [n] at e
      cases e)
  obtain ⟨mc, l1, l2⟩ := lim
  have md : Mod K mg (hidT s₁.heap H) := ⟨KB, keepNs gns, ⟨mb, keepNs bns, boots⟩, mc, keepNs l1, l2⟩
  have hok : HOk P w H s₁.heap := fun c u z => by
    obtain ⟨rfl, n, rfl⟩ := at_ z
    exact ⟨ha, by rw [List.length_map]; exact hl, vs, _, iv, ha⟩
  have e0 : Env0 P w K mg (hidT s₁.heap H) callerA [] s₁ H :=
    ⟨rfl, md, fun c o e => of_hidT e, Nat.le_of_eq (hidT_size _ _), trivial, fun c hc => (by cases hc), hok, .of_eq gens⟩
  have sq : SqL K H a (ns.map V.int) := by
    cases hk : K.lookup a with
    | some o =>
      have e := KX a o hk
      rw [ha] at e
      cases e
      exact Or.inr ⟨_, vs.toArray, _, hk, rfl, rfl, rfl, by rw [List.size_toArray, il]; exact hl, by simpa using iv⟩
    | none =>
      refine Or.inl (Or.inr ⟨{ cls := .type "list", data := .seq vs.toArray }, ?_⟩)
      rw [← hH]
      unfold headH
      rw [if_pos ⟨rfl, hk⟩]
  have run : CallAt P w callerA [] H s₁ fa [.ref a] (fun v _ => v = .bl true) := by
    refine callAt (vs := [.ref a]) F S hr e0 (bnd s₁ (.ref a)) (.cons rfl .nil) rfl fun cdv room => ?_
    obtain ⟨t, ht⟩ := body _ KB (keepNs gns) cdv s₁ H room
    refine ⟨t, ht.ps, ?_⟩
    unfold fnX at val
    rw [if_pos (show [PyData.list (ns.map PyData.int)].length = 1 from rfl)] at val
    have d0 : DpAll K H [V.ref a] [.list (ns.map PyData.int)] := .cons (.lst sq (DpAll.ints ns)) .nil
    have S0 : Sta K H H H H (L2.start N [V.ref a]) (startD N.length 1 [.list (ns.map PyData.int)]) := ⟨Grow.refl (Same.refl H), slots_start d0 rfl⟩
    have pin0 : Pin [] (fun _ => none) (L2.start N [V.ref a]) := fun i hi => by cases hi
    cases eb : b (startD N.length 1 [.list (ns.map PyData.int)]) with
    | none => rw [eb] at val; cases val
    | some o =>
      rw [eb] at val
      refine ht.ds _ H H H H _ _ _ S0 pin0 eb _ ?_
      cases o with
      | nx env => cases val
      | bk env => cases val
      | ct env => cases val
      | ex e env => cases val
      | rt r w =>
        rw [resX_rt] at val
        cases val
        cases w with
        | none =>
          intro F' H' v g rr
          cases rr
          rfl
        | some env =>
          intro F' H' σ' v S' _ rr _
          cases rr
          rfl
  unfold CallAt at run
  refine codeAny_mono run fun r s' h => ?_
  cases r with
  | error e => exact h.elim
  | ok fl =>
    cases fl with
    | next => exact h.elim
    | brk => exact h.elim
    | cont => exact h.elim
    | ret u =>
      obtain ⟨v, H', os, bare, un, hok', r', rfl⟩ := h
      obtain rfl : u = Value.bool true := r'
      refine ⟨rfl, OldK.of_keep fun c o e => ?_, os, bare⟩
      cases q : H c with
      | none => exact un.keep c o e q (fun z => by cases z) (fun z => by cases z)
      | some u =>
        obtain ⟨rfl, n, rfl⟩ := at_ q
        have z1 := (hok c _ q).1
        have z2 := (hok' c _ (un.frzs c _ _ q)).1
        rw [e] at z1
        cases z1
        exact z2
def LawM (P : Program) (w : World) (K : PySem.W.Frag) (mg : Str → Option Value) (k : Nat) (fa : Addr) : Prop :=
  ∃ (fd : FuncData) (N : List Str) (st : Stmt) (x qual : Str) (b : SFm), Fun K x qual st fa fd ∧ FnScope N ["script"] (defScope st) ∧
    (∀ (s : Shared) (u : Value), BindsTo s fd ⟨[u], []⟩ [("script", u)]) ∧
    (∀ ns : List Int, ns.length ≤ 63 → fnX N.length 1 b [.list (ns.map PyData.int)] = some (.rt (.val (.bool true)))) ∧
    ∀ (base : Heap), K.In base → base.Ns mainGlobals mg → ∀ (cdv : Value) (s : Shared) (H : Hp), Room k (callerA.deeper (envOfC qual (defScope st) s.heap.objs.size fa cdv)) →
      ∃ t, SSsm (cxOf CX0 P w K mg base N qual (defScope st) fa cdv callerA [] s H E0).nox WF [] (defBody st) t b
theorem walkM {l : PySem.W.OpenLaw} {k : Nat} {q : Program} {loose : List Str} {XP : (Str → Option Value) → Heap → Prop} {YP : World → Heap → Prop} {d : DefRec} {K : Params → PySem.W.Frag}
    (hn : l.most = some 63) (hdf : d.params.defaults = []) (hr : Room (k + 1) callerA) (hY : ∀ (w : World) (h : Heap), YP w h → (K w.params).In h)
    (F : ∀ (w : World) (mg : Str → Option Value) (fa : Addr) (h : Heap), (K w.params).In h → h.Ns mainGlobals mg → mg d.name = some (.ref fa) → LawM l.prog w (K w.params) mg k fa) :
    PySem.W.WalkO q loose XP YP l.row.toRowW d [] (fun f vs => PySem.call f vs) :=
  Att.attach_call hn hdf fun w s₀ s₁ mg mb fa o pm cd doc a vs ns G Y ho hd hcd hmg hobj hints hlen hg => by
    have kin := hY w _ Y
    obtain ⟨fd, N, st, x, qual, b, F1, S, bnd, val, body⟩ := F w mg fa _ kin G.T.g hmg
    exact law_atM F1 S kin G.T.g G.T.b G.T.builtins G.T.nolimit hg hobj hints (Nat.le_trans hlen (by rw [sizeLine_eq]; decide)) hr bnd (val ns hlen) body
end Dn
/-! Ds6: the rules, construct by construct. -/
namespace Dn
open PySem PySem.Spec PyProof.Rows L2
section
variable {X : Cx} {W : WX} {I : List Nat} {e a b c o i : Expr} {es : List Expr} {pos p apos : Pos} {te ta tb tc : TE} {t : TA} {tt tu : TT} {f g h : EM} {af : AM} {u v : TM} {x y : Str}
theorem me_p {fp : EF} (h1 : SE X e te fp) : SEM X W e te (mP fp) := ⟨h1.pe, dem_p h1.de⟩
theorem mt_p {fp : TF} (h1 : ST X e tt fp) : STM X W e tt (mPT fp) := ⟨h1.pt, dtm_p h1.dt⟩
theorem mw_p {fp : TF} (h1 : SW X e tt fp) : SWM X W e tt (mPT fp) := ⟨h1.pw, dtm_p h1.dt⟩
theorem ma_p {fp : AF} (h1 : SA X es t fp) : SAM X W es t (mPA fp) := ⟨h1.pa, dam_p h1.da⟩
theorem ma_cons (h1 : SEM X W e te f) (h2 : SAM X W es t af) (hs : starEach (e :: es) X.env = (false, eval e X.env) :: starEach es X.env := by rfl) : SAM X W (e :: es) (tCons te t) (mCons f af) := ⟨pa_cons h1.pe h2.pa hs, dam_cons h1.de h2.da⟩
theorem me_tup {x1} (h1 : SAM X W es t af) : SEM X W (.Tuple es x1 pos) (tTup t) (mTup af) := ⟨pe_tup h1.pa, dem_tup h1.da⟩
theorem me_lst (h1 : SAM X W es t af) : SEM X W (.List es pos) (tLst t) (mLst af) := ⟨pe_lst h1.pa, dem_lst h1.da⟩
theorem me_add {K : PySem.W.Frag} (h1 : SEM X W a ta f) (h2 : SEM X W b tb g) (hK : X.K = K := by rfl) : SEM X W (.BinOp a .Add b pos) (tOp (rAddG K) ta tb) (mBin gAdd f g) := by
  subst hK
  exact ⟨pe_op op_addG h1.pe h2.pe, dem_bin rv_add h1.de h2.de⟩
theorem me_sub (h1 : SEM X W a ta f) (h2 : SEM X W b tb g) : SEM X W (.BinOp a .Sub b pos) (tOp (rI0 fun i j => .int (i - j)) ta tb) (mBin gSub f g) := ⟨pe_op op_sub h1.pe h2.pe, dem_bin rv_sub h1.de h2.de⟩
theorem me_mul (h1 : SEM X W a ta f) (h2 : SEM X W b tb g) : SEM X W (.BinOp a .Mult b pos) (tOp (rI MulOk fun i j => .int (i * j)) ta tb) (mBin gMul f g) := ⟨pe_op op_mulG h1.pe h2.pe, dem_bin rv_mul h1.de h2.de⟩
theorem me_fdiv (h1 : SEM X W a ta f) (h2 : SEM X W b tb g) : SEM X W (.BinOp a .FloorDiv b pos) (tOp (rI (fun _ j => j ≠ 0 ∧ j.natAbs < divLim) fun i j => .int (i.fdiv j)) ta tb) (mBin gFdiv f g) := ⟨pe_op op_fdivG h1.pe h2.pe, dem_bin rv_fdiv h1.de h2.de⟩
theorem me_mod (h1 : SEM X W a ta f) (h2 : SEM X W b tb g) : SEM X W (.BinOp a .Mod b pos) (tOp (rI (fun _ j => j ≠ 0) fun i j => .int (i.fmod j)) ta tb) (mBin gMod f g) := ⟨pe_op op_modN h1.pe h2.pe, dem_bin rv_mod h1.de h2.de⟩
theorem me_neg (h1 : SEM X W a ta f) : SEM X W (.UnaryOp .USub a pos) (tUn (rU fun i => .int (-i)) ta) (mUn gNeg f) := ⟨pe_un un_neg h1.pe, dem_un ru_neg h1.de⟩
theorem me_lt (h1 : SEM X W a ta f) (h2 : SEM X W b tb g) : SEM X W (.Compare a [.Lt] [b] pos) (tOp (rI0 fun i j => .bl (decide (i < j))) ta tb) (mBin gLt f g) := ⟨pe_cmpR op_lt h1.pe h2.pe (nomark _), dem_bin rv_lt h1.de h2.de⟩
theorem me_le (h1 : SEM X W a ta f) (h2 : SEM X W b tb g) : SEM X W (.Compare a [.LtE] [b] pos) (tOp (rI0 fun i j => .bl (decide (i ≤ j))) ta tb) (mBin gLe f g) := ⟨pe_cmpR op_le h1.pe h2.pe (nomark _), dem_bin rv_le h1.de h2.de⟩
theorem me_gt (h1 : SEM X W a ta f) (h2 : SEM X W b tb g) : SEM X W (.Compare a [.Gt] [b] pos) (tOp (rI0 fun i j => .bl (decide (j < i))) ta tb) (mBin gGt f g) := ⟨pe_cmpR op_gt h1.pe h2.pe (nomark _), dem_bin rv_gt h1.de h2.de⟩
theorem me_ge (h1 : SEM X W a ta f) (h2 : SEM X W b tb g) : SEM X W (.Compare a [.GtE] [b] pos) (tOp (rI0 fun i j => .bl (decide (j ≤ i))) ta tb) (mBin gGe f g) := ⟨pe_cmpR op_ge h1.pe h2.pe (nomark _), dem_bin rv_ge h1.de h2.de⟩
theorem me_eqT {K : PySem.W.Frag} (hu : X.A.units + 64 < cLine) (h1 : SEM X W a ta f) (h2 : SEM X W b tb g) (hK : X.K = K := by rfl) : SEM X W (.Compare a [.Eq] [b] pos) (tOp (fun x y H Q => rEq x y H Q ∨ rEqD K x y H Q) ta tb) (mBin gEqT f g) := by
  subst hK
  exact ⟨pe_cmpR (OpR.or op_eq (op_eqD hu)) h1.pe h2.pe (nomark _), dem_bin rv_eqT h1.de h2.de⟩
theorem me_neT {K : PySem.W.Frag} (hu : X.A.units + 64 < cLine) (h1 : SEM X W a ta f) (h2 : SEM X W b tb g) (hK : X.K = K := by rfl) : SEM X W (.Compare a [.NotEq] [b] pos) (tOp (fun x y H Q => rNe x y H Q ∨ rNeD K x y H Q) ta tb) (mBin gNeT f g) := by
  subst hK
  exact ⟨pe_cmpR (OpR.or op_ne (op_neD hu)) h1.pe h2.pe (nomark _), dem_bin rv_neT h1.de h2.de⟩
theorem me_inG {K : PySem.W.Frag} (hu : X.A.units + 65 < cLine) (h1 : SEM X W a ta f) (h2 : SEM X W b tb g) (hm : behindInMarks .In b = false := by rfl) (hK : X.K = K := by rfl) : SEM X W (.Compare a [.In] [b] pos) (tOp (fun x y H Q => rInD K x y H Q ∨ rInT K false x y H Q) ta tb) (mBin gInG f g) := by
  subst hK
  exact ⟨pe_cmpR ((op_inD hu).or (op_inT hu)) h1.pe h2.pe hm, dem_bin rv_inG h1.de h2.de⟩
theorem me_notInG {K : PySem.W.Frag} (hu : X.A.units + 65 < cLine) (h1 : SEM X W a ta f) (h2 : SEM X W b tb g) (hm : behindInMarks .NotIn b = false := by rfl) (hK : X.K = K := by rfl) : SEM X W (.Compare a [.NotIn] [b] pos) (tOp (fun x y H Q => rNotInD K x y H Q ∨ rInT K true x y H Q) ta tb) (mBin gNotInG f g) := by
  subst hK
  exact ⟨pe_cmpR ((op_notInD hu).or (op_notInT hu)) h1.pe h2.pe hm, dem_bin rv_notInG h1.de h2.de⟩
theorem me_isN (h1 : SEM X W a ta f) {j pos'} : SEM X W (.Compare a [.Is] [.Constant .none j pos'] pos) (tOp (fun x y H Q => y = .non ∧ Q (.bl (decide (x = .non))) H) ta (tC .non)) (mBin gIsN f (mP (eC .none))) := ⟨pe_cmpR op_isN h1.pe pe_non (nomark _), dem_bin rv_isN h1.de (dem_p (de_c fun _ => .non))⟩
theorem me_notN (h1 : SEM X W a ta f) {j pos'} : SEM X W (.Compare a [.IsNot] [.Constant .none j pos'] pos) (tOp (fun x y H Q => y = .non ∧ Q (.bl (!decide (x = .non))) H) ta (tC .non)) (mBin gNotN f (mP (eC .none))) := ⟨pe_cmpR op_notN h1.pe pe_non (nomark _), dem_bin rv_notN h1.de (dem_p (de_c fun _ => .non))⟩
theorem me_isB (h1 : SEM X W a ta f) (h2 : SEM X W b tb g) : SEM X W (.Compare a [.Is] [b] pos) (tOp rIsB ta tb) (mBin gIsB f g) := ⟨pe_cmpR op_isBl h1.pe h2.pe (nomark _), dem_bin rv_isB h1.de h2.de⟩
theorem me_ix {K : PySem.W.Frag} (h1 : SEM X W a ta f) (h2 : SEM X W b tb g) (hs : PlainIx b := by exact fun _ _ => rfl) (hK : X.K = K := by rfl) : SEM X W (.Subscript a b pos) (tOp (rIx K) ta tb) (mBin gIx f g) := by
  subst hK
  exact ⟨pe_ix ix_seq h1.pe h2.pe hs, dem_bin rv_ix h1.de h2.de⟩
theorem me_cb {id : String} {r : List V → Hp → VK → Prop} {gp : List PyData → Option R} (hc : CallR X (.builtin id) r) (hr : RCD X.K r gp) (hg : Gl X x) (hm : X.mg x = none) (hv : bootBuiltins x = some (.builtin id)) (ha : SAM X W (e :: es) t af) (hn : x ≠ "__name__" := by decide) (hdb : (x == ("__debug__" : Str)) = false := by decide)
    (he : starEach (e :: es) X.env = (false, eval e X.env) :: starEach es X.env := by rfl) (hpl : (backTo pos (starEach es X.env)).any (·.1) = false := by rfl) : SEM X W (.Call (.Name x p) (e :: es) [] pos) (tCB r t) (mCall gp af) :=
  ⟨pe_callB hc hg hm hv ha.pa hn hdb he hpl, dem_cb hr ha.da⟩
theorem me_cty {T : String} {r : List V → Hp → VK → Prop} {gp : List PyData → Option R} (hc : CallR X (.type T) r) (hr : RCD X.K r gp) (hg : Gl X x) (hm : X.mg x = none) (hv : bootBuiltins x = some (.type T)) (ha : SAM X W (e :: es) t af) (hn : x ≠ "__name__" := by decide) (hdb : (x == ("__debug__" : Str)) = false := by decide)
    (he : starEach (e :: es) X.env = (false, eval e X.env) :: starEach es X.env := by rfl) (hpl : (backTo pos (starEach es X.env)).any (·.1) = false := by rfl) : SEM X W (.Call (.Name x p) (e :: es) [] pos) (tCB r t) (mCall gp af) :=
  ⟨pe_callTy hc hg hm hv ha.pa hn hdb he hpl, dem_cb hr ha.da⟩
theorem me_c_int (hg : Gl X x) (hm : X.mg x = none) (hv : bootBuiltins x = some (.type "int")) (ha : SAM X W (e :: es) t af) (hn : x ≠ "__name__" := by decide) (hdb : (x == ("__debug__" : Str)) = false := by decide)
    (he : starEach (e :: es) X.env = (false, eval e X.env) :: starEach es X.env := by rfl) (hpl : (backTo pos (starEach es X.env)).any (·.1) = false := by rfl) : SEM X W (.Call (.Name x p) (e :: es) [] pos) (tCB (fun xs H Q => (∃ i, xs = [.int i] ∧ Q (.int i) H) ∨ ∃ k, xs = [.bl k] ∧ Q (.int (if k then 1 else 0)) H) t) (mCall gInt af) := me_cty call_int1 rc_int hg hm hv ha hn hdb he hpl
theorem me_c_len {K : PySem.W.Frag} (hg : Gl X x) (hm : X.mg x = none) (hv : bootBuiltins x = some (.builtin "len")) (ha : SAM X W (e :: es) t af) (hn : x ≠ "__name__" := by decide) (hdb : (x == ("__debug__" : Str)) = false := by decide)
    (he : starEach (e :: es) X.env = (false, eval e X.env) :: starEach es X.env := by rfl) (hpl : (backTo pos (starEach es X.env)).any (·.1) = false := by rfl) (hK : X.K = K := by rfl) : SEM X W (.Call (.Name x p) (e :: es) [] pos) (tCB (fun xs H Q => ∃ x n, xs = [x] ∧ LenV K x H n ∧ Q (.int n) H) t) (mCall gLen af) := by
  subst hK
  exact me_cb call_len rc_len hg hm hv ha hn hdb he hpl
/-! tests -/
theorem mt_cmp (h1 : SEM X W e te f) (hp : PE X e te → PT X e tt) (hd : ∀ {ff : EM}, DEM X.mg X.K W te ff → DTM X.mg X.K W tt (mTE ff)) : STM X W e tt (mTE f) := ⟨hp h1.pe, hd h1.de⟩
theorem mt_lt (h1 : SEM X W a ta f) (h2 : SEM X W b tb g) : STM X W (.Compare a [.Lt] [b] pos) (tTest (tOp (rI0 fun i j => .bl (decide (i < j))) ta tb)) (mTE (mBin gLt f g)) := ⟨pt_cmpR op_lt h1.pe h2.pe (nomark _), dtm_test (dem_bin rv_lt h1.de h2.de)⟩
theorem mt_le (h1 : SEM X W a ta f) (h2 : SEM X W b tb g) : STM X W (.Compare a [.LtE] [b] pos) (tTest (tOp (rI0 fun i j => .bl (decide (i ≤ j))) ta tb)) (mTE (mBin gLe f g)) := ⟨pt_cmpR op_le h1.pe h2.pe (nomark _), dtm_test (dem_bin rv_le h1.de h2.de)⟩
theorem mt_gt (h1 : SEM X W a ta f) (h2 : SEM X W b tb g) : STM X W (.Compare a [.Gt] [b] pos) (tTest (tOp (rI0 fun i j => .bl (decide (j < i))) ta tb)) (mTE (mBin gGt f g)) := ⟨pt_cmpR op_gt h1.pe h2.pe (nomark _), dtm_test (dem_bin rv_gt h1.de h2.de)⟩
theorem mt_ge (h1 : SEM X W a ta f) (h2 : SEM X W b tb g) : STM X W (.Compare a [.GtE] [b] pos) (tTest (tOp (rI0 fun i j => .bl (decide (j ≤ i))) ta tb)) (mTE (mBin gGe f g)) := ⟨pt_cmpR op_ge h1.pe h2.pe (nomark _), dtm_test (dem_bin rv_ge h1.de h2.de)⟩
theorem mt_eqT {K : PySem.W.Frag} (hu : X.A.units + 64 < cLine) (h1 : SEM X W a ta f) (h2 : SEM X W b tb g) (hK : X.K = K := by rfl) : STM X W (.Compare a [.Eq] [b] pos) (tTest (tOp (fun x y H Q => rEq x y H Q ∨ rEqD K x y H Q) ta tb)) (mTE (mBin gEqT f g)) := by
  subst hK
  exact ⟨pt_cmpR (OpR.or op_eq (op_eqD hu)) h1.pe h2.pe (nomark _), dtm_test (dem_bin rv_eqT h1.de h2.de)⟩
theorem mt_neT {K : PySem.W.Frag} (hu : X.A.units + 64 < cLine) (h1 : SEM X W a ta f) (h2 : SEM X W b tb g) (hK : X.K = K := by rfl) : STM X W (.Compare a [.NotEq] [b] pos) (tTest (tOp (fun x y H Q => rNe x y H Q ∨ rNeD K x y H Q) ta tb)) (mTE (mBin gNeT f g)) := by
  subst hK
  exact ⟨pt_cmpR (OpR.or op_ne (op_neD hu)) h1.pe h2.pe (nomark _), dtm_test (dem_bin rv_neT h1.de h2.de)⟩
theorem mt_inG {K : PySem.W.Frag} (hu : X.A.units + 65 < cLine) (h1 : SEM X W a ta f) (h2 : SEM X W b tb g) (hm : behindInMarks .In b = false := by rfl) (hK : X.K = K := by rfl) : STM X W (.Compare a [.In] [b] pos) (tTest (tOp (fun x y H Q => rInD K x y H Q ∨ rInT K false x y H Q) ta tb)) (mTE (mBin gInG f g)) := by
  subst hK
  exact ⟨pt_cmpR ((op_inD hu).or (op_inT hu)) h1.pe h2.pe hm, dtm_test (dem_bin rv_inG h1.de h2.de)⟩
theorem mt_notInG {K : PySem.W.Frag} (hu : X.A.units + 65 < cLine) (h1 : SEM X W a ta f) (h2 : SEM X W b tb g) (hm : behindInMarks .NotIn b = false := by rfl) (hK : X.K = K := by rfl) : STM X W (.Compare a [.NotIn] [b] pos) (tTest (tOp (fun x y H Q => rNotInD K x y H Q ∨ rInT K true x y H Q) ta tb)) (mTE (mBin gNotInG f g)) := by
  subst hK
  exact ⟨pt_cmpR ((op_notInD hu).or (op_notInT hu)) h1.pe h2.pe hm, dtm_test (dem_bin rv_notInG h1.de h2.de)⟩
theorem mt_isN (h1 : SEM X W a ta f) {j pos'} : STM X W (.Compare a [.Is] [.Constant .none j pos'] pos) (tTest (tOp (fun x y H Q => y = .non ∧ Q (.bl (decide (x = .non))) H) ta (tC .non))) (mTE (mBin gIsN f (mP (eC .none)))) := ⟨pt_cmpR op_isN h1.pe pe_non (nomark _), dtm_test (dem_bin rv_isN h1.de (dem_p (de_c fun _ => .non)))⟩
theorem mt_notN (h1 : SEM X W a ta f) {j pos'} : STM X W (.Compare a [.IsNot] [.Constant .none j pos'] pos) (tTest (tOp (fun x y H Q => y = .non ∧ Q (.bl (!decide (x = .non))) H) ta (tC .non))) (mTE (mBin gNotN f (mP (eC .none)))) := ⟨pt_cmpR op_notN h1.pe pe_non (nomark _), dtm_test (dem_bin rv_notN h1.de (dem_p (de_c fun _ => .non)))⟩
theorem mt_val (h1 : SEM X W e te f) (he : ∀ whole, isTrue e X.env whole = (do let v ← whole; standAt e.pos; holding [v] (truthy v)) := by intro _; rfl) : STM X W e (tB te) (mTE f) := ⟨pt_val h1.pe he, dtm_B h1.de⟩
theorem mw_and1 (h1 : STM X W a tt u) : SWM X W (.BoolOp .And [a] pos) tt u := ⟨pw_and1 h1.pt, h1.dt⟩
theorem mw_or1 (h1 : STM X W a tt u) : SWM X W (.BoolOp .Or [a] pos) tt u := ⟨pw_or1 h1.pt, h1.dt⟩
theorem mw_and {rest : List Expr} (h1 : STM X W a tt u) (h2 : SWM X W (.BoolOp .And (b :: rest) pos) tu v) : SWM X W (.BoolOp .And (a :: b :: rest) pos) (tAnd tt tu) (mAnd u v) := ⟨pw_and h1.pt h2.pw, dtm_and h1.dt h2.dt⟩
theorem mw_or {rest : List Expr} (h1 : STM X W a tt u) (h2 : SWM X W (.BoolOp .Or (b :: rest) pos) tu v) : SWM X W (.BoolOp .Or (a :: b :: rest) pos) (tOr tt tu) (mOr u v) := ⟨pw_or h1.pt h2.pw, dtm_or h1.dt h2.dt⟩
theorem mt_not (h1 : STM X W a tt u) : STM X W (.UnaryOp .Not a pos) (tNot tt) (mNot u) := ⟨pt_not h1.pt, dtm_not h1.dt⟩
theorem me_one {op} (h1 : SEM X W a ta f) : SEM X W (.BoolOp op [a] pos) ta f := ⟨pe_one h1.pe, h1.de⟩
theorem me_and {rest : List Expr} (h1 : SEM X W a ta f) (h2 : SEM X W (.BoolOp .And (b :: rest) pos) tb g) : SEM X W (.BoolOp .And (a :: b :: rest) pos) (tAndV ta tb) (mIf (mTE f) g (mP (eC (.bool false)))) := ⟨pe_and h1.pe h2.pe, dem_andV h1.de h2.de⟩
theorem me_or {rest : List Expr} (h1 : SEM X W a ta f) (h2 : SEM X W (.BoolOp .Or (b :: rest) pos) tb g) : SEM X W (.BoolOp .Or (a :: b :: rest) pos) (tOrV ta tb) (mIf (mTE f) (mP (eC (.bool true))) g) := ⟨pe_or h1.pe h2.pe, dem_orV h1.de h2.de⟩
theorem me_not (h1 : SEM X W a ta f) : SEM X W (.UnaryOp .Not a pos) (tNotV ta) (mT (mNot (mTE f))) := ⟨pe_not h1.pe, dem_notV h1.de⟩
theorem me_if (hc : STM X W c tt u) (h1 : SEM X W a ta f) (h2 : SEM X W b tb g) : SEM X W (.IfExp c a b pos) (tIf tt ta tb) (mIf u f g) := ⟨pe_ifExp hc.pt h1.pe h2.pe, dem_ifE hc.dt h1.de h2.de⟩
/-! walks -/
structure SIM (X : Cx) (W : WX) (tg iter : Expr) (wi : TI) (f : IM) : Prop where
  pi : PI X tg iter wi
  d : DIM X.mg X.K W wi f
variable {tg iter elt : Expr} {wi : TI} {it : IM} {tG : TG} {gf : GF} {ws : List Nat} {body : List Stmt} {tS tS' : TS} {sf sg : SFm} {st : Stmt}
theorem mi_p {fp : IF} (h1 : SI X tg iter wi fp) : SIM X W tg iter wi (mPI fp) := ⟨h1.pi, dim_p h1.d⟩
theorem mi_r1 {p pos : Pos} (hg : Gl X "range") (hm : X.mg "range" = none) (ha : SAM X W [a] t af) (hs : starEach [a] X.env = [(false, eval a X.env)] := by rfl) : SIM X W tg (.Call (.Name "range" p) [a] [] pos) (iRng1 t) (iR1M af) := ⟨pi_range1 hg hm ha.pa hs, dim_r1 ha.da⟩
theorem mi_seq {K : PySem.W.Frag} (h1 : SEM X W a ta f) (hK : X.K = K := by rfl) : SIM X W tg a (fun σ H R => iList K ta σ H R ∨ iTup K ta σ H R) (iSM f) := by
  subst hK
  exact ⟨pi_or (pi_list h1.pe) (pi_tup h1.pe), dim_seq h1.de⟩
structure STsM (X : Cx) (W : WX) (ifs : List Expr) (tt : TT) (f : TM) : Prop where
  pts : PTs X ifs tt
  dt : DTM X.mg X.K W tt f
theorem mts_p {ifs : List Expr} {fp : TF} (h1 : STs X ifs tt fp) : STsM X W ifs tt (mPT fp) := ⟨h1.pts, dtm_p h1.dt⟩
theorem mts_one (h1 : STM X W c tt u) : STsM X W [c] tt u := ⟨pts_one h1.pt, h1.dt⟩
theorem me_lc {ifs : List Expr} {scope : Scope} {own : List (Str × Nat)} (hc : X.calm = true) (hN : X.N.Nodup) (hi : SIM X W tg iter wi it) (ok : BlkOk X.N X.env.scope scope own)
    (hg : ∀ (s : Shared) (H : Hp) (C : Addr) (cl : List (Str × Addr)) (fp : List Addr), SG (X.blk s H scope (compEnvC scope cl C X.env) fp) tg ws tG gf) (hG : GO ws gf) (hw : ∀ i ∈ ws, i ∈ own.map (·.2))
    (ht : ∀ (s : Shared) (H : Hp) (C : Addr) (cl : List (Str × Addr)) (fp : List Addr), STsM (X.blk s H scope (compEnvC scope cl C X.env) fp) WF ifs tt u)
    (he : ∀ (s : Shared) (H : Hp) (C : Addr) (cl : List (Str × Addr)) (fp : List Addr), SEM (X.blk s H scope (compEnvC scope cl C X.env) fp) WF elt te f) (hs : ∀ x, foldedSetIterable iter X.env x = pure x := by intro _; rfl) :
    SEM X W (.ListComp elt [⟨tg, iter, ifs, 0⟩] scope pos) (tLc wi tG tt te (own.map (·.2))) (mLc (own.map (·.2)) it gf u f) :=
  ⟨pe_lc hc hN hi.pi ok (fun s H C cl fp => (hg s H C cl fp).pg) (fun s H C cl fp => (ht s H C cl fp).pts) (fun s H C cl fp => (he s H C cl fp).pe) hs,
   dem_lc hi.d (hg X.s_0 X.H_0 0 [] []).d hG hw (ht X.s_0 X.H_0 0 [] []).dt (he X.s_0 X.H_0 0 [] []).de⟩
theorem sm_setLc {i : Nat} {y : Str} {py spos : Pos} {ifs : List Expr} {scope : Scope} {own : List (Str × Nat)} (hc : X.calm = true) (hN : X.N.Nodup) (hy : X.N[i]? = some y) (hyl : X.env.scope.names.lookup y = some .local)
    (hsw : swapsWith (.ListComp elt [⟨tg, iter, ifs, 0⟩] scope pos) (some (.Name y py)) spos.line X.env = pure true) (hi : SIM X W tg iter wi it) (ok : BlkOk X.N X.env.scope scope own)
    (hg : ∀ (s : Shared) (H : Hp) (C : Addr) (cl : List (Str × Addr)) (fp : List Addr), SG (X.blk s H scope (compEnvC scope cl C X.env) fp) tg ws tG gf) (hG : GO ws gf) (hw : ∀ i ∈ ws, i ∈ own.map (·.2))
    (ht : ∀ (s : Shared) (H : Hp) (C : Addr) (cl : List (Str × Addr)) (fp : List Addr), STsM (X.blk s H scope (compEnvC scope cl C X.env) fp) WF ifs tt u)
    (he : ∀ (s : Shared) (H : Hp) (C : Addr) (cl : List (Str × Addr)) (fp : List Addr), SEM (X.blk s H scope (compEnvC scope cl C X.env) fp) WF elt te f) (hI : i ∉ I := by decide) (hs : ∀ x, foldedSetIterable iter X.env x = pure x := by intro _; rfl) :
    SSm X W I (.Assign [.Name y py] (.ListComp elt [⟨tg, iter, ifs, 0⟩] scope pos) spos) (tAsg (tLc wi tG tt te (own.map (·.2))) (gName i)) (mSet i (mLc (own.map (·.2)) it gf u f)) :=
  ⟨ps_setLc hc hN hy hyl hsw hi.pi ok (fun s H C cl fp => (hg s H C cl fp).pg) (fun s H C cl fp => (ht s H C cl fp).pts) (fun s H C cl fp => (he s H C cl fp).pe) hs,
   dsm_set (dem_lc hi.d (hg X.s_0 X.H_0 0 [] []).d hG hw (ht X.s_0 X.H_0 0 [] []).dt (he X.s_0 X.H_0 0 [] []).de) hI⟩
/-! statements -/
variable {rest : List Stmt}
theorem sm_nil : SSsm X W I [] tNext mNext := ⟨pss_nil, dsm_next⟩
theorem sm_one (h1 : SSm X W I st tS sf) : SSsm X W I [st] tS sf := ⟨pss_one h1.ps, h1.ds⟩
theorem sm_cons (h1 : SSm X W I st tS sf) (h2 : SSsm X W I rest tS' sg) : SSsm X W I (st :: rest) (tSeq tS tS') (mSeq sf sg) := ⟨pss_cons h1.ps h2.ps, dsm_seq h1.ds h2.ds⟩
theorem sm_s {fp : SF} (h1 : SS X st tS fp) : SSm X W [] st tS (mS fp) := ⟨h1.ps, dsm_s h1.ds⟩
theorem sm_frz (i : Nat) (h1 : SSm X W I st tS sf) : SSm X W I st tS (mFrz i sf) := ⟨h1.ps, dsm_frz h1.ds⟩
theorem sm_ret (h1 : SEM X W e te f) : SSm X W I (.Return (some e) pos) (tRet te) (mRet f) := ⟨ps_ret h1.pe, dsm_ret h1.de⟩
theorem sm_retN : SSm X W I (.Return none pos) tRetN mRetN := ⟨ps_retN, dsm_retN⟩
theorem sm_retO {i : Nat} (h1 : PE X e (tVar i)) : SSm X W I (.Return (some e) pos) (tRet (tVar i)) (mRetOwn i) := ⟨ps_ret h1, dsm_retOwn⟩
theorem sm_break : SSm X W I (.Break pos) tBreak mBreak := ⟨ps_break, dsm_break⟩
theorem sm_cont : SSm X W I (.Continue pos) tCont mCont := ⟨ps_continue, dsm_cont⟩
theorem sm_pass : SSm X W I (.Pass pos) tNext mNext := ⟨ps_pass, dsm_next⟩
theorem sm_if {b1 b2 : List Stmt} (hc : STM X W c tt u) (h1 : SSsm X W I b1 tS sf) (h2 : SSsm X W I b2 tS' sg) : SSm X W I (.If c b1 b2 pos) (tIfS tt tS tS') (mIfS u sf sg) := ⟨ps_if hc.pt h1.ps h2.ps, dsm_if hc.dt h1.ds h2.ds⟩
theorem sm_set {i : Nat} {pos' : Pos} (hN : X.N.Nodup) (hi : X.N[i]? = some x) (hx : Loc X.env.scope x) (h1 : SEM X W e te f) (hI : i ∉ I := by decide) (hs : swapsWith e (some (.Name x pos')) pos.line X.env = pure false := by rfl) (hf : X.fn x = true ∨ X.env.scope.names.lookup x = some .local := by first | exact .inl rfl | exact .inr rfl | assumption) :
    SSm X W I (.Assign [.Name x pos'] e pos) (tAsg te (gName i)) (mSet i f) := ⟨ps_set hN hi hx h1.pe hs hf, dsm_set h1.de hI⟩
theorem sm_asg (h1 : SEM X W e te f) (hg : SG X tg ws tG gf) (hI : ∀ i ∈ ws, i ∉ I := by decide) (hs : swapsWithSole [tg] e pos.line X.env = pure false := by rfl) (hw : swappedStores [tg] e X.env = pure none := by rfl)
    (h2 : (assignEach [tg] X.env).map (·.2) = [assign tg X.env] := by rfl) : SSm X W I (.Assign [tg] e pos) (tAsg te tG) (mAsg gf f) := ⟨ps_asg h1.pe hg.pg hs hw h2, dsm_asg h1.de hg.d hI⟩
theorem sm_put {j : Nat} {pk : Pos} {fi : EF} (h1 : SEM X W e te f) (h0 : PE X o (tVar j)) (h2 : SE X i ta fi)
    (ha : ∀ v, assign (.Subscript o i pk) X.env v = (do
      let ov ← holding [v] (eval o X.env)
      let iv ← holding [v, ov] (eval i X.env)
      standAt pk
      holding [v, ov, iv] (setItem ov iv v)
      release [v, ov, iv] []) := by intro _; rfl)
    (hs : swapsWithSole [.Subscript o i pk] e pos.line X.env = pure false := by rfl) (hw : swappedStores [.Subscript o i pk] e X.env = pure none := by rfl)
    (h3 : (assignEach [.Subscript o i pk] X.env).map (·.2) = [assign (.Subscript o i pk) X.env] := by rfl) : SSm X W I (.Assign [.Subscript o i pk] e pos) (tAsg te (L2.gSub (tVar j) ta rSetL)) (mPut j fi f) :=
  ⟨ps_asg h1.pe (pg_sub h0 h2.pe set_list ha) hs hw h3, dsm_put h1.de h2.de⟩
theorem sm_drop (h1 : SEM X W e te f) (hs : swapsWith e none pos.line X.env = pure false := by rfl) : SSm X W I (.Expr e pos) (tDrop te) (mDrop f) := ⟨ps_expr h1.pe hs, dsm_drop h1.de⟩
theorem sm_append {j : Nat} {cpos : Pos} (h0 : PE X o (tVar j)) (h1 : SEM X W e te f) (hs : swapsWith (.Call (.Attribute o "append" apos) [e] [] cpos) none pos.line X.env = pure false := by rfl)
    (hbase : attributeBase o "append" X.env (eval o X.env) = eval o X.env := by rfl)
    (hfew : ((backTo cpos (starEach [e] X.env)).all (fun x => !x.1) && (backToKw cpos (keywordEach [] X.env)).all (fun x => x.1.isSome)
      && decide ([e].length + ([] : List Keyword).length + (if ([] : List Keyword).isEmpty then 0 else 1) < 30)) = true := by rfl)
    (hline : (apos.endLine == cpos.line) = true := by rfl) (hst : starEach [e] X.env = (false, eval e X.env) :: starEach [] X.env := by rfl) (hplain : (backTo cpos (starEach [] X.env)).any (·.1) = false := by rfl) :
    SSm X W I (.Expr (.Call (.Attribute o "append" apos) [e] [] cpos) pos) (tDrop (tBM X.K "list" rAppend (tVar j) (tCons te tNil))) (mAppend j f) :=
  ⟨ps_expr (pe_bm PySem.F.plainAttrs_list PySem.F.slot_list_append PySem.F.type_list_append mt_append h0 (pa_cons h1.pe pa_nil hst) hbase hfew hline hst hplain) hs, dsm_append h1.de⟩
theorem sm_for (hp : PassesOwn (model X.prog X.w) X.A X.env X.xe) (hc : X.calm = true) (hi : SIM X W tg iter wi it) (hg : SG X tg ws tG gf) (hb : SSsm X W I body tS sf) (hI : ∀ i ∈ ws, i ∉ I := by decide) (hs : ∀ x, foldedSetIterable iter X.env x = pure x := by intro _; rfl) :
    SSm X W I (.For tg iter body [] pos) (tFor wi tG tS) (mFor it gf sf) := ⟨ps_for hp hc hi.pi hg.pg hb.ps hs, dsm_for hi.d hg.d hb.ds hI⟩
theorem sm_while (hp : PassesOwn (model X.prog X.w) X.A X.env X.xe) (hc : STM X W c tt u) (hb : SSsm X W I body tS sf) : SSm X W I (.While c body [] pos) (tWhile tt tS) (mWhile u sf) := ⟨ps_while hp hc.pt hb.ps, dsm_while hc.dt hb.ds⟩
theorem sm_par {i j : Nat} {px py pt : Pos} {kt k2 pt2} (hN : X.N.Nodup) (ha : SAM X W [a, b] t af) (hc : X.calm = true := by rfl) (hi : X.N[i]? = some x := by rfl) (hj : X.N[j]? = some y := by rfl) (hij : i ≠ j := by decide)
    (hx : X.env.scope.names.lookup x = some .local := by rfl) (hy : X.env.scope.names.lookup y = some .local := by rfl) (hI : i ∉ I := by decide) (hJ : j ∉ I := by decide)
    (hw : swappedStores [.Tuple [.Name x px, .Name y py] kt pt] (.Tuple [a, b] k2 pt2) X.env = pure (some [x, y]) := by rfl)
    (hs : swapsWithSole [.Tuple [.Name x px, .Name y py] kt pt] (.Tuple [a, b] k2 pt2) pos.line X.env = pure false := by rfl) :
    SSm X W I (.Assign [.Tuple [.Name x px, .Name y py] kt pt] (.Tuple [a, b] k2 pt2) pos) (tPar i j t) (mPar i j af) := ⟨ps_par hc hN hi hj hij hx hy ha.pa hw hs, dsm_par ha.da hI hJ⟩
theorem sm_augI {i : Nat} {pos' : Pos} (hN : X.N.Nodup) (h1 : SEM X W e te f) (hI : i ∉ I := by decide) (hi : X.N[i]? = some x := by rfl) (hx : Loc X.env.scope x := by first | exact Or.inl rfl | exact Or.inr rfl) (hf : X.fn x = true ∨ X.env.scope.names.lookup x = some .local := by first | exact .inl rfl | exact .inr rfl) :
    SSm X W I (.AugAssign (.Name x pos') .Add e pos) (tAug i te (rI0 fun i j => .int (i + j))) (mAug i gAddI f) := ⟨ps_aug hN hi hx h1.pe iop_add hf, dsm_aug rv_addI h1.de hI⟩
end
end Dn
/-! Ds7: calls with keywords. -/
namespace Dn
open PySem PySem.Spec PyProof.Rows L2
/-- n positional values, m keywords in the order of the parameters -/
def gK (n m : Nat) {α : Type} (us ws : List α) : List α := if us.length = n ∧ ws.length = m then us ++ ws else []
theorem gK_rel {n m : Nat} {vs : List V} {us : List Value} {zs : List V} {ws : List Value} (h : Vals vs us) (h' : Vals zs ws) : Vals (gK n m vs zs) (gK n m us ws) := by
  unfold gK
  rw [h.length, h'.length]
  split
  · exact h.append h'
  · exact .nil
/-- how a call with all keyword-only parameters, in their order, binds -/
abbrev BindsK (K : PySem.W.Frag) (fd : FuncData) (ps ks : List Str) (n j : Nat) : Prop := KBinds K fd ps ks (gK n j) (gK n j)
theorem _root_.L2.Fun.bindsK {K : PySem.W.Frag} {x qual : Str} {st : Stmt} {f : Addr} {fd : FuncData} {ps ks : List Str} {n j : Nat} (F : Fun K x qual st f fd) (hp : ps ≠ []) (hj : ks.length = j)
    (h : ∀ (kV doc pm : Value) (an : Option Addr) (cdv ct : Value) (us ws : List Value), us.length = n → ws.length = ks.length → bindArgs (PySem.W.fnOf x qual (defArgs st) (defBody st) (defScope st) .none kV doc pm an cdv ct) ⟨us, ks.zip ws⟩ = pure (ps.zip (us ++ ws))) : BindsK K fd ps ks n j := by
  subst hj
  obtain ⟨oc, od, kV, doc, pm, an, cdv, ct, osl, rfl, lk, hcd⟩ := F.ex
  refine ⟨fun s us ws X hl => ?_, gK_rel⟩
  unfold gK at hl ⊢
  split at hl
  · rename_i hc
    rw [if_pos hc]
    exact .of_eq (h kV doc pm an cdv ct us ws hc.1 hc.2)
  · exact absurd (List.length_eq_zero_iff.mp hl.symm) hp
section
variable {X : Cx} {CX : CXT} {k : Nat} {f : Addr} {fd : FuncData} {ps ks : List Str} {sp : Sp} {E : L2.St → XK} {x : Str} {p pos apos : Pos} {e o : Expr} {es : List Expr} {kws : List Keyword} {ta : TE} {t tk : TA}
variable {g : List Value → List Value → List Value} {gV : List V → List V → List V}
def tCallKS (sp : Sp) (gV : List V → List V → List V) (E : L2.St → XK) (t tk : TA) : TE := fun σ H Q => t σ H fun vs H1 => tk σ H1 fun zs H2 => sp (gV vs zs) H2 Q (E σ)
theorem run_fnkS {pins : List (Addr × Obj)} {σ : L2.St} {H : Hp} {s : Shared} {Q : VK} {us ws : List Value} {vs zs : List V} (F : FnOk X.prog X.w X.K X.mg X.base CX k f fd ps sp) (hr : Room k X.A) (hb : KBinds X.K fd ps ks g gV) (hx : PassesAt CX X σ (E σ))
    (I : Inv X pins σ H s) (r : Vals vs us) (rz : Vals zs ws) (h : sp (gV vs zs) H Q (E σ)) : wpAny (model X.prog X.w) X.A (call (.ref f) us (ks.zip ws)) (EP X pins σ Q) X.xe s := by
  have r2 := hb.rel r rz
  have hl : (g us ws).length = ps.length := by rw [← r2.length]; exact F.len _ _ _ _ h
  refine wpAny_call (codeAny_mono (F.run X.A X.stack s H ⟨us, ks.zip ws⟩ (g us ws) (gV vs zs) Q (E σ) hr I.env0 (hb.to s us ws I.kIn hl) r2 h) fun r s' hq => ?_)
  cases r with
  | error e => exact hx pins H s e s' I hq
  | ok fl =>
    cases fl with
    | ret u => exact I.after hq
    | next => exact False.elim hq
    | brk => exact False.elim hq
    | cont => exact False.elim hq
theorem pe_callKS (F : FnOk X.prog X.w X.K X.mg X.base CX k f fd ps sp) (hr : Room k X.A) (hg : Gl X x) (hm : X.mg x = some (.ref f)) (hk : PySem.W.keepIn X.K (.ref f) = true) (hb : KBinds X.K fd ps ks g gV) (hx : ∀ σ, PassesAt CX X σ (E σ))
    (ha : PA X (e :: es) t) (hkw : PK X kws tk) (hall : (backToKw pos (keywordEach kws X.env)).all (·.1.isSome) = true := by rfl) (hks : (backToKw pos (keywordEach kws X.env)).filterMap (·.1) = ks := by rfl)
    (hdb : (x == ("__debug__" : Str)) = false := by decide) (he : starEach (e :: es) X.env = (false, eval e X.env) :: starEach es X.env := by rfl)
    (hpl : ((backTo pos (starEach (e :: es) X.env)).any (·.1) || (backToKw pos (keywordEach kws X.env)).any (·.1.isNone)) = false := by rfl) :
    PE X (.Call (.Name x p) (e :: es) kws pos) (tCallKS sp gV E t tk) := by
  refine ⟨fun pins s σ H Q I h => ?_⟩
  refine wpAny_Call_Name_kw (ld_glob I hg hm ?_ hdb)
  refine PySem.W.callWith_KW (h₀ := X.base) I.ok.mod.kin hk hall (thn (ha.run pos pins s σ H _ I h) fun us s1 ⟨vs, H1, I1, r, q⟩ => ?_) hpl he
  refine thn (hkw.run pos pins s1 σ H1 _ I1 q) fun ws s2 ⟨zs, H2, I2, rz, q2⟩ => ⟨I2.kIn, ?_⟩
  rw [hks]
  exact run_fnkS F hr hb (hx σ) I2 r rz q2
end
/-! over data -/
structure SK (X : Cx) (kws : List Keyword) (ta : TA) (f : AF) : Prop where
  pk : PK X kws ta
  da : DA X.K ta f
structure SKM (X : Cx) (W : WX) (kws : List Keyword) (ta : TA) (f : AM) : Prop where
  pk : PK X kws ta
  da : DAM X.mg X.K W ta f
theorem gK_some {n m : Nat} {α : Type} {us ws : List α} {l : Nat} (h : (gK n m us ws).length = l) (hl : l ≠ 0) : us.length = n ∧ ws.length = m := by
  unfold gK at h
  split at h
  · assumption
  · exact absurd h.symm hl
/-- arguments, then keywords -/
@[simp] def aApp (f g : AF) : AF := fun env => (f env).bind fun as => (g env).bind fun bs => some (as ++ bs)
@[simp] def eCallK (m : List PyData → Option R) (n j : Nat) (f g : AF) : EF := fun env => (f env).bind fun as => (g env).bind fun bs => if as.length = n ∧ bs.length = j then m (as ++ bs) else none
@[simp] def mCallK (m : List PyData → Option R) (n j : Nat) (f g : AM) : EM := fun env => bM (f env) fun as e1 => bM (g e1) fun bs e2 => if as.length = n ∧ bs.length = j then (m (as ++ bs)).bind fun r => some (.ok r e2) else none
@[simp] def mCallKX (m : List PyData → Option FX) (n j : Nat) (f g : AM) : EM := fun env => bM (f env) fun as e1 => bM (g e1) fun bs e2 => if as.length = n ∧ bs.length = j then (match m (as ++ bs) with
    | some (.rt r) => some (.ok r e2)
    | some (.ex e) => some (.ex e e2)
    | none => none) else none
section
variable {K : PySem.W.Frag} {mg : Str → Option Value} {W : WX} {n j N : Nat} {m : List PyData → Option R} {t tk : TA} {f g : AF} {fm gm : AM}
theorem de_callK (hn : ∀ ds r, m ds = some r → ds.length = N) (h1 : DA K t f) (h2 : DA K tk g) : DE K (tCallKS (spD K N m) (gK n j) (fun _ => E0) t tk) (eCallK m n j f g) := fun B F H σ env r S fh bh e Q q => by
  obtain ⟨as, ea, e⟩ := bnd e
  obtain ⟨bs, eb, e⟩ := bnd e
  split at e
  case isFalse => cases e
  rename_i hc
  refine h1 B F H σ env as S fh bh ea _ fun F1 H1 vs g1 d1 => ?_
  refine h2 B F1 H1 σ env bs (S.grow g1) g1.i (bh.trans g1.h) eb _ fun F2 H2 zs g2 d2 => ?_
  have hl : vs.length = n ∧ zs.length = j := ⟨by rw [DpAll.len d1]; exact hc.1, by rw [DpAll.len d2]; exact hc.2⟩
  show spD K N m (gK n j vs zs) H2 Q E0
  unfold gK
  rw [if_pos hl]
  have dd := DpAll.app (dpa_mono g2.f d1) d2
  exact ⟨by rw [DpAll.len dd, hn _ _ e], F2, as ++ bs, r, g2.i, dd, e, fun F3 H3 v g3 rr => q F3 H3 v ((g1.trans g2).trans g3) (rr.back (g1.trans g2))⟩
theorem dem_callK (hn : ∀ ds r, m ds = some r → ds.length = N) (h1 : DAM mg K W t fm) (h2 : DAM mg K W tk gm) : DEM mg K W (tCallKS (spD K N m) (gK n j) (fun _ => E0) t tk) (mCallK m n j fm gm) := fun F0 H0 F H σ env ans S e Q q => by
  rcases bMd e with ⟨as, e1, ea, e⟩ | ⟨x, e1, ea, rfl⟩
  case inr => exact h1 F0 H0 F H σ env _ S ea _ q
  refine h1.run S ea fun F1 H1 vs g1 S1 d1 => ?_
  rcases bMd e with ⟨bs, e2, eb, e⟩ | ⟨x, e2, eb, rfl⟩
  case inr => exact h2 F0 H0 F1 H1 σ e1 _ S1 eb _ (ExOk.on g1 q)
  split at e
  case isFalse => cases e
  rename_i hc
  obtain ⟨r', er, e⟩ := bnd e
  cases e
  refine h2.run S1 eb fun F2 H2 zs g2 S2 d2 => ?_
  have hl : vs.length = n ∧ zs.length = j := ⟨by rw [DpAll.len d1]; exact hc.1, by rw [DpAll.len d2]; exact hc.2⟩
  show spD K N m (gK n j vs zs) H2 Q E0
  unfold gK
  rw [if_pos hl]
  have dd := DpAll.app (dpa_mono g2.f d1) d2
  exact ⟨by rw [DpAll.len dd, hn _ _ er], F2, as ++ bs, r', S2.fh, dd, er, fun F3 H3 v g3 rr => q F3 H3 v ((g1.trans g2).trans (.of g3)) (S2.grow g3) (rr.backM fun a h => g2.d a (g1.d a h))⟩
theorem dem_callKX {m : List PyData → Option FX} (hn : ∀ ds r, m ds = some r → ds.length = N) (h1 : DAM mg K W t fm) (h2 : DAM mg K W tk gm) : DEM mg K W (tCallKS (spX mg K N m) (gK n j) (WE W) t tk) (mCallKX m n j fm gm) := fun F0 H0 F H σ env ans S e Q q => by
  rcases bMd e with ⟨as, e1, ea, e⟩ | ⟨x, e1, ea, rfl⟩
  case inr => exact h1 F0 H0 F H σ env _ S ea _ q
  refine h1.run S ea fun F1 H1 vs g1 S1 d1 => ?_
  rcases bMd e with ⟨bs, e2, eb, e⟩ | ⟨x, e2, eb, rfl⟩
  case inr => exact h2 F0 H0 F1 H1 σ e1 _ S1 eb _ (ExOk.on g1 q)
  split at e
  case isFalse => cases e
  rename_i hc
  refine h2.run S1 eb fun F2 H2 zs g2 S2 d2 => ?_
  have hl : vs.length = n ∧ zs.length = j := ⟨by rw [DpAll.len d1]; exact hc.1, by rw [DpAll.len d2]; exact hc.2⟩
  show spX mg K N m (gK n j vs zs) H2 Q (WE W σ)
  unfold gK
  rw [if_pos hl]
  have dd := DpAll.app (dpa_mono g2.f d1) d2
  have hm : ∃ a, m (as ++ bs) = some a := by
    cases q : m (as ++ bs) with
    | none => rw [q] at e; cases e
    | some a => exact ⟨a, rfl⟩
  obtain ⟨a, em⟩ := hm
  rw [em] at e
  refine ⟨by rw [DpAll.len dd, hn _ _ em], F2, as ++ bs, a, S2.fh, dd, em, ?_⟩
  cases a with
  | rt r =>
    cases e
    intro F3 H3 v g rr
    exact q F3 H3 v ((g1.trans g2).trans (.of g)) (S2.grow g) (rr.backM fun a h => g2.d a (g1.d a h))
  | ex x =>
    cases e
    intro F3 H3 cls d g xx
    exact q F3 H3 cls d ((g1.trans g2).trans (.of g)) (S2.grow g) xx
end
section
variable {X : Cx} {W : WX} {x : Str} {p pos kpos : Pos} {o e : Expr} {es : List Expr} {kws : List Keyword} {nm : Option Str} {te : TE} {t tk : TA} {f : EF} {fm : EM} {af kf : AF} {am km : AM}
theorem sk_nil : SK X [] tNil aNil := ⟨pk_nil, da_nil⟩
theorem sk_cons (h1 : SE X e te f) (h2 : SK X kws tk kf) : SK X (⟨nm, e, kpos⟩ :: kws) (tCons te tk) (aCons f kf) := ⟨pk_cons h1.pe h2.pk, da_cons h1.de h2.da⟩
theorem mk_p (h : SK X kws tk kf) : SKM X W kws tk (mPA kf) := ⟨h.pk, dam_p h.da⟩
theorem mk_cons (h1 : SEM X W e te fm) (h2 : SKM X W kws tk km) : SKM X W (⟨nm, e, kpos⟩ :: kws) (tCons te tk) (mCons fm km) := ⟨pk_cons h1.pe h2.pk, dam_cons h1.de h2.da⟩
theorem se_callK {k f N M n j : Nat} {K : PySem.W.Frag} {fd : FuncData} {ps ks : List Str} {b : SF} (G : FnOk X.prog X.w X.K X.mg X.base CX0 k f fd ps (spD X.K N (fnD M N b))) (hr : Room k X.A) (hg : Gl X x) (hm : X.mg x = some (.ref f)) (hk : PySem.W.keepIn X.K (.ref f) = true) (hb : BindsK X.K fd ps ks n j)
    (ha : SA X (e :: es) t af) (hkw : SK X kws tk kf) (hall : (backToKw pos (keywordEach kws X.env)).all (·.1.isSome) = true := by rfl) (hks : (backToKw pos (keywordEach kws X.env)).filterMap (·.1) = ks := by rfl)
    (hdb : (x == ("__debug__" : Str)) = false := by decide) (he : starEach (e :: es) X.env = (false, eval e X.env) :: starEach es X.env := by rfl)
    (hpl : ((backTo pos (starEach (e :: es) X.env)).any (·.1) || (backToKw pos (keywordEach kws X.env)).any (·.1.isNone)) = false := by rfl) (hK : X.K = K := by rfl) :
    SE X (.Call (.Name x p) (e :: es) kws pos) (tCallKS (spD K N (fnD M N b)) (gK n j) (fun _ => E0) t tk) (eCallK (fnD M N b) n j af kf) := by
  subst hK
  exact ⟨pe_callKS G hr hg hm hk hb (fun σ pins H s e s' I h => h.elim) ha.pa hkw.pk hall hks hdb he hpl, de_callK (fun _ _ => fnD_len) ha.da hkw.da⟩
theorem me_callK {k f N M n j : Nat} {K : PySem.W.Frag} {fd : FuncData} {ps ks : List Str} {b : SF} (G : FnOk X.prog X.w X.K X.mg X.base CX0 k f fd ps (spD X.K N (fnD M N b))) (hr : Room k X.A) (hg : Gl X x) (hm : X.mg x = some (.ref f)) (hk : PySem.W.keepIn X.K (.ref f) = true) (hb : BindsK X.K fd ps ks n j)
    (ha : SAM X W (e :: es) t am) (hkw : SKM X W kws tk km) (hall : (backToKw pos (keywordEach kws X.env)).all (·.1.isSome) = true := by rfl) (hks : (backToKw pos (keywordEach kws X.env)).filterMap (·.1) = ks := by rfl)
    (hdb : (x == ("__debug__" : Str)) = false := by decide) (he : starEach (e :: es) X.env = (false, eval e X.env) :: starEach es X.env := by rfl)
    (hpl : ((backTo pos (starEach (e :: es) X.env)).any (·.1) || (backToKw pos (keywordEach kws X.env)).any (·.1.isNone)) = false := by rfl) (hK : X.K = K := by rfl) :
    SEM X W (.Call (.Name x p) (e :: es) kws pos) (tCallKS (spD K N (fnD M N b)) (gK n j) (fun _ => E0) t tk) (mCallK (fnD M N b) n j am km) := by
  subst hK
  exact ⟨pe_callKS G hr hg hm hk hb (fun σ pins H s e s' I h => h.elim) ha.pa hkw.pk hall hks hdb he hpl, dem_callK (fun _ _ => fnD_len) ha.da hkw.da⟩
theorem me_callKX {k f N M n j : Nat} {K : PySem.W.Frag} {mg : Str → Option Value} {fd : FuncData} {ps ks : List Str} {b : SFm} (G : FnOk X.prog X.w X.K X.mg X.base (L2.CX X.prog X.w) k f fd ps (spX X.mg X.K N (fnX M N b))) (hr : Room k X.A) (hg : Gl X x) (hm : X.mg x = some (.ref f)) (hk : PySem.W.keepIn X.K (.ref f) = true) (hb : BindsK X.K fd ps ks n j) (tkk : Takes X W)
    (ha : SAM X W (e :: es) t am) (hkw : SKM X W kws tk km) (hall : (backToKw pos (keywordEach kws X.env)).all (·.1.isSome) = true := by rfl) (hks : (backToKw pos (keywordEach kws X.env)).filterMap (·.1) = ks := by rfl)
    (hdb : (x == ("__debug__" : Str)) = false := by decide) (he : starEach (e :: es) X.env = (false, eval e X.env) :: starEach es X.env := by rfl)
    (hpl : ((backTo pos (starEach (e :: es) X.env)).any (·.1) || (backToKw pos (keywordEach kws X.env)).any (·.1.isNone)) = false := by rfl) (hK : X.K = K := by rfl) (hM : X.mg = mg := by rfl) :
    SEM X W (.Call (.Name x p) (e :: es) kws pos) (tCallKS (spX mg K N (fnX M N b)) (gK n j) (WE W) t tk) (mCallKX (fnX M N b) n j am km) := by
  subst hK hM
  exact ⟨pe_callKS G hr hg hm hk hb (fun σ => passAt tkk σ) ha.pa hkw.pk hall hks hdb he hpl, dem_callKX (fun _ _ => fnX_len) ha.da hkw.da⟩
end
/-! ### math.lcm -/
def LcmOk (a b : Int) : Prop := a.natAbs < 2 ^ 64 ∧ b.natAbs < 2 ^ 64
noncomputable instance (a b : Int) : Decidable (LcmOk a b) := Classical.propDecidable _
theorem LcmOk.fits {a b : Int} (h : LcmOk a b) : ((((Nat.lcm 1 a.natAbs).lcm b.natAbs : Nat) : Int)).natAbs.log2 < bitsLine := by
  have h1 : Nat.lcm 1 a.natAbs = a.natAbs := Nat.lcm_one_left _
  rw [h1, Int.natAbs_natCast]
  have h2 : a.natAbs.lcm b.natAbs ≤ a.natAbs * b.natAbs := by
    by_cases h0 : a.natAbs * b.natAbs = 0
    · rw [h0]
      rcases Nat.mul_eq_zero.mp h0 with z | z <;> rw [z] <;> simp
    · exact Nat.le_of_dvd (Nat.pos_of_ne_zero h0) (Nat.lcm_dvd_mul _ _)
  have h3 : a.natAbs * b.natAbs < 2 ^ 64 * 2 ^ 64 := Nat.mul_lt_mul'' h.1 h.2
  have h4 : a.natAbs.lcm b.natAbs < 2 ^ 128 := Nat.lt_of_le_of_lt h2 (Nat.lt_of_lt_of_le h3 (by decide))
  exact Nat.lt_of_lt_of_le (PySem.Flt.log2_lt_of (by decide : 0 < 128) h4) (by decide)
def rLcm : List V → Hp → VK → Prop := fun vs H Q => ∃ a b : Int, vs = [.int a, .int b] ∧ LcmOk a b ∧ Q (.int (((Nat.lcm 1 a.natAbs).lcm b.natAbs : Nat) : Int)) H
theorem cr_lcm {X : Cx} : CallR X (.builtin "math.lcm") rLcm := by
  intro pins s σ H vs us Q I r h
  obtain ⟨a, b, rfl, hc, q⟩ := h
  obtain ⟨t, u, rfl⟩ := Vals.int2 r
  exact PySem.W.mg_lcm hc.1 hc.2 hc.fits ⟨.int _, H, I.tok _, ⟨_, rfl⟩, q⟩
noncomputable def gLcm : List PyData → Option R
  | [.int a, .int b] => if LcmOk a b then some (.val (.int (a.natAbs.lcm b.natAbs : Nat))) else none
  | _ => none
@[simp] theorem gLcm_int {a b : Int} : gLcm [.int a, .int b] = if LcmOk a b then some (.val (.int (a.natAbs.lcm b.natAbs : Nat))) else none := rfl
theorem rc_lcm {K : PySem.W.Frag} : RCD K rLcm gLcm := fun F H vs ds r fh h e Q q => by
  unfold gLcm at e
  split at e
  · split at e
    · cases e
      rename_i hc
      obtain ⟨v, w, rfl, d1, d2⟩ := dpa2 h
      rw [dp_int d1, dp_int d2]
      refine ⟨_, _, rfl, hc, ?_⟩
      rw [Nat.lcm_one_left]
      exact q F H _ (Grow.refl fh) (.int _)
    · cases e
  · cases e
end Dn
/-! Ds8: nested targets, clear, max and min of a list, x or y by truth, xs[i] += e. -/
namespace Dn
open PySem PySem.Spec PyProof.Rows L2
/-! ### targets within targets -/
abbrev GFs := List PyData → En → Option En
def DGs (K : PySem.W.Frag) (ws : List Nat) (t : TGs) (g : GFs) : Prop := ∀ (B F H : Hp) (σ : L2.St) (env env' : En) (vs : List V) (ds : List PyData), Slots K B F H σ env → Same F H → Same B H → DpAll K F vs ds → g ds env = some env' →
  ∀ Q : L2.St → Hp → Prop, (∀ F' H' σ', Grow F H F' H' → Slots K B F' H' σ' env' → (∀ us, (∀ i ∈ ws, i ∈ us) → wipe σ' us = wipe σ us) → Q σ' H') → t vs σ H Q
@[simp] def gtNil : GFs := fun ds env => match ds with
  | [] => some env
  | _ => none
@[simp] def gtCons (g : GF) (gs : GFs) : GFs := fun ds env => match ds with
  | d :: r => (g d env).bind fun e => gs r e
  | _ => none
@[simp] def gtTup (n : Nat) (gs : GFs) : GF := fun d env => match d with
  | .tuple ds => if ds.length = n then gs ds env else none
  | _ => none
def GOs (ws : List Nat) (g : GFs) : Prop := ∀ (ds : List PyData) (env env' : En), g ds env = some env' → (∀ k, k ∉ ws → env'[k]? = env[k]?) ∧ ∀ (k : Nat) (es : List PyData), env'[k]? = some (.own es) → k ∉ ws
theorem go_nil : GOs [] gtNil := fun ds env env' e => by
  unfold gtNil at e
  split at e
  · cases e
    exact ⟨fun _ _ => rfl, fun _ _ _ h => by cases h⟩
  · cases e
section
variable {K : PySem.W.Frag}
theorem dgs_nil : DGs K [] gNil gtNil := fun B F H σ env env' vs ds S fh bh h e Q q => by
  unfold gtNil at e
  split at e
  · cases e
    cases h
    exact ⟨rfl, q F H σ (Grow.refl fh) S fun _ _ => rfl⟩
  · cases e
theorem dgs_cons {ws us : List Nat} {t : TG} {g : GF} {ts : TGs} {gs : GFs} (h1 : DG K ws t g) (h2 : DGs K us ts gs) : DGs K (ws ++ us) (gCons t ts) (gtCons g gs) := fun B F H σ env env' vs ds S fh bh h e Q q => by
  unfold gtCons at e
  split at e
  · rename_i d r
    obtain ⟨e1, ee, e⟩ := bnd e
    cases h with
    | cons a b =>
      refine ⟨_, _, rfl, h1 B F H σ env e1 _ _ S fh bh a ee _ fun F1 H1 σ1 g1 S1 w1 => ?_⟩
      refine h2 B F1 H1 σ1 e1 env' _ _ S1 g1.i (bh.trans g1.h) (dpa_mono g1.f b) e Q fun F2 H2 σ2 g2 S2 w2 => ?_
      exact q F2 H2 σ2 (g1.trans g2) S2 fun us' hu => by rw [w2 us' fun i hi => hu i (List.mem_append_right _ hi), w1 us' fun i hi => hu i (List.mem_append_left _ hi)]
  · cases e
theorem dg_tupN {n : Nat} {ws : List Nat} {ts : TGs} {gs : GFs} (h : DGs K ws ts gs) : DG K ws (gTup K n ts) (gtTup n gs) := fun B F H σ env env' v d S fh bh hd e Q q => by
  unfold gtTup at e
  split at e
  · split at e
    · rename_i hl
      cases hd with
      | tup hs ha => exact ⟨_, _, rfl, sqT_mono fh hs, by rw [DpAll.len ha]; exact hl, h B F H σ env env' _ _ S fh bh ha e Q q⟩
    · cases e
  · cases e
end
theorem gos_cons {ws us : List Nat} {g : GF} {gs : GFs} (h1 : GO ws g) (h2 : GOs us gs) : GOs (ws ++ us) (gtCons g gs) := fun ds env env' e => by
  unfold gtCons at e
  split at e
  · obtain ⟨e1, ee, e⟩ := bnd e
    obtain ⟨a1, a2⟩ := h1 _ _ _ ee
    obtain ⟨b1, b2⟩ := h2 _ _ _ e
    refine ⟨fun k hk => ?_, fun k es hes hk => ?_⟩
    · rw [b1 k fun z => hk (List.mem_append_right _ z), a1 k fun z => hk (List.mem_append_left _ z)]
    · have hu := b2 k es hes
      rcases List.mem_append.mp hk with hw | hw
      · rw [b1 k hu] at hes
        exact a2 k hw es hes
      · exact hu hw
  · cases e
theorem go_tupN {n : Nat} {ws : List Nat} {gs : GFs} (h : GOs ws gs) : GO ws (gtTup n gs) := fun d env env' e => by
  unfold gtTup at e
  split at e
  · split at e
    · obtain ⟨a, b⟩ := h _ _ _ e
      exact ⟨a, fun k hk ds hd => b k ds hd hk⟩
    · cases e
  · cases e
structure SGs (X : Cx) (ts : List Expr) (ws : List Nat) (t : TGs) (g : GFs) : Prop where
  pg : PGs X ts t
  d : DGs X.K ws t g
theorem sgs_nil {X : Cx} : SGs X [] [] gNil gtNil := ⟨pgs_nil, dgs_nil⟩
theorem sgs_cons {X : Cx} {e : Expr} {es : List Expr} {ws us : List Nat} {t : TG} {g : GF} {ts : TGs} {gs : GFs} (h1 : SG X e ws t g) (h2 : SGs X es us ts gs) (hs : (assignEach (e :: es) X.env).map (·.2) = assign e X.env :: (assignEach es X.env).map (·.2) := by rfl) : SGs X (e :: es) (ws ++ us) (gCons t ts) (gtCons g gs) := ⟨pgs_cons h1.pg h2.pg hs, dgs_cons h1.d h2.d⟩
theorem sg_tupN {X : Cx} {K : PySem.W.Frag} {es : List Expr} {k n : Nat} {pos : Pos} {ws : List Nat} {t : TGs} {g : GFs} (hc : X.calm = true) (h : SGs X es ws t g) (hn : (assignEach es X.env).length = n := by rfl) (hst : (assignEach es X.env).findIdx? (·.1) = none := by rfl) (hK : X.K = K := by rfl) :
    SG X (.Tuple es k pos) ws (gTup K n t) (gtTup n g) := by
  subst hK
  exact ⟨pg_tup hc h.pg hn hst, dg_tupN h.d⟩
/-! ### xs.clear() -/
@[simp] def sClear (i : Nat) : SF := fun env => match env[i]? with
  | some (.own _) => some (.nx (env.set i (.own [])))
  | _ => none
theorem ds_clear {K : PySem.W.Frag} {i : Nat} : DS K (tDrop (tBM0 K "list" rClear (tVar i))) (sClear i) := fun F0 H0 F H σ env o S e D q => by
  unfold sClear at e
  split at e
  · rename_i ds hd
    cases e
    obtain ⟨p, xs, h1, h0, h2, h3, h4⟩ := S.s.own hd
    exact ⟨_, h1, Or.inl ⟨rfl, _, .inl (.inl h3)⟩, p, xs, rfl, rfl, h3, q F _ _ (Same.refl F) (S.turn hd h1 .nil)⟩
  · cases e
theorem ss_clear {X : Cx} {o : Expr} {apos cpos pos : Pos} {j : Nat} (h0 : PE X o (tVar j)) (hs : swapsWith (.Call (.Attribute o "clear" apos) [] [] cpos) none pos.line X.env = pure false := by rfl)
    (hbase : attributeBase o "clear" X.env (eval o X.env) = eval o X.env := by rfl) (hline : (apos.endLine == cpos.line) = true := by rfl) :
    SS X (.Expr (.Call (.Attribute o "clear" apos) [] [] cpos) pos) (tDrop (tBM0 X.K "list" rClear (tVar j))) (sClear j) :=
  ⟨ps_expr (pe_bm0 PySem.F.plainAttrs_list PySem.F.slot_list_clear PySem.F.type_list_clear mt_clear h0 hbase hline) hs, ds_clear⟩
/-! ### max, min of a list of ints -/
def maxI : List Int → Option Int
  | [] => none
  | x :: xs => some (xs.foldl (fun a b => if a < b then b else a) x)
def minI : List Int → Option Int
  | [] => none
  | x :: xs => some (xs.foldl (fun a b => if b < a then b else a) x)
theorem foldl_max (xs : List Int) : ∀ x : Int, xs.foldl (fun a b => if a < b then b else a) x ∈ x :: xs ∧ ∀ y ∈ x :: xs, y ≤ xs.foldl (fun a b => if a < b then b else a) x := by
  induction xs with
  | nil => intro x; simp
  | cons z xs ih =>
    intro x
    rw [List.foldl_cons]
    obtain ⟨h1, h2⟩ := ih (if x < z then z else x)
    generalize List.foldl _ (if x < z then z else x) xs = m at *
    have h3 := h2 _ List.mem_cons_self
    refine ⟨?_, fun y hy => ?_⟩
    · cases h1 with
      | head => split <;> simp
      | tail _ h1 => exact List.mem_cons_of_mem _ (List.mem_cons_of_mem _ h1)
    · rcases List.mem_cons.mp hy with rfl | hy
      · refine Int.le_trans ?_ h3
        split <;> omega
      · rcases List.mem_cons.mp hy with rfl | hy
        · refine Int.le_trans ?_ h3
          split <;> omega
        · exact h2 y (List.mem_cons_of_mem _ hy)
theorem foldl_min (xs : List Int) : ∀ x : Int, xs.foldl (fun a b => if b < a then b else a) x ∈ x :: xs ∧ ∀ y ∈ x :: xs, xs.foldl (fun a b => if b < a then b else a) x ≤ y := by
  induction xs with
  | nil => intro x; simp
  | cons z xs ih =>
    intro x
    rw [List.foldl_cons]
    obtain ⟨h1, h2⟩ := ih (if z < x then z else x)
    generalize List.foldl _ (if z < x then z else x) xs = m at *
    have h3 := h2 _ List.mem_cons_self
    refine ⟨?_, fun y hy => ?_⟩
    · cases h1 with
      | head => split <;> simp
      | tail _ h1 => exact List.mem_cons_of_mem _ (List.mem_cons_of_mem _ h1)
    · rcases List.mem_cons.mp hy with rfl | hy
      · refine Int.le_trans h3 ?_
        split <;> omega
      · rcases List.mem_cons.mp hy with rfl | hy
        · refine Int.le_trans h3 ?_
          split <;> omega
        · exact h2 y (List.mem_cons_of_mem _ hy)
theorem maxI_is {ns : List Int} {m a : Int} (h : maxI ns = some m) (h1 : a ∈ ns) (h2 : ∀ y ∈ ns, y ≤ a) : a = m := by
  cases ns with
  | nil => cases h
  | cons x xs =>
    have h : xs.foldl (fun a b => if a < b then b else a) x = m := Option.some.inj h
    obtain ⟨h3, h4⟩ := foldl_max xs x
    rw [h] at h3 h4
    have := h4 a h1
    have := h2 m h3
    omega
theorem minI_is {ns : List Int} {m a : Int} (h : minI ns = some m) (h1 : a ∈ ns) (h2 : ∀ y ∈ ns, a ≤ y) : a = m := by
  cases ns with
  | nil => cases h
  | cons x xs =>
    have h : xs.foldl (fun a b => if b < a then b else a) x = m := Option.some.inj h
    obtain ⟨h3, h4⟩ := foldl_min xs x
    rw [h] at h3 h4
    have := h4 a h1
    have := h2 m h3
    omega
@[simp] def gMax : List PyData → Option R
  | [.list ds] => (intsD ds).bind fun ns => (maxI ns).bind fun m => some (.val (.int m))
  | _ => none
@[simp] def gMin : List PyData → Option R
  | [.list ds] => (intsD ds).bind fun ns => (minI ns).bind fun m => some (.val (.int m))
  | _ => none
section
variable {K : PySem.W.Frag}
theorem rc_max : RCD K (rMax K) gMax := fun F H vs ds r fh h e Q q => by
  unfold gMax at e
  split at e
  · obtain ⟨ns, en, e⟩ := bnd e
    obtain ⟨m, em, e⟩ := bnd e
    cases e
    obtain ⟨v, rfl, d⟩ := dpa1 h
    obtain ⟨a, xs, rfl, s1, a1⟩ := dp_list d
    rw [intsD_ok a1 en] at s1
    refine ⟨a, ns, rfl, sqL_mono fh s1, ?_, fun x h1 h2 => ?_⟩
    · cases ns with
      | nil => cases em
      | cons _ _ => simp
    · rw [maxI_is em h1 h2]
      exact q F H _ (Grow.refl fh) (.int _)
  · cases e
theorem rc_min : RCD K (rMin K) gMin := fun F H vs ds r fh h e Q q => by
  unfold gMin at e
  split at e
  · obtain ⟨ns, en, e⟩ := bnd e
    obtain ⟨m, em, e⟩ := bnd e
    cases e
    obtain ⟨v, rfl, d⟩ := dpa1 h
    obtain ⟨a, xs, rfl, s1, a1⟩ := dp_list d
    rw [intsD_ok a1 en] at s1
    refine ⟨a, ns, rfl, sqL_mono fh s1, ?_, fun x h1 h2 => ?_⟩
    · cases ns with
      | nil => cases em
      | cons _ _ => simp
    · rw [minI_is em h1 h2]
      exact q F H _ (Grow.refl fh) (.int _)
  · cases e
end
section
variable {X : Cx} {x : Str} {p pos : Pos} {e a b : Expr} {es : List Expr} {t : TA} {af : AF}
theorem se_c_max {K : PySem.W.Frag} (hg : Gl X x) (hm : X.mg x = none) (hv : bootBuiltins x = some (.builtin "max")) (ha : SA X (e :: es) t af) (hn : x ≠ "__name__" := by decide) (hdb : (x == ("__debug__" : Str)) = false := by decide)
    (he : starEach (e :: es) X.env = (false, eval e X.env) :: starEach es X.env := by rfl) (hpl : (backTo pos (starEach es X.env)).any (·.1) = false := by rfl) (hc : X.calm = true := by rfl) (hK : X.K = K := by rfl) : SE X (.Call (.Name x p) (e :: es) [] pos) (tCB (rMax K) t) (eCall gMax af) := by
  subst hK
  exact se_cb (cr_max hc) rc_max hg hm hv ha hn hdb he hpl
theorem se_c_min {K : PySem.W.Frag} (hg : Gl X x) (hm : X.mg x = none) (hv : bootBuiltins x = some (.builtin "min")) (ha : SA X (e :: es) t af) (hn : x ≠ "__name__" := by decide) (hdb : (x == ("__debug__" : Str)) = false := by decide)
    (he : starEach (e :: es) X.env = (false, eval e X.env) :: starEach es X.env := by rfl) (hpl : (backTo pos (starEach es X.env)).any (·.1) = false := by rfl) (hc : X.calm = true := by rfl) (hK : X.K = K := by rfl) : SE X (.Call (.Name x p) (e :: es) [] pos) (tCB (rMin K) t) (eCall gMin af) := by
  subst hK
  exact se_cb (cr_min hc) rc_min hg hm hv ha hn hdb he hpl
/-! ### x or y by truth, of lists -/
@[simp] def eOrT (f g : EF) : EF := fun env => (f env).bind fun r => (truD r.frz).bind fun b => if b = true then some r else g env
theorem de_orT {K : PySem.W.Frag} {ta tb : TE} {f g : EF} (h1 : DE K ta f) (h2 : DE K tb g) : DE K (tOrT K ta tb) (eOrT f g) := fun B F H σ env r S fh bh e Q q => by
  obtain ⟨r1, e1, e⟩ := bnd e
  obtain ⟨k, ek, e⟩ := bnd e
  refine h1 B F H σ env r1 S fh bh e1 _ fun F1 H1 v g1 rr => ?_
  obtain ⟨F2, g2, s2, d2⟩ := rr.frz g1
  have tv : TruV K v H1 k := by
    cases hr : r1.frz with
    | list ds =>
      rw [hr] at ek d2
      cases ek
      obtain ⟨a, xs, rfl, h, ha⟩ := dp_list d2
      exact .inl ⟨xs, sqL_mono g2.i h, empty_dp ha⟩
    | tuple ds =>
      rw [hr] at ek d2
      cases ek
      obtain ⟨a, xs, rfl, h, ha⟩ := dp_tuple d2
      exact .inr (.inl ⟨xs, sqT_mono g2.i h, empty_dp ha⟩)
    | none =>
      rw [hr] at ek d2
      cases ek
      cases d2
      exact rfl
    | bool b =>
      rw [hr] at ek d2
      cases ek
      rw [dp_bool d2]
      exact rfl
    | int i =>
      rw [hr] at ek d2
      cases ek
      rw [dp_int d2]
      exact rfl
    | str _ => rw [hr] at ek; cases ek
    | dict _ => rw [hr] at ek; cases ek
  refine ⟨k, tv, ?_⟩
  cases k with
  | true =>
    cases e
    exact iteT (q F1 H1 v g1 rr)
  | false => exact iteF (h2 B F1 H1 σ env r (S.grow g1) g1.i (bh.trans g1.h) e Q fun F3 H3 w g3 rr3 => q F3 H3 w (g1.trans g3) (rr3.back g1))
theorem se_orT {K : PySem.W.Frag} {ta tb : TE} {f g : EF} {rest : List Expr} (h1 : SE X a ta f) (h2 : SE X (.BoolOp .Or (b :: rest) pos) tb g) (hK : X.K = K := by rfl) : SE X (.BoolOp .Or (a :: b :: rest) pos) (tOrT K ta tb) (eOrT f g) := by
  subst hK
  exact ⟨pe_orT h1.pe h2.pe, de_orT h1.de h2.de⟩
end
/-! ### xs[i] += e, of ints -/
def rGetL : V → V → Hp → VK → Prop := fun x y H Q => ∃ p xs i v, x = .ref p ∧ y = .int i ∧ H p = some (.lst xs) ∧ atI xs i = some v ∧ Q v H
theorem get_list {X : Cx} : PGet X rGetL := by
  intro pins s σ H x y v u Q I rx ry h
  obtain ⟨p, xs, i, z, rfl, rfl, hq, he, q⟩ := h
  cases rx
  obtain ⟨t, rfl⟩ := ry
  obtain ⟨its, r, pl, hz⟩ := I.list (.inl (.inl hq))
  obtain ⟨j, h1, h2, h3, h4, h5⟩ := atI_get he
  obtain ⟨w, ew, rw'⟩ := r.get h2
  have hl := r.length
  have hn := line63
  have fin : EP X pins σ Q w s := ⟨z, H, I, rw', q⟩
  by_cases h0 : 0 ≤ i
  · have hj : i.toNat = j := by
      rw [seqIndex_of h0 h5] at h1
      exact Option.some.inj h1
    exact wpAny_getItem_list pl.isList h0 (by omega) (by rw [hj]; simpa using ew) fin
  · have hj : (i + (its.toArray.size : Int)).toNat = j := by
      rw [seqIndex_neg (by omega) h4] at h1
      rw [List.size_toArray, ← hl]
      exact Option.some.inj h1
    exact wpAny_getItem_list_neg pl.isList (by omega) (by rw [List.size_toArray] <;> omega) (by omega) (by rw [hj]; simpa using ew) fin
/-- the index is asked first, then the item, then e -/
@[simp] def sAugIx (i : Nat) (fi fe : EF) : SF := fun env => match env[i]? with
  | some (.own ds) => (fi env).bind fun k => match k.frz with
    | .int k => (ixN ds.length k).bind fun j => (atI ds k).bind fun d => (fe env).bind fun r => match d, r.frz with
      | .int a, .int b => some (.nx (env.set i (.own (ds.set j (.int (a + b))))))
      | _, _ => none
    | _ => none
  | _ => none
theorem ds_augIx {K : PySem.W.Frag} {ti te : TE} {fi fe : EF} {i : Nat} (hi : DE K ti fi) (he : DE K te fe) : DS K (tAugS (tVar i) ti te rGetL (ipI fun i j => i + j) rSetL) (sAugIx i fi fe) := fun F0 H0 F H σ env o S e D q => by
  unfold sAugIx at e
  split at e
  case h_2 => cases e
  rename_i ds hd
  obtain ⟨k, ek, e⟩ := bnd e
  split at e
  case h_2 => cases e
  rename_i k' hk
  obtain ⟨j, ej, e⟩ := bnd e
  obtain ⟨d, ed, e⟩ := bnd e
  obtain ⟨r, er, e⟩ := bnd e
  split at e
  case h_2 => cases e
  rename_i a b h1 h2
  cases e
  obtain ⟨p, xs, k1, k0, k2, k3, k4⟩ := S.s.own hd
  refine ⟨_, k1, hi.atZ S ek fun F1 H1 y g1 dy => ?_⟩
  have S1 := S.grow g1
  rw [hk] at dy
  rw [dp_int dy]
  obtain ⟨v, ev, dv⟩ := DpAll.at k4 ed
  refine ⟨p, xs, k', v, rfl, rfl, g1.h _ _ k3, ev, ?_⟩
  refine he.atZ S1 er fun F2 H2 w g2 dw => ?_
  have S2 := S1.grow g2
  rw [h1] at dw
  rw [dp_int dw, dp_int dv]
  refine ⟨a, b, rfl, rfl, ?_⟩
  have ln := DpAll.len k4
  refine ⟨p, xs, k', j, rfl, rfl, g2.h _ _ (g1.h _ _ k3), by rw [ln]; exact ej, ?_⟩
  exact q F2 _ _ (g1.f.trans g2.f) (S2.turn hd k1 (DpAll.set j (dpa_mono (g1.f.trans g2.f) k4) (.int _)))
theorem ss_augIx {X : Cx} {o i e : Expr} {j : Nat} {ti te : TE} {fi fe : EF} {tpos pos : Pos} (h0 : PE X o (tVar j)) (h1 : SE X i ti fi) (h2 : SE X e te fe)
    (ha : ∀ ov iv new, augStore i ov iv new = (do holding [new, ov, iv] (setItem ov iv new); release [new, ov, iv] []; pure .next) := by intros; rfl) :
    SS X (.AugAssign (.Subscript o i tpos) .Add e pos) (tAugS (tVar j) ti te rGetL (ipI fun i j => i + j) rSetL) (sAugIx j fi fe) := ⟨ps_augS h0 h1.pe get_list h2.pe ip_add set_list ha, ds_augIx h1.de h2.de⟩
/-! ### a walk over an owned list that stays -/
def IsOwn (env : En) (i : Nat) (ds : List PyData) : Prop := env[i]? = some (.own ds)
noncomputable instance (env : En) (i : Nat) (ds : List PyData) : Decidable (IsOwn env i ds) := Classical.propDecidable _
noncomputable def forO (i : Nat) (all : List PyData) (g : GF) (body : SFm) : List PyData → SFm
  | [], env => if IsOwn env i all then some (.nx env) else none
  | d :: ds, env => if IsOwn env i all then (g d env).bind fun e1 => turnM (body e1) (forO i all g body ds) else none
@[simp] noncomputable def mForO (i : Nat) (g : GF) (body : SFm) : SFm := fun env => match env[i]? with
  | some (.own ds) => forO i ds g body ds env
  | _ => none
theorem forO_own {i : Nat} {all ds : List PyData} {g : GF} {body : SFm} {env : En} {o : OutM} (h : forO i all g body ds env = some o) : IsOwn env i all := by
  cases ds with
  | nil =>
    unfold forO at h
    split at h
    · assumption
    · cases h
  | cons d r =>
    unfold forO at h
    split at h
    · assumption
    · cases h
theorem dsm_forO {mg : Str → Option Value} {K : PySem.W.Frag} {W : WX} {I : List Nat} {i : Nat} {t : TG} {g : GF} {ws : List Nat} {tb : TS} {body : SFm} (hg : DG K ws t g) (hb : DSM mg K W (i :: I) tb body) (hw : ∀ k ∈ ws, k ∉ (i :: I) := by decide) (hI : i ∉ I := by decide) : DSM mg K W I (tFor (iList K (tVar i)) t tb) (mForO i g body) := fun z F0 H0 F H σ env o S p e D q => by
  unfold mForO at e
  split at e
  case h_2 => cases e
  rename_i ds hd
  obtain ⟨a, xs0, h1, h0, h2, h3, h4⟩ := S.s.own hd
  let z' : Nat → Option (Option V) := fun k => if k = i then some (some (.ref a)) else z k
  have pI : ∀ {τ : L2.St}, Pin (i :: I) z' τ → Pin I z τ := fun {τ} h k hk => by
    have := h k (List.mem_cons_of_mem _ hk)
    rw [this]
    exact if_neg (fun e => hI (by rw [← e]; exact hk))
  have p0 : Pin (i :: I) z' σ := fun k hk => by
    by_cases e : k = i
    · subst e
      rw [h1]
      exact (if_pos rfl).symm
    · cases hk with
      | head => exact absurd rfl e
      | tail _ hk =>
        rw [p k hk]
        exact (if_neg e).symm
  refine ⟨_, h1, _, rfl, ⟨_, .inl (.inl h3)⟩, ?_⟩
  refine ⟨fun j m σ2 H2 => ∃ F2 e2, Same F F2 ∧ Sta K F0 H0 F2 H2 σ2 e2 ∧ Pin (i :: I) z' σ2 ∧ forO i ds g body (ds.drop j) e2 = some o ∧ j + m = ds.length, ⟨ds.length, F, env, Same.refl F, S, p0, e, by omega⟩, ?_⟩
  rintro j m σ2 H2 ⟨F2, e2, s2, S2, p2, eq, em⟩
  have own2 := forO_own eq
  obtain ⟨a', xs, k1, k0, k2, k3, k4⟩ := S2.s.own own2
  have hp : σ2[i]? = some (some (.ref a)) := by
    rw [p2 i List.mem_cons_self]
    exact if_pos rfl
  rw [hp] at k1
  injection k1 with k1
  injection k1 with k1
  injection k1 with k1
  subst k1
  have ln := DpAll.len k4
  cases hd2 : ds[j]? with
  | none =>
    have hl : ds.length ≤ j := List.getElem?_eq_none_iff.mp hd2
    rw [List.drop_eq_nil_of_le hl] at eq
    unfold forO at eq
    rw [if_pos own2] at eq
    cases eq
    exact .inl ⟨⟨xs, .inl (.inl k3), by omega⟩, q F2 H2 σ2 s2 S2 (pI p2)⟩
  | some d =>
    have hi : j < ds.length := (List.getElem?_eq_some_iff.mp hd2).1
    have hdr : ds.drop j = d :: ds.drop (j + 1) := by
      rw [List.drop_eq_getElem_cons hi]
      rw [List.getElem?_eq_getElem hi] at hd2
      cases hd2
      rfl
    rw [hdr] at eq
    unfold forO at eq
    rw [if_pos own2] at eq
    obtain ⟨e3, ee, eq⟩ := bnd eq
    obtain ⟨v, ev, dv⟩ := DpAll.get k4 hd2
    refine .inr ⟨⟨xs, v, .inl (.inl k3), ev⟩, fun σ' H' => ∃ F' e', Same F F' ∧ Sta K F0 H0 F' H' σ' e' ∧ Pin (i :: I) z' σ' ∧ forO i ds g body (ds.drop (j + 1)) e' = some o, fun σ' H' ⟨F', e', a, b, pp, c⟩ => ⟨m - 1, by omega, F', e', a, b, pp, c, by omega⟩, fun x H' hy => ?_⟩
    obtain ⟨rfl, y⟩ := hy
    have e2' := y xs (.inl (.inl k3))
    rw [ev] at e2'
    cases e2'
    refine hg H0 F2 H' σ2 e2 e3 _ d S2.s S2.fh S2.bh dv ee _ fun F4 H4 σ4 g4 S4 hw4 => ?_
    have S5 : Sta K F0 H0 F4 H4 σ4 e3 := ⟨S2.g.trans g4, S4⟩
    have p4 : Pin (i :: I) z' σ4 := p2.out hw4 hw
    have s4 : Same F F4 := s2.trans g4.f
    cases eb : body e3 with
    | none =>
      rw [eb, turnM_no] at eq
      cases eq
    | some ob =>
      rw [eb] at eq
      refine hb z' F0 H0 F4 H4 σ4 e3 ob S5 p4 eb _ ?_
      cases ob with
      | nx e4 => exact fun F5 H5 σ5 s5 S5 p5 => ⟨F5, e4, s4.trans s5, S5, p5, eq⟩
      | ct e4 => exact fun F5 H5 σ5 s5 S5 p5 => ⟨F5, e4, s4.trans s5, S5, p5, eq⟩
      | bk e4 =>
        rw [turnM_bk] at eq
        cases eq
        exact fun F5 H5 σ5 s5 S5 p5 => q F5 H5 σ5 (s4.trans s5) S5 (pI p5)
      | rt r w =>
        rw [turnM_rt] at eq
        cases eq
        cases w with
        | none => exact q
        | some en => exact fun F5 H5 σ5 v S5 p5 rr ap => q F5 H5 σ5 v S5 (pI p5) rr ap
      | ex x e4 =>
        rw [turnM_ex] at eq
        cases eq
        exact fun F5 H5 σ5 cls d s5 S5 p5 xx => q F5 H5 σ5 cls d (s4.trans s5) S5 (pI p5) xx
theorem sm_forO {X : Cx} {W : WX} {I : List Nat} {i : Nat} {K : PySem.W.Frag} {tg o : Expr} {tG : TG} {gf : GF} {ws : List Nat} {body : List Stmt} {tS : TS} {sf : SFm} {pos : Pos} (hp : PassesOwn (model X.prog X.w) X.A X.env X.xe) (hc : X.calm = true) (h0 : PE X o (tVar i)) (hg : SG X tg ws tG gf) (hb : SSsm X W (i :: I) body tS sf)
    (hI : ∀ k ∈ ws, k ∉ (i :: I) := by decide) (hi : i ∉ I := by decide) (hs : ∀ x, foldedSetIterable o X.env x = pure x := by intro _; rfl) (hK : X.K = K := by rfl) :
    SSm X W I (.For tg o body [] pos) (tFor (iList K (tVar i)) tG tS) (mForO i gf sf) := by
  subst hK
  exact ⟨ps_for hp hc (pi_list h0) hg.pg hb.ps hs, dsm_forO hg.d hb.ds hI hi⟩
/-! ### a, b, c = x, y, z of plain names -/
@[simp] def sPar3 (i j l : Nat) (t : AF) : SF := fun env => (t env).bind fun ds => match ds with
  | [a, b, c] => some (.nx (((env.set i (.val a)).set j (.val b)).set l (.val c)))
  | _ => none
theorem ds_par3 {K : PySem.W.Frag} {i j l : Nat} {t : TA} {af : AF} (h : DA K t af) : DS K (tPar3 i j l t) (sPar3 i j l af) := fun F0 H0 F H σ env o S e D q => by
  obtain ⟨ds, ea, e⟩ := bnd e
  split at e
  case h_2 => cases e
  rename_i a b c
  cases e
  refine h H0 F H σ env _ S.s S.g.i S.bh ea _ fun F1 H1 vs g d1 => ?_
  cases d1 with
  | cons d1 r =>
    cases r with
    | cons d2 r =>
      cases r with
      | cons d3 r =>
        cases r
        have S1 := S.grow g
        refine ⟨_, _, _, rfl, q F1 H1 _ g.f ⟨S1.g, ?_⟩⟩
        exact (((S1.s.put (r := .val a) S1.bh (Grow.refl S1.g.i) d1).put (r := .val b) S1.bh (Grow.refl S1.g.i) d2).put (r := .val c) S1.bh (Grow.refl S1.g.i) d3)
theorem ss_par3 {X : Cx} {i j l : Nat} {x y z : Str} {a b c : Expr} {ta : TA} {af : AF} {px py pz pt pos : Pos} {kt k2 pt2} (hN : X.N.Nodup) (ha : SA X [a, b, c] ta af) (hc : X.calm = true := by rfl) (hi : X.N[i]? = some x := by rfl) (hj : X.N[j]? = some y := by rfl) (hl : X.N[l]? = some z := by rfl) (hij : i ≠ j := by decide) (hil : i ≠ l := by decide) (hjl : j ≠ l := by decide)
    (hx : X.env.scope.names.lookup x = some .local := by rfl) (hy : X.env.scope.names.lookup y = some .local := by rfl) (hz : X.env.scope.names.lookup z = some .local := by rfl)
    (hw : swappedStores [.Tuple [.Name x px, .Name y py, .Name z pz] kt pt] (.Tuple [a, b, c] k2 pt2) X.env = pure (some [x, y, z]) := by rfl)
    (hs : swapsWithSole [.Tuple [.Name x px, .Name y py, .Name z pz] kt pt] (.Tuple [a, b, c] k2 pt2) pos.line X.env = pure false := by rfl) :
    SS X (.Assign [.Tuple [.Name x px, .Name y py, .Name z pz] kt pt] (.Tuple [a, b, c] k2 pt2) pos) (tPar3 i j l ta) (sPar3 i j l af) := ⟨ps_par3 hc hN hi hj hl hij hil hjl hx hy hz ha.pa hw hs, ds_par3 ha.da⟩
end Dn
/-! Ds9: xs.pop(), xs.pop(k) within expressions; a store of an expression that changes an owned list, in a def that never raises. -/
namespace Dn
open PySem PySem.Spec PyProof.Rows L2
@[simp] def mPop (i : Nat) : EM := fun env => match env[i]? with
  | some (.own ds) => (ds[ds.length - 1]?).bind fun d => some (.ok (.val d) (env.set i (.own ds.dropLast)))
  | _ => none
@[simp] noncomputable def mPopAt (i : Nat) (fk : EM) : EM := fun env => match env[i]? with
  | some (.own _) => bM (fk env) fun k e1 => match e1[i]?, k.frz with
    | some (.own ds), .int k => if InR k then (ixN ds.length k).bind fun j => (ds[j]?).bind fun d => some (.ok (.val d) (e1.set i (.own (ds.eraseIdx j)))) else none
    | _, _ => none
  | _ => none
@[simp] def sSetM (i : Nat) (f : EM) : SF := fun env => (f env).bind fun a => match a with
  | .ok r e => some (.nx (e.set i r.sl))
  | .ex _ _ => none
theorem DpAll.erase {K : PySem.W.Frag} {H : Hp} : ∀ (j : Nat) {vs : List V} {ds : List PyData}, DpAll K H vs ds → DpAll K H (vs.eraseIdx j) (ds.eraseIdx j)
  | _, [], [], h => h
  | 0, _ :: _, _ :: _, .cons _ t => t
  | j + 1, _ :: _, _ :: _, .cons h t => .cons h (DpAll.erase j t)
section
variable {mg : Str → Option Value} {K : PySem.W.Frag} {W : WX} {F0 H0 F H : Hp} {σ : L2.St} {env : En}
/-- the owned list at p is turned -/
theorem Gm.turn {i : Nat} {p : Addr} {ds es : List PyData} {ys : List V} (e : env[i]? = some (.own ds)) (hp : σ[i]? = some (some (.ref p))) : Gm F H σ env F (upd H p (.lst ys)) (env.set i (.own es)) :=
  ⟨Same.refl F, fun a o h hf => by
    have ne : a ≠ p := fun z => hf i ds e (by rw [z]; exact hp)
    rw [upd_ne ne]
    exact h, fun a h => by
    by_cases z : a = p
    · rw [z, upd_same]; exact Option.some_ne_none _
    · rw [upd_ne z]; exact h, fun a _ h => h, fun k zs h => by
    by_cases z : i = k
    · subst z; exact ⟨ds, e⟩
    · rw [List.getElem?_set_ne z] at h; exact ⟨zs, h⟩⟩
theorem dem_pop {i : Nat} : DEM mg K W (tBM0 K "list" rPop (tVar i)) (mPop i) := fun F0 H0 F H σ env a S e Q q => by
  unfold mPop at e
  split at e
  · rename_i ds hd
    obtain ⟨d, ed, e⟩ := bnd e
    cases e
    obtain ⟨p, xs, h1, h0, h2, h3, h4⟩ := S.s.own hd
    obtain ⟨v, hv, dv⟩ := DpAll.get h4 ed
    rw [← DpAll.len h4] at hv
    exact ⟨_, h1, Or.inl ⟨rfl, _, .inl (.inl h3)⟩, p, xs, v, rfl, rfl, h3, hv, q F _ _ (.turn hd h1) (S.turn hd h1 (DpAll.dropLast h4)) dv⟩
  · cases e
theorem dem_popAt {i : Nat} {te : TE} {fk : EM} (hk : DEM mg K W te fk) : DEM mg K W (tBM K "list" rPopAt (tVar i) (tCons te tNil)) (mPopAt i fk) := fun F0 H0 F H σ env a S e Q q => by
  unfold mPopAt at e
  split at e
  case h_2 => cases e
  rename_i ds0 hd0
  obtain ⟨p0, xs0, h1, _, _, h3, _⟩ := S.s.own hd0
  refine ⟨_, h1, Or.inl ⟨rfl, _, .inl (.inl h3)⟩, ?_⟩
  rcases bMd e with ⟨k, e1, ek, e⟩ | ⟨x, e1, ek, rfl⟩
  case inr => exact hk.x S ek q
  split at e
  case h_2 => cases e
  rename_i ds k' hd hk'
  split at e
  case isFalse => cases e
  rename_i hr
  obtain ⟨j, ej, e⟩ := bnd e
  obtain ⟨d, ed, e⟩ := bnd e
  cases e
  refine hk.z S ek fun F' H' v g S' dv => ?_
  rw [hk'] at dv
  cases dv
  obtain ⟨p, xs, h1', h0, h2, h3', h4⟩ := S'.s.own hd
  rw [h1] at h1'
  cases h1'
  obtain ⟨y, hy, dy⟩ := DpAll.get h4 ed
  obtain ⟨sq, _, _, _⟩ := ixN_seq ej
  rw [← DpAll.len h4] at sq
  exact ⟨p0, xs, k', j, y, rfl, rfl, h3', by have := hr.1; omega, by have := hr.2; omega, sq, hy, q F' _ _ (g.trans (.turn hd h1)) (S'.turn hd h1 (DpAll.erase j h4)) dy⟩
theorem ds_setM {te : TE} {f : EM} {i : Nat} (h : DEM mg K W te f) : DS K (tAsg te (gName i)) (sSetM i f) := fun F0 H0 F H σ env o S e D q => by
  obtain ⟨a, er, e⟩ := bnd e
  cases a with
  | ex x e1 => cases e
  | ok r e1 =>
    cases e
    exact h F0 H0 F H σ env _ S er _ fun F' H' v g S' rr => q F' H' _ g.f (S.putM g S' rr)
end
end Dn
namespace Dn
open PySem PySem.Spec PyProof.Rows L2
abbrev WT : WX := fun _ _ _ _ => True
theorem me_pop {X : Cx} {W : WX} {o : Expr} {apos cpos : Pos} {j : Nat} (h0 : PE X o (tVar j))
    (hbase : attributeBase o "pop" X.env (eval o X.env) = eval o X.env := by rfl) (hline : (apos.endLine == cpos.line) = true := by rfl) :
    SEM X W (.Call (.Attribute o "pop" apos) [] [] cpos) (tBM0 X.K "list" rPop (tVar j)) (mPop j) :=
  ⟨pe_bm0 PySem.F.plainAttrs_list PySem.F.slot_list_pop PySem.F.type_list_pop mt_pop h0 hbase hline, dem_pop⟩
theorem me_popAt {X : Cx} {W : WX} {o e : Expr} {apos cpos : Pos} {j : Nat} {te : TE} {f : EM} (h0 : PE X o (tVar j)) (h1 : SEM X W e te f)
    (hbase : attributeBase o "pop" X.env (eval o X.env) = eval o X.env := by rfl)
    (hfew : ((backTo cpos (starEach [e] X.env)).all (fun x => !x.1) && (backToKw cpos (keywordEach [] X.env)).all (fun x => x.1.isSome)
      && decide ([e].length + ([] : List Keyword).length + (if ([] : List Keyword).isEmpty then 0 else 1) < 30)) = true := by rfl)
    (hline : (apos.endLine == cpos.line) = true := by rfl) (hst : starEach [e] X.env = (false, eval e X.env) :: starEach [] X.env := by rfl) (hplain : (backTo cpos (starEach [] X.env)).any (·.1) = false := by rfl) :
    SEM X W (.Call (.Attribute o "pop" apos) [e] [] cpos) (tBM X.K "list" rPopAt (tVar j) (tCons te tNil)) (mPopAt j f) :=
  ⟨pe_bm PySem.F.plainAttrs_list PySem.F.slot_list_pop PySem.F.type_list_pop mt_popAt h0 (pa_cons h1.pe pa_nil hst) hbase hfew hline hst hplain, dem_popAt h1.de⟩
theorem ss_setM {X : Cx} {e : Expr} {te : TE} {f : EM} {x : Str} {pos : Pos} {i : Nat} {pos' : Pos} (hN : X.N.Nodup) (hi : X.N[i]? = some x) (hx : Loc X.env.scope x) (h1 : SEM X WT e te f) (hs : swapsWith e (some (.Name x pos')) pos.line X.env = pure false := by rfl) (hf : X.fn x = true ∨ X.env.scope.names.lookup x = some .local := by first | exact .inl rfl | exact .inr rfl | assumption) :
    SS X (.Assign [.Name x pos'] e pos) (tAsg te (gName i)) (sSetM i f) := ⟨ps_set hN hi hx h1.pe hs hf, ds_setM h1.de⟩
end Dn
/-! Dt1: a set display of one int. -/
namespace Dn
open PySem PySem.Spec PyProof.Rows L2
section
variable {P : Program} {w : World} {A : Around} {E : Value → Shared → Prop} {s : Shared}
theorem newSet_led {Q : Value → Shared → Prop}
    (h : SetR w (s.heap.push { cls := .type "set", dict := none, data := .set #[] 0 (.fresh 0 0 (!w.params.followText "set-order")) }) s.heap.objs.size (fun _ => false) 0 →
      Q (.ref s.heap.objs.size) { s with heap := s.heap.push { cls := .type "set", dict := none, data := .set #[] 0 (.fresh 0 0 (!w.params.followText "set-order")) } }) :
    wpAny (model P w) A (newSet (.type "set")) Q E s := by
  unfold newSet setsByText
  refine wpAny_bind (wpAny_bind (wpAny_askSetting (wpAny_pure ?_)))
  dsimp only
  simp only [newObj]
  exact wpAny_bind (wpAny_alloc (wpAny_pure (h (setR_fresh w))))
theorem display1 {b : Bool} {t : Sem Value} {Q : Value → Shared → Prop}
    (h : SetR w (s.heap.push { cls := .type "set", dict := none, data := .set #[] 0 (.fresh 0 0 (!w.params.followText "set-order")) }) s.heap.objs.size (fun _ => false) 0 →
      wpAny (model P w) A t (fun v s' => wpAny (model P w) A (setAdd s.heap.objs.size v) (fun _ s'' => Q (.ref s.heap.objs.size) s'') E s') E
        { s with heap := s.heap.push { cls := .type "set", dict := none, data := .set #[] 0 (.fresh 0 0 (!w.params.followText "set-order")) } }) :
    wpAny (model P w) A (setDisplay .oneByOne b [(false, t)]) Q E s := by
  unfold setDisplay
  try dsimp only
  rw [if_neg (by decide)]
  refine wpAny_bind (newSet_led fun R => ?_)
  have h1 := h R
  clear h R
  dsimp only
  refine wpAny_bind (wpAny_holding ?_)
  have e1 : (List.findIdx? (fun x : Bool × Sem Value => x.1) [(false, t)]) = none := rfl
  have hc : ¬ (1 : Nat) > 30 := by decide
  have hu : ¬ (DisplayRoad.oneByOne == DisplayRoad.unsure) = true := by decide
  simp only [List.length_cons, List.length_nil, e1, Option.getD_none, Nat.reduceAdd, if_neg hc, List.take, List.drop, List.map_cons, List.map_nil]
  refine wpAny_bind ?_
  show wpAny _ _ (t >>= fun v => holding [v] (evalAll []) >>= fun r => pure (v :: r)) _ _ _
  refine wpAny_bind (wpAny_mono h1 (fun v s' h' => ?_) fun _ _ x => x)
  refine wpAny_bind (wpAny_holding (wpAny_pure (wpAny_pure ?_)))
  refine wpAny_bind (wpAny_holding ?_)
  rw [List.forIn_cons]
  refine wpAny_bind (wpAny_bind (wpAny_bind (wpAny_mono h' (fun _ s2 h2 => ?_) fun _ _ x => x)))
  refine wpAny_pure ?_
  rw [List.forIn_nil]
  refine wpAny_pure ?_
  rw [if_neg hu]
  refine wpAny_pure ?_
  exact wpAny_bind (wpAny_pure (wpAny_pure (wpAny_pure h2)))
end
def tSet1 (w : World) (ta : TE) : TE := fun σ H Q => ∀ p, H p = none → ta σ (upd H p (SetO w p (fun _ => false) 0)) fun x H1 => ∃ k, x = .int k ∧ H1 p = some (SetO w p (fun _ => false) 0) ∧ Q (.ref p) (upd H1 p (SetO w p (fun j => decide (j = k)) 1))
theorem pe_set1 {X : Cx} {e : Expr} {ta : TE} {pos : Pos} (ha : PE X e ta) (hp : PySem.W.kdsPlain e = true) (hcd : PySem.W.kdsCode X.K X.env.code = true) : PE X (.Set [e] 0 pos) (tSet1 X.w ta) := by
  refine ⟨fun pins s σ H Q I h => ?_⟩
  rw [arm_eval_Set]
  refine wpAny_bind (wpAny_standAt ?_)
  refine wpAny_bind (PySem.W.kds_main I.kIn hcd fun b => ?_)
  rw [PySem.W.kds_star [e] (by rw [List.all_cons, hp]; rfl), List.map_map]
  have er : displayRoad 0 [e] = .oneByOne := by
    unfold displayRoad
    rw [if_neg (Nat.lt_irrefl 0), if_pos (by simp)]
  rw [er]
  show wpAny _ _ (setDisplay .oneByOne b [(false, eval e X.env >>= fun v => standAt pos >>= fun _ => pure v)]) _ _ s
  refine display1 fun R => ?_
  have I0 := I.laid (t' := s.toks) (fun b u e => Heap.get?_push_of_some _ e) (Nat.le_refl _) (setO_new (P := X.prog) R)
  refine wpAny_bind (thn (ha.run pins _ σ _ _ I0 (h _ (I.hok.fresh (Nat.le_refl _)))) fun v s1 ⟨x, H1, I1, r1, k, hx, hp1, q⟩ => ?_)
  subst hx
  obtain ⟨tk, rfl⟩ := r1
  refine wpAny_bind (wpAny_standAt (wpAny_pure ?_))
  have R1 := setO_get I1 hp1
  unfold setAdd
  refine wpAny_holding (wpAny_bind ((intKind X.prog X.w).pyHash (k := k) (intKind_is _ _ _ _) ?_))
  refine setR_add_hashed (s := { s1 with toks := s1.toks + 1 }) R1 (by decide) fun h' sb new => ?_
  have new : SetR X.w h' s.heap.objs.size (fun j => decide (j = k)) 1 := new.congr fun j => by simp
  have he : ∃ u, h'.get? s.heap.objs.size = some u := by
    have ⟨o, _, _, _, ho, _⟩ := new
    exact ⟨o, ho⟩
  exact ⟨.ref _, upd H1 s.heap.objs.size (SetO X.w s.heap.objs.size (fun j => decide (j = k)) 1), I1.write (e := s.heap.objs.size) (t' := s1.toks + 1) (by rw [hp1]; trivial) (.inl rfl) (fun b u hb hu => (sb.2 b hb).trans hu) he (setO_new new), rfl, q⟩
end Dn
/-! Dm1: mathematics that every law wants, over Dn. -/
namespace Dn
open PySem PySem.Spec PyProof.Rows L2
theorem fnD_eq {N n : Nat} {f : SF} {ds : List PyData} (h : ds.length = n) : fnD N n f ds = resO (f (startD N n ds)) := by
  unfold fnD
  rw [if_pos h]
/-! sizes -/
theorem lt_divLim {n : Nat} (h : n < 2 ^ 64) : n < divLim := Nat.lt_of_lt_of_le h (Nat.pow_le_pow_right (by decide) (by decide))
theorem divLim_mulLim {n : Nat} (h : n < divLim) : n < mulLim := Nat.lt_of_lt_of_le h (Nat.pow_le_pow_right (by decide) (by decide))
theorem lt_mulLim {n : Nat} (h : n < 2 ^ 64) : n < mulLim := divLim_mulLim (lt_divLim h)
theorem fd_small {i j : Int} (h0 : 0 < j) (h1 : j < 2 ^ 64) : FdOk i j := ⟨by omega, lt_divLim (by omega)⟩
theorem mul_r {i j : Int} (h : j.natAbs < 2 ^ 64) : MulOk i j := .inr (.inl h)
theorem mul_l {i j : Int} (h : i.natAbs < 2 ^ 64) : MulOk i j := .inl h
theorem mul_w {i j : Int} (h : i.natAbs < mulLim) (h' : j.natAbs < mulLim) : MulOk i j := .inr (.inr ⟨h, h'⟩)
theorem fmod_pos {i j : Int} (h : 0 < j) : i.fmod j = i % j := Int.fmod_eq_emod_of_nonneg i (by omega)
theorem fdiv_pos {i j : Int} (h : 0 < j) : i.fdiv j = i / j := Int.fdiv_eq_ediv_of_nonneg i (by omega)
theorem inR_of {n : Int} (h0 : 0 ≤ n) (h1 : n < 2 ^ 61) : InR n := ⟨by omega, by omega⟩
theorem fits {n : Nat} (h : n ≤ 100000) : Fits n := h
theorem shp_int (i : Int) : Shp (.int i) := rfl
theorem shp_bool (i : Bool) : Shp (.bool i) := rfl
theorem shp_none : Shp .none := rfl
/-! == of ints, bools -/
@[simp] theorem gEq_int {i j : Int} : gEq (.int i) (.int j) = some (.val (.bool (decide (i = j)))) := by
  unfold gEq
  rw [if_pos ⟨rfl, rfl⟩]
  show some (R.val (PyData.bool (i == j))) = _
  rw [Bool.beq_eq_decide_eq]
@[simp] theorem gNe_int {i j : Int} : gNe (.int i) (.int j) = some (.val (.bool (!decide (i = j)))) := by
  unfold gNe
  rw [if_pos ⟨rfl, rfl⟩]
  show some (R.val (PyData.bool (!(i == j)))) = _
  rw [Bool.beq_eq_decide_eq]
/-! places -/
theorem ixN_nat {n : Nat} {k : Int} (h0 : 0 ≤ k) (h1 : k < n) : ixN n k = some k.toNat := by
  unfold ixN
  rw [if_pos h0, if_pos h1]
theorem atI_nat' {α : Type} {xs : List α} {k : Int} {x : α} (h0 : 0 ≤ k) (h1 : xs[k.toNat]? = some x) : atI xs k = some x := by
  have hl : k.toNat < xs.length := (List.getElem?_eq_some_iff.mp h1).1
  unfold atI
  rw [ixN_nat h0 (by omega)]
  exact h1
/-! comprehensions -/
theorem lcD_map {vs : List Nat} {g : GF} {c : TF} {f : EF} {env : En} (h : PyData → PyData) : ∀ {ds : List PyData}, (∀ d ∈ ds, ∃ e1 r, g d (wipeD env vs) = some e1 ∧ c e1 = some true ∧ f e1 = some r ∧ r.frz = h d) → lcD vs g c f env ds = some (ds.map h)
  | [], _ => rfl
  | d :: ds, hd => by
    obtain ⟨e1, r, h1, h2, h3, h4⟩ := hd d List.mem_cons_self
    have ih := lcD_map (ds := ds) h fun x hx => hd x (List.mem_cons_of_mem _ hx)
    unfold lcD
    rw [h1, Option.bind_some, h2, Option.bind_some, if_pos rfl, h3, Option.bind_some, ih, Option.bind_some, h4, List.map_cons]
theorem eLc_eq {vs : List Nat} {it : IF} {g : GF} {c : TF} {f : EF} {env : En} {ds rs : List PyData} (h1 : it env = some ds) (hl : Fits ds.length) (h2 : lcD vs g c f env ds = some rs) : eLc vs it g c f env = some (.own rs) := by
  unfold eLc
  rw [h1, Option.bind_some, if_pos hl, h2, Option.bind_some]
theorem sFor_eq {it : IF} {g : GF} {body : SF} {env : En} {ds : List PyData} (h1 : it env = some ds) : sFor it g body env = forD g body ds env := by
  unfold sFor
  rw [h1, Option.bind_some]
/-! loops -/
theorem forD_inv {g : GF} {body : SF} {ds : List PyData} (P : Nat → En → Prop) (turn : ∀ i env d, P i env → ds[i]? = some d → ∃ e1 e2, g d env = some e1 ∧ body e1 = some (.nx e2) ∧ P (i + 1) e2) {env : En} (h : P 0 env) : ∃ e, forD g body ds env = some (.nx e) ∧ P ds.length e := by
  suffices H : ∀ (n i : Nat) (env : En), i + n = ds.length → P i env → ∃ e, forD g body (ds.drop i) env = some (.nx e) ∧ P ds.length e by
    have := H ds.length 0 env (by omega) h
    rwa [List.drop_zero] at this
  intro n
  induction n with
  | zero =>
    intro i env e p
    rw [List.drop_eq_nil_of_le (by omega)]
    have : i = ds.length := by omega
    subst this
    exact ⟨env, rfl, p⟩
  | succ n ih =>
    intro i env e p
    have hi : i < ds.length := by omega
    obtain ⟨e1, e2, h1, h2, h3⟩ := turn i env ds[i] p (List.getElem?_eq_getElem hi)
    obtain ⟨e', h4, h5⟩ := ih (i + 1) e2 (by omega) h3
    refine ⟨e', ?_, h5⟩
    rw [List.drop_eq_getElem_cons hi]
    unfold forD
    rw [h1]
    show turnO (body e1) _ = _
    rw [h2]
    exact h4
theorem intsFrom_at {n : Nat} {lo : Int} {i : Nat} {d : PyData} (h : (intsFrom lo n)[i]? = some d) : i < n ∧ d = .int (lo + i) := by
  have hi : i < n := by
    have := (List.getElem?_eq_some_iff.mp h).1
    rwa [intsFrom_len] at this
  rw [intsFrom_get n lo i hi] at h
  cases h
  exact ⟨hi, rfl⟩
/-! Euclid -/
/-- n turns at most of (a, b) := (b, a mod b), as the loop goes -/
def euc : Nat → Int → Int → Int
  | 0, a, _ => a
  | n + 1, a, b => if b = 0 then a else euc n b (a % b)
def gcdI (a b : Int) : Int := (Nat.gcd a.natAbs b.natAbs : Nat)
theorem gcdI_step {a b : Int} (ha : 0 ≤ a) (hb : 0 < b) : gcdI b (a % b) = gcdI a b := by
  unfold gcdI
  have e : (a % b).natAbs = a.natAbs % b.natAbs := by
    obtain ⟨m, rfl⟩ := Int.eq_ofNat_of_zero_le ha
    obtain ⟨n, rfl⟩ := Int.eq_ofNat_of_zero_le (Int.le_of_lt hb)
    rw [← Int.natCast_emod, Int.natAbs_natCast, Int.natAbs_natCast, Int.natAbs_natCast]
  rw [e, Nat.gcd_comm b.natAbs, ← Nat.gcd_rec, Nat.gcd_comm]
theorem euc_gcd : ∀ (k n : Nat) (a b : Int), 0 ≤ a → 0 ≤ b → b < 2 ^ k → 2 * k + 1 ≤ n → euc n a b = gcdI a b
  | 0, n, a, b, ha, hb, h, hn => by
    have : b = 0 := by
      have : b < 1 := h
      omega
    subst this
    obtain ⟨m, rfl⟩ : ∃ m, n = m + 1 := ⟨n - 1, by omega⟩
    unfold euc
    rw [if_pos rfl]
    unfold gcdI
    simp
    omega
  | k + 1, n, a, b, ha, hb, h, hn => by
    obtain ⟨m, rfl⟩ : ∃ m, n = m + 2 := ⟨n - 2, by omega⟩
    unfold euc
    by_cases h0 : b = 0
    · subst h0
      rw [if_pos rfl]
      unfold gcdI
      simp
      omega
    · rw [if_neg h0]
      have hb' : 0 < b := by omega
      have hr0 := Int.emod_nonneg a h0
      have hr1 := Int.emod_lt_of_pos a hb'
      rw [← gcdI_step ha hb']
      unfold euc
      by_cases h1 : a % b = 0
      · rw [if_pos h1, h1]
        unfold gcdI
        simp
        omega
      · rw [if_neg h1]
        have hr' : 0 < a % b := by omega
        have hs0 := Int.emod_nonneg b h1
        have hs1 := Int.emod_lt_of_pos b hr'
        rw [← gcdI_step (by omega) hr']
        refine euc_gcd k m _ _ (by omega) hs0 ?_ (by omega)
        have hq : 1 ≤ b / (a % b) := Int.le_ediv_of_mul_le hr' (by omega)
        have hd := Int.mul_ediv_add_emod b (a % b)
        have : (a % b) * 1 ≤ (a % b) * (b / (a % b)) := Int.mul_le_mul_of_nonneg_left hq (by omega)
        have e2 : (2 : Int) ^ (k + 1) = 2 * 2 ^ k := by rw [Int.pow_succ, Int.mul_comm]
        rw [e2] at h
        omega
end Dn
/-! Bn1: an abstract store of cells (lists, tuples, sets that may still be changed) beside frozen data. -/
namespace Bn
open PySem PySem.Spec PyProof.Rows L2 Dn

inductive AV where
  /-- frozen data -/
  | d (d : PyData)
  /-- a cell of the store -/
  | c (n : Nat)
  /-- a value as it is (a def) -/
  | w (v : V)
inductive Ce where
  /-- a list of data -/
  | ld (ds : List PyData)
  | lst (vs : List AV)
  | tup (vs : List AV)
  | set (ks : List Int)
  /-- frozen -/
  | frz (d : PyData)
abbrev Sto := List Ce
/-- a slot: without a value, with one, or the exception that is handled -/
inductive Sg where
  | un
  | v (a : AV)
  | x (e : Xn)
abbrev Ev := List Sg
abbrev Adr := Nat → Addr

def AVR (K : PySem.W.Frag) (F : Hp) (α : Adr) (n : Nat) (v : V) : AV → Prop
  | .d d => Dp K F v d
  | .c i => i < n ∧ v = .ref (α i)
  | .w u => v = u
inductive AVRs (K : PySem.W.Frag) (F : Hp) (α : Adr) (n : Nat) : List V → List AV → Prop
  | nil : AVRs K F α n [] []
  | cons {v a vs as} (h : AVR K F α n v a) (t : AVRs K F α n vs as) : AVRs K F α n (v :: vs) (a :: as)
def CeR (K : PySem.W.Frag) (w : World) (F H : Hp) (α : Adr) (n : Nat) (a : Addr) : Ce → Prop
  | .ld ds => F a = none ∧ ∃ xs, H a = some (.lst xs) ∧ DpAll K F xs ds
  | .lst vs => F a = none ∧ ∃ xs, H a = some (.lst xs) ∧ AVRs K F α n xs vs
  | .tup vs => F a = none ∧ ∃ xs, H a = some (.tup xs) ∧ AVRs K F α n xs vs
  | .set ks => F a = none ∧ H a = some (SetO w a (fun j => decide (j ∈ ks)) ks.length)
  | .frz d => H a ≠ none ∧ Dp K F (.ref a) d
/-- the state: F0, H0 at the entry of the def (without its cells); F what is frozen of H; the cells' addresses -/
structure Rl (K : PySem.W.Frag) (w : World) (F0 H0 F H : Hp) (α : Adr) (s : Sto) : Prop where
  f : Same F0 F
  k : Same H0 H
  i : Same F H
  n : ∀ a, H0 a ≠ none → F0 a = none → F a = none
  inj : ∀ i j, i < s.length → j < s.length → α i = α j → i = j
  out : ∀ i, i < s.length → H0 (α i) = none
  ob : ∀ i o, s[i]? = some o → CeR K w F H α s.length (α i) o
structure Pg (F : Hp) (α : Adr) (n : Nat) (F' : Hp) (α' : Adr) (n' : Nat) : Prop where
  f : Same F F'
  a : ∀ i, i < n → α' i = α i
  l : n ≤ n'
theorem Pg.refl {F : Hp} {α : Adr} {n : Nat} : Pg F α n F α n := ⟨Same.refl F, fun _ _ => rfl, Nat.le_refl n⟩
theorem Pg.trans {F F1 F2 : Hp} {α α1 α2 : Adr} {n n1 n2 : Nat} (a : Pg F α n F1 α1 n1) (b : Pg F1 α1 n1 F2 α2 n2) : Pg F α n F2 α2 n2 :=
  ⟨a.f.trans b.f, fun i h => (b.a i (Nat.lt_of_lt_of_le h a.l)).trans (a.a i h), Nat.le_trans a.l b.l⟩
section
variable {K : PySem.W.Frag} {w : World} {F0 H0 F H F' H' : Hp} {α α' : Adr} {n n' : Nat} {s : Sto}
theorem AVR.mono {v : V} {a : AV} (p : Pg F α n F' α' n') (h : AVR K F α n v a) : AVR K F' α' n' v a := by
  cases a with
  | d d => exact dp_mono p.f h
  | c i => exact ⟨Nat.lt_of_lt_of_le h.1 p.l, by rw [p.a i h.1]; exact h.2⟩
  | w u => exact h
theorem AVRs.mono (p : Pg F α n F' α' n') : ∀ {vs : List V} {as : List AV}, AVRs K F α n vs as → AVRs K F' α' n' vs as
  | _, _, .nil => .nil
  | _, _, .cons h t => .cons (h.mono p) (t.mono p)
theorem AVRs.len : ∀ {vs : List V} {as : List AV}, AVRs K F α n vs as → vs.length = as.length
  | _, _, .nil => rfl
  | _, _, .cons _ t => by rw [List.length_cons, List.length_cons, t.len]
theorem AVRs.get : ∀ {vs : List V} {as : List AV} {i : Nat} {a : AV}, AVRs K F α n vs as → as[i]? = some a → ∃ v, vs[i]? = some v ∧ AVR K F α n v a
  | _, _, i, _, .nil, e => by simp at e
  | _, _, 0, _, .cons h _, e => by simp at e; subst e; exact ⟨_, rfl, h⟩
  | _, _, i + 1, _, .cons _ t, e => by
    obtain ⟨v, h1, h2⟩ := AVRs.get (i := i) t (by simpa using e)
    exact ⟨v, by simpa using h1, h2⟩
theorem AVRs.app : ∀ {vs ws : List V} {as bs : List AV}, AVRs K F α n vs as → AVRs K F α n ws bs → AVRs K F α n (vs ++ ws) (as ++ bs)
  | _, _, _, _, .nil, s => s
  | _, _, _, _, .cons h t, s => .cons h (AVRs.app t s)
theorem AVRs.take : ∀ (m : Nat) {vs : List V} {as : List AV}, AVRs K F α n vs as → AVRs K F α n (vs.take m) (as.take m)
  | 0, _, _, _ => by simp only [List.take_zero]; exact .nil
  | _ + 1, _, _, .nil => .nil
  | m + 1, _, _, .cons h t => .cons h (AVRs.take m t)
theorem AVRs.set : ∀ (i : Nat) {vs : List V} {as : List AV} {v : V} {a : AV}, AVRs K F α n vs as → AVR K F α n v a → AVRs K F α n (vs.set i v) (as.set i a)
  | _, _, _, _, _, .nil, _ => .nil
  | 0, _, _, _, _, .cons _ t, h => .cons h t
  | i + 1, _, _, _, _, .cons h t, g => .cons h (AVRs.set i t g)
theorem AVRs.erase : ∀ (j : Nat) {vs : List V} {as : List AV}, AVRs K F α n vs as → AVRs K F α n (vs.eraseIdx j) (as.eraseIdx j)
  | _, [], [], h => h
  | 0, _ :: _, _ :: _, .cons _ t => t
  | j + 1, _ :: _, _ :: _, .cons h t => .cons h (AVRs.erase j t)
theorem AVRs.ofD : ∀ {vs : List V} {ds : List PyData}, DpAll K F vs ds → AVRs K F α n vs (ds.map .d)
  | _, _, .nil => .nil
  | _, _, .cons h t => .cons h (AVRs.ofD t)
theorem CeR.mono {o : Ce} {a : Addr} (p : Pg F α n F' α' n') (hf : F a = none → F' a = none) (hh : H' a = H a) (h : CeR K w F H α n a o) : CeR K w F' H' α' n' a o := by
  cases o with
  | ld ds =>
    obtain ⟨h1, xs, h2, h3⟩ := h
    exact ⟨hf h1, xs, by rw [hh]; exact h2, dpa_mono p.f h3⟩
  | lst vs =>
    obtain ⟨h1, xs, h2, h3⟩ := h
    exact ⟨hf h1, xs, by rw [hh]; exact h2, h3.mono p⟩
  | tup vs =>
    obtain ⟨h1, xs, h2, h3⟩ := h
    exact ⟨hf h1, xs, by rw [hh]; exact h2, h3.mono p⟩
  | set ks => exact ⟨hf h.1, by rw [hh]; exact h.2⟩
  | frz d => exact ⟨by rw [hh]; exact h.1, dp_mono p.f h.2⟩
theorem CeR.there {o : Ce} {a : Addr} (h : CeR K w F H α n a o) : H a ≠ none := by
  cases o with
  | ld ds => obtain ⟨h1, xs, h2, h3⟩ := h; rw [h2]; exact Option.some_ne_none _
  | lst vs => obtain ⟨h1, xs, h2, h3⟩ := h; rw [h2]; exact Option.some_ne_none _
  | tup vs => obtain ⟨h1, xs, h2, h3⟩ := h; rw [h2]; exact Option.some_ne_none _
  | set ks => rw [h.2]; exact Option.some_ne_none _
  | frz d => exact h.1
theorem Rl.there (R : Rl K w F0 H0 F H α s) {i : Nat} (h : i < s.length) : H (α i) ≠ none := (R.ob i _ (List.getElem?_eq_getElem h)).there
theorem Rl.ne (R : Rl K w F0 H0 F H α s) {p : Addr} (hp : H p = none) {i : Nat} (h : i < s.length) : α i ≠ p := fun z => R.there h (by rw [z]; exact hp)
/-- what grows -/
theorem Rl.grow (R : Rl K w F0 H0 F H α s) (g : Grow F H F' H') : Rl K w F0 H0 F' H' α s :=
  ⟨R.f.trans g.f, R.k.trans g.h, g.i, fun a h0 h1 => g.n a (same_ne R.k h0) (R.n a h0 h1), R.inj, R.out, fun i o e => by
    have hi : i < s.length := (List.getElem?_eq_some_iff.mp e).1
    have ht := R.there hi
    refine (R.ob i o e).mono ⟨g.f, fun _ _ => rfl, Nat.le_refl _⟩ (g.n _ ht) ?_
    cases q : H (α i) with
    | none => exact absurd q ht
    | some o => exact g.h _ _ q⟩
/-- the heap grows, nothing is frozen -/
theorem Rl.keepF (R : Rl K w F0 H0 F H α s) (g : Same H H') : Rl K w F0 H0 F H' α s := R.grow ⟨Same.refl F, g, R.i.trans g, fun _ _ h => h⟩
theorem Pg.ofGrow (g : Grow F H F' H') : Pg F α n F' α n := ⟨g.f, fun _ _ => rfl, Nat.le_refl n⟩
def ext (α : Adr) (n : Nat) (p : Addr) : Adr := fun i => if i = n then p else α i
theorem ext_same {p : Addr} : ext α n p n = p := if_pos rfl
theorem ext_ne {p : Addr} {i : Nat} (h : i ≠ n) : ext α n p i = α i := if_neg h
theorem Pg.ext {p : Addr} : Pg F α n F (ext α n p) (n + 1) := ⟨Same.refl F, fun i h => ext_ne (Nat.ne_of_lt h), Nat.le_succ n⟩
/-- a new cell at p -/
theorem Rl.push {p : Addr} {o : Ce} (R : Rl K w F0 H0 F H α s) (ne : ∀ i, i < s.length → α i ≠ p) (h0 : H0 p = none) (h : CeR K w F H (Bn.ext α s.length p) (s.length + 1) p o) : Rl K w F0 H0 F H (Bn.ext α s.length p) (s ++ [o]) := by
  have cases_ : ∀ i, i < s.length + 1 → i = s.length ∨ i < s.length := fun i h => by omega
  have ln : (s ++ [o]).length = s.length + 1 := by simp
  refine ⟨R.f, R.k, R.i, R.n, fun i j hi hj e => ?_, fun i hi => ?_, fun i q e => ?_⟩
  · rw [ln] at hi hj
    rcases cases_ i hi with rfl | hi
    · rcases cases_ j hj with rfl | hj
      · rfl
      · rw [ext_same, ext_ne (Nat.ne_of_lt hj)] at e
        exact absurd e.symm (ne j hj)
    · rcases cases_ j hj with rfl | hj
      · rw [ext_same, ext_ne (Nat.ne_of_lt hi)] at e
        exact absurd e (ne i hi)
      · rw [ext_ne (Nat.ne_of_lt hi), ext_ne (Nat.ne_of_lt hj)] at e
        exact R.inj i j hi hj e
  · rw [ln] at hi
    rcases cases_ i hi with rfl | hi
    · rw [ext_same]; exact h0
    · rw [ext_ne (Nat.ne_of_lt hi)]; exact R.out i hi
  · rw [ln]
    have hi : i < s.length + 1 := by have := (List.getElem?_eq_some_iff.mp e).1; rwa [ln] at this
    rcases cases_ i hi with rfl | hi
    · rw [ext_same]
      rw [List.getElem?_append_right (Nat.le_refl _)] at e
      simp at e
      subst e
      exact h
    · rw [ext_ne (Nat.ne_of_lt hi)]
      rw [List.getElem?_append_left hi] at e
      exact (R.ob i q e).mono Pg.ext (fun h => h) rfl
/-- a new object at p, not frozen -/
theorem Rl.new {p : Addr} {ho : HO} (R : Rl K w F0 H0 F H α s) (hp : H p = none) : Rl K w F0 H0 F (upd H p ho) α s := R.grow (Grow.new R.i hp)
theorem Rl.newCe {p : Addr} {ho : HO} {o : Ce} (R : Rl K w F0 H0 F H α s) (hp : H p = none) (h : CeR K w F (upd H p ho) (Bn.ext α s.length p) (s.length + 1) p o) : Rl K w F0 H0 F (upd H p ho) (Bn.ext α s.length p) (s ++ [o]) :=
  (R.new hp).push (fun _ hi => R.ne hp hi) (R.k.free hp) h
/-- a new object at p is frozen -/
theorem Rl.newFrz {p : Addr} {ho : HO} (R : Rl K w F0 H0 F H α s) (hp : H p = none) : Rl K w F0 H0 (upd F p ho) (upd H p ho) α s := R.grow ((Grow.new R.i hp).frz hp (R.i.free hp) upd_same)
/-- a cell is turned -/
theorem Rl.put {k : Nat} {ho : HO} {o q : Ce} (R : Rl K w F0 H0 F H α s) (e : s[k]? = some o) (hf : F (α k) = none) (h : CeR K w F (upd H (α k) ho) α s.length (α k) q) : Rl K w F0 H0 F (upd H (α k) ho) α (s.set k q) := by
  have hk : k < s.length := (List.getElem?_eq_some_iff.mp e).1
  refine ⟨R.f, same_updF R.k (R.out k hk), same_updF R.i hf, R.n, by rw [List.length_set]; exact R.inj, by rw [List.length_set]; exact R.out, fun i r e => ?_⟩
  rw [List.length_set]
  by_cases hik : k = i
  · subst hik
    rw [List.getElem?_set_self hk] at e
    cases e
    exact h
  · rw [List.getElem?_set_ne hik] at e
    have hi : i < s.length := (List.getElem?_eq_some_iff.mp e).1
    exact (R.ob i r e).mono Pg.refl (fun h => h) (upd_ne fun z => hik (R.inj i k hi hk z).symm)
/-- a cell is frozen -/
theorem Rl.freeze {k : Nat} {ho : HO} {o : Ce} {d : PyData} (R : Rl K w F0 H0 F H α s) (e : s[k]? = some o) (hf : F (α k) = none) (hh : H (α k) = some ho) (h : Dp K (upd F (α k) ho) (.ref (α k)) d) : Rl K w F0 H0 (upd F (α k) ho) H α (s.set k (.frz d)) := by
  have hk : k < s.length := (List.getElem?_eq_some_iff.mp e).1
  have sm : Same F (upd F (α k) ho) := same_upd hf
  refine ⟨R.f.trans sm, R.k, fun b x g => ?_, fun a ha hfa => ?_, by rw [List.length_set]; exact R.inj, by rw [List.length_set]; exact R.out, fun i r e => ?_⟩
  · by_cases hb : b = α k
    · rw [hb, upd_same] at g
      rw [hb, hh]
      exact g
    · rw [upd_ne hb] at g
      exact R.i _ _ g
  · rw [upd_ne (fun (z : a = α k) => ha (by rw [z]; exact R.out k hk))]
    exact R.n a ha hfa
  rw [List.length_set]
  by_cases hik : k = i
  · subst hik
    rw [List.getElem?_set_self hk] at e
    cases e
    exact ⟨by rw [hh]; exact Option.some_ne_none _, h⟩
  · rw [List.getElem?_set_ne hik] at e
    have hi : i < s.length := (List.getElem?_eq_some_iff.mp e).1
    exact (R.ob i r e).mono ⟨sm, fun _ _ => rfl, Nat.le_refl _⟩ (fun h => by rw [upd_ne fun z => hik (R.inj i k hi hk z).symm]; exact h) rfl
end

/-! ### slots -/
abbrev EC := Option (Addr × Value × Option Addr)
def SgR (mg : Str → Option Value) (K : PySem.W.Frag) (ec : EC) (F : Hp) (α : Adr) (n : Nat) (u : Option (Option V)) : Sg → Prop
  | .un => True
  | .v a => ∃ x, u = some (some x) ∧ AVR K F α n x a
  | .x e => ∃ a cls d, ec = some (a, cls, d) ∧ u = some (some (.ref a)) ∧ XnOk mg K F e cls d
structure Lo (mg : Str → Option Value) (K : PySem.W.Frag) (ec : EC) (F : Hp) (α : Adr) (n : Nat) (σ : L2.St) (env : Ev) : Prop where
  len : σ.length = env.length
  at_ : ∀ (i : Nat) (g : Sg), env[i]? = some g → SgR mg K ec F α n σ[i]? g
section
variable {mg : Str → Option Value} {K : PySem.W.Frag} {ec : EC} {F F' : Hp} {α α' : Adr} {n n' : Nat} {σ : L2.St} {env : Ev}
theorem SgR.mono {u : Option (Option V)} {g : Sg} (p : Pg F α n F' α' n') (h : SgR mg K ec F α n u g) : SgR mg K ec F' α' n' u g := by
  cases g with
  | un => trivial
  | v a => obtain ⟨x, e, h⟩ := h; exact ⟨x, e, h.mono p⟩
  | x e => obtain ⟨a, cls, d, h1, h2, h3⟩ := h; exact ⟨a, cls, d, h1, h2, h3.mono p.f⟩
theorem Lo.mono (p : Pg F α n F' α' n') (L : Lo mg K ec F α n σ env) : Lo mg K ec F' α' n' σ env := ⟨L.len, fun i g e => (L.at_ i g e).mono p⟩
theorem Lo.set {i : Nat} {x : V} {a : AV} (L : Lo mg K ec F α n σ env) (h : AVR K F α n x a) : Lo mg K ec F α n (σ.set i (some x)) (env.set i (.v a)) := by
  refine ⟨by rw [List.length_set, List.length_set, L.len], fun j g e => ?_⟩
  by_cases hj : i = j
  · subst hj
    have hi : i < env.length := by have := (List.getElem?_eq_some_iff.mp e).1; rwa [List.length_set] at this
    rw [List.getElem?_set_self hi] at e
    cases e
    exact ⟨x, by rw [List.getElem?_set_self (by rw [L.len]; exact hi)], h⟩
  · rw [List.getElem?_set_ne hj] at e ⊢
    exact L.at_ j g e
theorem Lo.re {i : Nat} {x : V} {a : AV} (L : Lo mg K ec F α n σ env) (hx : σ[i]? = some (some x)) (h : AVR K F α n x a) : Lo mg K ec F α n σ (env.set i (.v a)) := by
  refine ⟨by rw [List.length_set, L.len], fun j g e => ?_⟩
  by_cases hj : i = j
  · subst hj
    have hi : i < env.length := by have := (List.getElem?_eq_some_iff.mp e).1; rwa [List.length_set] at this
    rw [List.getElem?_set_self hi] at e
    cases e
    exact ⟨x, hx, h⟩
  · rw [List.getElem?_set_ne hj] at e
    exact L.at_ j g e
theorem Lo.un {i : Nat} {u : Option V} (L : Lo mg K ec F α n σ env) : Lo mg K ec F α n (σ.set i u) (env.set i .un) := by
  refine ⟨by rw [List.length_set, List.length_set, L.len], fun j g e => ?_⟩
  by_cases hj : i = j
  · subst hj
    have hi : i < env.length := by have := (List.getElem?_eq_some_iff.mp e).1; rwa [List.length_set] at this
    rw [List.getElem?_set_self hi] at e
    cases e
    trivial
  · rw [List.getElem?_set_ne hj] at e ⊢
    exact L.at_ j g e
theorem Lo.var {i : Nat} {a : AV} (L : Lo mg K ec F α n σ env) (e : env[i]? = some (.v a)) : ∃ x, σ[i]? = some (some x) ∧ AVR K F α n x a := L.at_ i _ e
end
end Bn
/-! Bn2: expressions over the store. -/
namespace Bn
open PySem PySem.Spec PyProof.Rows L2 Dn

inductive An (α : Type) where
  | ok (a : α) (s : Sto)
  | ex (e : Xn) (s : Sto)
abbrev BE := Ev → Sto → Option (An AV)
abbrev BT := Ev → Sto → Option (An Bool)
abbrev BA := Ev → Sto → Option (An (List AV))
def bB {α β : Type} (m : Option (An α)) (k : α → Sto → Option (An β)) : Option (An β) := match m with
  | some (.ok a s) => k a s
  | some (.ex x s) => some (.ex x s)
  | none => none
section
variable {α β : Type} {a : α} {s : Sto} {x : Xn} {k : α → Sto → Option (An β)}
@[simp] theorem bB_ok : bB (some (.ok a s)) k = k a s := rfl
@[simp] theorem bB_ex : bB (some (.ex x s)) k = some (.ex x s) := rfl
@[simp] theorem bB_no : bB none k = none := rfl
theorem bB_ite {c : Prop} [Decidable c] {x y : Option (An α)} : bB (if c then x else y) k = if c then bB x k else bB y k := by split <;> rfl
theorem bBd {m : Option (An α)} {b : An β} (h : bB m k = some b) : (∃ x s, m = some (.ok x s) ∧ k x s = some b) ∨ ∃ x s, m = some (.ex x s) ∧ b = .ex x s := by
  cases m with
  | none => cases h
  | some z =>
    cases z with
    | ok x e => exact .inl ⟨x, e, rfl, h⟩
    | ex x e =>
      cases h
      exact .inr ⟨x, e, rfl, rfl⟩
end

/-! ### judgements -/
section
variable (mg : Str → Option Value) (K : PySem.W.Frag) (w : World) (W : WX) (ec : EC)
def ExB (F0 H0 F : Hp) (α : Adr) (n : Nat) (σ : L2.St) (e : Xn) (s' : Sto) : Prop := ∀ F' H' α' cls d, Pg F α n F' α' s'.length → Rl K w F0 H0 F' H' α' s' → XnOk mg K F' e cls d → W cls d σ H'
def EmB (F0 H0 F : Hp) (α : Adr) (n : Nat) (σ : L2.St) (Q : VK) : An AV → Prop
  | .ok a s' => ∀ F' H' α' x, Pg F α n F' α' s'.length → Rl K w F0 H0 F' H' α' s' → AVR K F' α' s'.length x a → Q x H'
  | .ex e s' => ExB mg K w W F0 H0 F α n σ e s'
def TmB (F0 H0 F : Hp) (α : Adr) (n : Nat) (σ : L2.St) (Q : Bool → Hp → Prop) : An Bool → Prop
  | .ok b s' => ∀ F' H' α', Pg F α n F' α' s'.length → Rl K w F0 H0 F' H' α' s' → Q b H'
  | .ex e s' => ExB mg K w W F0 H0 F α n σ e s'
def AmB (F0 H0 F : Hp) (α : Adr) (n : Nat) (σ : L2.St) (Q : List V → Hp → Prop) : An (List AV) → Prop
  | .ok as s' => ∀ F' H' α' xs, Pg F α n F' α' s'.length → Rl K w F0 H0 F' H' α' s' → AVRs K F' α' s'.length xs as → Q xs H'
  | .ex e s' => ExB mg K w W F0 H0 F α n σ e s'
def DEB (te : TE) (f : BE) : Prop := ∀ (F0 H0 F H : Hp) (α : Adr) (σ : L2.St) (env : Ev) (s : Sto) (a : An AV), Rl K w F0 H0 F H α s → Lo mg K ec F α s.length σ env → f env s = some a → ∀ Q : VK, EmB mg K w W F0 H0 F α s.length σ Q a → te σ H Q
def DTB (tt : TT) (f : BT) : Prop := ∀ (F0 H0 F H : Hp) (α : Adr) (σ : L2.St) (env : Ev) (s : Sto) (a : An Bool), Rl K w F0 H0 F H α s → Lo mg K ec F α s.length σ env → f env s = some a → ∀ Q : Bool → Hp → Prop, TmB mg K w W F0 H0 F α s.length σ Q a → tt σ H Q
def DAB (ta : TA) (f : BA) : Prop := ∀ (F0 H0 F H : Hp) (α : Adr) (σ : L2.St) (env : Ev) (s : Sto) (a : An (List AV)), Rl K w F0 H0 F H α s → Lo mg K ec F α s.length σ env → f env s = some a → ∀ Q : List V → Hp → Prop, AmB mg K w W F0 H0 F α s.length σ Q a → ta σ H Q
end

/-! ### what a value is, as data -/
/-- without looking into cells that may still change -/
def avD (s : Sto) : AV → Option PyData
  | .d d => some d
  | .c i => match s[i]? with
    | some (.frz d) => some d
    | _ => none
  | .w _ => none
def mapO {α β : Type} (f : α → Option β) : List α → Option (List β)
  | [] => some []
  | a :: as => (f a).bind fun b => (mapO f as).bind fun bs => some (b :: bs)
/-- looking into cells -/
def dpN (s : Sto) : Nat → AV → Option PyData
  | _, .d d => some d
  | _, .w _ => none
  | 0, .c _ => none
  | k + 1, .c i => match s[i]? with
    | some (.ld ds) => some (.list ds)
    | some (.frz d) => some d
    | some (.lst vs) => (mapO (dpN s k) vs).bind fun ds => some (.list ds)
    | some (.tup vs) => (mapO (dpN s k) vs).bind fun ds => some (.tuple ds)
    | _ => none
def dp (s : Sto) (a : AV) : Option PyData := dpN s 6 a
def rdA (s : Sto) (as : List AV) : Option (List PyData) := mapO (avD s) as
def dpA (s : Sto) (as : List AV) : Option (List PyData) := mapO (dp s) as
def bR (r : R) (s : Sto) : Option (An AV) := match r with
  | .val d => some (.ok (.d d) s)
  | .own ds => some (.ok (.c s.length) (s ++ [.ld ds]))
  | .own3 as bs cs => some (.ok (.c (s.length + 3)) (s ++ [.ld as, .ld bs, .ld cs, .tup [.c s.length, .c (s.length + 1), .c (s.length + 2)]]))
@[simp] theorem bR_val {d : PyData} {s : Sto} : bR (.val d) s = some (.ok (.d d) s) := rfl
@[simp] theorem bR_own {ds : List PyData} {s : Sto} : bR (.own ds) s = some (.ok (.c s.length) (s ++ [.ld ds])) := rfl
def dnS (s : Sto) : Sg → Sl
  | .v a => match avD s a with
    | some d => .val d
    | none => .no
  | _ => .no
def dn (s : Sto) (env : Ev) : En := env.map (dnS s)
def pkS (s : Sto) : Sg → Sl
  | .v a => match dp s a with
    | some d => .val d
    | none => .no
  | _ => .no
def pk (s : Sto) (env : Ev) : En := env.map (pkS s)
@[simp] theorem dn_get {s : Sto} {env : Ev} {i : Nat} : (dn s env)[i]? = (env[i]?).map (dnS s) := by unfold dn; rw [List.getElem?_map]
@[simp] theorem pk_get {s : Sto} {env : Ev} {i : Nat} : (pk s env)[i]? = (env[i]?).map (pkS s) := by unfold pk; rw [List.getElem?_map]
section
variable {mg : Str → Option Value} {K : PySem.W.Frag} {w : World} {W : WX} {ec : EC} {F0 H0 F H F1 H1 : Hp} {α α1 : Adr} {σ : L2.St} {env : Ev} {s s1 : Sto} {n : Nat}
theorem avD_ok {v : V} {a : AV} {d : PyData} (R : Rl K w F0 H0 F H α s) (h : AVR K F α s.length v a) (e : avD s a = some d) : Dp K F v d := by
  cases a with
  | d x => cases e; exact h
  | w u => cases e
  | c i =>
    simp only [avD] at e
    split at e
    · rename_i x hx
      cases e
      rw [h.2]
      exact (R.ob i _ hx).2
    · cases e
theorem mapO_rel {P : V → PyData → Prop} {f : AV → Option PyData} (hf : ∀ v a d, AVR K F α n v a → f a = some d → Dp K H v d) : ∀ {vs : List V} {as : List AV} {ds : List PyData}, AVRs K F α n vs as → mapO f as = some ds → DpAll K H vs ds
  | _, _, _, .nil, e => by cases e; exact .nil
  | _, _, _, .cons h t, e => by
    unfold mapO at e
    obtain ⟨b, eb, e⟩ := bnd e
    obtain ⟨bs, ebs, e⟩ := bnd e
    cases e
    exact .cons (hf _ _ _ h eb) (mapO_rel (P := P) hf t ebs)
theorem rdA_ok {vs : List V} {as : List AV} {ds : List PyData} (R : Rl K w F0 H0 F H α s) (h : AVRs K F α s.length vs as) (e : rdA s as = some ds) : DpAll K F vs ds := mapO_rel (P := fun _ _ => True) (fun _ _ _ h e => avD_ok R h e) h e
theorem dpN_ok (R : Rl K w F0 H0 F H α s) : ∀ {k : Nat} {v : V} {a : AV} {d : PyData}, AVR K F α s.length v a → dpN s k a = some d → Dp K H v d
  | k, v, .d x, d, h, e => by
    have : dpN s k (.d x) = some x := by cases k <;> rfl
    rw [this] at e
    cases e
    exact dp_mono R.i h
  | k, v, .w u, d, h, e => by
    have : dpN s k (.w u) = none := by cases k <;> rfl
    rw [this] at e
    cases e
  | 0, v, .c i, d, h, e => by cases e
  | k + 1, v, .c i, d, h, e => by
    unfold dpN at e
    rw [h.2]
    split at e
    · rename_i ds hx
      cases e
      obtain ⟨_, xs, h2, h3⟩ := R.ob i _ hx
      exact .lst (.inl (.inl h2)) (dpa_mono R.i h3)
    · rename_i x hx
      cases e
      exact dp_mono R.i (R.ob i _ hx).2
    · rename_i vs hx
      obtain ⟨ds, e1, e⟩ := bnd e
      cases e
      obtain ⟨_, xs, h2, h3⟩ := R.ob i _ hx
      exact .lst (.inl (.inl h2)) (mapO_rel (P := fun _ _ => True) (fun _ _ _ h e => dpN_ok R h e) h3 e1)
    · rename_i vs hx
      obtain ⟨ds, e1, e⟩ := bnd e
      cases e
      obtain ⟨_, xs, h2, h3⟩ := R.ob i _ hx
      exact .tup (.inl (.inl h2)) (mapO_rel (P := fun _ _ => True) (fun _ _ _ h e => dpN_ok R h e) h3 e1)
    · cases e
theorem dp_ok {v : V} {a : AV} {d : PyData} (R : Rl K w F0 H0 F H α s) (h : AVR K F α s.length v a) (e : dp s a = some d) : Dp K H v d := dpN_ok R h e
theorem dpA_ok {vs : List V} {as : List AV} {ds : List PyData} (R : Rl K w F0 H0 F H α s) (h : AVRs K F α s.length vs as) (e : dpA s as = some ds) : DpAll K H vs ds := mapO_rel (P := fun _ _ => True) (fun _ _ _ h e => dp_ok R h e) h e
theorem dn_slots {B : Hp} (R : Rl K w F0 H0 F H α s) (L : Lo mg K ec F α s.length σ env) : Slots K B F H σ (dn s env) := by
  refine ⟨by unfold dn; rw [List.length_map, L.len], fun _ => 0, fun i v g e1 e2 => ?_, fun i j ds es _ e1 _ => ?_⟩
  · rw [dn_get] at e2
    obtain ⟨z, ez, e2⟩ := Option.map_eq_some_iff.mp e2
    have := L.at_ i z ez
    subst e2
    cases z with
    | un => trivial
    | x e => trivial
    | v a =>
      obtain ⟨x, h1, h2⟩ := this
      rw [e1] at h1
      cases h1
      unfold dnS
      dsimp only
      split
      · rename_i d hd
        exact ⟨x, rfl, avD_ok R h2 hd⟩
      · trivial
  · rw [dn_get] at e1
    obtain ⟨z, ez, e1⟩ := Option.map_eq_some_iff.mp e1
    exfalso
    cases z with
    | un => cases e1
    | x e => cases e1
    | v a =>
      unfold dnS at e1
      dsimp only at e1
      split at e1 <;> cases e1
theorem pk_slots {B : Hp} (R : Rl K w F0 H0 F H α s) (L : Lo mg K ec F α s.length σ env) : Slots K B H H σ (pk s env) := by
  refine ⟨by unfold pk; rw [List.length_map, L.len], fun _ => 0, fun i v g e1 e2 => ?_, fun i j ds es _ e1 _ => ?_⟩
  · rw [pk_get] at e2
    obtain ⟨z, ez, e2⟩ := Option.map_eq_some_iff.mp e2
    have := L.at_ i z ez
    subst e2
    cases z with
    | un => trivial
    | x e => trivial
    | v a =>
      obtain ⟨x, h1, h2⟩ := this
      rw [e1] at h1
      cases h1
      unfold pkS
      dsimp only
      split
      · rename_i d hd
        exact ⟨x, rfl, dp_ok R h2 hd⟩
      · trivial
  · rw [pk_get] at e1
    obtain ⟨z, ez, e1⟩ := Option.map_eq_some_iff.mp e1
    exfalso
    cases z with
    | un => cases e1
    | x e => cases e1
    | v a =>
      unfold pkS at e1
      dsimp only at e1
      split at e1 <;> cases e1
theorem ln1 {o : Ce} : (s ++ [o]).length = s.length + 1 := by simp
/-- a result gets its place in the store -/
theorem bR_in {F2 H2 : Hp} {r : R} {a : An AV} {v : V} {Q : VK} (R : Rl K w F0 H0 F H α s) (g : Grow F H F2 H2) (rr : RepR K F2 H H2 v r) (e : bR r s = some a) (q : EmB mg K w W F0 H0 F α s.length σ Q a) : Q v H2 := by
  have R2 := R.grow g
  cases r with
  | val d =>
    cases e
    exact q F2 H2 α v (.ofGrow g) R2 rr
  | own ds =>
    cases e
    obtain ⟨p, xs, rfl, f1, f2, f3, f4⟩ := rr
    refine q F2 H2 (ext α s.length p) _ ?_ (R2.push (fun i hi => R.ne f2 hi) (R.k.free f2) ⟨f1, xs, f3, f4⟩) ?_
    · rw [ln1]; exact (Pg.ofGrow g).trans .ext
    · rw [ln1]; exact ⟨Nat.lt_succ_self _, by rw [ext_same]⟩
  | own3 as bs cs =>
    cases e
    obtain ⟨p, a, b, c, xs, ys, zs, rfl, p1, p2, p3, ⟨a1, a2, a3, a4⟩, ⟨b1, b2, b3, b4⟩, ⟨c1, c2, c3, c4⟩, ab, ac, bc⟩ := rr
    have pa : p ≠ a := fun z => by rw [z, a3] at p3; cases p3
    have pb : p ≠ b := fun z => by rw [z, b3] at p3; cases p3
    have pc : p ≠ c := fun z => by rw [z, c3] at p3; cases p3
    have Ra := R2.push (o := .ld as) (fun i hi => R.ne a2 hi) (R.k.free a2) ⟨a1, xs, a3, a4⟩
    have nb : ∀ i, i < (s ++ [Ce.ld as]).length → ext α s.length a i ≠ b := fun i hi => by
      rw [ln1] at hi
      by_cases z : i = s.length
      · rw [z, ext_same]; exact ab
      · rw [ext_ne z]; exact R.ne b2 (by omega)
    have Rb := Ra.push (o := .ld bs) nb (R.k.free b2) ⟨b1, ys, b3, b4⟩
    have nc : ∀ i, i < ((s ++ [Ce.ld as]) ++ [Ce.ld bs]).length → ext (ext α s.length a) (s ++ [Ce.ld as]).length b i ≠ c := fun i hi => by
      simp only [ln1] at hi ⊢
      by_cases z : i = s.length + 1
      · rw [z, ext_same]; exact bc
      · rw [ext_ne z]
        by_cases z : i = s.length
        · rw [z, ext_same]; exact ac
        · rw [ext_ne z]; exact R.ne c2 (by omega)
    have Rc := Rb.push (o := .ld cs) nc (R.k.free c2) ⟨c1, zs, c3, c4⟩
    generalize hβ : ext (ext (ext α s.length a) (s ++ [Ce.ld as]).length b) ((s ++ [Ce.ld as]) ++ [Ce.ld bs]).length c = β at Rc
    have l3 : (((s ++ [Ce.ld as]) ++ [Ce.ld bs]) ++ [Ce.ld cs]).length = s.length + 3 := by simp
    have βa : β s.length = a := by simp only [← hβ, ln1]; rw [ext_ne (by omega), ext_ne (by omega), ext_same]
    have βb : β (s.length + 1) = b := by simp only [← hβ, ln1]; rw [ext_ne (by omega), ext_same]
    have βc : β (s.length + 2) = c := by simp only [← hβ, ln1]; rw [ext_same]
    have βo : ∀ i, i < s.length → β i = α i := fun i hi => by simp only [← hβ, ln1]; rw [ext_ne (by omega), ext_ne (by omega), ext_ne (by omega)]
    have np : ∀ i, i < (((s ++ [Ce.ld as]) ++ [Ce.ld bs]) ++ [Ce.ld cs]).length → β i ≠ p := fun i hi => by
      rw [l3] at hi
      by_cases z : i < s.length
      · rw [βo i z]; exact R.ne p2 z
      · by_cases z1 : i = s.length
        · rw [z1, βa]; exact Ne.symm pa
        · by_cases z2 : i = s.length + 1
          · rw [z2, βb]; exact Ne.symm pb
          · have z3 : i = s.length + 2 := by omega
            rw [z3, βc]; exact Ne.symm pc
    have Rp := Rc.push (o := .tup [.c s.length, .c (s.length + 1), .c (s.length + 2)]) np (R.k.free p2) (by
      rw [l3]
      refine ⟨p1, _, p3, .cons ⟨by omega, ?_⟩ (.cons ⟨by omega, ?_⟩ (.cons ⟨by omega, ?_⟩ .nil))⟩
      · rw [ext_ne (by omega), βa]
      · rw [ext_ne (by omega), βb]
      · rw [ext_ne (by omega), βc])
    rw [l3] at Rp
    have es : ((((s ++ [Ce.ld as]) ++ [Ce.ld bs]) ++ [Ce.ld cs]) ++ [Ce.tup [.c s.length, .c (s.length + 1), .c (s.length + 2)]]) = s ++ [.ld as, .ld bs, .ld cs, .tup [.c s.length, .c (s.length + 1), .c (s.length + 2)]] := by simp
    rw [es] at Rp
    have l4 : (s ++ [Ce.ld as, .ld bs, .ld cs, .tup [.c s.length, .c (s.length + 1), .c (s.length + 2)]]).length = s.length + 4 := by simp
    refine q F2 H2 _ _ ?_ Rp ?_
    · refine ⟨g.f, fun i hi => ?_, by rw [l4]; omega⟩
      rw [ext_ne (by omega)]
      exact βo i hi
    · rw [l4]
      exact ⟨by omega, by rw [ext_same]⟩
/-- a result that holds no object, where all was frozen for the while -/
theorem bR_flat {H2 F2 : Hp} {r : R} {a : An AV} {v : V} {Q : VK} (R : Rl K w F0 H0 F H α s) (g : Grow H H F2 H2) (rr : RepR K F2 H H2 v r) (hf : flatR r = true) (e : bR r s = some a) (q : EmB mg K w W F0 H0 F α s.length σ Q a) : Q v H2 := by
  refine bR_in (F2 := F) R ⟨Same.refl F, g.h, R.i.trans g.h, fun _ _ h => h⟩ ?_ e q
  cases r with
  | val d => exact dp_flat (show Dp K F2 v d from rr) hf
  | own ds =>
    obtain ⟨p, xs, e, h1, h2, h3, h4⟩ := rr
    exact ⟨p, xs, e, R.i.free h2, h2, h3, dpa_flat h4 hf⟩
  | own3 _ _ _ => cases hf
/-! ### lifting -/
@[simp] def bP (f : EF) : BE := fun env s => (f (dn s env)).bind fun r => bR r s
@[simp] def bPk (f : EF) : BE := fun env s => (f (pk s env)).bind fun r => if flatR r = true then bR r s else none
@[simp] def bPT (f : TF) : BT := fun env s => (f (dn s env)).bind fun b => some (.ok b s)
@[simp] def bPkT (f : TF) : BT := fun env s => (f (pk s env)).bind fun b => some (.ok b s)
theorem deb_p {te : TE} {f : EF} (h : DE K te f) : DEB mg K w W ec te (bP f) := fun F0 H0 F H α σ env s a R L e Q q => by
  obtain ⟨r, er, e⟩ := bnd e
  exact h H0 F H σ _ r (dn_slots R L) R.i R.k er Q fun F' H' v g rr => bR_in R g rr e q
theorem deb_pk {te : TE} {f : EF} (h : DE K te f) : DEB mg K w W ec te (bPk f) := fun F0 H0 F H α σ env s a R L e Q q => by
  obtain ⟨r, er, e⟩ := bnd e
  split at e
  case isFalse => cases e
  rename_i hf
  exact h H0 H H σ _ r (pk_slots R L) (Same.refl H) R.k er Q fun F' H' v g rr => bR_flat R g rr hf e q
theorem dtb_p {tt : TT} {f : TF} (h : DT K tt f) : DTB mg K w W ec tt (bPT f) := fun F0 H0 F H α σ env s a R L e Q q => by
  obtain ⟨b, er, e⟩ := bnd e
  cases e
  exact h H0 F H σ _ b (dn_slots R L) R.i R.k er Q fun F' H' g => q F' H' α (.ofGrow g) (R.grow g)
theorem dtb_pk {tt : TT} {f : TF} (h : DT K tt f) : DTB mg K w W ec tt (bPkT f) := fun F0 H0 F H α σ env s a R L e Q q => by
  obtain ⟨b, er, e⟩ := bnd e
  cases e
  exact h H0 H H σ _ b (pk_slots R L) (Same.refl H) R.k er Q fun F' H' g => q F H' α .refl (R.keepF g.h)
@[simp] def bVar (i : Nat) : BE := fun env s => match env[i]? with
  | some (.v a) => some (.ok a s)
  | _ => none
theorem deb_var {i : Nat} : DEB mg K w W ec (tVar i) (bVar i) := fun F0 H0 F H α σ env s a R L e Q q => by
  unfold bVar at e
  split at e
  · rename_i b hb
    cases e
    obtain ⟨x, h1, h2⟩ := L.var hb
    exact ⟨x, h1, q F H α x .refl R h2⟩
  · cases e
@[simp] def bW (v : V) : BE := fun _ s => some (.ok (.w v) s)
theorem deb_w {v : V} : DEB mg K w W ec (tC v) (bW v) := fun F0 H0 F H α σ env s a R L e Q q => by
  cases e
  exact q F H α v .refl R rfl
/-! ### steps -/
theorem ExB.on {x : Xn} {s' : Sto} {n' : Nat} (p : Pg F α n F1 α1 n') (h : ExB mg K w W F0 H0 F α n σ x s') : ExB mg K w W F0 H0 F1 α1 n' σ x s' := fun F' H' α' cls d p' R xx => h F' H' α' cls d (p.trans p') R xx
theorem EmB.on {Q : VK} {a : An AV} {n' : Nat} (p : Pg F α n F1 α1 n') (h : EmB mg K w W F0 H0 F α n σ Q a) : EmB mg K w W F0 H0 F1 α1 n' σ Q a := by
  cases a with
  | ok a s' => exact fun F' H' α' x p' R r => h F' H' α' x (p.trans p') R r
  | ex x s' => exact ExB.on p h
theorem TmB.on {Q : Bool → Hp → Prop} {a : An Bool} {n' : Nat} (p : Pg F α n F1 α1 n') (h : TmB mg K w W F0 H0 F α n σ Q a) : TmB mg K w W F0 H0 F1 α1 n' σ Q a := by
  cases a with
  | ok a s' => exact fun F' H' α' p' R => h F' H' α' (p.trans p') R
  | ex x s' => exact ExB.on p h
theorem AmB.on {Q : List V → Hp → Prop} {a : An (List AV)} {n' : Nat} (p : Pg F α n F1 α1 n') (h : AmB mg K w W F0 H0 F α n σ Q a) : AmB mg K w W F0 H0 F1 α1 n' σ Q a := by
  cases a with
  | ok a s' => exact fun F' H' α' x p' R r => h F' H' α' x (p.trans p') R r
  | ex x s' => exact ExB.on p h
theorem DEB.run {te : TE} {f : BE} (h : DEB mg K w W ec te f) (R : Rl K w F0 H0 F H α s) (L : Lo mg K ec F α s.length σ env) {a : AV} {s' : Sto} (e : f env s = some (.ok a s')) {Q : VK} (q : ∀ F' H' α' x, Pg F α s.length F' α' s'.length → Rl K w F0 H0 F' H' α' s' → AVR K F' α' s'.length x a → Lo mg K ec F' α' s'.length σ env → Q x H') : te σ H Q :=
  h F0 H0 F H α σ env s _ R L e Q fun F' H' α' x p R' r => q F' H' α' x p R' r (L.mono p)
theorem DTB.run {te : TT} {f : BT} (h : DTB mg K w W ec te f) (R : Rl K w F0 H0 F H α s) (L : Lo mg K ec F α s.length σ env) {a : Bool} {s' : Sto} (e : f env s = some (.ok a s')) {Q : Bool → Hp → Prop} (q : ∀ F' H' α', Pg F α s.length F' α' s'.length → Rl K w F0 H0 F' H' α' s' → Lo mg K ec F' α' s'.length σ env → Q a H') : te σ H Q :=
  h F0 H0 F H α σ env s _ R L e Q fun F' H' α' p R' => q F' H' α' p R' (L.mono p)
theorem DAB.run {te : TA} {f : BA} (h : DAB mg K w W ec te f) (R : Rl K w F0 H0 F H α s) (L : Lo mg K ec F α s.length σ env) {a : List AV} {s' : Sto} (e : f env s = some (.ok a s')) {Q : List V → Hp → Prop} (q : ∀ F' H' α' x, Pg F α s.length F' α' s'.length → Rl K w F0 H0 F' H' α' s' → AVRs K F' α' s'.length x a → Lo mg K ec F' α' s'.length σ env → Q x H') : te σ H Q :=
  h F0 H0 F H α σ env s _ R L e Q fun F' H' α' x p R' r => q F' H' α' x p R' r (L.mono p)
@[simp] def bNil : BA := fun _ s => some (.ok [] s)
@[simp] def bCons (f : BE) (t : BA) : BA := fun env s => bB (f env s) fun a s1 => bB (t env s1) fun as s2 => some (.ok (a :: as) s2)
theorem dab_nil : DAB mg K w W ec tNil bNil := fun F0 H0 F H α σ env s a R L e Q q => by
  cases e
  exact q F H α [] .refl R .nil
theorem dab_cons {te : TE} {t : TA} {f : BE} {g : BA} (h1 : DEB mg K w W ec te f) (h2 : DAB mg K w W ec t g) : DAB mg K w W ec (tCons te t) (bCons f g) := fun F0 H0 F H α σ env s a R L e Q q => by
  rcases bBd e with ⟨a, s1, ea, e⟩ | ⟨x, s1, ea, rfl⟩
  case inr => exact h1 F0 H0 F H α σ env s _ R L ea _ q
  refine h1.run R L ea fun F1 H1 α1 x p1 R1 r1 L1 => ?_
  rcases bBd e with ⟨b, s2, eb, e⟩ | ⟨y, s2, eb, rfl⟩
  case inr => exact h2 F0 H0 F1 H1 α1 σ env s1 _ R1 L1 eb _ (ExB.on p1 q)
  cases e
  exact h2.run R1 L1 eb fun F2 H2 α2 xs p2 R2 r2 L2 => q F2 H2 α2 (x :: xs) (p1.trans p2) R2 (.cons (r1.mono p2) r2)
/-! ### operators of data -/
/-- g of values: of data, or, where it gives no object, of what cells hold -/
def opR (s : Sto) (as : List AV) (g : List PyData → Option R) : Option (An AV) := match rdA s as with
  | some ds => (g ds).bind fun r => bR r s
  | none => (dpA s as).bind fun ds => (g ds).bind fun r => if flatR r = true then bR r s else none
theorem opR_ok {as : List AV} {g : List PyData → Option R} {a : An AV} {r : List V → Hp → VK → Prop} (hr : RCD K r g) {xs : List V} (R : Rl K w F0 H0 F H α s) (h : AVRs K F α s.length xs as) (e : opR s as g = some a) {Q : VK} (q : EmB mg K w W F0 H0 F α s.length σ Q a) : r xs H Q := by
  unfold opR at e
  split at e
  · rename_i ds hd
    obtain ⟨r', er, e⟩ := bnd e
    exact hr F H xs ds r' R.i (rdA_ok R h hd) er Q fun F' H' v g rr => bR_in R g rr e q
  · obtain ⟨ds, hd, e⟩ := bnd e
    obtain ⟨r', er, e⟩ := bnd e
    split at e
    case isFalse => cases e
    rename_i hf
    exact hr H H xs ds r' (Same.refl H) (dpA_ok R h hd) er Q fun F' H' v g rr => bR_flat R g rr hf e q
@[simp] def g2 (g : PyData → PyData → Option R) : List PyData → Option R := fun ds => match ds with
  | [a, b] => g a b
  | _ => none
@[simp] def g1 (g : PyData → Option R) : List PyData → Option R := fun ds => match ds with
  | [a] => g a
  | _ => none
@[simp] def bBin (g : PyData → PyData → Option R) (f1 f2 : BE) : BE := fun env s => bB (f1 env s) fun a s1 => bB (f2 env s1) fun b s2 => opR s2 [a, b] (g2 g)
@[simp] def bUn (g : PyData → Option R) (f : BE) : BE := fun env s => bB (f env s) fun a s1 => opR s1 [a] (g1 g)
@[simp] def bCall (g : List PyData → Option R) (t : BA) : BE := fun env s => bB (t env s) fun as s1 => opR s1 as g
theorem deb_bin {r : R2} {g : PyData → PyData → Option R} {ta tb : TE} {f1 f2 : BE} (hr : RVD K r g) (h1 : DEB mg K w W ec ta f1) (h2 : DEB mg K w W ec tb f2) : DEB mg K w W ec (tOp r ta tb) (bBin g f1 f2) := fun F0 H0 F H α σ env s ans R L e Q q => by
  rcases bBd e with ⟨a, s1, ea, e⟩ | ⟨x, s1, ea, rfl⟩
  case inr => exact h1 F0 H0 F H α σ env s _ R L ea _ q
  refine h1.run R L ea fun F1 H1 α1 x p1 R1 r1 L1 => ?_
  rcases bBd e with ⟨b, s2, eb, e⟩ | ⟨y, s2, eb, rfl⟩
  case inr => exact h2 F0 H0 F1 H1 α1 σ env s1 _ R1 L1 eb _ (ExB.on p1 q)
  refine h2.run R1 L1 eb fun F2 H2 α2 y p2 R2 r2 L2 => ?_
  exact opR_ok (r := fun vs H Q => ∃ x y, vs = [x, y] ∧ r x y H Q) (fun F H vs ds r' fh d e Q q => by
    unfold g2 at e
    split at e
    · rename_i u v
      cases d with
      | cons d1 d =>
        cases d with
        | cons d2 d =>
          cases d
          exact ⟨_, _, rfl, hr F H _ _ _ _ r' fh d1 d2 e Q q⟩
    · cases e) R2 (.cons (r1.mono p2) (.cons r2 .nil)) e (q.on (p1.trans p2)) |> fun ⟨x', y', e, h⟩ => by
      cases e
      exact h
theorem deb_un {r : V → Hp → VK → Prop} {g : PyData → Option R} {ta : TE} {f : BE} (hr : RUD K r g) (h1 : DEB mg K w W ec ta f) : DEB mg K w W ec (tUn r ta) (bUn g f) := fun F0 H0 F H α σ env s ans R L e Q q => by
  rcases bBd e with ⟨a, s1, ea, e⟩ | ⟨x, s1, ea, rfl⟩
  case inr => exact h1 F0 H0 F H α σ env s _ R L ea _ q
  refine h1.run R L ea fun F1 H1 α1 x p1 R1 r1 L1 => ?_
  exact opR_ok (r := fun vs H Q => ∃ x, vs = [x] ∧ r x H Q) (fun F H vs ds r' fh d e Q q => by
    unfold g1 at e
    split at e
    · rename_i u
      cases d with
      | cons d1 d =>
        cases d
        exact ⟨_, rfl, hr F H _ _ r' fh d1 e Q q⟩
    · cases e) R1 (.cons r1 .nil) e (q.on p1) |> fun ⟨x', e, h⟩ => by
      cases e
      exact h
theorem deb_cb {r : List V → Hp → VK → Prop} {g : List PyData → Option R} {t : TA} {a : BA} (hr : RCD K r g) (h : DAB mg K w W ec t a) : DEB mg K w W ec (tCB r t) (bCall g a) := fun F0 H0 F H α σ env s ans R L e Q q => by
  rcases bBd e with ⟨as, s1, ea, e⟩ | ⟨x, s1, ea, rfl⟩
  case inr => exact h F0 H0 F H α σ env s _ R L ea _ q
  refine h.run R L ea fun F1 H1 α1 xs p1 R1 r1 L1 => ?_
  exact opR_ok hr R1 r1 e (q.on p1)
/-- displays -/
def mkT (as : List AV) (s : Sto) : An AV := match rdA s as with
  | some ds => .ok (.d (.tuple ds)) s
  | none => .ok (.c s.length) (s ++ [.tup as])
def mkL (as : List AV) (s : Sto) : An AV := match rdA s as with
  | some ds => .ok (.c s.length) (s ++ [.ld ds])
  | none => .ok (.c s.length) (s ++ [.lst as])
@[simp] noncomputable def bTup (t : BA) : BE := fun env s => bB (t env s) fun as s1 => if Few as.length then some (mkT as s1) else none
@[simp] noncomputable def bLst (t : BA) : BE := fun env s => bB (t env s) fun as s1 => if Few as.length then some (mkL as s1) else none
theorem CeR.mono1 {o : Ce} {a p : Addr} (h : CeR K w F H α s.length a o) : CeR K w F H (ext α s.length p) (s.length + 1) a o := h.mono .ext (fun h => h) rfl
theorem deb_tup {t : TA} {g : BA} (h : DAB mg K w W ec t g) : DEB mg K w W ec (tTup t) (bTup g) := fun F0 H0 F H α σ env s ans R L e Q q => by
  rcases bBd e with ⟨as, s1, ea, e⟩ | ⟨x, s1, ea, rfl⟩
  case inr => exact h F0 H0 F H α σ env s _ R L ea _ q
  split at e
  case isFalse => cases e
  rename_i hl
  refine h.run R L ea fun F1 H1 α1 xs p1 R1 r1 L1 => ⟨by rw [r1.len]; exact sz1000 hl, fun p hp => ?_⟩
  cases e
  unfold mkT at q
  split at q
  · rename_i ds hd
    have hf := R1.i.free hp
    exact q _ _ α1 _ (p1.trans (.ofGrow ((Grow.new R1.i hp).frz hp hf upd_same))) (R1.newFrz hp) (.tup (.inl (.inl upd_same)) (dpa_mono (same_upd hf) (rdA_ok R1 r1 hd)))
  · refine q F1 _ (ext α1 s1.length p) _ ?_ (R1.newCe hp ⟨R1.i.free hp, xs, upd_same, r1.mono .ext⟩) ?_
    · rw [ln1]; exact p1.trans .ext
    · rw [ln1]; exact ⟨Nat.lt_succ_self _, by rw [ext_same]⟩
theorem deb_lst {t : TA} {g : BA} (h : DAB mg K w W ec t g) : DEB mg K w W ec (tLst t) (bLst g) := fun F0 H0 F H α σ env s ans R L e Q q => by
  rcases bBd e with ⟨as, s1, ea, e⟩ | ⟨x, s1, ea, rfl⟩
  case inr => exact h F0 H0 F H α σ env s _ R L ea _ q
  split at e
  case isFalse => cases e
  rename_i hl
  refine h.run R L ea fun F1 H1 α1 xs p1 R1 r1 L1 => ⟨by rw [r1.len]; exact sz1000 hl, fun p hp => ?_⟩
  cases e
  unfold mkL at q
  split at q
  · rename_i ds hd
    refine q F1 _ (ext α1 s1.length p) _ ?_ (R1.newCe hp ⟨R1.i.free hp, xs, upd_same, rdA_ok R1 r1 hd⟩) ?_
    · rw [ln1]; exact p1.trans .ext
    · rw [ln1]; exact ⟨Nat.lt_succ_self _, by rw [ext_same]⟩
  · refine q F1 _ (ext α1 s1.length p) _ ?_ (R1.newCe hp ⟨R1.i.free hp, xs, upd_same, r1.mono .ext⟩) ?_
    · rw [ln1]; exact p1.trans .ext
    · rw [ln1]; exact ⟨Nat.lt_succ_self _, by rw [ext_same]⟩
/-- subscripts: an item of a cell may be a cell -/
noncomputable def ixR (s : Sto) (a b : AV) : Option (An AV) := match a, b with
  | .c i, .d (.int k) => match s[i]? with
    | some (.ld ds) => (atI ds k).bind fun d => some (.ok (.d d) s)
    | some (.lst vs) => (atI vs k).bind fun v => some (.ok v s)
    | some (.tup vs) => (atI vs k).bind fun v => some (.ok v s)
    | some (.frz d) => (gIx d (.int k)).bind fun r => bR r s
    | _ => none
  | .d x, .d y => (gIx x y).bind fun r => bR r s
  | _, _ => none
@[simp] noncomputable def bIx (f1 f2 : BE) : BE := fun env s => bB (f1 env s) fun a s1 => bB (f2 env s1) fun b s2 => ixR s2 a b
theorem AVRs.at {xs : List V} {as : List AV} {k : Int} {a : AV} (h : AVRs K F α n xs as) (e : atI as k = some a) : ∃ v, atI xs k = some v ∧ AVR K F α n v a := by
  unfold atI at e ⊢
  rw [h.len]
  cases q : ixN as.length k with
  | none => rw [q] at e; cases e
  | some j =>
    rw [q] at e
    exact AVRs.get h e
theorem deb_ix {ta tb : TE} {f1 f2 : BE} (h1 : DEB mg K w W ec ta f1) (h2 : DEB mg K w W ec tb f2) : DEB mg K w W ec (tOp (rIx K) ta tb) (bIx f1 f2) := fun F0 H0 F H α σ env s ans R L e Q q => by
  rcases bBd e with ⟨a, s1, ea, e⟩ | ⟨x, s1, ea, rfl⟩
  case inr => exact h1 F0 H0 F H α σ env s _ R L ea _ q
  refine h1.run R L ea fun F1 H1 α1 x p1 R1 r1 L1 => ?_
  rcases bBd e with ⟨b, s2, eb, e⟩ | ⟨y, s2, eb, rfl⟩
  case inr => exact h2 F0 H0 F1 H1 α1 σ env s1 _ R1 L1 eb _ (ExB.on p1 q)
  refine h2.run R1 L1 eb fun F2 H2 α2 y p2 R2 r2 L2 => ?_
  have r1 := r1.mono p2
  have q := q.on (p1.trans p2)
  unfold ixR at e
  split at e
  · rw [r1.2, dp_int r2]
    split at e
    · rename_i ds hs
      obtain ⟨d, ed, e⟩ := bnd e
      cases e
      obtain ⟨_, xs, h4, h5⟩ := R2.ob _ _ hs
      obtain ⟨v, ev, dv⟩ := DpAll.at h5 ed
      exact .inl ⟨_, xs, _, v, rfl, rfl, .inl (.inl h4), ev, q F2 H2 α2 v .refl R2 dv⟩
    · rename_i vs hs
      obtain ⟨d, ed, e⟩ := bnd e
      cases e
      obtain ⟨_, xs, h4, h5⟩ := R2.ob _ _ hs
      obtain ⟨v, ev, dv⟩ := h5.at ed
      exact .inl ⟨_, xs, _, v, rfl, rfl, .inl (.inl h4), ev, q F2 H2 α2 v .refl R2 dv⟩
    · rename_i vs hs
      obtain ⟨d, ed, e⟩ := bnd e
      cases e
      obtain ⟨_, xs, h4, h5⟩ := R2.ob _ _ hs
      obtain ⟨v, ev, dv⟩ := h5.at ed
      exact .inr (.inl ⟨_, xs, _, v, rfl, rfl, .inl (.inl h4), ev, q F2 H2 α2 v .refl R2 dv⟩)
    · rename_i d hs
      obtain ⟨r, er, e⟩ := bnd e
      exact rv_ix F2 H2 _ _ _ _ r R2.i (R2.ob _ _ hs).2 (.int _) er Q fun F' H' v g rr => bR_in R2 g rr e q
    · cases e
  · obtain ⟨r, er, e⟩ := bnd e
    exact rv_ix F2 H2 _ _ _ _ r R2.i r1 r2 er Q fun F' H' v g rr => bR_in R2 g rr e q
  · cases e
/-! ### tests -/
@[simp] def bTE (f : BE) : BT := fun env s => bB (f env s) fun a s1 => (avD s1 a).bind fun d => (toB d).bind fun b => some (.ok b s1)
@[simp] def bAnd (f g : BT) : BT := fun env s => bB (f env s) fun a s1 => if a = true then g env s1 else some (.ok false s1)
@[simp] def bOr (f g : BT) : BT := fun env s => bB (f env s) fun a s1 => if a = true then some (.ok true s1) else g env s1
@[simp] def bNot (f : BT) : BT := fun env s => bB (f env s) fun a s1 => some (.ok (!a) s1)
@[simp] def bTV (f : BT) : BE := fun env s => bB (f env s) fun b s1 => some (.ok (.d (.bool b)) s1)
@[simp] def bIf (c : BT) (f g : BE) : BE := fun env s => bB (c env s) fun b s1 => if b = true then f env s1 else g env s1
theorem dtb_test {te : TE} {f : BE} (h : DEB mg K w W ec te f) : DTB mg K w W ec (tTest te) (bTE f) := fun F0 H0 F H α σ env s ans R L e Q q => by
  rcases bBd e with ⟨a, s1, ea, e⟩ | ⟨x, s1, ea, rfl⟩
  case inr => exact h F0 H0 F H α σ env s _ R L ea _ q
  obtain ⟨d, ed, e⟩ := bnd e
  obtain ⟨b, eb, e⟩ := bnd e
  cases e
  refine h.run R L ea fun F1 H1 α1 x p1 R1 r1 L1 => ?_
  have := avD_ok R1 r1 ed
  rw [toB_some eb] at this
  exact ⟨b, dp_bool this, q F1 H1 α1 p1 R1⟩
theorem dtb_B {te : TE} {f : BE} (h : DEB mg K w W ec te f) : DTB mg K w W ec (tB te) (bTE f) := dtb_test h
theorem dtb_and {t u : TT} {f g : BT} (h1 : DTB mg K w W ec t f) (h2 : DTB mg K w W ec u g) : DTB mg K w W ec (tAnd t u) (bAnd f g) := fun F0 H0 F H α σ env s ans R L e Q q => by
  rcases bBd e with ⟨a, s1, ea, e⟩ | ⟨x, s1, ea, rfl⟩
  case inr => exact h1 F0 H0 F H α σ env s _ R L ea _ q
  refine h1.run R L ea fun F1 H1 α1 p1 R1 L1 => ?_
  cases a with
  | true => exact iteT (h2 F0 H0 F1 H1 α1 σ env s1 _ R1 L1 e Q (q.on p1))
  | false =>
    cases e
    exact iteF (q F1 H1 α1 p1 R1)
theorem dtb_or {t u : TT} {f g : BT} (h1 : DTB mg K w W ec t f) (h2 : DTB mg K w W ec u g) : DTB mg K w W ec (tOr t u) (bOr f g) := fun F0 H0 F H α σ env s ans R L e Q q => by
  rcases bBd e with ⟨a, s1, ea, e⟩ | ⟨x, s1, ea, rfl⟩
  case inr => exact h1 F0 H0 F H α σ env s _ R L ea _ q
  refine h1.run R L ea fun F1 H1 α1 p1 R1 L1 => ?_
  cases a with
  | false => exact iteF (h2 F0 H0 F1 H1 α1 σ env s1 _ R1 L1 e Q (q.on p1))
  | true =>
    cases e
    exact iteT (q F1 H1 α1 p1 R1)
theorem dtb_not {t : TT} {f : BT} (h1 : DTB mg K w W ec t f) : DTB mg K w W ec (tNot t) (bNot f) := fun F0 H0 F H α σ env s ans R L e Q q => by
  rcases bBd e with ⟨a, s1, ea, e⟩ | ⟨x, s1, ea, rfl⟩
  case inr => exact h1 F0 H0 F H α σ env s _ R L ea _ q
  cases e
  exact h1.run R L ea fun F1 H1 α1 p1 R1 L1 => q F1 H1 α1 p1 R1
theorem deb_ifE {c : TT} {ta tb : TE} {t : BT} {f g : BE} (hc : DTB mg K w W ec c t) (h1 : DEB mg K w W ec ta f) (h2 : DEB mg K w W ec tb g) : DEB mg K w W ec (tIf c ta tb) (bIf t f g) := fun F0 H0 F H α σ env s ans R L e Q q => by
  rcases bBd e with ⟨a, s1, ea, e⟩ | ⟨x, s1, ea, rfl⟩
  case inr => exact hc F0 H0 F H α σ env s _ R L ea _ q
  refine hc.run R L ea fun F1 H1 α1 p1 R1 L1 => ?_
  cases a with
  | true => exact iteT (h1 F0 H0 F1 H1 α1 σ env s1 _ R1 L1 e Q (q.on p1))
  | false => exact iteF (h2 F0 H0 F1 H1 α1 σ env s1 _ R1 L1 e Q (q.on p1))
theorem AVR.boolOf {x : V} {a : AV} {d : PyData} {b : Bool} (R : Rl K w F0 H0 F H α s) (r : AVR K F α s.length x a) (ed : avD s a = some d) (eb : toB d = some b) : x = .bl b := by
  have := avD_ok R r ed
  rw [toB_some eb] at this
  exact dp_bool this
theorem deb_andV {ta tb : TE} {f g : BE} (h1 : DEB mg K w W ec ta f) (h2 : DEB mg K w W ec tb g) : DEB mg K w W ec (tAndV ta tb) (bIf (bTE f) g (bTV (fun _ s => some (.ok false s)))) := fun F0 H0 F H α σ env s ans R L e Q q => by
  rcases bBd e with ⟨b, s1, ea, e⟩ | ⟨x, s1, ea, rfl⟩
  case inr =>
    rcases bBd ea with ⟨b, s2, eb, ea⟩ | ⟨x', s2, eb, ez⟩
    · obtain ⟨d, _, ea⟩ := bnd ea
      obtain ⟨c, _, ea⟩ := bnd ea
      cases ea
    · cases ez
      exact h1 F0 H0 F H α σ env s _ R L eb _ q
  rcases bBd ea with ⟨a, s2, eb, ea⟩ | ⟨x', s2, eb, ez⟩
  case inr => cases ez
  obtain ⟨d, ed, ea⟩ := bnd ea
  obtain ⟨c, ec', ea⟩ := bnd ea
  cases ea
  refine h1.run R L eb fun F1 H1 α1 x p1 R1 r1 L1 => ⟨b, AVR.boolOf R1 r1 ed ec', ?_⟩
  cases b with
  | true => exact iteT (h2 F0 H0 F1 H1 α1 σ env _ _ R1 L1 e Q (q.on p1))
  | false =>
    cases e
    exact iteF (q F1 H1 α1 _ p1 R1 (.bl false))
theorem deb_orV {ta tb : TE} {f g : BE} (h1 : DEB mg K w W ec ta f) (h2 : DEB mg K w W ec tb g) : DEB mg K w W ec (tOrV ta tb) (bIf (bTE f) (bTV (fun _ s => some (.ok true s))) g) := fun F0 H0 F H α σ env s ans R L e Q q => by
  rcases bBd e with ⟨b, s1, ea, e⟩ | ⟨x, s1, ea, rfl⟩
  case inr =>
    rcases bBd ea with ⟨b, s2, eb, ea⟩ | ⟨x', s2, eb, ez⟩
    · obtain ⟨d, _, ea⟩ := bnd ea
      obtain ⟨c, _, ea⟩ := bnd ea
      cases ea
    · cases ez
      exact h1 F0 H0 F H α σ env s _ R L eb _ q
  rcases bBd ea with ⟨a, s2, eb, ea⟩ | ⟨x', s2, eb, ez⟩
  case inr => cases ez
  obtain ⟨d, ed, ea⟩ := bnd ea
  obtain ⟨c, ec', ea⟩ := bnd ea
  cases ea
  refine h1.run R L eb fun F1 H1 α1 x p1 R1 r1 L1 => ⟨b, AVR.boolOf R1 r1 ed ec', ?_⟩
  cases b with
  | false => exact iteF (h2 F0 H0 F1 H1 α1 σ env _ _ R1 L1 e Q (q.on p1))
  | true =>
    cases e
    exact iteT (q F1 H1 α1 _ p1 R1 (.bl true))
theorem deb_notV {ta : TE} {f : BE} (h1 : DEB mg K w W ec ta f) : DEB mg K w W ec (tNotV ta) (bTV (bNot (bTE f))) := fun F0 H0 F H α σ env s ans R L e Q q => by
  rcases bBd e with ⟨b, s1, ea, e⟩ | ⟨x, s1, ea, rfl⟩
  case inr =>
    rcases bBd ea with ⟨b, s2, eb, ea⟩ | ⟨x', s2, eb, ez⟩
    · cases ea
    · cases ez
      rcases bBd eb with ⟨b, s2, eb, ea⟩ | ⟨x', s2, eb, ez⟩
      · obtain ⟨d, _, ea⟩ := bnd ea
        obtain ⟨c, _, ea⟩ := bnd ea
        cases ea
      · cases ez
        exact h1 F0 H0 F H α σ env s _ R L eb _ q
  cases e
  rcases bBd ea with ⟨b, s2, eb, ea⟩ | ⟨x', s2, eb, ez⟩
  case inr => cases ez
  cases ea
  rcases bBd eb with ⟨a, s3, eb, ea⟩ | ⟨x', s3, eb, ez⟩
  case inr => cases ez
  obtain ⟨d, ed, ea⟩ := bnd ea
  obtain ⟨c, ec', ea⟩ := bnd ea
  cases ea
  exact h1.run R L eb fun F1 H1 α1 x p1 R1 r1 L1 => ⟨_, AVR.boolOf R1 r1 ed ec', q F1 H1 α1 _ p1 R1 (.bl _)⟩
end
end Bn
/-! Bn3: calls of defs; freezing. -/
namespace Bn
open PySem PySem.Spec PyProof.Rows L2 Dn
/-- a def over the store: arguments, store -/
def spB (mg : Str → Option Value) (K : PySem.W.Frag) (w : World) (n : Nat) (g : List AV → Sto → Option (An AV)) : Sp := fun vs H Q E => vs.length = n ∧ ∃ F0 H0 F α s as a, Rl K w F0 H0 F H α s ∧ AVRs K F α s.length vs as ∧ g as s = some a ∧
  (match a with
    | .ok r s' => ∀ F' H' α' x, Pg F α s.length F' α' s'.length → Rl K w F0 H0 F' H' α' s' → AVR K F' α' s'.length x r → Q x H'
    | .ex e s' => ∀ F' H' α' cls d, Pg F α s.length F' α' s'.length → Rl K w F0 H0 F' H' α' s' → XnOk mg K F' e cls d → E cls d H')
/-- a def of data that may raise; what cells hold may be handed to it where no object comes back -/
def opX (s : Sto) (as : List AV) (m : List PyData → Option FX) : Option (An AV) := match rdA s as with
  | some ds => match m ds with
    | some (.rt r) => bR r s
    | some (.ex e) => some (.ex e s)
    | none => none
  | none => (dpA s as).bind fun ds => match m ds with
    | some (.rt r) => if flatR r = true then bR r s else none
    | _ => none
/-- a def with a state: its first argument is a cell, a list of data -/
def opS (s : Sto) (as : List AV) (m : List PyData → List PyData → Option FR) : Option (An AV) := match as with
  | .c k :: bs => match s[k]? with
    | some (.ld st) => (rdA s bs).bind fun ds => match m st ds with
      | some (.rt r es) => bR r (s.set k (.ld es))
      | some (.ex e es) => some (.ex e (s.set k (.ld es)))
      | none => none
    | _ => none
  | _ => none
@[simp] def bCallX (m : List PyData → Option FX) (t : BA) : BE := fun env s => bB (t env s) fun as s1 => opX s1 as m
@[simp] def bCallS (m : List PyData → List PyData → Option FR) (t : BA) : BE := fun env s => bB (t env s) fun as s1 => opS s1 as m
@[simp] def bCallB (m : List AV → Sto → Option (An AV)) (t : BA) : BE := fun env s => bB (t env s) fun as s1 => m as s1
@[simp] def bCat (n j : Nat) (f g : BA) : BA := fun env s => bB (f env s) fun as s1 => bB (g env s1) fun bs s2 => if as.length = n ∧ bs.length = j then some (.ok (as ++ bs) s2) else none
section
variable {mg : Str → Option Value} {K : PySem.W.Frag} {w : World} {W : WX} {ec : EC} {F0 H0 F H F1 H1 : Hp} {α α1 : Adr} {σ : L2.St} {env : Ev} {s s1 : Sto} {n : Nat}
theorem spD_rcd {m : List PyData → Option R} (hn : ∀ ds r, m ds = some r → ds.length = n) : RCD K (fun vs H Q => spD K n m vs H Q E0) m := fun F H vs ds r fh d e Q q =>
  ⟨by rw [DpAll.len d, hn _ _ e], F, ds, r, fh, d, e, q⟩
theorem deb_call {m : List PyData → Option R} {t : TA} {af : BA} (hn : ∀ ds r, m ds = some r → ds.length = n) (h : DAB mg K w W ec t af) : DEB mg K w W ec (L2.tCall (spD K n m) [] E0 t) (bCall m af) := fun F0 H0 F H α σ env s ans R L e Q q => by
  rcases bBd e with ⟨as, s1, ea, e⟩ | ⟨x, s1, ea, rfl⟩
  case inr => exact h F0 H0 F H α σ env s _ R L ea _ q
  refine h.run R L ea fun F1 H1 α1 xs p1 R1 r1 L1 => ?_
  rw [List.append_nil]
  exact opR_ok (spD_rcd hn) R1 r1 e (q.on p1)
/-- what one has to show at a call of a def that may raise -/
theorem spX_of {m : List PyData → Option FX} {xs : List V} {as : List AV} {a : An AV} {Q : VK} (hn : ∀ ds r, m ds = some r → ds.length = n) (R : Rl K w F0 H0 F H α s) (h : AVRs K F α s.length xs as) (e : opX s as m = some a) (q : EmB mg K w W F0 H0 F α s.length σ Q a) : spX mg K n m xs H Q (WE W σ) := by
  unfold opX at e
  split at e
  · rename_i ds hd
    have dd := rdA_ok R h hd
    cases em : m ds with
    | none => rw [em] at e; cases e
    | some z =>
      rw [em] at e
      refine ⟨by rw [DpAll.len dd, hn _ _ em], F, ds, z, R.i, dd, em, ?_⟩
      cases z with
      | rt r => exact fun F' H' v g rr => bR_in R g rr e q
      | ex x =>
        cases e
        exact fun F' H' cls d g xx => q F' H' α cls d (.ofGrow g) (R.grow g) xx
  · obtain ⟨ds, hd, e⟩ := bnd e
    have dd := dpA_ok R h hd
    cases em : m ds with
    | none => rw [em] at e; cases e
    | some z =>
      rw [em] at e
      refine ⟨by rw [DpAll.len dd, hn _ _ em], H, ds, z, Same.refl H, dd, em, ?_⟩
      cases z with
      | rt r =>
        dsimp only at e
        split at e
        case isFalse => cases e
        rename_i hf
        exact fun F' H' v g rr => bR_flat R g rr hf e q
      | ex x => cases e
theorem deb_callX {m : List PyData → Option FX} {t : TA} {af : BA} (hn : ∀ ds r, m ds = some r → ds.length = n) (h : DAB mg K w W ec t af) : DEB mg K w W ec (tCallSD (spX mg K n m) [] (WE W) t) (bCallX m af) := fun F0 H0 F H α σ env s ans R L e Q q => by
  rcases bBd e with ⟨as, s1, ea, e⟩ | ⟨x, s1, ea, rfl⟩
  case inr => exact h F0 H0 F H α σ env s _ R L ea _ q
  refine h.run R L ea fun F1 H1 α1 xs p1 R1 r1 L1 => ?_
  rw [List.append_nil]
  exact spX_of hn R1 r1 e (q.on p1)

theorem Rl.setLd {F2 H2 : Hp} {k : Nat} {st es : List PyData} {ys : List V} (R : Rl K w F0 H0 F H α s) (e : s[k]? = some (.ld st)) (g : Grow F (ers H (α k)) F2 H2) (fp : F2 (α k) = none) (hy : H2 (α k) = some (.lst ys)) (dy : DpAll K F2 ys es) : Rl K w F0 H0 F2 H2 α (s.set k (.ld es)) := by
  have hk : k < s.length := (List.getElem?_eq_some_iff.mp e).1
  have h0k := R.out k hk
  refine ⟨R.f.trans g.f, fun a o ha => ?_, g.i, fun a ha hf => ?_, by rw [List.length_set]; exact R.inj, by rw [List.length_set]; exact R.out, fun i q eq => ?_⟩
  · have hne : a ≠ α k := fun z => by rw [z, h0k] at ha; cases ha
    exact g.h a o (by rw [ers_ne hne]; exact R.k _ _ ha)
  · have hne : a ≠ α k := fun z => ha (by rw [z]; exact h0k)
    exact g.n a (by rw [ers_ne hne]; exact same_ne R.k ha) (R.n a ha hf)
  rw [List.length_set]
  by_cases hik : k = i
  · subst hik
    rw [List.getElem?_set_self hk] at eq
    cases eq
    exact ⟨fp, ys, hy, dy⟩
  · rw [List.getElem?_set_ne hik] at eq
    have hi : i < s.length := (List.getElem?_eq_some_iff.mp eq).1
    have hne : α i ≠ α k := fun z => hik (R.inj i k hi hk z).symm
    have ht := R.there hi
    have hte : ers H (α k) (α i) ≠ none := by rw [ers_ne hne]; exact ht
    refine (R.ob i q eq).mono ⟨g.f, fun _ _ => rfl, Nat.le_refl _⟩ (g.n _ hte) ?_
    cases z : H (α i) with
    | none => exact absurd z ht
    | some o => exact g.h _ _ (by rw [ers_ne hne]; exact z)
/-- a result behind a change of the state -/
theorem bR_st {F2 H2 : Hp} {k : Nat} {st es : List PyData} {ys : List V} {r : R} {a : An AV} {v : V} {Q : VK} (R : Rl K w F0 H0 F H α s) (e : s[k]? = some (.ld st)) (g : Grow F (ers H (α k)) F2 H2) (fp : F2 (α k) = none) (hy : H2 (α k) = some (.lst ys)) (dy : DpAll K F2 ys es) (rr : RepR K F2 H H2 v r)
    (er : bR r (s.set k (.ld es)) = some a) (hr : flatRes r = true) (q : EmB mg K w W F0 H0 F α s.length σ Q a) : Q v H2 := by
  have R2 := R.setLd e g fp hy dy
  have ls : (s.set k (Ce.ld es)).length = s.length := List.length_set
  cases r with
  | val d =>
    cases er
    exact q F2 H2 α v ⟨g.f, fun _ _ => rfl, by rw [ls]; exact Nat.le_refl _⟩ R2 rr
  | own ds =>
    cases er
    obtain ⟨p, xs, rfl, f1, f2, f3, f4⟩ := rr
    have hne : ∀ i, i < (s.set k (Ce.ld es)).length → α i ≠ p := fun i hi => by rw [ls] at hi; exact R.ne f2 hi
    refine q F2 H2 (ext α (s.set k (Ce.ld es)).length p) _ ?_ (R2.push hne (R.k.free f2) ⟨f1, xs, f3, f4⟩) ?_
    · rw [ln1, ls]; exact ⟨g.f, fun i h => ext_ne (Nat.ne_of_lt h), Nat.le_succ _⟩
    · rw [ln1, ls]; exact ⟨Nat.lt_succ_self _, by rw [ext_same]⟩
  | own3 _ _ _ => cases hr
theorem deb_callS {m : List PyData → List PyData → Option FR} {t : TA} {af : BA} (hn : ∀ st ds r, m st ds = some r → ds.length + 1 = n) (hfl : ∀ st ds r es, m st ds = some (.rt r es) → flatRes r = true) (h : DAB mg K w W ec t af) : DEB mg K w W ec (tCallSD (spS mg K n m) [] (WE W) t) (bCallS m af) := fun F0 H0 F H α σ env s ans R L e Q q => by
  rcases bBd e with ⟨as, s1, ea, e⟩ | ⟨x, s1, ea, rfl⟩
  case inr => exact h F0 H0 F H α σ env s _ R L ea _ q
  refine h.run R L ea fun F1 H1 α1 xs p1 R1 r1 L1 => ?_
  have q := q.on p1
  rw [List.append_nil]
  unfold opS at e
  split at e
  case h_2 => cases e
  rename_i k bs
  split at e
  case h_2 => cases e
  rename_i st hst
  obtain ⟨ds, hd, e⟩ := bnd e
  cases r1 with
  | cons rk rb =>
  have dd := rdA_ok R1 rb hd
  obtain ⟨fk, ys, hk, dk⟩ := R1.ob k _ hst
  cases em : m st ds with
  | none => rw [em] at e; cases e
  | some z =>
    rw [em] at e
    refine ⟨by rw [List.length_cons, DpAll.len dd, hn _ _ _ em], α1 k, _, F1, ys, st, ds, z, by rw [rk.2], R1.i, fk, hk, dk, dd, em, ?_⟩
    cases z with
    | rt r es => exact fun F' H' v ys' g _ fp hy dy rr => bR_st R1 hst g fp hy dy rr e (hfl _ _ _ _ em) q
    | ex x es =>
      cases e
      exact fun F' H' cls d ys' g _ fp hy dy xx => q F' H' α1 cls d ⟨g.f, fun _ _ => rfl, by rw [List.length_set]; exact Nat.le_refl _⟩ (R1.setLd hst g fp hy dy) xx
theorem deb_callB {m : List AV → Sto → Option (An AV)} {t : TA} {af : BA} (hn : ∀ as s r, m as s = some r → as.length = n) (h : DAB mg K w W ec t af) : DEB mg K w W ec (tCallSD (spB mg K w n m) [] (WE W) t) (bCallB m af) := fun F0 H0 F H α σ env s ans R L e Q q => by
  rcases bBd e with ⟨as, s1, ea, e⟩ | ⟨x, s1, ea, rfl⟩
  case inr => exact h F0 H0 F H α σ env s _ R L ea _ q
  refine h.run R L ea fun F1 H1 α1 xs p1 R1 r1 L1 => ?_
  have q := q.on p1
  rw [List.append_nil]
  refine ⟨by rw [r1.len]; exact hn _ _ _ e, F0, H0, F1, α1, s1, as, ans, R1, r1, e, ?_⟩
  cases ans with
  | ok r s' => exact q
  | ex x s' => exact fun F' H' α' cls d p R' xx => q F' H' α' cls d p R' xx
/-- by keywords: the two lists of arguments, one behind the other -/
theorem dab_cat {t u : TA} {f g : BA} {n j : Nat} {F0 H0 F H : Hp} (h1 : DAB mg K w W ec t f) (h2 : DAB mg K w W ec u g) {a : An (List AV)} (R : Rl K w F0 H0 F H α s) (L : Lo mg K ec F α s.length σ env) (e : bCat n j f g env s = some a) {Q : List V → Hp → Prop} (q : AmB mg K w W F0 H0 F α s.length σ Q a) :
    t σ H fun vs H1 => u σ H1 fun zs H2 => Q (gK n j vs zs) H2 := by
  unfold bCat at e
  rcases bBd e with ⟨as, s1, ea, e⟩ | ⟨x, s1, ea, rfl⟩
  case inr => exact h1 F0 H0 F H α σ env s _ R L ea _ q
  refine h1.run R L ea fun F1 H1 α1 x p1 R1 r1 L1 => ?_
  rcases bBd e with ⟨bs, s2, eb, e⟩ | ⟨y, s2, eb, rfl⟩
  case inr => exact h2 F0 H0 F1 H1 α1 σ env s1 _ R1 L1 eb _ (ExB.on p1 q)
  split at e
  case isFalse => cases e
  rename_i hl
  cases e
  refine h2.run R1 L1 eb fun F2 H2 α2 y p2 R2 r2 L2 => ?_
  have : gK n j x y = x ++ y := if_pos ⟨by rw [r1.len]; exact hl.1, by rw [r2.len]; exact hl.2⟩
  rw [this]
  exact q F2 H2 α2 _ (p1.trans p2) R2 ((r1.mono p2).app r2)
theorem deb_callK {N j : Nat} {m : List PyData → Option R} {t tk : TA} {f g : BA} (hn : ∀ ds r, m ds = some r → ds.length = N) (h1 : DAB mg K w W ec t f) (h2 : DAB mg K w W ec tk g) : DEB mg K w W ec (tCallKS (spD K N m) (gK n j) (fun _ => E0) t tk) (bCall m (bCat n j f g)) := fun F0 H0 F H α σ env s ans R L e Q q => by
  rcases bBd e with ⟨as, s1, ea, e⟩ | ⟨x, s1, ea, rfl⟩
  case inr => exact dab_cat (Q := fun vs H2 => spD K N m vs H2 Q E0) h1 h2 R L ea q
  exact dab_cat (Q := fun vs H2 => spD K N m vs H2 Q E0) h1 h2 R L ea fun F1 H1 α1 xs p1 R1 r1 => opR_ok (spD_rcd hn) R1 r1 e (q.on p1)
theorem deb_callKX {N j : Nat} {m : List PyData → Option FX} {t tk : TA} {f g : BA} (hn : ∀ ds r, m ds = some r → ds.length = N) (h1 : DAB mg K w W ec t f) (h2 : DAB mg K w W ec tk g) : DEB mg K w W ec (tCallKS (spX mg K N m) (gK n j) (WE W) t tk) (bCallX m (bCat n j f g)) := fun F0 H0 F H α σ env s ans R L e Q q => by
  rcases bBd e with ⟨as, s1, ea, e⟩ | ⟨x, s1, ea, rfl⟩
  case inr => exact dab_cat (Q := fun vs H2 => spX mg K N m vs H2 Q (WE W σ)) h1 h2 R L ea q
  exact dab_cat (Q := fun vs H2 => spX mg K N m vs H2 Q (WE W σ)) h1 h2 R L ea fun F1 H1 α1 xs p1 R1 r1 => spX_of hn R1 r1 e (q.on p1)
theorem deb_callKB {N j : Nat} {m : List AV → Sto → Option (An AV)} {t tk : TA} {f g : BA} (hn : ∀ as s r, m as s = some r → as.length = N) (h1 : DAB mg K w W ec t f) (h2 : DAB mg K w W ec tk g) : DEB mg K w W ec (tCallKS (spB mg K w N m) (gK n j) (WE W) t tk) (bCallB m (bCat n j f g)) := fun F0 H0 F H α σ env s ans R L e Q q => by
  rcases bBd e with ⟨as, s1, ea, e⟩ | ⟨x, s1, ea, rfl⟩
  case inr => exact dab_cat (Q := fun vs H2 => spB mg K w N m vs H2 Q (WE W σ)) h1 h2 R L ea q
  refine dab_cat (Q := fun vs H2 => spB mg K w N m vs H2 Q (WE W σ)) h1 h2 R L ea fun F1 H1 α1 xs p1 R1 r1 => ?_
  have q := q.on p1
  refine ⟨by rw [r1.len]; exact hn _ _ _ e, F0, H0, F1, α1, s1, as, ans, R1, r1, e, ?_⟩
  cases ans with
  | ok r s' => exact q
  | ex x s' => exact fun F' H' α' cls d p R' xx => q F' H' α' cls d p R' xx
/-! ### freezing -/
def frzL (f : Sto → AV → Option Sto) : Sto → List AV → Option Sto
  | s, [] => some s
  | s, a :: as => (f s a).bind fun s1 => frzL f s1 as
def frzN : Nat → Sto → AV → Option Sto
  | _, s, .d _ => some s
  | _, s, .w _ => some s
  | 0, _, .c _ => none
  | k + 1, s, .c i => match s[i]? with
    | some (.frz _) => some s
    | some (.ld ds) => some (s.set i (.frz (.list ds)))
    | some (.lst vs) => (frzL (frzN k) s vs).bind fun s1 => match s1[i]? with
      | some (.lst us) => (rdA s1 us).bind fun ds => some (s1.set i (.frz (.list ds)))
      | _ => none
    | some (.tup vs) => (frzL (frzN k) s vs).bind fun s1 => match s1[i]? with
      | some (.tup us) => (rdA s1 us).bind fun ds => some (s1.set i (.frz (.tuple ds)))
      | _ => none
    | _ => none
def Frzn (K : PySem.W.Frag) (w : World) (F0 H0 F H : Hp) (α : Adr) (s s' : Sto) : Prop := ∃ F', Pg F α s.length F' α s'.length ∧ Rl K w F0 H0 F' H α s' ∧ s'.length = s.length
theorem frzL_ok {f : Sto → AV → Option Sto} {H : Hp} (hf : ∀ (F : Hp) (s s' : Sto) (a : AV), Rl K w F0 H0 F H α s → f s a = some s' → Frzn K w F0 H0 F H α s s') : ∀ {as : List AV} {F : Hp} {s s' : Sto}, Rl K w F0 H0 F H α s → frzL f s as = some s' → Frzn K w F0 H0 F H α s s'
  | [], F, s, s', R, e => by
    cases e
    exact ⟨F, .refl, R, rfl⟩
  | a :: as, F, s, s', R, e => by
    obtain ⟨s1, e1, e⟩ := bnd e
    obtain ⟨F1, p1, R1, l1⟩ := hf F s s1 a R e1
    obtain ⟨F2, p2, R2, l2⟩ := frzL_ok hf R1 e
    exact ⟨F2, p1.trans p2, R2, l2.trans l1⟩
theorem frzN_ok : ∀ {k : Nat} {F H : Hp} {s s' : Sto} {a : AV}, Rl K w F0 H0 F H α s → frzN k s a = some s' → Frzn K w F0 H0 F H α s s'
  | k, F, H, s, s', .d d, R, e => by
    have : frzN k s (.d d) = some s := by cases k <;> rfl
    rw [this] at e; cases e
    exact ⟨F, .refl, R, rfl⟩
  | k, F, H, s, s', .w d, R, e => by
    have : frzN k s (.w d) = some s := by cases k <;> rfl
    rw [this] at e; cases e
    exact ⟨F, .refl, R, rfl⟩
  | 0, F, H, s, s', .c i, R, e => by cases e
  | k + 1, F, H, s, s', .c i, R, e => by
    unfold frzN at e
    split at e
    · cases e
      exact ⟨F, .refl, R, rfl⟩
    · rename_i ds hs
      cases e
      obtain ⟨h1, xs, h2, h3⟩ := R.ob i _ hs
      exact ⟨_, ⟨same_upd h1, fun _ _ => rfl, by rw [List.length_set]; exact Nat.le_refl _⟩, R.freeze hs h1 h2 (.lst (.inl (.inl upd_same)) (dpa_mono (same_upd h1) h3)), List.length_set⟩
    · rename_i vs hs
      obtain ⟨s1, e1, e⟩ := bnd e
      obtain ⟨F1, p1, R1, l1⟩ := frzL_ok (fun F s s' a R e => frzN_ok R e) R e1
      split at e
      case h_2 => cases e
      rename_i us hu
      obtain ⟨ds, ed, e⟩ := bnd e
      cases e
      obtain ⟨h1, xs, h2, h3⟩ := R1.ob i _ hu
      refine ⟨_, p1.trans ⟨same_upd h1, fun _ _ => rfl, by rw [List.length_set]; exact Nat.le_refl _⟩, R1.freeze hu h1 h2 (.lst (.inl (.inl upd_same)) (dpa_mono (same_upd h1) (rdA_ok R1 h3 ed))), by rw [List.length_set, l1]⟩
    · rename_i vs hs
      obtain ⟨s1, e1, e⟩ := bnd e
      obtain ⟨F1, p1, R1, l1⟩ := frzL_ok (fun F s s' a R e => frzN_ok R e) R e1
      split at e
      case h_2 => cases e
      rename_i us hu
      obtain ⟨ds, ed, e⟩ := bnd e
      cases e
      obtain ⟨h1, xs, h2, h3⟩ := R1.ob i _ hu
      refine ⟨_, p1.trans ⟨same_upd h1, fun _ _ => rfl, by rw [List.length_set]; exact Nat.le_refl _⟩, R1.freeze hu h1 h2 (.tup (.inl (.inl upd_same)) (dpa_mono (same_upd h1) (rdA_ok R1 h3 ed))), by rw [List.length_set, l1]⟩
    · cases e
def frz (s : Sto) (a : AV) : Option Sto := frzN 6 s a
theorem frz_ok {s s' : Sto} {a : AV} (R : Rl K w F0 H0 F H α s) (e : frz s a = some s') : Frzn K w F0 H0 F H α s s' := frzN_ok R e
/-- an expression's value, frozen -/
@[simp] def bFz (f : BE) : BE := fun env s => bB (f env s) fun a s1 => (frz s1 a).bind fun s2 => (avD s2 a).bind fun d => some (.ok (.d d) s2)
theorem deb_fz {te : TE} {f : BE} (h : DEB mg K w W ec te f) : DEB mg K w W ec te (bFz f) := fun F0 H0 F H α σ env s ans R L e Q q => by
  rcases bBd e with ⟨a, s1, ea, e⟩ | ⟨x, s1, ea, rfl⟩
  case inr => exact h F0 H0 F H α σ env s _ R L ea _ q
  obtain ⟨s2, ez, e⟩ := bnd e
  obtain ⟨d, ed, e⟩ := bnd e
  cases e
  refine h.run R L ea fun F1 H1 α1 x p1 R1 r1 L1 => ?_
  obtain ⟨F2, p2, R2, l2⟩ := frz_ok R1 ez
  exact q F2 H1 α1 x (p1.trans p2) R2 (avD_ok R2 (r1.mono p2) ed)
end
end Bn
/-! Bn4: targets, what is walked, comprehensions, statements, loops. -/
namespace Bn
open PySem PySem.Spec PyProof.Rows L2 Dn
/-! ### targets -/
abbrev BG := AV → Ev → Sto → Option Ev
abbrev BGs := List AV → Ev → Sto → Option Ev
def DGB (mg : Str → Option Value) (K : PySem.W.Frag) (w : World) (ec : EC) (ws : List Nat) (t : TG) (g : BG) : Prop := ∀ (F0 H0 F H : Hp) (α : Adr) (σ : L2.St) (env env' : Ev) (s : Sto) (v : V) (a : AV), Rl K w F0 H0 F H α s → Lo mg K ec F α s.length σ env → AVR K F α s.length v a → g a env s = some env' →
  ∀ Q : L2.St → Hp → Prop, (∀ σ', Lo mg K ec F α s.length σ' env' → (∀ vs, (∀ i ∈ ws, i ∈ vs) → wipe σ' vs = wipe σ vs) → Q σ' H) → t v σ H Q
def DGsB (mg : Str → Option Value) (K : PySem.W.Frag) (w : World) (ec : EC) (ws : List Nat) (t : TGs) (g : BGs) : Prop := ∀ (F0 H0 F H : Hp) (α : Adr) (σ : L2.St) (env env' : Ev) (s : Sto) (vs : List V) (as : List AV), Rl K w F0 H0 F H α s → Lo mg K ec F α s.length σ env → AVRs K F α s.length vs as → g as env s = some env' →
  ∀ Q : L2.St → Hp → Prop, (∀ σ', Lo mg K ec F α s.length σ' env' → (∀ vs, (∀ i ∈ ws, i ∈ vs) → wipe σ' vs = wipe σ vs) → Q σ' H) → t vs σ H Q
@[simp] def btName (i : Nat) : BG := fun a env _ => some (env.set i (.v a))
@[simp] def btNil : BGs := fun as env _ => match as with
  | [] => some env
  | _ => none
@[simp] def btCons (g : BG) (gs : BGs) : BGs := fun as env s => match as with
  | a :: r => (g a env s).bind fun e => gs r e s
  | [] => none
/-- the items of a tuple -/
def tupOf (s : Sto) : AV → Option (List AV)
  | .d (.tuple ds) => some (ds.map .d)
  | .c k => match s[k]? with
    | some (.tup vs) => some vs
    | some (.frz (.tuple ds)) => some (ds.map .d)
    | _ => none
  | _ => none
@[simp] def btTup (n : Nat) (gs : BGs) : BG := fun a env s => (tupOf s a).bind fun as => if as.length = n then gs as env s else none
section
variable {mg : Str → Option Value} {K : PySem.W.Frag} {w : World} {W : WX} {ec : EC} {F0 H0 F H F1 H1 : Hp} {α α1 : Adr} {σ : L2.St} {env : Ev} {s s1 : Sto} {n : Nat}
theorem dgb_name {i : Nat} : DGB mg K w ec [i] (gName i) (btName i) := fun F0 H0 F H α σ env env' s v a R L h e Q q => by
  cases e
  exact q _ (L.set h) fun vs hv => wipe_set_in (hv i (by simp))
theorem dgsb_nil : DGsB mg K w ec [] gNil btNil := fun F0 H0 F H α σ env env' s vs as R L h e Q q => by
  unfold btNil at e
  split at e
  · cases e
    cases h
    exact ⟨rfl, q σ L fun _ _ => rfl⟩
  · cases e
theorem dgsb_cons {ws us : List Nat} {t : TG} {g : BG} {ts : TGs} {gs : BGs} (h1 : DGB mg K w ec ws t g) (h2 : DGsB mg K w ec us ts gs) : DGsB mg K w ec (ws ++ us) (gCons t ts) (btCons g gs) := fun F0 H0 F H α σ env env' s vs as R L h e Q q => by
  unfold btCons at e
  split at e
  case h_2 => cases e
  obtain ⟨e1, ee, e⟩ := bnd e
  cases h with
  | cons ha ht =>
    refine ⟨_, _, rfl, h1 F0 H0 F H α σ env e1 s _ _ R L ha ee _ fun σ1 L1 w1 => h2 F0 H0 F H α σ1 e1 env' s _ _ R L1 ht e _ fun σ2 L2 w2 => q σ2 L2 fun vs hv => ?_⟩
    rw [w2 vs fun i hi => hv i (List.mem_append_right _ hi), w1 vs fun i hi => hv i (List.mem_append_left _ hi)]
theorem tupOf_ok {v : V} {a : AV} {as : List AV} (R : Rl K w F0 H0 F H α s) (h : AVR K F α s.length v a) (e : tupOf s a = some as) : ∃ p xs, v = .ref p ∧ SqT K H p xs ∧ AVRs K F α s.length xs as := by
  unfold tupOf at e
  split at e
  · cases e
    obtain ⟨p, xs, e1, e2, e3⟩ := dp_tuple (show Dp K F v _ from h)
    exact ⟨p, xs, e1, sqT_mono R.i e2, .ofD e3⟩
  · split at e
    · rename_i hs
      cases e
      obtain ⟨_, xs, h2, h3⟩ := R.ob _ _ hs
      exact ⟨_, xs, h.2, .inl (.inl h2), h3⟩
    · rename_i hs
      cases e
      obtain ⟨p, xs, e1, e2, e3⟩ := dp_tuple (R.ob _ _ hs).2
      exact ⟨p, xs, h.2.trans e1, sqT_mono R.i e2, .ofD e3⟩
    · cases e
  · cases e
theorem dgb_tup {n : Nat} {ws : List Nat} {ts : TGs} {gs : BGs} (h : DGsB mg K w ec ws ts gs) : DGB mg K w ec ws (gTup K n ts) (btTup n gs) := fun F0 H0 F H α σ env env' s v a R L ha e Q q => by
  obtain ⟨as, ea, e⟩ := bnd e
  split at e
  case isFalse => cases e
  rename_i hl
  obtain ⟨p, xs, e1, e2, e3⟩ := tupOf_ok R ha ea
  exact ⟨p, xs, e1, e2, by rw [e3.len]; exact hl, h F0 H0 F H α σ env env' s xs as R L e3 e Q q⟩
end
/-! ### what is walked -/
def itm (s : Sto) (k : Nat) : Option (List AV) := match s[k]? with
  | some (.ld ds) => some (ds.map .d)
  | some (.lst vs) => some vs
  | _ => none
/-- the list that is walked stands as it stood -/
def okK (key : Option Nat) (all : List AV) (s : Sto) : Prop := match key with
  | none => True
  | some k => itm s k = some all
noncomputable instance (key : Option Nat) (all : List AV) (s : Sto) : Decidable (okK key all s) := Classical.propDecidable _
@[simp] theorem okK_none {all : List AV} {s : Sto} : okK none all s = True := rfl
@[simp] theorem okK_some {k : Nat} {all : List AV} {s : Sto} : okK (some k) all s = (itm s k = some all) := rfl
abbrev BI := Ev → Sto → Option (An (List AV × Option Nat))
def WalkB (K : PySem.W.Frag) (w : World) (F : Hp) (α : Adr) (n : Nat) (J : It) (as : List AV) (key : Option Nat) : Prop := ∀ (i : Nat) (F0 H0 F1 H1 : Hp) (α1 : Adr) (s1 : Sto), Pg F α n F1 α1 s1.length → Rl K w F0 H0 F1 H1 α1 s1 → okK key as s1 →
  (as[i]? = none → i = as.length → J.stop i H1) ∧ ∀ a, as[i]? = some a → J.go i H1 ∧ ∀ x H2, J.yld i H1 x H2 → ∃ F2, Pg F1 α1 s1.length F2 α1 s1.length ∧ Rl K w F0 H0 F2 H2 α1 s1 ∧ AVR K F2 α1 s1.length x a
def DIB (mg : Str → Option Value) (K : PySem.W.Frag) (w : World) (W : WX) (ec : EC) (wi : TI) (f : BI) : Prop := ∀ (F0 H0 F H : Hp) (α : Adr) (σ : L2.St) (env : Ev) (s : Sto) (a : An (List AV × Option Nat)), Rl K w F0 H0 F H α s → Lo mg K ec F α s.length σ env → f env s = some a → ∀ R : It → Hp → Prop,
  (match a with
    | .ok p s' => ∀ F' H' α' J, Pg F α s.length F' α' s'.length → Rl K w F0 H0 F' H' α' s' → WalkB K w F' α' s'.length J p.1 p.2 → R J H'
    | .ex e s' => ExB mg K w W F0 H0 F α s.length σ e s') → wi σ H R
@[simp] def biP (f : IF) : BI := fun env s => (f (dn s env)).bind fun ds => some (.ok (ds.map .d, none) s)
@[simp] noncomputable def biR1 (t : BA) : BI := fun env s => bB (t env s) fun as s1 => match as with
  | [.d (.int n)] => if InR n then some (.ok ((intsFrom 0 n.toNat).map .d, none) s1) else none
  | _ => none
@[simp] noncomputable def biR2 (t : BA) : BI := fun env s => bB (t env s) fun as s1 => match as with
  | [.d (.int a), .d (.int b)] => if InR a ∧ InR b then some (.ok ((intsFrom a (b - a).toNat).map .d, none) s1) else none
  | _ => none
/-- the items of a list or tuple, and the cell that must not change meanwhile -/
def seqOf (s : Sto) : AV → Option (List AV × Option Nat)
  | .d (.list ds) => some (ds.map .d, none)
  | .d (.tuple ds) => some (ds.map .d, none)
  | .c k => match s[k]? with
    | some (.ld ds) => some (ds.map .d, some k)
    | some (.lst vs) => some (vs, some k)
    | some (.frz (.list ds)) => some (ds.map .d, none)
    | some (.frz (.tuple ds)) => some (ds.map .d, none)
    | _ => none
  | _ => none
@[simp] def biE (f : BE) : BI := fun env s => bB (f env s) fun a s1 => (seqOf s1 a).bind fun p => some (.ok p s1)
section
variable {mg : Str → Option Value} {K : PySem.W.Frag} {w : World} {W : WX} {ec : EC} {F0 H0 F H F1 H1 : Hp} {α α1 : Adr} {σ : L2.St} {env : Ev} {s s1 : Sto} {n : Nat}
theorem walkB_of {J : It} {ds : List PyData} (h : Walks K F J ds) : WalkB K w F α n J (ds.map .d) none := fun i F0 H0 F1 H1 α1 s1 p R _ => by
  obtain ⟨h1, h2⟩ := h i F1 H1 p.f R.i
  refine ⟨fun e l => h1 (by rw [List.getElem?_map] at e; exact Option.map_eq_none_iff.mp e) (by rw [List.length_map] at l; exact l), fun a e => ?_⟩
  rw [List.getElem?_map] at e
  obtain ⟨d, ed, rfl⟩ := Option.map_eq_some_iff.mp e
  obtain ⟨go, yl⟩ := h2 d ed
  refine ⟨go, fun x H2 y => ?_⟩
  obtain ⟨F2, g, dx⟩ := yl x H2 y
  exact ⟨F2, .ofGrow g, R.grow g, dx⟩
theorem dib_p {wi : TI} {f : IF} (h : DI K wi f) : DIB mg K w W ec wi (biP f) := fun F0 H0 F H α σ env s a R L e Rr q => by
  obtain ⟨ds, ed, e⟩ := bnd e
  cases e
  exact h H0 F H σ _ ds (dn_slots R L) R.i R.k ed Rr fun F' H' J g wk => q F' H' α J (.ofGrow g) (R.grow g) (walkB_of wk)
theorem AVRs.int1 {xs : List V} {n : Int} {F : Hp} {α : Adr} {k : Nat} (h : AVRs K F α k xs [.d (.int n)]) : xs = [.int n] := by
  cases h with
  | cons h1 h2 =>
    cases h2
    rw [dp_int h1]
theorem dib_r1 {ta : TA} {t : BA} (h : DAB mg K w W ec ta t) : DIB mg K w W ec (iRng1 ta) (biR1 t) := fun F0 H0 F H α σ env s a R L e Rr q => by
  rcases bBd e with ⟨as, s1, ea, e⟩ | ⟨x, s1, ea, rfl⟩
  case inr => exact h F0 H0 F H α σ env s _ R L ea _ q
  split at e
  case h_2 => cases e
  rename_i m
  split at e
  case isFalse => cases e
  rename_i hn
  cases e
  refine h.run R L ea fun F1 H1 α1 xs p1 R1 r1 L1 => ?_
  exact ⟨m, r1.int1, hn.1, hn.2, q F1 H1 α1 _ p1 R1 (walkB_of (walks_rng 0 m.toNat))⟩
theorem dib_r2 {ta : TA} {t : BA} (h : DAB mg K w W ec ta t) : DIB mg K w W ec (iRng2 ta) (biR2 t) := fun F0 H0 F H α σ env s a R L e Rr q => by
  rcases bBd e with ⟨as, s1, ea, e⟩ | ⟨x, s1, ea, rfl⟩
  case inr => exact h F0 H0 F H α σ env s _ R L ea _ q
  split at e
  case h_2 => cases e
  rename_i a b
  split at e
  case isFalse => cases e
  rename_i hn
  cases e
  refine h.run R L ea fun F1 H1 α1 xs p1 R1 r1 L1 => ?_
  cases r1 with
  | cons h1 r =>
    cases r with
    | cons h2 r =>
      cases r
      rw [dp_int h1, dp_int h2]
      exact ⟨a, b, rfl, ⟨hn.1.1, hn.1.2, hn.2.1, hn.2.2⟩, q F1 H1 α1 _ p1 R1 (walkB_of (walks_rng a (b - a).toNat))⟩
theorem walks_lst {a : Addr} {xs : List V} {ds : List PyData} (hs : SqL K F a xs) (ha : DpAll K F xs ds) : Walks K F (Itl K a) ds := fun i F2 H2 s1 s2 => by
  have hl := DpAll.len ha
  refine ⟨fun _ e => ⟨_, sqL_mono (s1.trans s2) hs, by omega⟩, fun d e => ?_⟩
  obtain ⟨w, e1, h1⟩ := DpAll.get ha e
  refine ⟨⟨_, w, sqL_mono (s1.trans s2) hs, e1⟩, fun x H3 y => ?_⟩
  obtain ⟨rfl, y⟩ := y
  have e2 := y _ (sqL_mono (s1.trans s2) hs)
  rw [e1] at e2
  cases e2
  exact ⟨F2, Grow.refl s2, dp_mono s1 h1⟩
theorem walks_tup {a : Addr} {xs : List V} {ds : List PyData} (hs : SqT K F a xs) (ha : DpAll K F xs ds) : Walks K F (Itt K a) ds := fun i F2 H2 s1 s2 => by
  have hl := DpAll.len ha
  refine ⟨fun _ e => ⟨_, sqT_mono (s1.trans s2) hs, by omega⟩, fun d e => ?_⟩
  obtain ⟨w, e1, h1⟩ := DpAll.get ha e
  refine ⟨⟨_, w, sqT_mono (s1.trans s2) hs, e1⟩, fun x H3 y => ?_⟩
  obtain ⟨rfl, y⟩ := y
  have e2 := y _ (sqT_mono (s1.trans s2) hs)
  rw [e1] at e2
  cases e2
  exact ⟨F2, Grow.refl s2, dp_mono s1 h1⟩
theorem itm_ok {k : Nat} {as : List AV} (R : Rl K w F0 H0 F H α s) (e : itm s k = some as) : ∃ xs, H (α k) = some (.lst xs) ∧ AVRs K F α s.length xs as := by
  unfold itm at e
  split at e
  · rename_i ds hs
    cases e
    obtain ⟨_, xs, h2, h3⟩ := R.ob k _ hs
    exact ⟨xs, h2, .ofD h3⟩
  · rename_i vs hs
    cases e
    obtain ⟨_, xs, h2, h3⟩ := R.ob k _ hs
    exact ⟨xs, h2, h3⟩
  · cases e
theorem walkB_cell {k : Nat} {as : List AV} (hk : k < n) : WalkB K w F α n (Itl K (α k)) as (some k) := fun i F0 H0 F1 H1 α1 s1 p R ok => by
  obtain ⟨xs, h2, h3⟩ := itm_ok R ok
  rw [p.a k hk] at h2
  have hl := h3.len
  refine ⟨fun _ e => ⟨xs, .inl (.inl h2), by omega⟩, fun a e => ?_⟩
  obtain ⟨v, ev, dv⟩ := h3.get e
  refine ⟨⟨xs, v, .inl (.inl h2), ev⟩, fun x H3 y => ?_⟩
  obtain ⟨rfl, y⟩ := y
  have e2 := y _ (.inl (.inl h2))
  rw [ev] at e2
  cases e2
  exact ⟨F1, .refl, R, dv⟩
theorem dib_e {te : TE} {f : BE} (h : DEB mg K w W ec te f) : DIB mg K w W ec (fun σ H R => iList K te σ H R ∨ iTup K te σ H R) (biE f) := fun F0 H0 F H α σ env s ans R L e Rr q => by
  rcases bBd e with ⟨a, s1, ea, e⟩ | ⟨x, s1, ea, rfl⟩
  case inr => exact .inl (h F0 H0 F H α σ env s _ R L ea _ q)
  obtain ⟨p, ep, e⟩ := bnd e
  cases e
  unfold seqOf at ep
  split at ep
  · cases ep
    refine .inl (h.run R L ea fun F1 H1 α1 x p1 R1 r1 L1 => ?_)
    obtain ⟨a, xs, e1, e2, e3⟩ := dp_list (show Dp K F1 x _ from r1)
    exact ⟨a, e1, ⟨xs, sqL_mono R1.i e2⟩, q F1 H1 α1 _ p1 R1 (walkB_of (walks_lst e2 e3))⟩
  · cases ep
    refine .inr (h.run R L ea fun F1 H1 α1 x p1 R1 r1 L1 => ?_)
    obtain ⟨a, xs, e1, e2, e3⟩ := dp_tuple (show Dp K F1 x _ from r1)
    exact ⟨a, e1, ⟨xs, sqT_mono R1.i e2⟩, q F1 H1 α1 _ p1 R1 (walkB_of (walks_tup e2 e3))⟩
  · split at ep
    · rename_i hs
      cases ep
      refine .inl (h.run R L ea fun F1 H1 α1 x p1 R1 r1 L1 => ?_)
      obtain ⟨_, xs, h2, h3⟩ := R1.ob _ _ hs
      exact ⟨_, r1.2, ⟨xs, .inl (.inl h2)⟩, q F1 H1 α1 _ p1 R1 (walkB_cell r1.1)⟩
    · rename_i hs
      cases ep
      refine .inl (h.run R L ea fun F1 H1 α1 x p1 R1 r1 L1 => ?_)
      obtain ⟨_, xs, h2, h3⟩ := R1.ob _ _ hs
      exact ⟨_, r1.2, ⟨xs, .inl (.inl h2)⟩, q F1 H1 α1 _ p1 R1 (walkB_cell r1.1)⟩
    · rename_i hs
      cases ep
      refine .inl (h.run R L ea fun F1 H1 α1 x p1 R1 r1 L1 => ?_)
      obtain ⟨a, xs, e1, e2, e3⟩ := dp_list (R1.ob _ _ hs).2
      exact ⟨a, r1.2.trans e1, ⟨xs, sqL_mono R1.i e2⟩, q F1 H1 α1 _ p1 R1 (walkB_of (walks_lst e2 e3))⟩
    · rename_i hs
      cases ep
      refine .inr (h.run R L ea fun F1 H1 α1 x p1 R1 r1 L1 => ?_)
      obtain ⟨a, xs, e1, e2, e3⟩ := dp_tuple (R1.ob _ _ hs).2
      exact ⟨a, r1.2.trans e1, ⟨xs, sqT_mono R1.i e2⟩, q F1 H1 α1 _ p1 R1 (walkB_of (walks_tup e2 e3))⟩
    · cases ep
  · cases ep

/-! ### comprehensions -/
@[simp] def wipeB (env : Ev) : List Nat → Ev
  | [] => env
  | v :: vs => (wipeB env vs).set v .un
theorem Lo.wipe (L : Lo mg K ec F α n σ env) : ∀ vs : List Nat, Lo mg K ec F α n (L2.wipe σ vs) (wipeB env vs)
  | [] => L
  | v :: vs => (Lo.wipe L vs).un
noncomputable def lcB (key : Option Nat) (all : List AV) (vs : List Nat) (g : BG) (c : BT) (f : BE) (env : Ev) : List AV → Sto → Option (List AV × Sto)
  | [], s => if okK key all s then some ([], s) else none
  | a :: as, s => if okK key all s then (g a (wipeB env vs) s).bind fun e1 => match c e1 s with
      | some (.ok b s1) => if b = true then match f e1 s1 with
          | some (.ok r s2) => (lcB key all vs g c f env as s2).bind fun p => some (r :: p.1, p.2)
          | _ => none
        else lcB key all vs g c f env as s1
      | _ => none
    else none
@[simp] noncomputable def bLc (vs : List Nat) (it : BI) (g : BG) (c : BT) (f : BE) : BE := fun env s => bB (it env s) fun p s1 => if Fits p.1.length then (lcB p.2 p.1 vs g c f env p.1 s1).bind fun z => some (mkL z.1 z.2) else none
@[simp] def bYes : BT := fun _ s => some (.ok true s)
theorem dtb_yes : DTB mg K w W ec tYes bYes := fun F0 H0 F H α σ env s a R L e Q q => by
  cases e
  exact q F H α .refl R
theorem lcB_ok {key : Option Nat} {all : List AV} {vs : List Nat} {g : BG} {c : BT} {f : BE} {as : List AV} {s : Sto} {z : List AV × Sto} (h : lcB key all vs g c f env as s = some z) : okK key all s := by
  cases as with
  | nil =>
    unfold lcB at h
    split at h
    · assumption
    · cases h
  | cons a r =>
    unfold lcB at h
    split at h
    · assumption
    · cases h
/-- a list that is made, outside the store: it stands at D in the base -/
theorem Rl.withD {D : Addr} {xs : List V} (R : Rl K w F0 H0 F H α s) (hD : H D = some (.lst xs)) (hF : F D = none) (hF0 : F0 D = none) (ne : ∀ i, i < s.length → α i ≠ D) : Rl K w F0 (upd H0 D (.lst xs)) F H α s :=
  ⟨R.f, fun a o e => by
    by_cases h : a = D
    · rw [h, upd_same] at e
      rw [h, hD]
      exact e
    · rw [upd_ne h] at e
      exact R.k _ _ e, R.i, fun a h0 h1 => by
    by_cases h : a = D
    · rw [h]; exact hF
    · rw [upd_ne h] at h0
      exact R.n a h0 h1, R.inj, fun i hi => by rw [upd_ne (ne i hi)]; exact R.out i hi, R.ob⟩
theorem Rl.noD {D : Addr} {xs : List V} (R : Rl K w F0 (upd H0 D (.lst xs)) F H α s) (h0 : H0 D = none) (h1 : F0 D = none) : Rl K w F0 H0 F H α s ∧ H D = some (.lst xs) ∧ F D = none ∧ ∀ i, i < s.length → α i ≠ D := by
  have ne : ∀ i, i < s.length → α i ≠ D := fun i hi z => by
    have := R.out i hi
    rw [z, upd_same] at this
    cases this
  refine ⟨⟨R.f, fun a o e => R.k a o ?_, R.i, fun a x y => R.n a ?_ y, R.inj, fun i hi => ?_, R.ob⟩, R.k D _ upd_same, R.n D (by rw [upd_same]; exact Option.some_ne_none _) h1, ne⟩
  · rw [upd_ne fun z => by rw [z, h0] at e; cases e]; exact e
  · rw [upd_ne fun z => by rw [z] at x; exact x h0]; exact x
  · have := R.out i hi
    rw [upd_ne (ne i hi)] at this
    exact this
/-- the list at D is turned: it is in no cell -/
theorem Rl.updD {D : Addr} {xs ys : List V} (R : Rl K w F0 (upd H0 D (.lst xs)) F H α s) (h1 : F0 D = none) : Rl K w F0 (upd H0 D (.lst ys)) F (upd H D (.lst ys)) α s := by
  have hF : F D = none := R.n D (by rw [upd_same]; exact Option.some_ne_none _) h1
  have ne : ∀ i, i < s.length → α i ≠ D := fun i hi z => by
    have := R.out i hi
    rw [z, upd_same] at this
    cases this
  refine ⟨R.f, fun a o e => ?_, same_updF R.i hF, fun a x y => ?_, R.inj, fun i hi => ?_, fun i o e => ?_⟩
  · by_cases h : a = D
    · subst h
      rw [upd_same] at e ⊢
      exact e
    · rw [upd_ne h] at e ⊢
      exact R.k a o (by rw [upd_ne h]; exact e)
  · by_cases h : a = D
    · rw [h]; exact hF
    · exact R.n a (by rw [upd_ne h] at x ⊢; exact x) y
  · have := R.out i hi
    rw [upd_ne (ne i hi)] at this ⊢
    exact this
  · exact (R.ob i o e).mono .refl (fun h => h) (upd_ne (ne i (List.getElem?_eq_some_iff.mp e).1))
theorem deb_lc {wi : TI} {it : BI} {t : TG} {g : BG} {ws vs : List Nat} {tt : TT} {c : BT} {te : TE} {f : BE} (hi : DIB mg K w W ec wi it) (hg : DGB mg K w ec ws t g) (hw : ∀ i ∈ ws, i ∈ vs) (hc : DTB mg K w WF ec tt c) (he : DEB mg K w WF ec te f) : DEB mg K w W ec (tLc wi t tt te vs) (bLc vs it g c f) := fun F0 H0 F H α σ env s ans R L e Q q => by
  rcases bBd e with ⟨pp, s0, ed, e⟩ | ⟨x, e1, ea, rfl⟩
  case inr => exact hi F0 H0 F H α σ env s _ R L ea _ q
  split at e
  case isFalse => cases e
  rename_i hlen
  obtain ⟨⟨rs, se⟩, er, e⟩ := bnd e
  cases e
  obtain ⟨as, key⟩ := pp
  refine hi F0 H0 F H α σ env s _ R L ed _ fun F1 H1 α1 J p1 R1 wk => ?_
  have L1 := L.mono p1
  intro D hD
  have h0D : H0 D = none := R1.k.free hD
  have f0D : F0 D = none := R1.f.free (R1.i.free hD)
  have RD : Rl K w F0 (upd H0 D (.lst [])) F1 (upd H1 D (.lst [])) α1 s0 := (R1.new (ho := .lst []) hD).withD upd_same (R1.i.free hD) f0D fun i hi => R1.ne hD hi
  refine ⟨fun i m H2 => ∃ F2 α2 s2 acc bs rs', Pg F1 α1 s0.length F2 α2 s2.length ∧ Rl K w F0 (upd H0 D (.lst acc)) F2 H2 α2 s2 ∧ AVRs K F2 α2 s2.length acc bs ∧ bs.length ≤ i ∧ lcB key as vs g c f env (as.drop i) s2 = some (rs', se) ∧ bs ++ rs' = rs ∧ i + m = as.length,
    ⟨as.length, F1, α1, s0, [], [], rs, .refl, RD, .nil, Nat.le_refl _, er, rfl, by omega⟩, ?_⟩
  rintro i m H2 ⟨F2, α2, s2, acc, bs, rs', G2, R2, dA, hbl, el, eb, em⟩
  have la := dA.len
  obtain ⟨wn, wg⟩ := wk i F0 _ F2 H2 α2 s2 G2 R2 (lcB_ok el)
  cases hd : as[i]? with
  | none =>
    have hl : as.length ≤ i := List.getElem?_eq_none_iff.mp hd
    have ok := lcB_ok el
    rw [List.drop_eq_nil_of_le hl] at el
    unfold lcB at el
    rw [if_pos ok] at el
    cases el
    rw [List.append_nil] at eb
    subst eb
    obtain ⟨R3, hD3, fD3, ne3⟩ := R2.noD h0D f0D
    refine .inl ⟨wn hd (show i = as.length by omega), ?_⟩
    have q' : EmB mg K w W F0 H0 F2 α2 se.length σ Q (mkL bs se) := q.on (p1.trans G2)
    unfold mkL at q'
    split at q'
    · rename_i ds hds
      refine q' F2 H2 (ext α2 se.length D) _ ?_ (R3.push (o := .ld ds) ne3 h0D ⟨fD3, acc, hD3, rdA_ok R3 dA hds⟩) ?_
      · rw [ln1]; exact .ext
      · rw [ln1]; exact ⟨Nat.lt_succ_self _, by rw [ext_same]⟩
    · refine q' F2 H2 (ext α2 se.length D) _ ?_ (R3.push (o := .lst bs) ne3 h0D ⟨fD3, acc, hD3, dA.mono .ext⟩) ?_
      · rw [ln1]; exact .ext
      · rw [ln1]; exact ⟨Nat.lt_succ_self _, by rw [ext_same]⟩
  | some d =>
    obtain ⟨go, yl⟩ := wg d hd
    have hi2 : i < as.length := (List.getElem?_eq_some_iff.mp hd).1
    have hdr : as.drop i = d :: as.drop (i + 1) := by
      rw [List.drop_eq_getElem_cons hi2]
      rw [List.getElem?_eq_getElem hi2] at hd
      cases hd
      rfl
    have ok := lcB_ok el
    rw [hdr] at el
    unfold lcB at el
    rw [if_pos ok] at el
    obtain ⟨e3, ee3, el⟩ := bnd el
    refine .inr ⟨go, fun H' => ∃ F' α' s' acc bs rs', Pg F1 α1 s0.length F' α' s'.length ∧ Rl K w F0 (upd H0 D (.lst acc)) F' H' α' s' ∧ AVRs K F' α' s'.length acc bs ∧ bs.length ≤ i + 1 ∧ lcB key as vs g c f env (as.drop (i + 1)) s' = some (rs', se) ∧ bs ++ rs' = rs,
      fun H' ⟨F', α', s', acc, bs, rs', a1, a2, a3, a4, a5, a6⟩ => ⟨m - 1, by omega, F', α', s', acc, bs, rs', a1, a2, a3, a4, a5, a6, by omega⟩, fun x H' hy => ?_⟩
    obtain ⟨F3, p3, R3, r3⟩ := yl x H' hy
    have G3 := G2.trans p3
    have L3 : Lo mg K ec F3 α2 s2.length (L2.wipe σ vs) (wipeB env vs) := (L1.mono G3).wipe vs
    refine hg F0 _ F3 H' α2 _ _ e3 s2 x d R3 L3 r3 ee3 _ fun σ4 L4 hw4 => ⟨?_, ?_⟩
    · rw [hw4 vs hw]
      exact wipe_wiped
    · cases hcv : c e3 s2 with
      | none => rw [hcv] at el; cases el
      | some ca =>
        rw [hcv] at el
        cases ca with
        | ex x e5 => cases el
        | ok b s5 =>
          refine hc.run R3 L4 hcv fun F5 H5 α5 p5 R5 L5 => ?_
          have G5 := G3.trans p5
          have dA5 := dA.mono (p3.trans p5)
          cases b with
          | false =>
            have el : lcB key as vs g c f env (as.drop (i + 1)) s5 = some (rs', se) := el
            rw [if_neg Bool.false_ne_true]
            exact ⟨F5, α5, s5, acc, bs, rs', G5, R5, dA5, by omega, el, eb⟩
          | true =>
            rw [if_pos rfl]
            cases hfv : f e3 s5 with
            | none => simp only [hfv, if_true] at el; cases el
            | some fa =>
              cases fa with
              | ex x e6 => simp only [hfv, if_true] at el; cases el
              | ok r1 s6 =>
                have el : ((lcB key as vs g c f env (as.drop (i + 1)) s6).bind fun p => some (r1 :: p.1, p.2)) = some (rs', se) := by
                  simp only [hfv, if_true] at el
                  exact el
                obtain ⟨⟨rs1, se1⟩, er2, el⟩ := bnd el
                cases el
                refine he.run R5 L5 hfv fun F6 H6 α6 y p6 R6 r6 L6 => ?_
                obtain ⟨_, hD6, _, _⟩ := R6.noD h0D f0D
                refine ⟨acc, hD6, by rw [la]; exact Nat.lt_of_le_of_lt (Nat.le_trans hbl (Nat.le_trans (Nat.le_of_lt hi2) hlen)) (by decide), F6, α6, s6, acc ++ [y], bs ++ [r1], rs1, G5.trans p6, R6.updD f0D, (dA5.mono p6).app (.cons r6 .nil), by rw [List.length_append]; exact Nat.succ_le_succ hbl, er2, by rw [List.append_assoc]; exact eb⟩
end
end Bn
/-! Bn5: statements over the store. -/
namespace Bn
open PySem PySem.Spec PyProof.Rows L2 Dn
inductive OutB where
  | nx (env : Ev) (s : Sto)
  | rt (a : AV) (s : Sto)
  | bk (env : Ev) (s : Sto)
  | ct (env : Ev) (s : Sto)
  | ex (e : Xn) (env : Ev) (s : Sto)
abbrev BF := Ev → Sto → Option OutB
section
variable (mg : Str → Option Value) (K : PySem.W.Frag) (w : World) (W : WX) (ec : EC)
def EndB (F0 H0 F : Hp) (α : Adr) (n : Nat) (D : Ends) : OutB → Prop
  | .nx env s' => ∀ F' H' α' σ', Pg F α n F' α' s'.length → Rl K w F0 H0 F' H' α' s' → Lo mg K ec F' α' s'.length σ' env → D.nx σ' H'
  | .rt a s' => ∀ F' H' α' x, Pg F α n F' α' s'.length → Rl K w F0 H0 F' H' α' s' → AVR K F' α' s'.length x a → D.rt x H'
  | .bk env s' => ∀ F' H' α' σ', Pg F α n F' α' s'.length → Rl K w F0 H0 F' H' α' s' → Lo mg K ec F' α' s'.length σ' env → D.bk σ' H'
  | .ct env s' => ∀ F' H' α' σ', Pg F α n F' α' s'.length → Rl K w F0 H0 F' H' α' s' → Lo mg K ec F' α' s'.length σ' env → D.ct σ' H'
  | .ex e env s' => ∀ F' H' α' σ' cls d, Pg F α n F' α' s'.length → Rl K w F0 H0 F' H' α' s' → Lo mg K ec F' α' s'.length σ' env → XnOk mg K F' e cls d → W cls d σ' H'
def DSB (ts : TS) (f : BF) : Prop := ∀ (F0 H0 F H : Hp) (α : Adr) (σ : L2.St) (env : Ev) (s : Sto) (o : OutB), Rl K w F0 H0 F H α s → Lo mg K ec F α s.length σ env → f env s = some o → ∀ D : Ends, EndB mg K w W ec F0 H0 F α s.length D o → ts D σ H
end
def bS {α : Type} (m : Option (An α)) (env : Ev) (k : α → Sto → Option OutB) : Option OutB := match m with
  | some (.ok a s) => k a s
  | some (.ex x s) => some (.ex x env s)
  | none => none
def bindB (o : Option OutB) (g : BF) : Option OutB := match o with
  | some (.nx e s) => g e s
  | o => o
def turnB (o : Option OutB) (k : BF) : Option OutB := match o with
  | some (.nx e s) => k e s
  | some (.ct e s) => k e s
  | some (.bk e s) => some (.nx e s)
  | some (.rt r s) => some (.rt r s)
  | some (.ex x e s) => some (.ex x e s)
  | none => none
section
variable {α : Type} {a : α} {e : Ev} {s : Sto} {x : Xn} {k : α → Sto → Option OutB} {g h : BF} {r : AV}
@[simp] theorem bS_ok : bS (some (.ok a s)) e k = k a s := rfl
@[simp] theorem bS_ex : bS (some (.ex x s)) e k = some (.ex x e s) := rfl
@[simp] theorem bS_no : bS none e k = none := rfl
theorem bS_ite {c : Prop} [Decidable c] {x y : Option (An α)} : bS (if c then x else y) e k = if c then bS x e k else bS y e k := by split <;> rfl
theorem bSd {m : Option (An α)} {o : OutB} (h : bS m e k = some o) : (∃ x s, m = some (.ok x s) ∧ k x s = some o) ∨ ∃ x s, m = some (.ex x s) ∧ o = .ex x e s := by
  cases m with
  | none => cases h
  | some z =>
    cases z with
    | ok x s => exact .inl ⟨x, s, rfl, h⟩
    | ex x s =>
      cases h
      exact .inr ⟨x, s, rfl, rfl⟩
@[simp] theorem bindB_nx : bindB (some (.nx e s)) g = g e s := rfl
@[simp] theorem bindB_rt : bindB (some (.rt r s)) g = some (.rt r s) := rfl
@[simp] theorem bindB_bk : bindB (some (.bk e s)) g = some (.bk e s) := rfl
@[simp] theorem bindB_ct : bindB (some (.ct e s)) g = some (.ct e s) := rfl
@[simp] theorem bindB_ex : bindB (some (.ex x e s)) g = some (.ex x e s) := rfl
@[simp] theorem bindB_no : bindB none g = none := rfl
theorem bindB_ite {c : Prop} [Decidable c] {x y : Option OutB} : bindB (if c then x else y) g = if c then bindB x g else bindB y g := by split <;> rfl
@[simp] theorem turnB_nx : turnB (some (.nx e s)) g = g e s := rfl
@[simp] theorem turnB_ct : turnB (some (.ct e s)) g = g e s := rfl
@[simp] theorem turnB_bk : turnB (some (.bk e s)) g = some (.nx e s) := rfl
@[simp] theorem turnB_rt : turnB (some (.rt r s)) g = some (.rt r s) := rfl
@[simp] theorem turnB_ex : turnB (some (.ex x e s)) g = some (.ex x e s) := rfl
@[simp] theorem turnB_no : turnB none g = none := rfl
theorem turnB_ite {c : Prop} [Decidable c] {x y : Option OutB} : turnB (if c then x else y) g = if c then turnB x g else turnB y g := by split <;> rfl
end
@[simp] def fNext : BF := fun env s => some (.nx env s)
@[simp] def fSeq (f g : BF) : BF := fun env s => bindB (f env s) g
@[simp] def fRet (f : BE) : BF := fun env s => bS (f env s) env fun a s1 => some (.rt a s1)
@[simp] def fRetN : BF := fun _ s => some (.rt (.d .none) s)
@[simp] def fBreak : BF := fun env s => some (.bk env s)
@[simp] def fCont : BF := fun env s => some (.ct env s)
@[simp] def fIf (c : BT) (f g : BF) : BF := fun env s => bS (c env s) env fun b s1 => if b = true then f env s1 else g env s1
@[simp] def fSet (i : Nat) (f : BE) : BF := fun env s => bS (f env s) env fun a s1 => some (.nx (env.set i (.v a)) s1)
@[simp] def fDrop (f : BE) : BF := fun env s => bS (f env s) env fun _ s1 => some (.nx env s1)
@[simp] def fAsg (g : BG) (f : BE) : BF := fun env s => bS (f env s) env fun a s1 => (g a env s1).bind fun e => some (.nx e s1)
/-- slots are frozen -/
@[simp] def fFrz (i : Nat) (f : BF) : BF := fun env s => match env[i]? with
  | some (.v a) => (frz s a).bind fun s1 => (avD s1 a).bind fun d => f (env.set i (.v (.d d))) s1
  | _ => f env s
noncomputable def pushC (s : Sto) (c : Ce) (a : AV) : Option Ce := match c with
  | .ld ds => match avD s a with
    | some d => if Fits (ds.length + 1) then some (.ld (ds ++ [d])) else none
    | none => if Fits (ds.length + 1) then some (.lst (ds.map .d ++ [a])) else none
  | .lst vs => if Fits (vs.length + 1) then some (.lst (vs ++ [a])) else none
  | _ => none
def isLst (s : Sto) (k : Nat) : Bool := match s[k]? with
  | some (.ld _) => true
  | some (.lst _) => true
  | _ => false
@[simp] noncomputable def bAppend (fo fe : BE) : BE := fun env s => bB (fo env s) fun o s1 => match o with
  | .c k => if isLst s1 k = true then bB (fe env s1) fun a s2 => (s2[k]?).bind fun c => (pushC s2 c a).bind fun c2 => some (.ok (.d .none) (s2.set k c2)) else none
  | _ => none
def putC (s : Sto) (c : Ce) (j : Int) (a : AV) : Option Ce := match c with
  | .ld ds => (ixN ds.length j).bind fun m => match avD s a with
    | some d => some (.ld (ds.set m d))
    | none => some (.lst ((ds.map .d).set m a))
  | .lst vs => (ixN vs.length j).bind fun m => some (.lst (vs.set m a))
  | _ => none
@[simp] def fPut (fo fi fe : BE) : BF := fun env s => bS (fe env s) env fun a s1 => bS (fo env s1) env fun o s2 => bS (fi env s2) env fun k s3 => match o, k with
  | .c i, .d (.int j) => (s3[i]?).bind fun c => (putC s3 c j a).bind fun c2 => some (.nx env (s3.set i c2))
  | _, _ => none
/-- the last item goes -/
@[simp] def bPop (fo : BE) : BE := fun env s => bB (fo env s) fun o s1 => match o with
  | .c k => match s1[k]? with
    | some (.ld ds) => (ds[ds.length - 1]?).bind fun d => some (.ok (.d d) (s1.set k (.ld ds.dropLast)))
    | some (.lst vs) => (vs[vs.length - 1]?).bind fun d => some (.ok d (s1.set k (.lst vs.dropLast)))
    | _ => none
  | _ => none
@[simp] noncomputable def bPopAt (fo fk : BE) : BE := fun env s => bB (fo env s) fun o s1 => match o with
  | .c i => if isLst s1 i = true then bB (fk env s1) fun k s2 => match k with
    | .d (.int k) => if InR k then match s2[i]? with
        | some (.ld ds) => (ixN ds.length k).bind fun j => (ds[j]?).bind fun d => some (.ok (.d d) (s2.set i (.ld (ds.eraseIdx j))))
        | some (.lst vs) => (ixN vs.length k).bind fun j => (vs[j]?).bind fun d => some (.ok d (s2.set i (.lst (vs.eraseIdx j))))
        | _ => none
      else none
    | _ => none
    else none
  | _ => none
@[simp] def bClear (fo : BE) : BE := fun env s => bB (fo env s) fun o s1 => match o with
  | .c k => if isLst s1 k = true then some (.ok (.d .none) (s1.set k (.ld []))) else none
  | _ => none
noncomputable def extC (s : Sto) (c d : Ce) : Option Ce := match c, d with
  | .ld ds, .ld es => if Fits (ds.length + es.length) then some (.ld (ds ++ es)) else none
  | .lst vs, .ld es => if Fits (vs.length + es.length) then some (.lst (vs ++ es.map .d)) else none
  | .ld ds, .lst us => if Fits (ds.length + us.length) then some (.lst (ds.map .d ++ us)) else none
  | .lst vs, .lst us => if Fits (vs.length + us.length) then some (.lst (vs ++ us)) else none
  | _, _ => none
@[simp] noncomputable def bExtend (fo fe : BE) : BE := fun env s => bB (fo env s) fun o s1 => match o with
  | .c k => if isLst s1 k = true then bB (fe env s1) fun a s2 => match a with
    | .c j => (s2[k]?).bind fun c => (s2[j]?).bind fun d => (extC s2 c d).bind fun c2 => some (.ok (.d .none) (s2.set k c2))
    | _ => none
    else none
  | _ => none
@[simp] def fPar (i j : Nat) (t : BA) : BF := fun env s => bS (t env s) env fun as s1 => match as with
  | [a, b] => some (.nx ((env.set i (.v a)).set j (.v b)) s1)
  | _ => none
@[simp] def fPar3 (i j l : Nat) (t : BA) : BF := fun env s => bS (t env s) env fun as s1 => match as with
  | [a, b, c] => some (.nx (((env.set i (.v a)).set j (.v b)).set l (.v c)) s1)
  | _ => none
/-- x += e, of data -/
@[simp] def fAug (i : Nat) (g : PyData → PyData → Option R) (f : BE) : BF := fun env s => match env[i]? with
  | some (.v a) => bS (f env s) env fun b s1 => bS (opR s1 [a, b] (g2 g)) env fun r s2 => some (.nx (env.set i (.v r)) s2)
  | _ => none
section
variable {mg : Str → Option Value} {K : PySem.W.Frag} {w : World} {W : WX} {ec : EC} {F0 H0 F H F1 H1 : Hp} {α α1 : Adr} {σ : L2.St} {env : Ev} {s s1 : Sto} {n : Nat}
theorem EndB.on {D : Ends} {o : OutB} {n' : Nat} (p : Pg F α n F1 α1 n') (h : EndB mg K w W ec F0 H0 F α n D o) : EndB mg K w W ec F0 H0 F1 α1 n' D o := by
  cases o with
  | nx env s' => exact fun F' H' α' σ' p' R L => h F' H' α' σ' (p.trans p') R L
  | rt a s' => exact fun F' H' α' x p' R r => h F' H' α' x (p.trans p') R r
  | bk env s' => exact fun F' H' α' σ' p' R L => h F' H' α' σ' (p.trans p') R L
  | ct env s' => exact fun F' H' α' σ' p' R L => h F' H' α' σ' (p.trans p') R L
  | ex e env s' => exact fun F' H' α' σ' cls d p' R L xx => h F' H' α' σ' cls d (p.trans p') R L xx
theorem exOfB {x : Xn} {s' : Sto} {D : Ends} (L : Lo mg K ec F α n σ env) (q : EndB mg K w W ec F0 H0 F α n D (.ex x env s')) : ExB mg K w W F0 H0 F α n σ x s' := fun F' H' α' cls d p R xx => q F' H' α' σ cls d p R (L.mono p) xx
theorem dsb_next : DSB mg K w W ec tNext fNext := fun F0 H0 F H α σ env s o R L e D q => by
  cases e
  exact q F H α σ .refl R L
theorem dsb_seq {t u : TS} {f g : BF} (h1 : DSB mg K w W ec t f) (h2 : DSB mg K w W ec u g) : DSB mg K w W ec (tSeq t u) (fSeq f g) := fun F0 H0 F H α σ env s o R L e D q => by
  unfold fSeq at e
  cases e1 : f env s with
  | none =>
    rw [e1, bindB_no] at e
    cases e
  | some o1 =>
    rw [e1] at e
    refine h1 F0 H0 F H α σ env s o1 R L e1 _ ?_
    cases o1 with
    | nx env1 s1 => exact fun F1 H1 α1 σ1 p1 R1 L1 => h2 F0 H0 F1 H1 α1 σ1 env1 s1 o R1 L1 e D (q.on p1)
    | rt r w => cases e; exact q
    | bk env1 s1 => cases e; exact q
    | ct env1 s1 => cases e; exact q
    | ex x e1 s1 => cases e; exact q
theorem dsb_ret {te : TE} {f : BE} (h : DEB mg K w W ec te f) : DSB mg K w W ec (tRet te) (fRet f) := fun F0 H0 F H α σ env s o R L e D q => by
  rcases bSd e with ⟨a, s1, ea, e⟩ | ⟨x, s1, ea, rfl⟩
  case inr => exact h F0 H0 F H α σ env s _ R L ea _ (exOfB L q)
  cases e
  exact h F0 H0 F H α σ env s _ R L ea _ q
theorem dsb_retN : DSB mg K w W ec tRetN fRetN := fun F0 H0 F H α σ env s o R L e D q => by
  cases e
  exact q F H α _ .refl R .non
theorem dsb_break : DSB mg K w W ec tBreak fBreak := fun F0 H0 F H α σ env s o R L e D q => by
  cases e
  exact q F H α σ .refl R L
theorem dsb_cont : DSB mg K w W ec tCont fCont := fun F0 H0 F H α σ env s o R L e D q => by
  cases e
  exact q F H α σ .refl R L
theorem dsb_if {c : TT} {t u : TS} {b : BT} {f g : BF} (hc : DTB mg K w W ec c b) (h1 : DSB mg K w W ec t f) (h2 : DSB mg K w W ec u g) : DSB mg K w W ec (tIfS c t u) (fIf b f g) := fun F0 H0 F H α σ env s o R L e D q => by
  rcases bSd e with ⟨a, s1, ea, e⟩ | ⟨x, s1, ea, rfl⟩
  case inr => exact hc F0 H0 F H α σ env s _ R L ea _ (exOfB L q)
  refine hc.run R L ea fun F1 H1 α1 p1 R1 L1 => ?_
  cases a with
  | true => exact iteT (h1 F0 H0 F1 H1 α1 σ env s1 o R1 L1 e D (q.on p1))
  | false => exact iteF (h2 F0 H0 F1 H1 α1 σ env s1 o R1 L1 e D (q.on p1))
theorem dsb_set {te : TE} {f : BE} {i : Nat} (h : DEB mg K w W ec te f) : DSB mg K w W ec (tAsg te (gName i)) (fSet i f) := fun F0 H0 F H α σ env s o R L e D q => by
  rcases bSd e with ⟨a, s1, ea, e⟩ | ⟨x, s1, ea, rfl⟩
  case inr => exact h F0 H0 F H α σ env s _ R L ea _ (exOfB L q)
  cases e
  exact h.run R L ea fun F1 H1 α1 x p1 R1 r1 L1 => q F1 H1 α1 _ p1 R1 (L1.set r1)
theorem dsb_drop {te : TE} {f : BE} (h : DEB mg K w W ec te f) : DSB mg K w W ec (tDrop te) (fDrop f) := fun F0 H0 F H α σ env s o R L e D q => by
  rcases bSd e with ⟨a, s1, ea, e⟩ | ⟨x, s1, ea, rfl⟩
  case inr => exact h F0 H0 F H α σ env s _ R L ea _ (exOfB L q)
  cases e
  exact h.run R L ea fun F1 H1 α1 x p1 R1 r1 L1 => q F1 H1 α1 _ p1 R1 L1
theorem dsb_asg {te : TE} {f : BE} {t : TG} {g : BG} {ws : List Nat} (h : DEB mg K w W ec te f) (hg : DGB mg K w ec ws t g) : DSB mg K w W ec (tAsg te t) (fAsg g f) := fun F0 H0 F H α σ env s o R L e D q => by
  rcases bSd e with ⟨a, s1, ea, e⟩ | ⟨x, s1, ea, rfl⟩
  case inr => exact h F0 H0 F H α σ env s _ R L ea _ (exOfB L q)
  obtain ⟨e2, ee, e⟩ := bnd e
  cases e
  exact h.run R L ea fun F1 H1 α1 x p1 R1 r1 L1 => hg F0 H0 F1 H1 α1 σ env e2 s1 x a R1 L1 r1 ee _ fun σ2 L2 _ => q F1 H1 α1 σ2 p1 R1 L2
theorem dsb_frz {t : TS} {f : BF} {i : Nat} (h : DSB mg K w W ec t f) : DSB mg K w W ec t (fFrz i f) := fun F0 H0 F H α σ env s o R L e D q => by
  unfold fFrz at e
  split at e
  · rename_i a ha
    obtain ⟨s1, e1, e⟩ := bnd e
    obtain ⟨d, ed, e⟩ := bnd e
    obtain ⟨F1, p1, R1, l1⟩ := frz_ok R e1
    obtain ⟨x, hx, rx⟩ := L.var ha
    exact h F0 H0 F1 H α σ _ s1 o R1 ((L.mono p1).re hx (a := .d d) (avD_ok R1 (rx.mono p1) ed)) e D (q.on p1)
  · exact h F0 H0 F H α σ env s o R L e D q
theorem pushC_ok {k : Nat} {c c2 : Ce} {a : AV} {x : V} (R : Rl K w F0 H0 F H α s) (e : s[k]? = some c) (r : AVR K F α s.length x a) (ep : pushC s c a = some c2) : ∃ xs, H (α k) = some (.lst xs) ∧ xs.length < sizeLine ∧ Rl K w F0 H0 F (upd H (α k) (.lst (xs ++ [x]))) α (s.set k c2) := by
  have lt : ∀ {m : Nat}, Fits (m + 1) → m < sizeLine := fun h => Nat.lt_of_lt_of_le h (by decide)
  cases c with
  | ld ds =>
    obtain ⟨h1, xs, h2, h3⟩ := R.ob k _ e
    unfold pushC at ep
    dsimp only at ep
    split at ep
    · rename_i d hd
      split at ep
      case isFalse => cases ep
      rename_i hf
      cases ep
      exact ⟨xs, h2, by rw [DpAll.len h3]; exact lt hf, R.put e h1 ⟨h1, _, upd_same, DpAll.app h3 (.cons (avD_ok R r hd) .nil)⟩⟩
    · split at ep
      case isFalse => cases ep
      rename_i hf
      cases ep
      exact ⟨xs, h2, by rw [DpAll.len h3]; exact lt hf, R.put e h1 ⟨h1, _, upd_same, (AVRs.ofD h3).app (.cons r .nil)⟩⟩
  | lst vs =>
    obtain ⟨h1, xs, h2, h3⟩ := R.ob k _ e
    unfold pushC at ep
    dsimp only at ep
    split at ep
    case isFalse => cases ep
    rename_i hf
    cases ep
    exact ⟨xs, h2, by rw [h3.len]; exact lt hf, R.put e h1 ⟨h1, _, upd_same, h3.app (.cons r .nil)⟩⟩
  | tup vs => cases ep
  | set ks => cases ep
  | frz d => cases ep
theorem isLst_ok {k : Nat} (R : Rl K w F0 H0 F H α s) (h : isLst s k = true) : k < s.length ∧ ∃ xs, H (α k) = some (.lst xs) := by
  unfold isLst at h
  split at h
  · rename_i hs
    obtain ⟨_, xs, h2, _⟩ := R.ob k _ hs
    exact ⟨(List.getElem?_eq_some_iff.mp hs).1, xs, h2⟩
  · rename_i hs
    obtain ⟨_, xs, h2, _⟩ := R.ob k _ hs
    exact ⟨(List.getElem?_eq_some_iff.mp hs).1, xs, h2⟩
  · cases h
theorem PgSet {k : Nat} {c : Ce} : Pg F α s.length F α (s.set k c).length := by rw [List.length_set]; exact .refl
theorem deb_append {to te : TE} {fo fe : BE} (ho : DEB mg K w W ec to fo) (he : DEB mg K w W ec te fe) : DEB mg K w W ec (tBM K "list" rAppend to (tCons te tNil)) (bAppend fo fe) := fun F0 H0 F H α σ env s ans R L e Q q => by
  rcases bBd e with ⟨o, s1, ea, e⟩ | ⟨x, s1, ea, rfl⟩
  case inr => exact ho F0 H0 F H α σ env s _ R L ea _ q
  split at e
  case h_2 => cases e
  rename_i k
  split at e
  case isFalse => cases e
  rename_i hl
  refine ho.run R L ea fun F1 H1 α1 x p1 R1 r1 L1 => ?_
  obtain ⟨_, xs, hx⟩ := isLst_ok R1 hl
  rw [r1.2]
  refine ⟨.inl ⟨rfl, _, .inl (.inl hx)⟩, ?_⟩
  rcases bBd e with ⟨a, s2, eb, e⟩ | ⟨y, s2, eb, rfl⟩
  case inr => exact he F0 H0 F1 H1 α1 σ env s1 _ R1 L1 eb _ (ExB.on p1 q)
  obtain ⟨c, ec1, e⟩ := bnd e
  obtain ⟨c2, ec2, e⟩ := bnd e
  cases e
  refine he.run R1 L1 eb fun F2 H2 α2 y p2 R2 r2 L2 => ?_
  obtain ⟨xs2, h1, h2, h3⟩ := pushC_ok R2 ec1 r2 ec2
  exact ⟨α1 k, xs2, y, rfl, rfl, by rw [← p2.a k r1.1]; exact h1, h2, q F2 _ α2 _ ((p1.trans p2).trans PgSet) (by rw [← p2.a k r1.1]; exact h3) .non⟩
theorem putC_ok {k : Nat} {c c2 : Ce} {j : Int} {a : AV} {x : V} (R : Rl K w F0 H0 F H α s) (e : s[k]? = some c) (r : AVR K F α s.length x a) (ep : putC s c j a = some c2) : ∃ xs m, H (α k) = some (.lst xs) ∧ ixN xs.length j = some m ∧ Rl K w F0 H0 F (upd H (α k) (.lst (xs.set m x))) α (s.set k c2) := by
  cases c with
  | ld ds =>
    obtain ⟨h1, xs, h2, h3⟩ := R.ob k _ e
    obtain ⟨m, em, ep⟩ := bnd ep
    split at ep
    · rename_i d hd
      cases ep
      exact ⟨xs, m, h2, by rw [DpAll.len h3]; exact em, R.put e h1 ⟨h1, _, upd_same, DpAll.set m h3 (avD_ok R r hd)⟩⟩
    · cases ep
      exact ⟨xs, m, h2, by rw [DpAll.len h3]; exact em, R.put e h1 ⟨h1, _, upd_same, (AVRs.ofD h3).set m r⟩⟩
  | lst vs =>
    obtain ⟨h1, xs, h2, h3⟩ := R.ob k _ e
    obtain ⟨m, em, ep⟩ := bnd ep
    cases ep
    exact ⟨xs, m, h2, by rw [h3.len]; exact em, R.put e h1 ⟨h1, _, upd_same, h3.set m r⟩⟩
  | tup vs => cases ep
  | set ks => cases ep
  | frz d => cases ep
theorem dsb_put {te to ti : TE} {fe fo fi : BE} (hv : DEB mg K w W ec te fe) (ho : DEB mg K w W ec to fo) (hi : DEB mg K w W ec ti fi) : DSB mg K w W ec (tAsg te (L2.gSub to ti rSetL)) (fPut fo fi fe) := fun F0 H0 F H α σ env s out R L e D q => by
  rcases bSd e with ⟨a, s1, ea, e⟩ | ⟨x, s1, ea, rfl⟩
  case inr => exact hv F0 H0 F H α σ env s _ R L ea _ (exOfB L q)
  refine hv.run R L ea fun F1 H1 α1 x p1 R1 r1 L1 => ?_
  rcases bSd e with ⟨o, s2, eo, e⟩ | ⟨y, s2, eo, rfl⟩
  case inr => exact ho F0 H0 F1 H1 α1 σ env s1 _ R1 L1 eo _ (exOfB L1 (q.on p1))
  refine ho.run R1 L1 eo fun F2 H2 α2 y p2 R2 r2 L2 => ?_
  rcases bSd e with ⟨k, s3, ek, e⟩ | ⟨z, s3, ek, rfl⟩
  case inr => exact hi F0 H0 F2 H2 α2 σ env s2 _ R2 L2 ek _ (exOfB L2 (q.on (p1.trans p2)))
  refine hi.run R2 L2 ek fun F3 H3 α3 z p3 R3 r3 L3 => ?_
  have r2 := r2.mono p3
  have r1 := (r1.mono p2).mono p3
  split at e
  case h_2 => cases e
  obtain ⟨c, ec1, e⟩ := bnd e
  obtain ⟨c2, ec2, e⟩ := bnd e
  cases e
  obtain ⟨xs, m, h1, h2, h3⟩ := putC_ok R3 ec1 r1 ec2
  exact ⟨_, xs, _, m, r2.2, dp_int r3, h1, h2, q F3 _ α3 σ (((p1.trans p2).trans p3).trans PgSet) h3 (by rw [List.length_set]; exact L3)⟩
theorem AVRs.dropLast {xs : List V} {as : List AV} (h : AVRs K F α n xs as) : AVRs K F α n xs.dropLast as.dropLast := by
  rw [List.dropLast_eq_take, List.dropLast_eq_take, h.len]
  exact h.take _
theorem deb_pop {to : TE} {fo : BE} (ho : DEB mg K w W ec to fo) : DEB mg K w W ec (tBM0 K "list" rPop to) (bPop fo) := fun F0 H0 F H α σ env s ans R L e Q q => by
  rcases bBd e with ⟨o, s1, ea, e⟩ | ⟨x, s1, ea, rfl⟩
  case inr => exact ho F0 H0 F H α σ env s _ R L ea _ q
  split at e
  case h_2 => cases e
  rename_i k
  refine ho.run R L ea fun F1 H1 α1 x p1 R1 r1 L1 => ?_
  rw [r1.2]
  split at e
  · rename_i ds hs
    obtain ⟨d, ed, e⟩ := bnd e
    cases e
    obtain ⟨h1, xs, h2, h3⟩ := R1.ob k _ hs
    obtain ⟨v, hv, dv⟩ := DpAll.get h3 ed
    rw [← DpAll.len h3] at hv
    exact ⟨.inl ⟨rfl, _, .inl (.inl h2)⟩, _, xs, v, rfl, rfl, h2, hv, q F1 _ α1 _ (p1.trans PgSet) (R1.put (q := .ld ds.dropLast) hs h1 ⟨h1, _, upd_same, DpAll.dropLast h3⟩) dv⟩
  · rename_i vs hs
    obtain ⟨d, ed, e⟩ := bnd e
    cases e
    obtain ⟨h1, xs, h2, h3⟩ := R1.ob k _ hs
    obtain ⟨v, hv, dv⟩ := h3.get ed
    rw [← h3.len] at hv
    exact ⟨.inl ⟨rfl, _, .inl (.inl h2)⟩, _, xs, v, rfl, rfl, h2, hv, q F1 _ α1 _ (p1.trans PgSet) (R1.put (q := .lst vs.dropLast) hs h1 ⟨h1, _, upd_same, h3.dropLast⟩) (dv.mono PgSet)⟩
  · cases e
theorem deb_popAt {to tk : TE} {fo fk : BE} (ho : DEB mg K w W ec to fo) (hk : DEB mg K w W ec tk fk) : DEB mg K w W ec (tBM K "list" rPopAt to (tCons tk tNil)) (bPopAt fo fk) := fun F0 H0 F H α σ env s ans R L e Q q => by
  rcases bBd e with ⟨o, s1, ea, e⟩ | ⟨x, s1, ea, rfl⟩
  case inr => exact ho F0 H0 F H α σ env s _ R L ea _ q
  split at e
  case h_2 => cases e
  rename_i i
  split at e
  case isFalse => cases e
  rename_i hl
  refine ho.run R L ea fun F1 H1 α1 x p1 R1 r1 L1 => ?_
  obtain ⟨_, xs, hx⟩ := isLst_ok R1 hl
  rw [r1.2]
  refine ⟨.inl ⟨rfl, _, .inl (.inl hx)⟩, ?_⟩
  rcases bBd e with ⟨k, s2, eb, e⟩ | ⟨y, s2, eb, rfl⟩
  case inr => exact hk F0 H0 F1 H1 α1 σ env s1 _ R1 L1 eb _ (ExB.on p1 q)
  split at e
  case h_2 => cases e
  rename_i k
  split at e
  case isFalse => cases e
  rename_i hr
  refine hk.run R1 L1 eb fun F2 H2 α2 y p2 R2 r2 L2 => ?_
  have ea2 : α2 i = α1 i := p2.a i r1.1
  have hr1 := hr.1
  have hr2 := hr.2
  rw [dp_int r2]
  split at e
  · rename_i ds hs
    obtain ⟨j, ej, e⟩ := bnd e
    obtain ⟨d, ed, e⟩ := bnd e
    cases e
    obtain ⟨h1, xs, h2, h3⟩ := R2.ob i _ hs
    obtain ⟨v, hv, dv⟩ := DpAll.get h3 ed
    obtain ⟨sq, _, _, _⟩ := ixN_seq ej
    rw [← DpAll.len h3] at sq
    exact ⟨α1 i, xs, k, j, v, rfl, rfl, by rw [← ea2]; exact h2, by omega, by omega, sq, hv, q F2 _ α2 _ ((p1.trans p2).trans PgSet) (by rw [← ea2]; exact R2.put (q := .ld (ds.eraseIdx j)) hs h1 ⟨h1, _, upd_same, DpAll.erase j h3⟩) dv⟩
  · rename_i vs hs
    obtain ⟨j, ej, e⟩ := bnd e
    obtain ⟨d, ed, e⟩ := bnd e
    cases e
    obtain ⟨h1, xs, h2, h3⟩ := R2.ob i _ hs
    obtain ⟨v, hv, dv⟩ := h3.get ed
    obtain ⟨sq, _, _, _⟩ := ixN_seq ej
    rw [← h3.len] at sq
    exact ⟨α1 i, xs, k, j, v, rfl, rfl, by rw [← ea2]; exact h2, by omega, by omega, sq, hv, q F2 _ α2 _ ((p1.trans p2).trans PgSet) (by rw [← ea2]; exact R2.put (q := .lst (vs.eraseIdx j)) hs h1 ⟨h1, _, upd_same, h3.erase j⟩) (dv.mono PgSet)⟩
  · cases e
theorem deb_clear {to : TE} {fo : BE} (ho : DEB mg K w W ec to fo) : DEB mg K w W ec (tBM0 K "list" rClear to) (bClear fo) := fun F0 H0 F H α σ env s ans R L e Q q => by
  rcases bBd e with ⟨o, s1, ea, e⟩ | ⟨x, s1, ea, rfl⟩
  case inr => exact ho F0 H0 F H α σ env s _ R L ea _ q
  split at e
  case h_2 => cases e
  rename_i k
  split at e
  case isFalse => cases e
  rename_i hl
  cases e
  refine ho.run R L ea fun F1 H1 α1 x p1 R1 r1 L1 => ?_
  rw [r1.2]
  have key : ∃ c xs, s1[k]? = some c ∧ F1 (α1 k) = none ∧ H1 (α1 k) = some (.lst xs) := by
    unfold isLst at hl
    split at hl
    · rename_i hs
      obtain ⟨h1, xs, h2, _⟩ := R1.ob k _ hs
      exact ⟨_, xs, hs, h1, h2⟩
    · rename_i hs
      obtain ⟨h1, xs, h2, _⟩ := R1.ob k _ hs
      exact ⟨_, xs, hs, h1, h2⟩
    · cases hl
  obtain ⟨c, xs, hs, h1, h2⟩ := key
  exact ⟨.inl ⟨rfl, _, .inl (.inl h2)⟩, _, xs, rfl, rfl, h2, q F1 _ α1 _ (p1.trans PgSet) (R1.put (q := .ld []) hs h1 ⟨h1, _, upd_same, .nil⟩) .non⟩
theorem extC_ok {k j : Nat} {c d c2 : Ce} (R : Rl K w F0 H0 F H α s) (e : s[k]? = some c) (e2 : s[j]? = some d) (ep : extC s c d = some c2) : ∃ xs zs, H (α k) = some (.lst xs) ∧ H (α j) = some (.lst zs) ∧ xs.length + zs.length ≤ sizeLine ∧ Rl K w F0 H0 F (upd H (α k) (.lst (xs ++ zs))) α (s.set k c2) := by
  unfold extC at ep
  split at ep
  · split at ep
    case isFalse => cases ep
    rename_i hf
    cases ep
    obtain ⟨h1, xs, h2, h3⟩ := R.ob k _ e
    obtain ⟨h4, zs, h5, h6⟩ := R.ob j _ e2
    exact ⟨xs, zs, h2, h5, by rw [DpAll.len h3, DpAll.len h6]; exact szL hf, R.put e h1 ⟨h1, _, upd_same, DpAll.app h3 h6⟩⟩
  · split at ep
    case isFalse => cases ep
    rename_i hf
    cases ep
    obtain ⟨h1, xs, h2, h3⟩ := R.ob k _ e
    obtain ⟨h4, zs, h5, h6⟩ := R.ob j _ e2
    exact ⟨xs, zs, h2, h5, by rw [h3.len, DpAll.len h6]; exact szL hf, R.put e h1 ⟨h1, _, upd_same, h3.app (.ofD h6)⟩⟩
  · split at ep
    case isFalse => cases ep
    rename_i hf
    cases ep
    obtain ⟨h1, xs, h2, h3⟩ := R.ob k _ e
    obtain ⟨h4, zs, h5, h6⟩ := R.ob j _ e2
    exact ⟨xs, zs, h2, h5, by rw [DpAll.len h3, h6.len]; exact szL hf, R.put e h1 ⟨h1, _, upd_same, (AVRs.ofD h3).app h6⟩⟩
  · split at ep
    case isFalse => cases ep
    rename_i hf
    cases ep
    obtain ⟨h1, xs, h2, h3⟩ := R.ob k _ e
    obtain ⟨h4, zs, h5, h6⟩ := R.ob j _ e2
    exact ⟨xs, zs, h2, h5, by rw [h3.len, h6.len]; exact szL hf, R.put e h1 ⟨h1, _, upd_same, h3.app h6⟩⟩
  · cases ep
theorem deb_extend {to te : TE} {fo fe : BE} (ho : DEB mg K w W ec to fo) (he : DEB mg K w W ec te fe) : DEB mg K w W ec (tBM K "list" rExtend to (tCons te tNil)) (bExtend fo fe) := fun F0 H0 F H α σ env s ans R L e Q q => by
  rcases bBd e with ⟨o, s1, ea, e⟩ | ⟨x, s1, ea, rfl⟩
  case inr => exact ho F0 H0 F H α σ env s _ R L ea _ q
  split at e
  case h_2 => cases e
  rename_i k
  split at e
  case isFalse => cases e
  rename_i hl
  refine ho.run R L ea fun F1 H1 α1 x p1 R1 r1 L1 => ?_
  obtain ⟨_, xs, hx⟩ := isLst_ok R1 hl
  rw [r1.2]
  refine ⟨.inl ⟨rfl, _, .inl (.inl hx)⟩, ?_⟩
  rcases bBd e with ⟨a, s2, eb, e⟩ | ⟨y, s2, eb, rfl⟩
  case inr => exact he F0 H0 F1 H1 α1 σ env s1 _ R1 L1 eb _ (ExB.on p1 q)
  split at e
  case h_2 => cases e
  rename_i j
  obtain ⟨c, ec1, e⟩ := bnd e
  obtain ⟨d, ed1, e⟩ := bnd e
  obtain ⟨c2, ec2, e⟩ := bnd e
  cases e
  refine he.run R1 L1 eb fun F2 H2 α2 y p2 R2 r2 L2 => ?_
  obtain ⟨xs2, zs, h1, h2, h3, h4⟩ := extC_ok R2 ec1 ed1 ec2
  have ea2 : α2 k = α1 k := p2.a k r1.1
  rw [r2.2]
  exact ⟨α1 k, α2 j, xs2, zs, rfl, rfl, by rw [← ea2]; exact h1, h2, h3, q F2 _ α2 _ ((p1.trans p2).trans PgSet) (by rw [← ea2]; exact h4) .non⟩
theorem dsb_par {i j : Nat} {t : TA} {af : BA} (h : DAB mg K w W ec t af) : DSB mg K w W ec (tPar i j t) (fPar i j af) := fun F0 H0 F H α σ env s o R L e D q => by
  rcases bSd e with ⟨as, s1, ea, e⟩ | ⟨x, s1, ea, rfl⟩
  case inr => exact h F0 H0 F H α σ env s _ R L ea _ (exOfB L q)
  split at e
  case h_2 => cases e
  cases e
  refine h.run R L ea fun F1 H1 α1 xs p1 R1 r1 L1 => ?_
  cases r1 with
  | cons h1 r =>
    cases r with
    | cons h2 r =>
      cases r
      exact ⟨_, _, rfl, q F1 H1 α1 _ p1 R1 ((L1.set h1).set h2)⟩
theorem dsb_par3 {i j l : Nat} {t : TA} {af : BA} (h : DAB mg K w W ec t af) : DSB mg K w W ec (tPar3 i j l t) (fPar3 i j l af) := fun F0 H0 F H α σ env s o R L e D q => by
  rcases bSd e with ⟨as, s1, ea, e⟩ | ⟨x, s1, ea, rfl⟩
  case inr => exact h F0 H0 F H α σ env s _ R L ea _ (exOfB L q)
  split at e
  case h_2 => cases e
  cases e
  refine h.run R L ea fun F1 H1 α1 xs p1 R1 r1 L1 => ?_
  cases r1 with
  | cons h1 r =>
    cases r with
    | cons h2 r =>
      cases r with
      | cons h3 r =>
        cases r
        exact ⟨_, _, _, rfl, q F1 H1 α1 _ p1 R1 (((L1.set h1).set h2).set h3)⟩
theorem dsb_aug {i : Nat} {te : TE} {f : BE} {r : R2} {g : PyData → PyData → Option R} (hr : RVD K r g) (h : DEB mg K w W ec te f) : DSB mg K w W ec (tAug i te r) (fAug i g f) := fun F0 H0 F H α σ env s o R L e D q => by
  unfold fAug at e
  split at e
  case h_2 => cases e
  rename_i a ha
  obtain ⟨x, h1, h2⟩ := L.var ha
  refine ⟨x, h1, ?_⟩
  rcases bSd e with ⟨b, s1, ea, e⟩ | ⟨x', s1, ea, rfl⟩
  case inr => exact h F0 H0 F H α σ env s _ R L ea _ (exOfB L q)
  refine h.run R L ea fun F1 H1 α1 y p1 R1 r1 L1 => ?_
  have key : ∀ {Q : VK} {an : An AV}, opR s1 [a, b] (g2 g) = some an → EmB mg K w W F0 H0 F1 α1 s1.length σ Q an → r x y H1 Q := fun {Q an} e q => by
    exact opR_ok (r := fun vs H Q => ∃ x y, vs = [x, y] ∧ r x y H Q) (fun F H vs ds r' fh d e Q q => by
      unfold g2 at e
      split at e
      · rename_i u v
        cases d with
        | cons d1 d =>
          cases d with
          | cons d2 d =>
            cases d
            exact ⟨_, _, rfl, hr F H _ _ _ _ r' fh d1 d2 e Q q⟩
      · cases e) R1 (.cons (h2.mono p1) (.cons r1 .nil)) e q |> fun ⟨x', y', e, h⟩ => by
        cases e
        exact h
  rcases bSd e with ⟨z, s2, ez, e⟩ | ⟨x', s2, ez, rfl⟩
  case inr => exact key ez (exOfB L1 (q.on p1))
  cases e
  exact key ez fun F2 H2 α2 v p2 R2 r2 => q F2 H2 α2 _ (p1.trans p2) R2 ((L1.mono p2).set r2)
/-! ### loops -/
noncomputable def forB (key : Option Nat) (all : List AV) (g : BG) (body : BF) : List AV → BF
  | [], env, s => if okK key all s then some (.nx env s) else none
  | a :: as, env, s => if okK key all s then (g a env s).bind fun e1 => turnB (body e1 s) (forB key all g body as) else none
@[simp] noncomputable def fFor (it : BI) (g : BG) (body : BF) : BF := fun env s => bS (it env s) env fun p s1 => forB p.2 p.1 g body p.1 env s1
theorem forB_ok {key : Option Nat} {all as : List AV} {g : BG} {body : BF} {env : Ev} {s : Sto} {o : OutB} (h : forB key all g body as env s = some o) : okK key all s := by
  cases as with
  | nil =>
    unfold forB at h
    split at h
    · assumption
    · cases h
  | cons a r =>
    unfold forB at h
    split at h
    · assumption
    · cases h
theorem dsb_for {wi : TI} {it : BI} {t : TG} {g : BG} {ws : List Nat} {tb : TS} {body : BF} (hi : DIB mg K w W ec wi it) (hg : DGB mg K w ec ws t g) (hb : DSB mg K w W ec tb body) : DSB mg K w W ec (tFor wi t tb) (fFor it g body) := fun F0 H0 F H α σ env s o R L e D q => by
  rcases bSd e with ⟨pp, s0, ed, e⟩ | ⟨x, s1, ea, rfl⟩
  case inr => exact hi F0 H0 F H α σ env s _ R L ea _ (exOfB L q)
  obtain ⟨as, key⟩ := pp
  have e : forB key as g body as env s0 = some o := e
  refine hi F0 H0 F H α σ env s _ R L ed _ fun F1 H1 α1 J p1 R1 wk => ?_
  refine ⟨fun i m σ2 H2 => ∃ F2 α2 e2 s2, Pg F1 α1 s0.length F2 α2 s2.length ∧ Rl K w F0 H0 F2 H2 α2 s2 ∧ Lo mg K ec F2 α2 s2.length σ2 e2 ∧ forB key as g body (as.drop i) e2 s2 = some o ∧ i + m = as.length, ⟨as.length, F1, α1, env, s0, .refl, R1, L.mono p1, e, by omega⟩, ?_⟩
  rintro i m σ2 H2 ⟨F2, α2, e2, s2, P2, R2, L2, eq, em⟩
  have ok := forB_ok eq
  obtain ⟨wn, wg⟩ := wk i F0 H0 F2 H2 α2 s2 P2 R2 ok
  cases hd : as[i]? with
  | none =>
    have hl : as.length ≤ i := List.getElem?_eq_none_iff.mp hd
    rw [List.drop_eq_nil_of_le hl] at eq
    unfold forB at eq
    rw [if_pos ok] at eq
    cases eq
    exact .inl ⟨wn hd (show i = as.length by omega), q F2 H2 α2 σ2 (p1.trans P2) R2 L2⟩
  | some d =>
    obtain ⟨go, yl⟩ := wg d hd
    have hi : i < as.length := (List.getElem?_eq_some_iff.mp hd).1
    have hdr : as.drop i = d :: as.drop (i + 1) := by
      rw [List.drop_eq_getElem_cons hi]
      rw [List.getElem?_eq_getElem hi] at hd
      cases hd
      rfl
    rw [hdr] at eq
    unfold forB at eq
    rw [if_pos ok] at eq
    obtain ⟨e3, ee, eq⟩ := bnd eq
    refine .inr ⟨go, fun σ' H' => ∃ F' α' e' s', Pg F1 α1 s0.length F' α' s'.length ∧ Rl K w F0 H0 F' H' α' s' ∧ Lo mg K ec F' α' s'.length σ' e' ∧ forB key as g body (as.drop (i + 1)) e' s' = some o, fun σ' H' ⟨F', α', e', s', a, b, c, z⟩ => ⟨m - 1, by omega, F', α', e', s', a, b, c, z, by omega⟩, fun x H' hy => ?_⟩
    obtain ⟨F3, p3, R3, r3⟩ := yl x H' hy
    refine hg F0 H0 F3 H' α2 σ2 e2 e3 s2 x d R3 (L2.mono p3) r3 ee _ fun σ4 L4 _ => ?_
    have P3 := P2.trans p3
    cases eb : body e3 s2 with
    | none =>
      rw [eb, turnB_no] at eq
      cases eq
    | some ob =>
      rw [eb] at eq
      refine hb F0 H0 F3 H' α2 σ4 e3 s2 ob R3 L4 eb _ ?_
      cases ob with
      | nx e4 s4 => exact fun F5 H5 α5 σ5 p5 R5 L5 => ⟨F5, α5, e4, s4, P3.trans p5, R5, L5, eq⟩
      | ct e4 s4 => exact fun F5 H5 α5 σ5 p5 R5 L5 => ⟨F5, α5, e4, s4, P3.trans p5, R5, L5, eq⟩
      | bk e4 s4 =>
        rw [turnB_bk] at eq
        cases eq
        exact q.on (p1.trans P3)
      | rt r w =>
        rw [turnB_rt] at eq
        cases eq
        exact q.on (p1.trans P3)
      | ex x e4 s4 =>
        rw [turnB_ex] at eq
        cases eq
        exact q.on (p1.trans P3)
def whileB (c : BT) (body : BF) : Nat → BF
  | 0, _, _ => none
  | n + 1, env, s => bS (c env s) env fun b s1 => if b = true then turnB (body env s1) (whileB c body n) else some (.nx env s1)
theorem dsb_whileN {c : TT} {cf : BT} {tb : TS} {body : BF} (n : Nat) (hc : DTB mg K w W ec c cf) (hb : DSB mg K w W ec tb body) : DSB mg K w W ec (tWhile c tb) (whileB cf body n) := fun F0 H0 F H α σ env s o R L e D q => by
  refine ⟨fun m σ2 H2 => ∃ F2 α2 e2 s2, Pg F α s.length F2 α2 s2.length ∧ Rl K w F0 H0 F2 H2 α2 s2 ∧ Lo mg K ec F2 α2 s2.length σ2 e2 ∧ whileB cf body m e2 s2 = some o, ⟨n, F, α, env, s, .refl, R, L, e⟩, ?_⟩
  rintro m σ2 H2 ⟨F2, α2, e2, s2, P2, R2, L2, eq⟩
  cases m with
  | zero => cases eq
  | succ m =>
    rcases bSd eq with ⟨b, s3, eb, eq⟩ | ⟨x, s3, eb, rfl⟩
    case inr => exact hc F0 H0 F2 H2 α2 σ2 e2 s2 _ R2 L2 eb _ (exOfB L2 (q.on P2))
    refine hc.run R2 L2 eb fun F3 H3 α3 p3 R3 L3 => ?_
    have P3 := P2.trans p3
    cases b with
    | false =>
      cases eq
      exact iteF (q F3 H3 α3 σ2 P3 R3 L3)
    | true =>
      rw [if_pos rfl] at eq
      refine iteT ⟨fun σ' H' => ∃ F' α' e' s', Pg F α s.length F' α' s'.length ∧ Rl K w F0 H0 F' H' α' s' ∧ Lo mg K ec F' α' s'.length σ' e' ∧ whileB cf body m e' s' = some o, fun σ' H' w => ⟨m, Nat.lt_succ_self m, w⟩, ?_⟩
      cases ebd : body e2 s3 with
      | none =>
        rw [ebd, turnB_no] at eq
        cases eq
      | some ob =>
        rw [ebd] at eq
        refine hb F0 H0 F3 H3 α3 σ2 e2 s3 ob R3 L3 ebd _ ?_
        cases ob with
        | nx e4 s4 => exact fun F5 H5 α5 σ5 p5 R5 L5 => ⟨F5, α5, e4, s4, P3.trans p5, R5, L5, eq⟩
        | ct e4 s4 => exact fun F5 H5 α5 σ5 p5 R5 L5 => ⟨F5, α5, e4, s4, P3.trans p5, R5, L5, eq⟩
        | bk e4 s4 =>
          rw [turnB_bk] at eq
          cases eq
          exact q.on P3
        | rt r w =>
          rw [turnB_rt] at eq
          cases eq
          exact q.on P3
        | ex x e4 s4 =>
          rw [turnB_ex] at eq
          cases eq
          exact q.on P3
open Classical in
/-- as many turns as it takes -/
noncomputable def fWhile (c : BT) (body : BF) : BF := fun env s => if h : ∃ n o, whileB c body n env s = some o then whileB c body h.choose env s else none
theorem dsb_while {c : TT} {cf : BT} {tb : TS} {body : BF} (hc : DTB mg K w W ec c cf) (hb : DSB mg K w W ec tb body) : DSB mg K w W ec (tWhile c tb) (fWhile cf body) := fun F0 H0 F H α σ env s o R L e D q => by
  unfold fWhile at e
  split at e
  case isFalse => cases e
  exact dsb_whileN _ hc hb F0 H0 F H α σ env s o R L e D q
theorem whileB_mono {c : BT} {body : BF} : ∀ {n m : Nat} {env : Ev} {s : Sto} {o : OutB}, n ≤ m → whileB c body n env s = some o → whileB c body m env s = some o
  | 0, _, _, _, _, _, h => by cases h
  | n + 1, m, env, s, o, hm, h => by
    obtain ⟨k, rfl⟩ : ∃ k, m = k + 1 := ⟨m - 1, by omega⟩
    unfold whileB at h ⊢
    cases hc : c env s with
    | none => rw [hc] at h; cases h
    | some a =>
      rw [hc] at h
      cases a with
      | ex x e => exact h
      | ok b s1 =>
        rw [bS_ok] at h ⊢
        split at h
        · rename_i hb
          rw [if_pos hb]
          cases hbd : body env s1 with
          | none => rw [hbd] at h; cases h
          | some ob =>
            rw [hbd] at h
            cases ob with
            | nx e4 s4 => exact whileB_mono (by omega) h
            | ct e4 s4 => exact whileB_mono (by omega) h
            | bk e4 s4 => exact h
            | rt r w => exact h
            | ex x e4 s4 => exact h
        · rename_i hb
          rw [if_neg hb]
          exact h
theorem fWhile_eq {c : BT} {body : BF} {n : Nat} {env : Ev} {s : Sto} {o : OutB} (h : whileB c body n env s = some o) : fWhile c body env s = some o := by
  unfold fWhile
  have hx : ∃ n o, whileB c body n env s = some o := ⟨n, o, h⟩
  rw [dif_pos hx]
  obtain ⟨o', h'⟩ := hx.choose_spec
  rw [h']
  have h1 := whileB_mono (Nat.le_max_left n hx.choose) h
  have h2 := whileB_mono (Nat.le_max_right n hx.choose) h'
  rw [h1] at h2
  exact h2.symm
end
end Bn
/-! Bn6: the rules, construct by construct. -/
namespace Bn
open PySem PySem.Spec PyProof.Rows L2 Dn
structure SEB (X : Cx) (W : WX) (ec : EC) (e : Expr) (te : TE) (f : BE) : Prop where
  pe : Takes X W → PE X e te
  de : DEB X.mg X.K X.w W ec te f
structure STB (X : Cx) (W : WX) (ec : EC) (e : Expr) (tt : TT) (f : BT) : Prop where
  pt : Takes X W → PT X e tt
  dt : DTB X.mg X.K X.w W ec tt f
structure SWB (X : Cx) (W : WX) (ec : EC) (e : Expr) (tt : TT) (f : BT) : Prop where
  pw : Takes X W → PW X e tt
  dt : DTB X.mg X.K X.w W ec tt f
structure SAB (X : Cx) (W : WX) (ec : EC) (es : List Expr) (ta : TA) (f : BA) : Prop where
  pa : Takes X W → PA X es ta
  da : DAB X.mg X.K X.w W ec ta f
structure SKB (X : Cx) (W : WX) (ec : EC) (kws : List Keyword) (ta : TA) (f : BA) : Prop where
  pk : Takes X W → PK X kws ta
  da : DAB X.mg X.K X.w W ec ta f
structure SIB (X : Cx) (W : WX) (ec : EC) (tg iter : Expr) (wi : TI) (f : BI) : Prop where
  pi : Takes X W → PI X tg iter wi
  d : DIB X.mg X.K X.w W ec wi f
structure SGB (X : Cx) (ec : EC) (tg : Expr) (ws : List Nat) (t : TG) (g : BG) : Prop where
  pg : PG X tg t
  d : DGB X.mg X.K X.w ec ws t g
structure SGsB (X : Cx) (ec : EC) (ts : List Expr) (ws : List Nat) (t : TGs) (g : BGs) : Prop where
  pg : PGs X ts t
  d : DGsB X.mg X.K X.w ec ws t g
structure STsB (X : Cx) (W : WX) (ec : EC) (ifs : List Expr) (tt : TT) (f : BT) : Prop where
  pts : Takes X W → PTs X ifs tt
  dt : DTB X.mg X.K X.w W ec tt f
structure SSB (X : Cx) (W : WX) (ec : EC) (st : Stmt) (ts : TS) (f : BF) : Prop where
  ps : Takes X W → PassesOwn (model X.prog X.w) X.A X.env X.xe → PS X st ts
  ds : DSB X.mg X.K X.w W ec ts f
structure SSsB (X : Cx) (W : WX) (ec : EC) (st : List Stmt) (ts : TS) (f : BF) : Prop where
  ps : Takes X W → PassesOwn (model X.prog X.w) X.A X.env X.xe → PSs X st ts
  ds : DSB X.mg X.K X.w W ec ts f
theorem SWB.st {X : Cx} {W : WX} {ec : EC} {e : Expr} {tt : TT} {f : BT} (h : SWB X W ec e tt f) : STB X W ec e tt f := ⟨fun tk => (h.pw tk).pt, h.dt⟩
section
variable {X : Cx} {W : WX} {ec : EC} {e a b c o i : Expr} {es : List Expr} {pos p apos : Pos} {te ta tb tc : TE} {t : TA} {tt tu : TT} {f g h : BE} {af : BA} {u v : BT} {x y : Str}
theorem eb_p {fp : EF} (h1 : SE X e te fp) : SEB X W ec e te (bP fp) := ⟨fun _ => h1.pe, deb_p h1.de⟩
theorem eb_pk {fp : EF} (h1 : SE X e te fp) : SEB X W ec e te (bPk fp) := ⟨fun _ => h1.pe, deb_pk h1.de⟩
theorem tb_p {fp : TF} (h1 : ST X e tt fp) : STB X W ec e tt (bPT fp) := ⟨fun _ => h1.pt, dtb_p h1.dt⟩
theorem tb_pk {fp : TF} (h1 : ST X e tt fp) : STB X W ec e tt (bPkT fp) := ⟨fun _ => h1.pt, dtb_pk h1.dt⟩
theorem wb_p {fp : TF} (h1 : SW X e tt fp) : SWB X W ec e tt (bPT fp) := ⟨fun _ => h1.pw, dtb_p h1.dt⟩
theorem eb_var {j : Nat} (h1 : PE X e (tVar j)) : SEB X W ec e (tVar j) (bVar j) := ⟨fun _ => h1, deb_var⟩
theorem eb_fz (h1 : SEB X W ec e te f) : SEB X W ec e te (bFz f) := ⟨h1.pe, deb_fz h1.de⟩
theorem ab_nil : SAB X W ec [] tNil bNil := ⟨fun _ => pa_nil, dab_nil⟩
theorem ab_cons (h1 : SEB X W ec e te f) (h2 : SAB X W ec es t af) (hs : starEach (e :: es) X.env = (false, eval e X.env) :: starEach es X.env := by rfl) : SAB X W ec (e :: es) (tCons te t) (bCons f af) := ⟨fun tk => pa_cons (h1.pe tk) (h2.pa tk) hs, dab_cons h1.de h2.da⟩
theorem eb_tup {x1} (h1 : SAB X W ec es t af) : SEB X W ec (.Tuple es x1 pos) (tTup t) (bTup af) := ⟨fun tk => pe_tup (h1.pa tk), deb_tup h1.da⟩
theorem eb_lst (h1 : SAB X W ec es t af) : SEB X W ec (.List es pos) (tLst t) (bLst af) := ⟨fun tk => pe_lst (h1.pa tk), deb_lst h1.da⟩
theorem eb_ix {K : PySem.W.Frag} (h1 : SEB X W ec a ta f) (h2 : SEB X W ec b tb g) (hs : PlainIx b := by exact fun _ _ => rfl) (hK : X.K = K := by rfl) : SEB X W ec (.Subscript a b pos) (tOp (rIx K) ta tb) (bIx f g) := by
  subst hK
  exact ⟨fun tk => pe_ix ix_seq (h1.pe tk) (h2.pe tk) hs, deb_ix h1.de h2.de⟩
theorem eb_add {K : PySem.W.Frag} (h1 : SEB X W ec a ta f) (h2 : SEB X W ec b tb g) (hK : X.K = K := by rfl) : SEB X W ec (.BinOp a .Add b pos) (tOp (rAddG K) ta tb) (bBin gAdd f g) := by
  subst hK
  exact ⟨fun tk => pe_op op_addG (h1.pe tk) (h2.pe tk), deb_bin rv_add h1.de h2.de⟩
theorem eb_sub (h1 : SEB X W ec a ta f) (h2 : SEB X W ec b tb g) : SEB X W ec (.BinOp a .Sub b pos) (tOp (rI0 fun i j => .int (i - j)) ta tb) (bBin gSub f g) := ⟨fun tk => pe_op op_sub (h1.pe tk) (h2.pe tk), deb_bin rv_sub h1.de h2.de⟩
theorem eb_mul (h1 : SEB X W ec a ta f) (h2 : SEB X W ec b tb g) : SEB X W ec (.BinOp a .Mult b pos) (tOp (rI MulOk fun i j => .int (i * j)) ta tb) (bBin gMul f g) := ⟨fun tk => pe_op op_mulG (h1.pe tk) (h2.pe tk), deb_bin rv_mul h1.de h2.de⟩
theorem eb_fdiv (h1 : SEB X W ec a ta f) (h2 : SEB X W ec b tb g) : SEB X W ec (.BinOp a .FloorDiv b pos) (tOp (rI (fun _ j => j ≠ 0 ∧ j.natAbs < divLim) fun i j => .int (i.fdiv j)) ta tb) (bBin gFdiv f g) := ⟨fun tk => pe_op op_fdivG (h1.pe tk) (h2.pe tk), deb_bin rv_fdiv h1.de h2.de⟩
theorem eb_mod (h1 : SEB X W ec a ta f) (h2 : SEB X W ec b tb g) : SEB X W ec (.BinOp a .Mod b pos) (tOp (rI (fun _ j => j ≠ 0) fun i j => .int (i.fmod j)) ta tb) (bBin gMod f g) := ⟨fun tk => pe_op op_modN (h1.pe tk) (h2.pe tk), deb_bin rv_mod h1.de h2.de⟩
theorem eb_neg (h1 : SEB X W ec a ta f) : SEB X W ec (.UnaryOp .USub a pos) (tUn (rU fun i => .int (-i)) ta) (bUn gNeg f) := ⟨fun tk => pe_un un_neg (h1.pe tk), deb_un ru_neg h1.de⟩
theorem eb_lt (h1 : SEB X W ec a ta f) (h2 : SEB X W ec b tb g) : SEB X W ec (.Compare a [.Lt] [b] pos) (tOp (rI0 fun i j => .bl (decide (i < j))) ta tb) (bBin gLt f g) := ⟨fun tk => pe_cmpR op_lt (h1.pe tk) (h2.pe tk) (nomark _), deb_bin rv_lt h1.de h2.de⟩
theorem eb_le (h1 : SEB X W ec a ta f) (h2 : SEB X W ec b tb g) : SEB X W ec (.Compare a [.LtE] [b] pos) (tOp (rI0 fun i j => .bl (decide (i ≤ j))) ta tb) (bBin gLe f g) := ⟨fun tk => pe_cmpR op_le (h1.pe tk) (h2.pe tk) (nomark _), deb_bin rv_le h1.de h2.de⟩
theorem eb_gt (h1 : SEB X W ec a ta f) (h2 : SEB X W ec b tb g) : SEB X W ec (.Compare a [.Gt] [b] pos) (tOp (rI0 fun i j => .bl (decide (j < i))) ta tb) (bBin gGt f g) := ⟨fun tk => pe_cmpR op_gt (h1.pe tk) (h2.pe tk) (nomark _), deb_bin rv_gt h1.de h2.de⟩
theorem eb_ge (h1 : SEB X W ec a ta f) (h2 : SEB X W ec b tb g) : SEB X W ec (.Compare a [.GtE] [b] pos) (tOp (rI0 fun i j => .bl (decide (j ≤ i))) ta tb) (bBin gGe f g) := ⟨fun tk => pe_cmpR op_ge (h1.pe tk) (h2.pe tk) (nomark _), deb_bin rv_ge h1.de h2.de⟩
theorem eb_eqT {K : PySem.W.Frag} (hu : X.A.units + 64 < cLine) (h1 : SEB X W ec a ta f) (h2 : SEB X W ec b tb g) (hK : X.K = K := by rfl) : SEB X W ec (.Compare a [.Eq] [b] pos) (tOp (fun x y H Q => rEq x y H Q ∨ rEqD K x y H Q) ta tb) (bBin gEqT f g) := by
  subst hK
  exact ⟨fun tk => pe_cmpR (L2.OpR.or op_eq (op_eqD hu)) (h1.pe tk) (h2.pe tk) (nomark _), deb_bin rv_eqT h1.de h2.de⟩
theorem eb_neT {K : PySem.W.Frag} (hu : X.A.units + 64 < cLine) (h1 : SEB X W ec a ta f) (h2 : SEB X W ec b tb g) (hK : X.K = K := by rfl) : SEB X W ec (.Compare a [.NotEq] [b] pos) (tOp (fun x y H Q => rNe x y H Q ∨ rNeD K x y H Q) ta tb) (bBin gNeT f g) := by
  subst hK
  exact ⟨fun tk => pe_cmpR (L2.OpR.or op_ne (op_neD hu)) (h1.pe tk) (h2.pe tk) (nomark _), deb_bin rv_neT h1.de h2.de⟩
theorem eb_inG {K : PySem.W.Frag} (hu : X.A.units + 65 < cLine) (h1 : SEB X W ec a ta f) (h2 : SEB X W ec b tb g) (hm : behindInMarks .In b = false := by rfl) (hK : X.K = K := by rfl) : SEB X W ec (.Compare a [.In] [b] pos) (tOp (fun x y H Q => rInD K x y H Q ∨ rInT K false x y H Q) ta tb) (bBin gInG f g) := by
  subst hK
  exact ⟨fun tk => pe_cmpR ((op_inD hu).or (op_inT hu)) (h1.pe tk) (h2.pe tk) hm, deb_bin rv_inG h1.de h2.de⟩
theorem eb_notInG {K : PySem.W.Frag} (hu : X.A.units + 65 < cLine) (h1 : SEB X W ec a ta f) (h2 : SEB X W ec b tb g) (hm : behindInMarks .NotIn b = false := by rfl) (hK : X.K = K := by rfl) : SEB X W ec (.Compare a [.NotIn] [b] pos) (tOp (fun x y H Q => rNotInD K x y H Q ∨ rInT K true x y H Q) ta tb) (bBin gNotInG f g) := by
  subst hK
  exact ⟨fun tk => pe_cmpR ((op_notInD hu).or (op_notInT hu)) (h1.pe tk) (h2.pe tk) hm, deb_bin rv_notInG h1.de h2.de⟩
theorem eb_isN (h1 : SEB X W ec a ta f) {j pos'} : SEB X W ec (.Compare a [.Is] [.Constant .none j pos'] pos) (tOp (fun x y H Q => y = .non ∧ Q (.bl (decide (x = .non))) H) ta (tC .non)) (bBin gIsN f (bP (eC .none))) := ⟨fun tk => pe_cmpR op_isN (h1.pe tk) pe_non (nomark _), deb_bin rv_isN h1.de (deb_p (de_c fun _ => .non))⟩
theorem eb_notN (h1 : SEB X W ec a ta f) {j pos'} : SEB X W ec (.Compare a [.IsNot] [.Constant .none j pos'] pos) (tOp (fun x y H Q => y = .non ∧ Q (.bl (!decide (x = .non))) H) ta (tC .non)) (bBin gNotN f (bP (eC .none))) := ⟨fun tk => pe_cmpR op_notN (h1.pe tk) pe_non (nomark _), deb_bin rv_notN h1.de (deb_p (de_c fun _ => .non))⟩
theorem eb_isB (h1 : SEB X W ec a ta f) (h2 : SEB X W ec b tb g) : SEB X W ec (.Compare a [.Is] [b] pos) (tOp rIsB ta tb) (bBin gIsB f g) := ⟨fun tk => pe_cmpR op_isBl (h1.pe tk) (h2.pe tk) (nomark _), deb_bin rv_isB h1.de h2.de⟩
theorem eb_cb {id : String} {r : List V → Hp → VK → Prop} {gp : List PyData → Option R} (hc : CallR X (.builtin id) r) (hr : RCD X.K r gp) (hg : Gl X x) (hm : X.mg x = none) (hv : bootBuiltins x = some (.builtin id)) (ha : SAB X W ec (e :: es) t af) (hn : x ≠ "__name__" := by decide) (hdb : (x == ("__debug__" : Str)) = false := by decide)
    (he : starEach (e :: es) X.env = (false, eval e X.env) :: starEach es X.env := by rfl) (hpl : (backTo pos (starEach es X.env)).any (·.1) = false := by rfl) : SEB X W ec (.Call (.Name x p) (e :: es) [] pos) (tCB r t) (bCall gp af) :=
  ⟨fun tk => pe_callB hc hg hm hv (ha.pa tk) hn hdb he hpl, deb_cb hr ha.da⟩
theorem eb_cty {T : String} {r : List V → Hp → VK → Prop} {gp : List PyData → Option R} (hc : CallR X (.type T) r) (hr : RCD X.K r gp) (hg : Gl X x) (hm : X.mg x = none) (hv : bootBuiltins x = some (.type T)) (ha : SAB X W ec (e :: es) t af) (hn : x ≠ "__name__" := by decide) (hdb : (x == ("__debug__" : Str)) = false := by decide)
    (he : starEach (e :: es) X.env = (false, eval e X.env) :: starEach es X.env := by rfl) (hpl : (backTo pos (starEach es X.env)).any (·.1) = false := by rfl) : SEB X W ec (.Call (.Name x p) (e :: es) [] pos) (tCB r t) (bCall gp af) :=
  ⟨fun tk => pe_callTy hc hg hm hv (ha.pa tk) hn hdb he hpl, deb_cb hr ha.da⟩
theorem eb_c_int (hg : Gl X x) (hm : X.mg x = none) (hv : bootBuiltins x = some (.type "int")) (ha : SAB X W ec (e :: es) t af) (hn : x ≠ "__name__" := by decide) (hdb : (x == ("__debug__" : Str)) = false := by decide)
    (he : starEach (e :: es) X.env = (false, eval e X.env) :: starEach es X.env := by rfl) (hpl : (backTo pos (starEach es X.env)).any (·.1) = false := by rfl) : SEB X W ec (.Call (.Name x p) (e :: es) [] pos) (tCB (fun xs H Q => (∃ i, xs = [.int i] ∧ Q (.int i) H) ∨ ∃ k, xs = [.bl k] ∧ Q (.int (if k then 1 else 0)) H) t) (bCall gInt af) := eb_cty call_int1 rc_int hg hm hv ha hn hdb he hpl
theorem eb_c_len {K : PySem.W.Frag} (hg : Gl X x) (hm : X.mg x = none) (hv : bootBuiltins x = some (.builtin "len")) (ha : SAB X W ec (e :: es) t af) (hn : x ≠ "__name__" := by decide) (hdb : (x == ("__debug__" : Str)) = false := by decide)
    (he : starEach (e :: es) X.env = (false, eval e X.env) :: starEach es X.env := by rfl) (hpl : (backTo pos (starEach es X.env)).any (·.1) = false := by rfl) (hK : X.K = K := by rfl) : SEB X W ec (.Call (.Name x p) (e :: es) [] pos) (tCB (fun xs H Q => ∃ x n, xs = [x] ∧ LenV K x H n ∧ Q (.int n) H) t) (bCall gLen af) := by
  subst hK
  exact eb_cb call_len rc_len hg hm hv ha hn hdb he hpl
theorem tb_lt (h1 : SEB X W ec a ta f) (h2 : SEB X W ec b tb g) : STB X W ec (.Compare a [.Lt] [b] pos) (tTest (tOp (rI0 fun i j => .bl (decide (i < j))) ta tb)) (bTE (bBin gLt f g)) := ⟨fun tk => pt_cmpR op_lt (h1.pe tk) (h2.pe tk) (nomark _), dtb_test (deb_bin rv_lt h1.de h2.de)⟩
theorem tb_le (h1 : SEB X W ec a ta f) (h2 : SEB X W ec b tb g) : STB X W ec (.Compare a [.LtE] [b] pos) (tTest (tOp (rI0 fun i j => .bl (decide (i ≤ j))) ta tb)) (bTE (bBin gLe f g)) := ⟨fun tk => pt_cmpR op_le (h1.pe tk) (h2.pe tk) (nomark _), dtb_test (deb_bin rv_le h1.de h2.de)⟩
theorem tb_gt (h1 : SEB X W ec a ta f) (h2 : SEB X W ec b tb g) : STB X W ec (.Compare a [.Gt] [b] pos) (tTest (tOp (rI0 fun i j => .bl (decide (j < i))) ta tb)) (bTE (bBin gGt f g)) := ⟨fun tk => pt_cmpR op_gt (h1.pe tk) (h2.pe tk) (nomark _), dtb_test (deb_bin rv_gt h1.de h2.de)⟩
theorem tb_ge (h1 : SEB X W ec a ta f) (h2 : SEB X W ec b tb g) : STB X W ec (.Compare a [.GtE] [b] pos) (tTest (tOp (rI0 fun i j => .bl (decide (j ≤ i))) ta tb)) (bTE (bBin gGe f g)) := ⟨fun tk => pt_cmpR op_ge (h1.pe tk) (h2.pe tk) (nomark _), dtb_test (deb_bin rv_ge h1.de h2.de)⟩
theorem tb_eqT {K : PySem.W.Frag} (hu : X.A.units + 64 < cLine) (h1 : SEB X W ec a ta f) (h2 : SEB X W ec b tb g) (hK : X.K = K := by rfl) : STB X W ec (.Compare a [.Eq] [b] pos) (tTest (tOp (fun x y H Q => rEq x y H Q ∨ rEqD K x y H Q) ta tb)) (bTE (bBin gEqT f g)) := by
  subst hK
  exact ⟨fun tk => pt_cmpR (L2.OpR.or op_eq (op_eqD hu)) (h1.pe tk) (h2.pe tk) (nomark _), dtb_test (deb_bin rv_eqT h1.de h2.de)⟩
theorem tb_neT {K : PySem.W.Frag} (hu : X.A.units + 64 < cLine) (h1 : SEB X W ec a ta f) (h2 : SEB X W ec b tb g) (hK : X.K = K := by rfl) : STB X W ec (.Compare a [.NotEq] [b] pos) (tTest (tOp (fun x y H Q => rNe x y H Q ∨ rNeD K x y H Q) ta tb)) (bTE (bBin gNeT f g)) := by
  subst hK
  exact ⟨fun tk => pt_cmpR (L2.OpR.or op_ne (op_neD hu)) (h1.pe tk) (h2.pe tk) (nomark _), dtb_test (deb_bin rv_neT h1.de h2.de)⟩
theorem tb_inG {K : PySem.W.Frag} (hu : X.A.units + 65 < cLine) (h1 : SEB X W ec a ta f) (h2 : SEB X W ec b tb g) (hm : behindInMarks .In b = false := by rfl) (hK : X.K = K := by rfl) : STB X W ec (.Compare a [.In] [b] pos) (tTest (tOp (fun x y H Q => rInD K x y H Q ∨ rInT K false x y H Q) ta tb)) (bTE (bBin gInG f g)) := by
  subst hK
  exact ⟨fun tk => pt_cmpR ((op_inD hu).or (op_inT hu)) (h1.pe tk) (h2.pe tk) hm, dtb_test (deb_bin rv_inG h1.de h2.de)⟩
theorem tb_notInG {K : PySem.W.Frag} (hu : X.A.units + 65 < cLine) (h1 : SEB X W ec a ta f) (h2 : SEB X W ec b tb g) (hm : behindInMarks .NotIn b = false := by rfl) (hK : X.K = K := by rfl) : STB X W ec (.Compare a [.NotIn] [b] pos) (tTest (tOp (fun x y H Q => rNotInD K x y H Q ∨ rInT K true x y H Q) ta tb)) (bTE (bBin gNotInG f g)) := by
  subst hK
  exact ⟨fun tk => pt_cmpR ((op_notInD hu).or (op_notInT hu)) (h1.pe tk) (h2.pe tk) hm, dtb_test (deb_bin rv_notInG h1.de h2.de)⟩
theorem tb_isN (h1 : SEB X W ec a ta f) {j pos'} : STB X W ec (.Compare a [.Is] [.Constant .none j pos'] pos) (tTest (tOp (fun x y H Q => y = .non ∧ Q (.bl (decide (x = .non))) H) ta (tC .non))) (bTE (bBin gIsN f (bP (eC .none)))) := ⟨fun tk => pt_cmpR op_isN (h1.pe tk) pe_non (nomark _), dtb_test (deb_bin rv_isN h1.de (deb_p (de_c fun _ => .non)))⟩
theorem tb_notN (h1 : SEB X W ec a ta f) {j pos'} : STB X W ec (.Compare a [.IsNot] [.Constant .none j pos'] pos) (tTest (tOp (fun x y H Q => y = .non ∧ Q (.bl (!decide (x = .non))) H) ta (tC .non))) (bTE (bBin gNotN f (bP (eC .none)))) := ⟨fun tk => pt_cmpR op_notN (h1.pe tk) pe_non (nomark _), dtb_test (deb_bin rv_notN h1.de (deb_p (de_c fun _ => .non)))⟩
theorem tb_val (h1 : SEB X W ec e te f) (he : ∀ whole, isTrue e X.env whole = (do let v ← whole; standAt e.pos; holding [v] (truthy v)) := by intro _; rfl) : STB X W ec e (tB te) (bTE f) := ⟨fun tk => pt_val (h1.pe tk) he, dtb_B h1.de⟩
theorem wb_and1 (h1 : STB X W ec a tt u) : SWB X W ec (.BoolOp .And [a] pos) tt u := ⟨fun tk => pw_and1 (h1.pt tk), h1.dt⟩
theorem wb_or1 (h1 : STB X W ec a tt u) : SWB X W ec (.BoolOp .Or [a] pos) tt u := ⟨fun tk => pw_or1 (h1.pt tk), h1.dt⟩
theorem wb_and {rest : List Expr} (h1 : STB X W ec a tt u) (h2 : SWB X W ec (.BoolOp .And (b :: rest) pos) tu v) : SWB X W ec (.BoolOp .And (a :: b :: rest) pos) (tAnd tt tu) (bAnd u v) := ⟨fun tk => pw_and (h1.pt tk) (h2.pw tk), dtb_and h1.dt h2.dt⟩
theorem wb_or {rest : List Expr} (h1 : STB X W ec a tt u) (h2 : SWB X W ec (.BoolOp .Or (b :: rest) pos) tu v) : SWB X W ec (.BoolOp .Or (a :: b :: rest) pos) (tOr tt tu) (bOr u v) := ⟨fun tk => pw_or (h1.pt tk) (h2.pw tk), dtb_or h1.dt h2.dt⟩
theorem tb_not (h1 : STB X W ec a tt u) : STB X W ec (.UnaryOp .Not a pos) (tNot tt) (bNot u) := ⟨fun tk => pt_not (h1.pt tk), dtb_not h1.dt⟩
theorem eb_one {op} (h1 : SEB X W ec a ta f) : SEB X W ec (.BoolOp op [a] pos) ta f := ⟨fun tk => pe_one (h1.pe tk), h1.de⟩
theorem eb_and {rest : List Expr} (h1 : SEB X W ec a ta f) (h2 : SEB X W ec (.BoolOp .And (b :: rest) pos) tb g) : SEB X W ec (.BoolOp .And (a :: b :: rest) pos) (tAndV ta tb) (bIf (bTE f) g (bTV (fun _ s => some (.ok false s)))) := ⟨fun tk => pe_and (h1.pe tk) (h2.pe tk), deb_andV h1.de h2.de⟩
theorem eb_or {rest : List Expr} (h1 : SEB X W ec a ta f) (h2 : SEB X W ec (.BoolOp .Or (b :: rest) pos) tb g) : SEB X W ec (.BoolOp .Or (a :: b :: rest) pos) (tOrV ta tb) (bIf (bTE f) (bTV (fun _ s => some (.ok true s))) g) := ⟨fun tk => pe_or (h1.pe tk) (h2.pe tk), deb_orV h1.de h2.de⟩
theorem eb_not (h1 : SEB X W ec a ta f) : SEB X W ec (.UnaryOp .Not a pos) (tNotV ta) (bTV (bNot (bTE f))) := ⟨fun tk => pe_not (h1.pe tk), deb_notV h1.de⟩
theorem eb_if (hc : STB X W ec c tt u) (h1 : SEB X W ec a ta f) (h2 : SEB X W ec b tb g) : SEB X W ec (.IfExp c a b pos) (tIf tt ta tb) (bIf u f g) := ⟨fun tk => pe_ifExp (hc.pt tk) (h1.pe tk) (h2.pe tk), deb_ifE hc.dt h1.de h2.de⟩
end
/-! calls -/
section
variable {X : Cx} {W : WX} {ec : EC} {x : Str} {p pos : Pos} {o e : Expr} {es : List Expr} {t tk : TA} {af am km : BA} {kws : List Keyword}
theorem fnS_fl {N n : Nat} {f : SFm} {st ds : List PyData} {r : R} {es : List PyData} (h : fnS N n f st ds = some (.rt r es)) : flatRes r = true := by
  unfold fnS at h
  split at h
  case isFalse => cases h
  cases q : f (startS N n st ds) with
  | none => rw [q] at h; cases h
  | some o =>
    rw [q] at h
    cases o with
    | nx env =>
      rw [resS_nx] at h
      obtain ⟨_, _, h⟩ := bnd h
      cases h
      rfl
    | rt r w =>
      cases w with
      | none => cases h
      | some env =>
        rw [resS_rt] at h
        split at h
        case isFalse => cases h
        rename_i hf
        obtain ⟨_, _, h⟩ := bnd h
        cases h
        exact hf
    | bk env => cases h
    | ct env => cases h
    | ex e env =>
      rw [resS_ex] at h
      obtain ⟨_, _, h⟩ := bnd h
      cases h
theorem eb_call {k f n : Nat} {K : PySem.W.Frag} {fd : FuncData} {ps : List Str} {m : List PyData → Option R} (hn : ∀ ds r, m ds = some r → ds.length = n) (G : FnOk X.prog X.w X.K X.mg X.base CX0 k f fd ps (spD X.K n m)) (hr : Room k X.A) (hg : Gl X x) (hm : X.mg x = some (.ref f)) (hk : PySem.W.keepIn X.K (.ref f) = true) (hb : Binds X.K fd ps [])
    (ha : SAB X W ec (e :: es) t af) (hdb : (x == ("__debug__" : Str)) = false := by decide) (he : starEach (e :: es) X.env = (false, eval e X.env) :: starEach es X.env := by rfl) (hpl : (backTo pos (starEach es X.env)).any (·.1) = false := by rfl) (hK : X.K = K := by rfl) :
    SEB X W ec (.Call (.Name x p) (e :: es) [] pos) (L2.tCall (spD K n m) [] E0 t) (bCall m af) := by
  subst hK
  exact ⟨fun tk => pe_call G hr hg hm hk hb .nil pass0 (ha.pa tk) hdb he hpl, deb_call hn ha.da⟩
theorem eb_callX {k f n : Nat} {K : PySem.W.Frag} {mg : Str → Option Value} {fd : FuncData} {ps : List Str} {m : List PyData → Option FX} (hn : ∀ ds r, m ds = some r → ds.length = n) (G : FnOk X.prog X.w X.K X.mg X.base (L2.CX X.prog X.w) k f fd ps (spX X.mg X.K n m)) (hr : Room k X.A) (hg : Gl X x) (hm : X.mg x = some (.ref f)) (hk : PySem.W.keepIn X.K (.ref f) = true) (hb : Binds X.K fd ps [])
    (ha : SAB X W ec (e :: es) t af) (hdb : (x == ("__debug__" : Str)) = false := by decide) (he : starEach (e :: es) X.env = (false, eval e X.env) :: starEach es X.env := by rfl) (hpl : (backTo pos (starEach es X.env)).any (·.1) = false := by rfl) (hK : X.K = K := by rfl) (hM : X.mg = mg := by rfl) :
    SEB X W ec (.Call (.Name x p) (e :: es) [] pos) (tCallSD (spX mg K n m) [] (WE W) t) (bCallX m af) := by
  subst hK hM
  exact ⟨fun tk => pe_callSD G hr hg hm hk hb .nil (fun σ => passAt tk σ) (ha.pa tk) hdb he hpl, deb_callX hn ha.da⟩
theorem eb_callS {k f N n : Nat} {K : PySem.W.Frag} {mg : Str → Option Value} {fd : FuncData} {ps : List Str} {b : SFm} (G : FnOk X.prog X.w X.K X.mg X.base (L2.CX X.prog X.w) k f fd ps (spS X.mg X.K n (fnS N n b))) (hr : Room k X.A) (hg : Gl X x) (hm : X.mg x = some (.ref f)) (hk : PySem.W.keepIn X.K (.ref f) = true) (hb : Binds X.K fd ps [])
    (ha : SAB X W ec (e :: es) t af) (hdb : (x == ("__debug__" : Str)) = false := by decide) (he : starEach (e :: es) X.env = (false, eval e X.env) :: starEach es X.env := by rfl) (hpl : (backTo pos (starEach es X.env)).any (·.1) = false := by rfl) (hK : X.K = K := by rfl) (hM : X.mg = mg := by rfl) :
    SEB X W ec (.Call (.Name x p) (e :: es) [] pos) (tCallSD (spS mg K n (fnS N n b)) [] (WE W) t) (bCallS (fnS N n b) af) := by
  subst hK hM
  exact ⟨fun tk => pe_callSD G hr hg hm hk hb .nil (fun σ => passAt tk σ) (ha.pa tk) hdb he hpl, deb_callS (fun _ _ _ => fnS_len) (fun _ _ _ _ => fnS_fl) ha.da⟩
theorem eb_callB {k f n : Nat} {K : PySem.W.Frag} {w : World} {mg : Str → Option Value} {fd : FuncData} {ps : List Str} {m : List AV → Sto → Option (An AV)} (hn : ∀ as s r, m as s = some r → as.length = n) (G : FnOk X.prog X.w X.K X.mg X.base (L2.CX X.prog X.w) k f fd ps (spB X.mg X.K X.w n m)) (hr : Room k X.A) (hg : Gl X x) (hm : X.mg x = some (.ref f)) (hk : PySem.W.keepIn X.K (.ref f) = true) (hb : Binds X.K fd ps [])
    (ha : SAB X W ec (e :: es) t af) (hdb : (x == ("__debug__" : Str)) = false := by decide) (he : starEach (e :: es) X.env = (false, eval e X.env) :: starEach es X.env := by rfl) (hpl : (backTo pos (starEach es X.env)).any (·.1) = false := by rfl) (hK : X.K = K := by rfl) (hM : X.mg = mg := by rfl) (hw : X.w = w := by rfl) :
    SEB X W ec (.Call (.Name x p) (e :: es) [] pos) (tCallSD (spB mg K w n m) [] (WE W) t) (bCallB m af) := by
  subst hK hM hw
  exact ⟨fun tk => pe_callSD G hr hg hm hk hb .nil (fun σ => passAt tk σ) (ha.pa tk) hdb he hpl, deb_callB hn ha.da⟩
theorem kb_nil : SKB X W ec [] tNil bNil := ⟨fun _ => pk_nil, dab_nil⟩
theorem kb_cons {te : TE} {f : BE} {nm : Option Str} {kpos : Pos} (h1 : SEB X W ec e te f) (h2 : SKB X W ec kws tk km) : SKB X W ec (⟨nm, e, kpos⟩ :: kws) (tCons te tk) (bCons f km) := ⟨fun z => pk_cons (h1.pe z) (h2.pk z), dab_cons h1.de h2.da⟩
theorem eb_callK {k f N n j : Nat} {K : PySem.W.Frag} {fd : FuncData} {ps ks : List Str} {m : List PyData → Option R} (hn : ∀ ds r, m ds = some r → ds.length = N) (G : FnOk X.prog X.w X.K X.mg X.base CX0 k f fd ps (spD X.K N m)) (hr : Room k X.A) (hg : Gl X x) (hm : X.mg x = some (.ref f)) (hk : PySem.W.keepIn X.K (.ref f) = true) (hb : BindsK X.K fd ps ks n j)
    (ha : SAB X W ec (e :: es) t am) (hkw : SKB X W ec kws tk km) (hall : (backToKw pos (keywordEach kws X.env)).all (·.1.isSome) = true := by rfl) (hks : (backToKw pos (keywordEach kws X.env)).filterMap (·.1) = ks := by rfl)
    (hdb : (x == ("__debug__" : Str)) = false := by decide) (he : starEach (e :: es) X.env = (false, eval e X.env) :: starEach es X.env := by rfl)
    (hpl : ((backTo pos (starEach (e :: es) X.env)).any (·.1) || (backToKw pos (keywordEach kws X.env)).any (·.1.isNone)) = false := by rfl) (hK : X.K = K := by rfl) :
    SEB X W ec (.Call (.Name x p) (e :: es) kws pos) (tCallKS (spD K N m) (gK n j) (fun _ => E0) t tk) (bCall m (bCat n j am km)) := by
  subst hK
  exact ⟨fun z => pe_callKS G hr hg hm hk hb (fun σ pins H s e s' I h => h.elim) (ha.pa z) (hkw.pk z) hall hks hdb he hpl, deb_callK hn ha.da hkw.da⟩
theorem eb_callKX {k f N n j : Nat} {K : PySem.W.Frag} {mg : Str → Option Value} {fd : FuncData} {ps ks : List Str} {m : List PyData → Option FX} (hn : ∀ ds r, m ds = some r → ds.length = N) (G : FnOk X.prog X.w X.K X.mg X.base (L2.CX X.prog X.w) k f fd ps (spX X.mg X.K N m)) (hr : Room k X.A) (hg : Gl X x) (hm : X.mg x = some (.ref f)) (hk : PySem.W.keepIn X.K (.ref f) = true) (hb : BindsK X.K fd ps ks n j)
    (ha : SAB X W ec (e :: es) t am) (hkw : SKB X W ec kws tk km) (hall : (backToKw pos (keywordEach kws X.env)).all (·.1.isSome) = true := by rfl) (hks : (backToKw pos (keywordEach kws X.env)).filterMap (·.1) = ks := by rfl)
    (hdb : (x == ("__debug__" : Str)) = false := by decide) (he : starEach (e :: es) X.env = (false, eval e X.env) :: starEach es X.env := by rfl)
    (hpl : ((backTo pos (starEach (e :: es) X.env)).any (·.1) || (backToKw pos (keywordEach kws X.env)).any (·.1.isNone)) = false := by rfl) (hK : X.K = K := by rfl) (hM : X.mg = mg := by rfl) :
    SEB X W ec (.Call (.Name x p) (e :: es) kws pos) (tCallKS (spX mg K N m) (gK n j) (WE W) t tk) (bCallX m (bCat n j am km)) := by
  subst hK hM
  exact ⟨fun z => pe_callKS G hr hg hm hk hb (fun σ => passAt z σ) (ha.pa z) (hkw.pk z) hall hks hdb he hpl, deb_callKX hn ha.da hkw.da⟩
theorem eb_callKB {k f N n j : Nat} {K : PySem.W.Frag} {w : World} {mg : Str → Option Value} {fd : FuncData} {ps ks : List Str} {m : List AV → Sto → Option (An AV)} (hn : ∀ as s r, m as s = some r → as.length = N) (G : FnOk X.prog X.w X.K X.mg X.base (L2.CX X.prog X.w) k f fd ps (spB X.mg X.K X.w N m)) (hr : Room k X.A) (hg : Gl X x) (hm : X.mg x = some (.ref f)) (hk : PySem.W.keepIn X.K (.ref f) = true) (hb : BindsK X.K fd ps ks n j)
    (ha : SAB X W ec (e :: es) t am) (hkw : SKB X W ec kws tk km) (hall : (backToKw pos (keywordEach kws X.env)).all (·.1.isSome) = true := by rfl) (hks : (backToKw pos (keywordEach kws X.env)).filterMap (·.1) = ks := by rfl)
    (hdb : (x == ("__debug__" : Str)) = false := by decide) (he : starEach (e :: es) X.env = (false, eval e X.env) :: starEach es X.env := by rfl)
    (hpl : ((backTo pos (starEach (e :: es) X.env)).any (·.1) || (backToKw pos (keywordEach kws X.env)).any (·.1.isNone)) = false := by rfl) (hK : X.K = K := by rfl) (hM : X.mg = mg := by rfl) (hw : X.w = w := by rfl) :
    SEB X W ec (.Call (.Name x p) (e :: es) kws pos) (tCallKS (spB mg K w N m) (gK n j) (WE W) t tk) (bCallB m (bCat n j am km)) := by
  subst hK hM hw
  exact ⟨fun z => pe_callKS G hr hg hm hk hb (fun σ => passAt z σ) (ha.pa z) (hkw.pk z) hall hks hdb he hpl, deb_callKB hn ha.da hkw.da⟩
end
/-! walks, targets, comprehensions -/
section
variable {X : Cx} {W : WX} {ec : EC} {e a b c o i : Expr} {es : List Expr} {pos p apos : Pos} {te ta tb tc : TE} {t : TA} {tt tu : TT} {f g h : BE} {af : BA} {u v : BT} {x y : Str}
variable {tg iter elt : Expr} {wi : TI} {it : BI} {tG : TG} {gf : BG} {ws : List Nat} {body : List Stmt} {tS tS' : TS} {sf sg : BF} {st : Stmt}
theorem ib_p {fp : IF} (h1 : SI X tg iter wi fp) : SIB X W ec tg iter wi (biP fp) := ⟨fun _ => h1.pi, dib_p h1.d⟩
theorem ib_r1 {p pos : Pos} (hg : Gl X "range") (hm : X.mg "range" = none) (ha : SAB X W ec [a] t af) (hs : starEach [a] X.env = [(false, eval a X.env)] := by rfl) : SIB X W ec tg (.Call (.Name "range" p) [a] [] pos) (iRng1 t) (biR1 af) := ⟨fun tk => pi_range1 hg hm (ha.pa tk) hs, dib_r1 ha.da⟩
theorem ib_e {K : PySem.W.Frag} (h1 : SEB X W ec a ta f) (hK : X.K = K := by rfl) : SIB X W ec tg a (fun σ H R => iList K ta σ H R ∨ iTup K ta σ H R) (biE f) := by
  subst hK
  exact ⟨fun tk => pi_or (pi_list (h1.pe tk)) (pi_tup (h1.pe tk)), dib_e h1.de⟩
theorem gb_name {i : Nat} (hN : X.N.Nodup) (hi : X.N[i]? = some x) (hx : Loc X.env.scope x) (hf : X.fn x = true ∨ X.env.scope.names.lookup x = some .local := by first | exact .inl rfl | exact .inr rfl | assumption) : SGB X ec (.Name x pos) [i] (gName i) (btName i) := ⟨pg_name hN hi hx hf, dgb_name⟩
theorem gbs_nil : SGsB X ec [] [] gNil btNil := ⟨pgs_nil, dgsb_nil⟩
theorem gbs_cons {us : List Nat} {ts : TGs} {gs : BGs} (h1 : SGB X ec e ws tG gf) (h2 : SGsB X ec es us ts gs) (hs : (assignEach (e :: es) X.env).map (·.2) = assign e X.env :: (assignEach es X.env).map (·.2) := by rfl) : SGsB X ec (e :: es) (ws ++ us) (gCons tG ts) (btCons gf gs) := ⟨pgs_cons h1.pg h2.pg hs, dgsb_cons h1.d h2.d⟩
theorem gb_tup {K : PySem.W.Frag} {k n : Nat} {ts : TGs} {gs : BGs} (hc : X.calm = true) (h : SGsB X ec es ws ts gs) (hn : (assignEach es X.env).length = n := by rfl) (hst : (assignEach es X.env).findIdx? (·.1) = none := by rfl) (hK : X.K = K := by rfl) : SGB X ec (.Tuple es k pos) ws (gTup K n ts) (btTup n gs) := by
  subst hK
  exact ⟨pg_tup hc h.pg hn hst, dgb_tup h.d⟩
theorem tsb_p {ifs : List Expr} {fp : TF} (h1 : STs X ifs tt fp) : STsB X W ec ifs tt (bPT fp) := ⟨fun _ => h1.pts, dtb_p h1.dt⟩
theorem tsb_nil : STsB X W ec [] tYes bYes := ⟨fun _ => pts_nil, dtb_yes⟩
theorem tsb_one (h1 : STB X W ec c tt u) : STsB X W ec [c] tt u := ⟨fun tk => pts_one (h1.pt tk), h1.dt⟩
theorem eb_lc {ifs : List Expr} {scope : Scope} {own : List (Str × Nat)} (hc : X.calm = true) (hN : X.N.Nodup) (hi : SIB X W ec tg iter wi it) (ok : BlkOk X.N X.env.scope scope own)
    (hg : ∀ (s : Shared) (H : Hp) (C : Addr) (cl : List (Str × Addr)) (fp : List Addr), SGB (X.blk s H scope (compEnvC scope cl C X.env) fp) ec tg ws tG gf) (hw : ∀ i ∈ ws, i ∈ own.map (·.2))
    (ht : ∀ (s : Shared) (H : Hp) (C : Addr) (cl : List (Str × Addr)) (fp : List Addr), STsB (X.blk s H scope (compEnvC scope cl C X.env) fp) WF ec ifs tt u)
    (he : ∀ (s : Shared) (H : Hp) (C : Addr) (cl : List (Str × Addr)) (fp : List Addr), SEB (X.blk s H scope (compEnvC scope cl C X.env) fp) WF ec elt te f) (hs : ∀ x, foldedSetIterable iter X.env x = pure x := by intro _; rfl) :
    SEB X W ec (.ListComp elt [⟨tg, iter, ifs, 0⟩] scope pos) (tLc wi tG tt te (own.map (·.2))) (bLc (own.map (·.2)) it gf u f) :=
  ⟨fun tk => pe_lc hc hN (hi.pi tk) ok (fun s H C cl fp => (hg s H C cl fp).pg) (fun s H C cl fp => (ht s H C cl fp).pts takes0) (fun s H C cl fp => (he s H C cl fp).pe takes0) hs,
   deb_lc hi.d (hg X.s_0 X.H_0 0 [] []).d hw (ht X.s_0 X.H_0 0 [] []).dt (he X.s_0 X.H_0 0 [] []).de⟩
theorem sb_setLc {i : Nat} {y : Str} {py spos : Pos} {ifs : List Expr} {scope : Scope} {own : List (Str × Nat)} (hc : X.calm = true) (hN : X.N.Nodup) (hy : X.N[i]? = some y) (hyl : X.env.scope.names.lookup y = some .local)
    (hsw : swapsWith (.ListComp elt [⟨tg, iter, ifs, 0⟩] scope pos) (some (.Name y py)) spos.line X.env = pure true) (hi : SIB X W ec tg iter wi it) (ok : BlkOk X.N X.env.scope scope own)
    (hg : ∀ (s : Shared) (H : Hp) (C : Addr) (cl : List (Str × Addr)) (fp : List Addr), SGB (X.blk s H scope (compEnvC scope cl C X.env) fp) ec tg ws tG gf) (hw : ∀ i ∈ ws, i ∈ own.map (·.2))
    (ht : ∀ (s : Shared) (H : Hp) (C : Addr) (cl : List (Str × Addr)) (fp : List Addr), STsB (X.blk s H scope (compEnvC scope cl C X.env) fp) WF ec ifs tt u)
    (he : ∀ (s : Shared) (H : Hp) (C : Addr) (cl : List (Str × Addr)) (fp : List Addr), SEB (X.blk s H scope (compEnvC scope cl C X.env) fp) WF ec elt te f) (hs : ∀ x, foldedSetIterable iter X.env x = pure x := by intro _; rfl) :
    SSB X W ec (.Assign [.Name y py] (.ListComp elt [⟨tg, iter, ifs, 0⟩] scope pos) spos) (tAsg (tLc wi tG tt te (own.map (·.2))) (gName i)) (fSet i (bLc (own.map (·.2)) it gf u f)) :=
  ⟨fun tk _ => ps_setLc hc hN hy hyl hsw (hi.pi tk) ok (fun s H C cl fp => (hg s H C cl fp).pg) (fun s H C cl fp => (ht s H C cl fp).pts takes0) (fun s H C cl fp => (he s H C cl fp).pe takes0) hs,
   dsb_set (deb_lc hi.d (hg X.s_0 X.H_0 0 [] []).d hw (ht X.s_0 X.H_0 0 [] []).dt (he X.s_0 X.H_0 0 [] []).de)⟩
/-! statements -/
variable {rest : List Stmt}
theorem sb_nil : SSsB X W ec [] tNext fNext := ⟨fun _ _ => pss_nil, dsb_next⟩
theorem sb_one (h1 : SSB X W ec st tS sf) : SSsB X W ec [st] tS sf := ⟨fun tk po => pss_one (h1.ps tk po), h1.ds⟩
theorem sb_cons (h1 : SSB X W ec st tS sf) (h2 : SSsB X W ec rest tS' sg) : SSsB X W ec (st :: rest) (tSeq tS tS') (fSeq sf sg) := ⟨fun tk po => pss_cons (h1.ps tk po) (h2.ps tk po), dsb_seq h1.ds h2.ds⟩
theorem sb_frz (i : Nat) (h1 : SSB X W ec st tS sf) : SSB X W ec st tS (fFrz i sf) := ⟨h1.ps, dsb_frz h1.ds⟩
theorem sb_ret (h1 : SEB X W ec e te f) : SSB X W ec (.Return (some e) pos) (tRet te) (fRet f) := ⟨fun tk _ => ps_ret (h1.pe tk), dsb_ret h1.de⟩
theorem sb_retN : SSB X W ec (.Return none pos) tRetN fRetN := ⟨fun _ _ => ps_retN, dsb_retN⟩
theorem sb_break : SSB X W ec (.Break pos) tBreak fBreak := ⟨fun _ _ => ps_break, dsb_break⟩
theorem sb_cont : SSB X W ec (.Continue pos) tCont fCont := ⟨fun _ _ => ps_continue, dsb_cont⟩
theorem sb_pass : SSB X W ec (.Pass pos) tNext fNext := ⟨fun _ _ => ps_pass, dsb_next⟩
theorem sb_if {b1 b2 : List Stmt} (hc : STB X W ec c tt u) (h1 : SSsB X W ec b1 tS sf) (h2 : SSsB X W ec b2 tS' sg) : SSB X W ec (.If c b1 b2 pos) (tIfS tt tS tS') (fIf u sf sg) := ⟨fun tk po => ps_if (hc.pt tk) (h1.ps tk po) (h2.ps tk po), dsb_if hc.dt h1.ds h2.ds⟩
theorem sb_set {i : Nat} {pos' : Pos} (hN : X.N.Nodup) (hi : X.N[i]? = some x) (hx : Loc X.env.scope x) (h1 : SEB X W ec e te f) (hs : swapsWith e (some (.Name x pos')) pos.line X.env = pure false := by rfl) (hf : X.fn x = true ∨ X.env.scope.names.lookup x = some .local := by first | exact .inl rfl | exact .inr rfl | assumption) :
    SSB X W ec (.Assign [.Name x pos'] e pos) (tAsg te (gName i)) (fSet i f) := ⟨fun tk _ => ps_set hN hi hx (h1.pe tk) hs hf, dsb_set h1.de⟩
theorem sb_asg (h1 : SEB X W ec e te f) (hg : SGB X ec tg ws tG gf) (hs : swapsWithSole [tg] e pos.line X.env = pure false := by rfl) (hw : swappedStores [tg] e X.env = pure none := by rfl)
    (h2 : (assignEach [tg] X.env).map (·.2) = [assign tg X.env] := by rfl) : SSB X W ec (.Assign [tg] e pos) (tAsg te tG) (fAsg gf f) := ⟨fun tk _ => ps_asg (h1.pe tk) hg.pg hs hw h2, dsb_asg h1.de hg.d⟩
theorem sb_put {pk : Pos} (h1 : SEB X W ec e te f) (h0 : SEB X W ec o tb g) (h2 : SEB X W ec i ta h)
    (ha : ∀ v, assign (.Subscript o i pk) X.env v = (do
      let ov ← holding [v] (eval o X.env)
      let iv ← holding [v, ov] (eval i X.env)
      standAt pk
      holding [v, ov, iv] (setItem ov iv v)
      release [v, ov, iv] []) := by intro _; rfl)
    (hs : swapsWithSole [.Subscript o i pk] e pos.line X.env = pure false := by rfl) (hw : swappedStores [.Subscript o i pk] e X.env = pure none := by rfl)
    (h3 : (assignEach [.Subscript o i pk] X.env).map (·.2) = [assign (.Subscript o i pk) X.env] := by rfl) : SSB X W ec (.Assign [.Subscript o i pk] e pos) (tAsg te (L2.gSub tb ta rSetL)) (fPut g h f) :=
  ⟨fun tk _ => ps_asg (h1.pe tk) (pg_sub (h0.pe tk) (h2.pe tk) set_list ha) hs hw h3, dsb_put h1.de h0.de h2.de⟩
theorem sb_drop (h1 : SEB X W ec e te f) (hs : swapsWith e none pos.line X.env = pure false := by rfl) : SSB X W ec (.Expr e pos) (tDrop te) (fDrop f) := ⟨fun tk _ => ps_expr (h1.pe tk) hs, dsb_drop h1.de⟩
theorem eb_append {cpos : Pos} {K : PySem.W.Frag} (h0 : SEB X W ec o ta g) (h1 : SEB X W ec e te f)
    (hbase : attributeBase o "append" X.env (eval o X.env) = eval o X.env := by rfl)
    (hfew : ((backTo cpos (starEach [e] X.env)).all (fun x => !x.1) && (backToKw cpos (keywordEach [] X.env)).all (fun x => x.1.isSome)
      && decide ([e].length + ([] : List Keyword).length + (if ([] : List Keyword).isEmpty then 0 else 1) < 30)) = true := by rfl)
    (hline : (apos.endLine == cpos.line) = true := by rfl) (hst : starEach [e] X.env = (false, eval e X.env) :: starEach [] X.env := by rfl) (hplain : (backTo cpos (starEach [] X.env)).any (·.1) = false := by rfl) (hK : X.K = K := by rfl) :
    SEB X W ec (.Call (.Attribute o "append" apos) [e] [] cpos) (tBM K "list" rAppend ta (tCons te tNil)) (bAppend g f) := by
  subst hK
  exact ⟨fun tk => pe_bm PySem.F.plainAttrs_list PySem.F.slot_list_append PySem.F.type_list_append mt_append (h0.pe tk) (pa_cons (h1.pe tk) pa_nil hst) hbase hfew hline hst hplain, deb_append h0.de h1.de⟩
theorem eb_extend {cpos : Pos} {K : PySem.W.Frag} (h0 : SEB X W ec o ta g) (h1 : SEB X W ec e te f)
    (hbase : attributeBase o "extend" X.env (eval o X.env) = eval o X.env := by rfl)
    (hfew : ((backTo cpos (starEach [e] X.env)).all (fun x => !x.1) && (backToKw cpos (keywordEach [] X.env)).all (fun x => x.1.isSome)
      && decide ([e].length + ([] : List Keyword).length + (if ([] : List Keyword).isEmpty then 0 else 1) < 30)) = true := by rfl)
    (hline : (apos.endLine == cpos.line) = true := by rfl) (hst : starEach [e] X.env = (false, eval e X.env) :: starEach [] X.env := by rfl) (hplain : (backTo cpos (starEach [] X.env)).any (·.1) = false := by rfl) (hK : X.K = K := by rfl) :
    SEB X W ec (.Call (.Attribute o "extend" apos) [e] [] cpos) (tBM K "list" rExtend ta (tCons te tNil)) (bExtend g f) := by
  subst hK
  exact ⟨fun tk => pe_bm PySem.F.plainAttrs_list PySem.F.slot_list_extend PySem.F.type_list_extend mt_extend (h0.pe tk) (pa_cons (h1.pe tk) pa_nil hst) hbase hfew hline hst hplain, deb_extend h0.de h1.de⟩
theorem eb_pop {cpos : Pos} {K : PySem.W.Frag} (h0 : SEB X W ec o ta g)
    (hbase : attributeBase o "pop" X.env (eval o X.env) = eval o X.env := by rfl) (hline : (apos.endLine == cpos.line) = true := by rfl) (hK : X.K = K := by rfl) :
    SEB X W ec (.Call (.Attribute o "pop" apos) [] [] cpos) (tBM0 K "list" rPop ta) (bPop g) := by
  subst hK
  exact ⟨fun tk => pe_bm0 PySem.F.plainAttrs_list PySem.F.slot_list_pop PySem.F.type_list_pop mt_pop (h0.pe tk) hbase hline, deb_pop h0.de⟩
theorem eb_clear {cpos : Pos} {K : PySem.W.Frag} (h0 : SEB X W ec o ta g)
    (hbase : attributeBase o "clear" X.env (eval o X.env) = eval o X.env := by rfl) (hline : (apos.endLine == cpos.line) = true := by rfl) (hK : X.K = K := by rfl) :
    SEB X W ec (.Call (.Attribute o "clear" apos) [] [] cpos) (tBM0 K "list" rClear ta) (bClear g) := by
  subst hK
  exact ⟨fun tk => pe_bm0 PySem.F.plainAttrs_list PySem.F.slot_list_clear PySem.F.type_list_clear mt_clear (h0.pe tk) hbase hline, deb_clear h0.de⟩
theorem eb_popAt {cpos : Pos} {K : PySem.W.Frag} (h0 : SEB X W ec o ta g) (h1 : SEB X W ec e te f)
    (hbase : attributeBase o "pop" X.env (eval o X.env) = eval o X.env := by rfl)
    (hfew : ((backTo cpos (starEach [e] X.env)).all (fun x => !x.1) && (backToKw cpos (keywordEach [] X.env)).all (fun x => x.1.isSome)
      && decide ([e].length + ([] : List Keyword).length + (if ([] : List Keyword).isEmpty then 0 else 1) < 30)) = true := by rfl)
    (hline : (apos.endLine == cpos.line) = true := by rfl) (hst : starEach [e] X.env = (false, eval e X.env) :: starEach [] X.env := by rfl) (hplain : (backTo cpos (starEach [] X.env)).any (·.1) = false := by rfl) (hK : X.K = K := by rfl) :
    SEB X W ec (.Call (.Attribute o "pop" apos) [e] [] cpos) (tBM K "list" rPopAt ta (tCons te tNil)) (bPopAt g f) := by
  subst hK
  exact ⟨fun tk => pe_bm PySem.F.plainAttrs_list PySem.F.slot_list_pop PySem.F.type_list_pop mt_popAt (h0.pe tk) (pa_cons (h1.pe tk) pa_nil hst) hbase hfew hline hst hplain, deb_popAt h0.de h1.de⟩
theorem sb_for (hc : X.calm = true) (hi : SIB X W ec tg iter wi it) (hg : SGB X ec tg ws tG gf) (hb : SSsB X W ec body tS sf) (hs : ∀ x, foldedSetIterable iter X.env x = pure x := by intro _; rfl) :
    SSB X W ec (.For tg iter body [] pos) (tFor wi tG tS) (fFor it gf sf) := ⟨fun tk po => ps_for po hc (hi.pi tk) hg.pg (hb.ps tk po) hs, dsb_for hi.d hg.d hb.ds⟩
theorem sb_while (hc : STB X W ec c tt u) (hb : SSsB X W ec body tS sf) : SSB X W ec (.While c body [] pos) (tWhile tt tS) (fWhile u sf) := ⟨fun tk po => ps_while po (hc.pt tk) (hb.ps tk po), dsb_while hc.dt hb.ds⟩
theorem sb_par {i j : Nat} {px py pt : Pos} {kt k2 pt2} (hN : X.N.Nodup) (ha : SAB X W ec [a, b] t af) (hc : X.calm = true := by rfl) (hi : X.N[i]? = some x := by rfl) (hj : X.N[j]? = some y := by rfl) (hij : i ≠ j := by decide)
    (hx : X.env.scope.names.lookup x = some .local := by rfl) (hy : X.env.scope.names.lookup y = some .local := by rfl)
    (hw : swappedStores [.Tuple [.Name x px, .Name y py] kt pt] (.Tuple [a, b] k2 pt2) X.env = pure (some [x, y]) := by rfl)
    (hs : swapsWithSole [.Tuple [.Name x px, .Name y py] kt pt] (.Tuple [a, b] k2 pt2) pos.line X.env = pure false := by rfl) :
    SSB X W ec (.Assign [.Tuple [.Name x px, .Name y py] kt pt] (.Tuple [a, b] k2 pt2) pos) (tPar i j t) (fPar i j af) := ⟨fun tk _ => ps_par hc hN hi hj hij hx hy (ha.pa tk) hw hs, dsb_par ha.da⟩
theorem sb_augI {i : Nat} {pos' : Pos} (hN : X.N.Nodup) (h1 : SEB X W ec e te f) (hi : X.N[i]? = some x := by rfl) (hx : Loc X.env.scope x := by first | exact Or.inl rfl | exact Or.inr rfl) (hf : X.fn x = true ∨ X.env.scope.names.lookup x = some .local := by first | exact .inl rfl | exact .inr rfl) :
    SSB X W ec (.AugAssign (.Name x pos') .Add e pos) (tAug i te (rI0 fun i j => .int (i + j))) (fAug i gAddI f) := ⟨fun tk _ => ps_aug hN hi hx (h1.pe tk) iop_add hf, dsb_aug rv_addI h1.de⟩
end
end Bn
/-! Bn7: defs over the store, their three faces; the law's own end. -/
namespace Bn
open PySem PySem.Spec PyProof.Rows L2 Dn
@[simp] def startB (N n : Nat) (as : List AV) : Ev := as.map Sg.v ++ List.replicate (N - n) .un
def resB (o : Option OutB) : Option (An AV) := match o with
  | some (.rt a s) => some (.ok a s)
  | some (.nx _ s) => some (.ok (.d .none) s)
  | some (.ex e _ s) => some (.ex e s)
  | _ => none
@[simp] theorem resB_rt {a : AV} {s : Sto} : resB (some (.rt a s)) = some (.ok a s) := rfl
@[simp] theorem resB_nx {e : Ev} {s : Sto} : resB (some (.nx e s)) = some (.ok (.d .none) s) := rfl
@[simp] theorem resB_ex {x : Xn} {e : Ev} {s : Sto} : resB (some (.ex x e s)) = some (.ex x s) := rfl
theorem resB_ite {c : Prop} [Decidable c] {x y : Option OutB} : resB (if c then x else y) = if c then resB x else resB y := by split <;> rfl
/-- what a value of the store is outside -/
def toR (s : Sto) : AV → Option R
  | .d d => some (.val d)
  | .c k => match s[k]? with
    | some (.ld ds) => some (.own ds)
    | some (.frz d) => some (.val d)
    | some (.lst vs) => (frzL (frzN 5) s vs).bind fun s1 => match s1[k]? with
      | some (.lst us) => (rdA s1 us).bind fun ds => some (.own ds)
      | _ => none
    | some (.tup vs) => (frzL (frzN 5) s vs).bind fun s1 => match s1[k]? with
      | some (.tup us) => (rdA s1 us).bind fun ds => some (.val (.tuple ds))
      | _ => none
    | _ => none
  | .w _ => none
def resX (o : Option (An AV)) : Option FX := match o with
  | some (.ok a s) => (toR s a).bind fun r => some (.rt r)
  | some (.ex e _) => some (.ex e)
  | none => none
@[simp] theorem resX_ok {a : AV} {s : Sto} : resX (some (.ok a s)) = (toR s a).bind fun r => some (.rt r) := rfl
@[simp] theorem resX_ex {x : Xn} {s : Sto} : resX (some (.ex x s)) = some (.ex x) := rfl
@[simp] theorem toR_d {d : PyData} {s : Sto} : toR s (.d d) = some (.val d) := rfl
theorem toR_ld {ds : List PyData} {s : Sto} {k : Nat} (h : s[k]? = some (.ld ds)) : toR s (.c k) = some (.own ds) := by simp only [toR, h]
def resD (o : Option FX) : Option R := match o with
  | some (.rt r) => some r
  | _ => none
@[irreducible] def fnB (N n : Nat) (f : BF) (as : List AV) (s : Sto) : Option (An AV) := if as.length = n then resB (f (startB N n as) s) else none
@[irreducible] def fnXB (N n : Nat) (f : BF) (ds : List PyData) : Option FX := if ds.length = n then resX (resB (f (startB N n (ds.map .d)) [])) else none
@[irreducible] def fnDB (N n : Nat) (f : BF) (ds : List PyData) : Option R := if ds.length = n then resD (resX (resB (f (startB N n (ds.map .d)) []))) else none
theorem fnB_len {N n : Nat} {f : BF} {as : List AV} {s : Sto} {r : An AV} (h : fnB N n f as s = some r) : as.length = n := by
  unfold fnB at h
  split at h
  · assumption
  · cases h
theorem fnXB_len {N n : Nat} {f : BF} {ds : List PyData} {r : FX} (h : fnXB N n f ds = some r) : ds.length = n := by
  unfold fnXB at h
  split at h
  · assumption
  · cases h
theorem fnDB_len {N n : Nat} {f : BF} {ds : List PyData} {r : R} (h : fnDB N n f ds = some r) : ds.length = n := by
  unfold fnDB at h
  split at h
  · assumption
  · cases h
section
variable {K : PySem.W.Frag} {w : World} {mg : Str → Option Value} {F0 H0 F H : Hp} {α : Adr} {s : Sto}
theorem toR_ok {a : AV} {x : V} {r : R} (R : Rl K w F0 H0 F H α s) (h : AVR K F α s.length x a) (e : toR s a = some r) : ∃ F', Same F F' ∧ Grow F0 H0 F' H ∧ RepR K F' H0 H x r := by
  have gr : ∀ {F' : Hp} {α' : Adr} {s' : Sto}, Rl K w F0 H0 F' H α' s' → Grow F0 H0 F' H := fun R => ⟨R.f, R.k, R.i, R.n⟩
  unfold toR at e
  split at e
  · cases e
    exact ⟨F, Same.refl F, gr R, h⟩
  · rename_i k
    split at e
    · rename_i ds hs
      cases e
      obtain ⟨h1, xs, h2, h3⟩ := R.ob k _ hs
      exact ⟨F, Same.refl F, gr R, _, xs, h.2, h1, R.out k h.1, h2, h3⟩
    · rename_i d hs
      cases e
      refine ⟨F, Same.refl F, gr R, ?_⟩
      rw [h.2]
      exact (R.ob k _ hs).2
    · rename_i vs hs
      obtain ⟨s1, e1, e⟩ := bnd e
      obtain ⟨F1, p1, R1, l1⟩ := frzL_ok (fun F s s' a R e => frzN_ok R e) R e1
      split at e
      case h_2 => cases e
      rename_i us hu
      obtain ⟨ds, ed, e⟩ := bnd e
      cases e
      obtain ⟨h1, xs, h2, h3⟩ := R1.ob k _ hu
      exact ⟨F1, p1.f, gr R1, _, xs, h.2, h1, R.out k h.1, h2, rdA_ok R1 h3 ed⟩
    · rename_i vs hs
      obtain ⟨s1, e1, e⟩ := bnd e
      obtain ⟨F1, p1, R1, l1⟩ := frzL_ok (fun F s s' a R e => frzN_ok R e) R e1
      split at e
      case h_2 => cases e
      rename_i us hu
      obtain ⟨ds, ed, e⟩ := bnd e
      cases e
      obtain ⟨h1, xs, h2, h3⟩ := R1.ob k _ hu
      have dd := rdA_ok R1 h3 ed
      have R2 := R1.freeze hu h1 h2 (.tup (.inl (.inl upd_same)) (dpa_mono (same_upd h1) dd))
      refine ⟨_, p1.f.trans (same_upd h1), gr R2, ?_⟩
      rw [h.2]
      exact .tup (.inl (.inl upd_same)) (dpa_mono (same_upd h1) dd)
    · cases e
  · cases e
theorem lo_start {F : Hp} {α : Adr} {m : Nat} {vs : List V} {as : List AV} {N : List Str} {n : Nat} (h : AVRs K F α m vs as) (hn : vs.length = n) (ec : EC) : Lo mg K ec F α m (L2.start N vs) (startB N.length n as) := by
  have hl := h.len
  refine ⟨by simp [L2.start, startB, hl] at hn ⊢ <;> omega, fun i g e => ?_⟩
  unfold startB at e
  by_cases hi : i < as.length
  · rw [List.getElem?_append_left (by simpa using hi), List.getElem?_map, List.getElem?_eq_getElem hi] at e
    cases e
    obtain ⟨v, ev, hv⟩ := h.get (List.getElem?_eq_getElem hi)
    refine ⟨v, ?_, hv⟩
    unfold L2.start
    rw [List.getElem?_append_left (by rw [List.length_map, hl]; exact hi), List.getElem?_map, ev]
    rfl
  · rw [List.getElem?_append_right (by simp; omega), List.getElem?_replicate] at e
    split at e
    · cases e
      trivial
    · cases e
/-- nothing in the store -/
theorem rl_start {F H : Hp} (fh : Same F H) : Rl K w F H F H (fun _ => 0) [] :=
  ⟨Same.refl F, Same.refl H, fh, fun _ _ h => h, fun i j h => absurd h (Nat.not_lt_zero _), fun i h => absurd h (Nat.not_lt_zero _), fun i o e => by simp at e⟩
end
section
variable {P : Program} {w : World} {K : PySem.W.Frag} {mg : Str → Option Value} {base : Heap}
/-- THE RULE for a def over the caller's store -/
theorem okB {x qual : Str} {st : Stmt} {f : Addr} {fd : FuncData} {N ps : List Str} {k : Nat} {b : BF} (F : Fun K x qual st f fd) (S : FnScope N ps (defScope st))
    (hbody : ∀ (cdv : Value) (A : Around) (outer : List PySem.Env) (s : Shared) (H : Hp) (E : XK), Room k (A.deeper (envOfC qual (defScope st) s.heap.objs.size f cdv)) → PySem.W.codeIn K cdv qual = true → ∃ t, SSsB (cxOf (L2.CX P w) P w K mg base N qual (defScope st) f cdv A outer s H E) (WD E) none (defBody st) t b) :
    FnOk P w K mg base (L2.CX P w) (k + 1) f fd ps (spB mg K w ps.length (fnB N.length ps.length b)) := by
  obtain ⟨oc, od, kV, doc, pm, an, cdv, ct, osl, rfl, lk, hcd⟩ := F.ex
  refine fn_of lk hcd S (fun vs H Q E h => h.1) fun A outer s H vs Q E hr h => ?_
  obtain ⟨hn, F0, H0, F1, α, st0, as, a, R, hd, er, q⟩ := h
  obtain ⟨t, ht⟩ := hbody cdv A outer s H E hr hcd
  refine ⟨t, ht.ps (takes_of rfl rfl rfl rfl) (passes_of rfl), ?_⟩
  unfold fnB at er
  split at er
  case isFalse => cases er
  cases eb : b (startB N.length ps.length as) st0 with
  | none => rw [eb] at er; cases er
  | some o =>
    rw [eb] at er
    refine ht.ds F0 H0 F1 H α _ _ st0 o R (lo_start hd hn none) eb _ ?_
    cases o with
    | nx env s' =>
      cases er
      exact fun F' H' α' σ' p' R' _ => q F' H' α' _ p' R' .non
    | rt r s' =>
      cases er
      exact fun F' H' α' x p' R' r' => q F' H' α' x p' R' r'
    | bk env s' => cases er
    | ct env s' => cases er
    | ex e env s' =>
      cases er
      exact fun F' H' α' σ' cls d p' R' _ xx => q F' H' α' cls d p' R' xx
/-- THE RULE for a def of data that may raise, over a store of its own -/
theorem okXB {x qual : Str} {st : Stmt} {f : Addr} {fd : FuncData} {N ps : List Str} {k : Nat} {b : BF} (F : Fun K x qual st f fd) (S : FnScope N ps (defScope st))
    (hbody : ∀ (cdv : Value) (A : Around) (outer : List PySem.Env) (s : Shared) (H : Hp) (E : XK), Room k (A.deeper (envOfC qual (defScope st) s.heap.objs.size f cdv)) → PySem.W.codeIn K cdv qual = true → ∃ t, SSsB (cxOf (L2.CX P w) P w K mg base N qual (defScope st) f cdv A outer s H E) (WD E) none (defBody st) t b) :
    FnOk P w K mg base (L2.CX P w) (k + 1) f fd ps (spX mg K ps.length (fnXB N.length ps.length b)) := by
  obtain ⟨oc, od, kV, doc, pm, an, cdv, ct, osl, rfl, lk, hcd⟩ := F.ex
  refine fn_of lk hcd S (fun vs H Q E h => h.1) fun A outer s H vs Q E hr h => ?_
  obtain ⟨hn, F0, ds, a, fh, hd, er, q⟩ := h
  obtain ⟨t, ht⟩ := hbody cdv A outer s H E hr hcd
  refine ⟨t, ht.ps (takes_of rfl rfl rfl rfl) (passes_of rfl), ?_⟩
  unfold fnXB at er
  split at er
  case isFalse => cases er
  cases eb : b (startB N.length ps.length (ds.map .d)) [] with
  | none => rw [eb] at er; cases er
  | some o =>
    rw [eb] at er
    refine ht.ds F0 H F0 H _ _ _ [] o (rl_start fh) (lo_start (.ofD hd) hn none) eb _ ?_
    cases o with
    | nx env s' =>
      cases er
      exact fun F' H' α' σ' p' R' _ => q F' H' _ ⟨R'.f, R'.k, R'.i, R'.n⟩ .non
    | rt r s' =>
      obtain ⟨r', e1, er⟩ := bnd er
      cases er
      intro F' H' α' x p' R' hr'
      obtain ⟨F2, _, g, rr⟩ := toR_ok R' hr' e1
      exact q F2 H' x g rr
    | bk env s' => cases er
    | ct env s' => cases er
    | ex e env s' =>
      cases er
      exact fun F' H' α' σ' cls d p' R' _ xx => q F' H' cls d ⟨R'.f, R'.k, R'.i, R'.n⟩ xx
/-- THE RULE for a def of data that never raises, over a store of its own -/
theorem okDB {x qual : Str} {st : Stmt} {f : Addr} {fd : FuncData} {N ps : List Str} {k : Nat} {b : BF} (F : Fun K x qual st f fd) (S : FnScope N ps (defScope st))
    (hbody : ∀ (cdv : Value) (A : Around) (outer : List PySem.Env) (s : Shared) (H : Hp) (E : XK), Room k (A.deeper (envOfC qual (defScope st) s.heap.objs.size f cdv)) → PySem.W.codeIn K cdv qual = true → ∃ t, SSsB (cxOf CX0 P w K mg base N qual (defScope st) f cdv A outer s H E).nox WF none (defBody st) t b) :
    FnOk P w K mg base CX0 (k + 1) f fd ps (spD K ps.length (fnDB N.length ps.length b)) := by
  obtain ⟨oc, od, kV, doc, pm, an, cdv, ct, osl, rfl, lk, hcd⟩ := F.ex
  refine fn_of lk hcd S (fun vs H Q E h => h.1) fun A outer s H vs Q E hr h => ?_
  obtain ⟨hn, F0, ds, r, fh, hd, er, q⟩ := h
  obtain ⟨t, ht⟩ := hbody cdv A outer s H E hr hcd
  refine ⟨t, (ht.ps takes0 PassesOwn.never).nox, ?_⟩
  unfold fnDB at er
  split at er
  case isFalse => cases er
  cases eb : b (startB N.length ps.length (ds.map .d)) [] with
  | none => rw [eb] at er; cases er
  | some o =>
    rw [eb] at er
    refine ht.ds F0 H F0 H _ _ _ [] o (rl_start fh) (lo_start (.ofD hd) hn none) eb _ ?_
    cases o with
    | nx env s' =>
      cases er
      exact fun F' H' α' σ' p' R' _ => q F' H' _ ⟨R'.f, R'.k, R'.i, R'.n⟩ .non
    | rt r s' =>
      rw [resB_rt, resX_ok] at er
      cases e1 : toR s' r with
      | none => rw [e1] at er; cases er
      | some r' =>
        rw [e1] at er
        cases er
        intro F' H' α' x p' R' hr'
        obtain ⟨F2, _, g, rr⟩ := toR_ok R' hr' e1
        exact q F2 H' x g rr
    | bk env s' => cases er
    | ct env s' => cases er
    | ex e env s' => cases er
end
/-! ### calls of any def of data -/
section
variable {X : Cx} {x : Str} {p pos : Pos} {e : Expr} {es : List Expr} {t tk : TA} {af kf : AF} {kws : List Keyword}
theorem se_callG {k f n : Nat} {K : PySem.W.Frag} {fd : FuncData} {ps : List Str} {m : List PyData → Option R} (hn : ∀ ds r, m ds = some r → ds.length = n) (G : FnOk X.prog X.w X.K X.mg X.base CX0 k f fd ps (spD X.K n m)) (hr : Room k X.A) (hg : Gl X x) (hm : X.mg x = some (.ref f)) (hk : PySem.W.keepIn X.K (.ref f) = true) (hb : Binds X.K fd ps [])
    (ha : SA X (e :: es) t af) (hdb : (x == ("__debug__" : Str)) = false := by decide) (he : starEach (e :: es) X.env = (false, eval e X.env) :: starEach es X.env := by rfl) (hpl : (backTo pos (starEach es X.env)).any (·.1) = false := by rfl) (hK : X.K = K := by rfl) :
    SE X (.Call (.Name x p) (e :: es) [] pos) (L2.tCall (spD K n m) [] E0 t) (eCall m af) := by
  subst hK
  exact ⟨pe_call G hr hg hm hk hb .nil pass0 ha.pa hdb he hpl, de_call hn ha.da⟩
theorem se_callKG {k f N n j : Nat} {K : PySem.W.Frag} {fd : FuncData} {ps ks : List Str} {m : List PyData → Option R} (hn : ∀ ds r, m ds = some r → ds.length = N) (G : FnOk X.prog X.w X.K X.mg X.base CX0 k f fd ps (spD X.K N m)) (hr : Room k X.A) (hg : Gl X x) (hm : X.mg x = some (.ref f)) (hk : PySem.W.keepIn X.K (.ref f) = true) (hb : BindsK X.K fd ps ks n j)
    (ha : SA X (e :: es) t af) (hkw : SK X kws tk kf) (hall : (backToKw pos (keywordEach kws X.env)).all (·.1.isSome) = true := by rfl) (hks : (backToKw pos (keywordEach kws X.env)).filterMap (·.1) = ks := by rfl)
    (hdb : (x == ("__debug__" : Str)) = false := by decide) (he : starEach (e :: es) X.env = (false, eval e X.env) :: starEach es X.env := by rfl)
    (hpl : ((backTo pos (starEach (e :: es) X.env)).any (·.1) || (backToKw pos (keywordEach kws X.env)).any (·.1.isNone)) = false := by rfl) (hK : X.K = K := by rfl) :
    SE X (.Call (.Name x p) (e :: es) kws pos) (tCallKS (spD K N m) (gK n j) (fun _ => E0) t tk) (eCallK m n j af kf) := by
  subst hK
  exact ⟨pe_callKS G hr hg hm hk hb (fun σ pins H s e s' I h => h.elim) ha.pa hkw.pk hall hks hdb he hpl, de_callK hn ha.da hkw.da⟩
theorem me_callG {W : WX} {am : AM} {k f n : Nat} {K : PySem.W.Frag} {fd : FuncData} {ps : List Str} {m : List PyData → Option R} (hn : ∀ ds r, m ds = some r → ds.length = n) (G : FnOk X.prog X.w X.K X.mg X.base CX0 k f fd ps (spD X.K n m)) (hr : Room k X.A) (hg : Gl X x) (hm : X.mg x = some (.ref f)) (hk : PySem.W.keepIn X.K (.ref f) = true) (hb : Binds X.K fd ps [])
    (ha : SAM X W (e :: es) t am) (hdb : (x == ("__debug__" : Str)) = false := by decide) (he : starEach (e :: es) X.env = (false, eval e X.env) :: starEach es X.env := by rfl) (hpl : (backTo pos (starEach es X.env)).any (·.1) = false := by rfl) (hK : X.K = K := by rfl) :
    SEM X W (.Call (.Name x p) (e :: es) [] pos) (L2.tCall (spD K n m) [] E0 t) (mCall m am) := by
  subst hK
  exact ⟨pe_call G hr hg hm hk hb .nil pass0 ha.pa hdb he hpl, dem_call hn ha.da⟩
end
/-! ### the law's own end -/
theorem law_atB {P : Program} {w : World} {K : PySem.W.Frag} {mg mb : Str → Option Value} {k : Nat} {fa a : Addr} {fd : FuncData} {N : List Str} {st : Stmt} {s₁ : Shared} {vs : List Value} {ns : List Int} {x qual : Str} {b : BF}
    (F : Fun K x qual st fa fd) (S : FnScope N ["script"] (defScope st))
    (KX : K.In s₁.heap) (gns : s₁.heap.Ns mainGlobals mg) (bns : s₁.heap.Ns builtinsNs mb) (boots : ∀ x : Str, x ≠ "__name__" → mb x = bootBuiltins x) (lim : s₁.heap.NoLimit) (gens : s₁.gens = #[])
    (ha : s₁.heap.get? a = some { cls := .type "list", data := .seq vs.toArray }) (hi : IntsAre vs ns) (hl : ns.length ≤ sizeLine) (hr : Room (k + 1) callerA)
    (bnd : ∀ (s : Shared) (u : Value), BindsTo s fd ⟨[u], []⟩ [("script", u)])
    (val : fnXB N.length 1 b [.list (ns.map PyData.int)] = some (.rt (.val (.bool true))))
    (body : ∀ (base : Heap), K.In base → base.Ns mainGlobals mg → ∀ (cdv : Value) (s : Shared) (H : Hp), Room k (callerA.deeper (envOfC qual (defScope st) s.heap.objs.size fa cdv)) →
      ∃ t, SSsB (cxOf CX0 P w K mg base N qual (defScope st) fa cdv callerA [] s H E0).nox WF none (defBody st) t b) :
    codeAny (model P w) callerA (.call (.ref fa) ⟨[.ref a], []⟩) (fun r s' => r = .ok (.ret (.bool true)) ∧ OldK s₁.heap s'.heap ∧ s'.os = s₁.os ∧ AllBare s'.gens) s₁ := by
  have iv := vals_ints hi
  have il := hi.length
  generalize hH : headH K a vs ns = H
  have at_ : ∀ {b : Addr} {u : HO}, H b = some u → b = a ∧ K.lookup a = none ∧ u = .frz { cls := .type "list", data := .seq vs.toArray } (.lst (ns.map V.int)) := fun {b u} e => headH_some (hH ▸ e)
  have free : ∀ {b : Addr} {o : Obj}, s₁.heap.get? b = some o → (∀ es n, o.data ≠ .seq es n) → H b = none := fun {b o} e d => by
    cases q : H b with
    | none => rfl
    | some u =>
      obtain ⟨rfl, _, _⟩ := at_ q
      rw [ha] at e
      cases e
      exact absurd rfl (d _ _)
  have keepNs : ∀ {c : Addr} {m : Str → Option Value}, s₁.heap.Ns c m → (hidT s₁.heap H).Ns c m := fun {c m} ⟨o, es, ep, e, d, r⟩ =>
    ⟨o, es, ep, hidT_get e (free e fun _ _ z => by rw [d] at z; cases z), d, r⟩
  have KB : K.In (hidT s₁.heap H) := fun c o e => hidT_get (KX c o e) (by
    cases q : H c with
    | none => rfl
    | some u =>
      obtain ⟨rfl, n, _⟩ := at_ q
      rw [n] at e
      cases e)
  obtain ⟨mc, l1, l2⟩ := lim
  have md : Mod K mg (hidT s₁.heap H) := ⟨KB, keepNs gns, ⟨mb, keepNs bns, boots⟩, mc, keepNs l1, l2⟩
  have hok : HOk P w H s₁.heap := fun c u z => by
    obtain ⟨rfl, n, rfl⟩ := at_ z
    exact ⟨ha, by rw [List.length_map]; exact hl, vs, _, iv, ha⟩
  have e0 : Env0 P w K mg (hidT s₁.heap H) callerA [] s₁ H :=
    ⟨rfl, md, fun c o e => of_hidT e, Nat.le_of_eq (hidT_size _ _), trivial, fun c hc => (by cases hc), hok, .of_eq gens⟩
  have sq : SqL K H a (ns.map V.int) := by
    cases hk : K.lookup a with
    | some o =>
      have e := KX a o hk
      rw [ha] at e
      cases e
      exact Or.inr ⟨_, vs.toArray, _, hk, rfl, rfl, rfl, by rw [List.size_toArray, il]; exact hl, by simpa using iv⟩
    | none =>
      refine Or.inl (Or.inr ⟨{ cls := .type "list", data := .seq vs.toArray }, ?_⟩)
      rw [← hH]
      unfold headH
      rw [if_pos ⟨rfl, hk⟩]
  have run : CallAt P w callerA [] H s₁ fa [.ref a] (fun v _ => v = .bl true) := by
    refine callAt (vs := [.ref a]) F S hr e0 (bnd s₁ (.ref a)) (.cons rfl .nil) rfl fun cdv room => ?_
    obtain ⟨t, ht⟩ := body _ KB (keepNs gns) cdv s₁ H room
    refine ⟨t, ht.ps takes0 PassesOwn.never, ?_⟩
    unfold fnXB at val
    rw [if_pos (show [PyData.list (ns.map PyData.int)].length = 1 from rfl)] at val
    have d0 : DpAll K H [V.ref a] [.list (ns.map PyData.int)] := .cons (.lst sq (DpAll.ints ns)) .nil
    cases eb : b (startB N.length 1 ([PyData.list (ns.map PyData.int)].map .d)) [] with
    | none => rw [eb] at val; cases val
    | some o =>
      rw [eb] at val
      refine ht.ds H H H H _ _ _ [] o (rl_start (Same.refl H)) (lo_start (.ofD d0) rfl none) eb _ ?_
      cases o with
      | nx env s' => cases val
      | bk env s' => cases val
      | ct env s' => cases val
      | ex e env s' => cases val
      | rt r s' =>
        rw [resB_rt, resX_ok] at val
        obtain ⟨r', e1, val⟩ := Dn.bnd val
        cases val
        intro F' H' α' x p' R' hr'
        obtain ⟨F2, _, g, rr⟩ := toR_ok R' hr' e1
        cases rr
        rfl
  unfold CallAt at run
  refine codeAny_mono run fun r s' h => ?_
  cases r with
  | error e => exact h.elim
  | ok fl =>
    cases fl with
    | next => exact h.elim
    | brk => exact h.elim
    | cont => exact h.elim
    | ret u =>
      obtain ⟨v, H', os, bare, un, hok', r', rfl⟩ := h
      obtain rfl : u = Value.bool true := r'
      refine ⟨rfl, OldK.of_keep fun c o e => ?_, os, bare⟩
      cases q : H c with
      | none => exact un.keep c o e q (fun z => by cases z) (fun z => by cases z)
      | some u =>
        obtain ⟨rfl, n, rfl⟩ := at_ q
        have z1 := (hok c _ q).1
        have z2 := (hok' c _ (un.frzs c _ _ q)).1
        rw [e] at z1
        cases z1
        exact z2
def LawB (P : Program) (w : World) (K : PySem.W.Frag) (mg : Str → Option Value) (k : Nat) (fa : Addr) : Prop :=
  ∃ (fd : FuncData) (N : List Str) (st : Stmt) (x qual : Str) (b : BF), Fun K x qual st fa fd ∧ FnScope N ["script"] (defScope st) ∧
    (∀ (s : Shared) (u : Value), BindsTo s fd ⟨[u], []⟩ [("script", u)]) ∧
    (∀ ns : List Int, ns.length ≤ 63 → fnXB N.length 1 b [.list (ns.map PyData.int)] = some (.rt (.val (.bool true)))) ∧
    ∀ (base : Heap), K.In base → base.Ns mainGlobals mg → ∀ (cdv : Value) (s : Shared) (H : Hp), Room k (callerA.deeper (envOfC qual (defScope st) s.heap.objs.size fa cdv)) →
      ∃ t, SSsB (cxOf CX0 P w K mg base N qual (defScope st) fa cdv callerA [] s H E0).nox WF none (defBody st) t b
theorem walkB {l : PySem.W.OpenLaw} {k : Nat} {q : Program} {loose : List Str} {XP : (Str → Option Value) → Heap → Prop} {YP : World → Heap → Prop} {d : DefRec} {K : Params → PySem.W.Frag}
    (hn : l.most = some 63) (hdf : d.params.defaults = []) (hr : Room (k + 1) callerA) (hY : ∀ (w : World) (h : Heap), YP w h → (K w.params).In h)
    (F : ∀ (w : World) (mg : Str → Option Value) (fa : Addr) (h : Heap), (K w.params).In h → h.Ns mainGlobals mg → mg d.name = some (.ref fa) → LawB l.prog w (K w.params) mg k fa) :
    PySem.W.WalkO q loose XP YP l.row.toRowW d [] (fun f vs => PySem.call f vs) :=
  Att.attach_call hn hdf fun w s₀ s₁ mg mb fa o pm cd doc a vs ns G Y ho hd hcd hmg hobj hints hlen hg => by
    have kin := hY w _ Y
    obtain ⟨fd, N, st, x, qual, b, F1, S, bnd, val, body⟩ := F w mg fa _ kin G.T.g hmg
    exact law_atB F1 S kin G.T.g G.T.b G.T.builtins G.T.nolimit hg hobj hints (Nat.le_trans hlen (by rw [sizeLine_eq]; decide)) hr bnd (val ns hlen) body
end Bn
/-! Bn8: sets of ints. -/
namespace Bn
open PySem PySem.Spec PyProof.Rows L2 Dn
def SetFits (n : Nat) : Prop := n + 1 < scanBound
noncomputable instance (n : Nat) : Decidable (SetFits n) := Classical.propDecidable _
@[simp] def bSet1 (f : BE) : BE := fun env s => bB (f env (s ++ [.set []])) fun a s1 => match a with
  | .d (.int k) => match s1[s.length]? with
    | some (.set []) => some (.ok (.c s.length) (s1.set s.length (.set [k])))
    | _ => none
  | _ => none
@[simp] noncomputable def bSAdd (fo fe : BE) : BE := fun env s => bB (fo env s) fun o s1 => match o with
  | .c i => match s1[i]? with
    | some (.set _) => bB (fe env s1) fun a s2 => match a with
      | .d (.int k) => match s2[i]? with
        | some (.set ks) => if SetFits ks.length then some (.ok (.d .none) (s2.set i (.set (if k ∈ ks then ks else ks ++ [k])))) else none
        | _ => none
      | _ => none
    | _ => none
  | _ => none
def sInR (neg : Bool) (s : Sto) (a b : AV) : Option (An AV) := match a, b with
  | .d (.int k), .c i => match s[i]? with
    | some (.set ks) => some (.ok (.d (.bool (if neg then !decide (k ∈ ks) else decide (k ∈ ks)))) s)
    | _ => none
  | _, _ => none
@[simp] def bSin (f1 f2 : BE) : BE := fun env s => bB (f1 env s) fun a s1 => bB (f2 env s1) fun b s2 => sInR false s2 a b
@[simp] def bSnotin (f1 f2 : BE) : BE := fun env s => bB (f1 env s) fun a s1 => bB (f2 env s1) fun b s2 => sInR true s2 a b
def SortedOf (ks ns : List Int) : Prop := ns.Pairwise (· < ·) ∧ ∀ k : Int, k ∈ ns ↔ k ∈ ks
theorem sorted_uniq : ∀ {as bs : List Int}, as.Pairwise (· < ·) → bs.Pairwise (· < ·) → (∀ k, k ∈ as ↔ k ∈ bs) → as = bs
  | [], [], _, _, _ => rfl
  | [], b :: bs, _, _, h => absurd ((h b).mpr (by simp)) (by simp)
  | a :: as, [], _, _, h => absurd ((h a).mp (by simp)) (by simp)
  | a :: as, b :: bs, p, q, h => by
    have pa := List.pairwise_cons.mp p
    have qb := List.pairwise_cons.mp q
    have e : a = b := by
      rcases List.mem_cons.mp ((h a).mp (by simp)) with e | e
      · exact e
      · rcases List.mem_cons.mp ((h b).mpr (by simp)) with e2 | e2
        · exact e2.symm
        · have h1 := qb.1 a e
          have h2 := pa.1 b e2
          omega
    subst e
    congr 1
    refine sorted_uniq pa.2 qb.2 fun k => ⟨fun hk => ?_, fun hk => ?_⟩
    · rcases List.mem_cons.mp ((h k).mp (by simp [hk])) with e | e
      · subst e
        exact absurd (pa.1 k hk) (by omega)
      · exact e
    · rcases List.mem_cons.mp ((h k).mpr (by simp [hk])) with e | e
      · subst e
        exact absurd (qb.1 k hk) (by omega)
      · exact e
open Classical in
/-- the members, ascending -/
noncomputable def sortU (ks : List Int) : List Int := if h : ∃ ns, SortedOf ks ns then h.choose else []
theorem sortU_eq {ks ns : List Int} (h : SortedOf ks ns) : sortU ks = ns := by
  unfold sortU
  have hx : ∃ ns, SortedOf ks ns := ⟨ns, h⟩
  rw [dif_pos hx]
  obtain ⟨h1, h2⟩ := hx.choose_spec
  exact sorted_uniq h1 h.1 fun k => (h2 k).trans (h.2 k).symm
@[simp] noncomputable def bSortedSet (f : BE) : BE := fun env s => bB (f env s) fun a s1 => match a with
  | .c i => match s1[i]? with
    | some (.set ks) => if ks.length < 64 then some (.ok (.c s1.length) (s1 ++ [.ld ((sortU ks).map .int)])) else none
    | _ => none
  | _ => none
section
variable {mg : Str → Option Value} {K : PySem.W.Frag} {w : World} {W : WX} {ec : EC} {F0 H0 F H F1 H1 : Hp} {α α1 : Adr} {σ : L2.St} {env : Ev} {s s1 : Sto} {n : Nat}
theorem setO_nil {a : Addr} : SetO w a (fun _ => false) 0 = SetO w a (fun j => decide (j ∈ ([] : List Int))) ([] : List Int).length := by
  congr 1
theorem setO_one {a : Addr} {k : Int} : SetO w a (fun j => decide (j = k)) 1 = SetO w a (fun j => decide (j ∈ [k])) [k].length := by
  congr 1
  funext j
  simp
theorem setO_add {a : Addr} {k : Int} {ks : List Int} : SetO w a (fun j => decide (j ∈ ks) || decide (j = k)) (if decide (k ∈ ks) = true then ks.length else ks.length + 1) = SetO w a (fun j => decide (j ∈ (if k ∈ ks then ks else ks ++ [k]))) (if k ∈ ks then ks else ks ++ [k]).length := by
  by_cases h : k ∈ ks
  · rw [if_pos h, if_pos (decide_eq_true h)]
    congr 1
    funext j
    by_cases e : j = k
    · subst e; simp [h]
    · simp [e]
  · rw [if_neg h, if_neg (by simpa using h)]
    congr 1
    · funext j
      simp
    · simp
theorem deb_set1 {te : TE} {f : BE} (h : DEB mg K w W ec te f) : DEB mg K w W ec (tSet1 w te) (bSet1 f) := fun F0 H0 F H α σ env s ans R L e Q q => by
  intro p hp
  have R0 : Rl K w F0 H0 F (upd H p (SetO w p (fun _ => false) 0)) (ext α s.length p) (s ++ [.set []]) := R.newCe hp ⟨R.i.free hp, by rw [upd_same, setO_nil]⟩
  have L0 : Lo mg K ec F (ext α s.length p) (s ++ [Ce.set []]).length σ env := by rw [ln1]; exact L.mono .ext
  have p0 : Pg F α s.length F (ext α s.length p) (s ++ [Ce.set []]).length := by rw [ln1]; exact .ext
  rcases bBd e with ⟨a, s1, ea, e⟩ | ⟨x, s1, ea, rfl⟩
  case inr => exact h F0 H0 F _ _ σ env _ _ R0 L0 ea _ (ExB.on p0 q)
  refine h.run R0 L0 ea fun F1 H1 α1 x p1 R1 r1 L1 => ?_
  split at e
  case h_2 => cases e
  rename_i k
  split at e
  case h_2 => cases e
  rename_i hs
  cases e
  obtain ⟨h1, h2⟩ := R1.ob _ _ hs
  have ep : α1 s.length = p := by rw [p1.a s.length (by rw [ln1]; omega), ext_same]
  rw [ep] at h1 h2
  have R2 := R1.put (q := .set [k]) (ho := SetO w (α1 s.length) (fun j => decide (j = k)) 1) hs (by rw [ep]; exact h1) ⟨by rw [ep]; exact h1, by rw [upd_same, setO_one]⟩
  rw [ep] at R2
  refine ⟨k, dp_int r1, by rw [h2, ← setO_nil], q F1 _ α1 _ ((p0.trans p1).trans PgSet) R2 ?_⟩
  rw [List.length_set]
  exact ⟨(List.getElem?_eq_some_iff.mp hs).1, by rw [ep]⟩
theorem deb_sadd {to te : TE} {fo fe : BE} (ho : DEB mg K w W ec to fo) (he : DEB mg K w W ec te fe) : DEB mg K w W ec (tSAdd w to (tCons te tNil)) (bSAdd fo fe) := fun F0 H0 F H α σ env s ans R L e Q q => by
  rcases bBd e with ⟨o, s1, ea, e⟩ | ⟨x, s1, ea, rfl⟩
  case inr => exact ho F0 H0 F H α σ env s _ R L ea _ q
  split at e
  case h_2 => cases e
  rename_i i
  split at e
  case h_2 => cases e
  rename_i ks0 hs0
  refine ho.run R L ea fun F1 H1 α1 x p1 R1 r1 L1 => ?_
  refine ⟨⟨_, _, _, r1.2, (R1.ob _ _ hs0).2⟩, ?_⟩
  rcases bBd e with ⟨a, s2, eb, e⟩ | ⟨y, s2, eb, rfl⟩
  case inr => exact he F0 H0 F1 H1 α1 σ env s1 _ R1 L1 eb _ (ExB.on p1 q)
  refine he.run R1 L1 eb fun F2 H2 α2 y p2 R2 r2 L2 => ?_
  split at e
  case h_2 => cases e
  rename_i k
  split at e
  case h_2 => cases e
  rename_i ks hs
  split at e
  case isFalse => cases e
  rename_i hf
  cases e
  obtain ⟨h1, h2⟩ := R2.ob _ _ hs
  have ea2 : α2 i = α1 i := p2.a i r1.1
  refine ⟨α2 i, k, _, _, by rw [r1.2, ea2], by rw [dp_int r2], h2, hf, ?_⟩
  refine q F2 _ α2 _ ((p1.trans p2).trans PgSet) (R2.put (q := .set (if k ∈ ks then ks else ks ++ [k])) hs h1 ⟨h1, ?_⟩) .non
  rw [upd_same]
  exact congrArg some setO_add
theorem sInR_ok {neg : Bool} {a b : AV} {an : An AV} {x y : V} {Q : VK} (R : Rl K w F0 H0 F H α s) (rx : AVR K F α s.length x a) (ry : AVR K F α s.length y b) (e : sInR neg s a b = some an) (q : EmB mg K w W F0 H0 F α s.length σ Q an) : ∃ (k : Int) (p : Addr) (ks : List Int), x = .int k ∧ y = .ref p ∧ H p = some (SetO w p (fun j => decide (j ∈ ks)) ks.length) ∧ Q (.bl (if neg then !decide (k ∈ ks) else decide (k ∈ ks))) H := by
  unfold sInR at e
  split at e
  case h_2 => cases e
  split at e
  case h_2 => cases e
  rename_i ks hs
  cases e
  exact ⟨_, _, ks, dp_int rx, ry.2, (R.ob _ _ hs).2, q F H α _ .refl R (.bl _)⟩
theorem deb_sin {ta tb : TE} {f1 f2 : BE} (h1 : DEB mg K w W ec ta f1) (h2 : DEB mg K w W ec tb f2) : DEB mg K w W ec (tOp (rSIn w) ta tb) (bSin f1 f2) := fun F0 H0 F H α σ env s ans R L e Q q => by
  rcases bBd e with ⟨a, s1, ea, e⟩ | ⟨x, s1, ea, rfl⟩
  case inr => exact h1 F0 H0 F H α σ env s _ R L ea _ q
  refine h1.run R L ea fun F1 H1 α1 x p1 R1 r1 L1 => ?_
  rcases bBd e with ⟨b, s2, eb, e⟩ | ⟨y, s2, eb, rfl⟩
  case inr => exact h2 F0 H0 F1 H1 α1 σ env s1 _ R1 L1 eb _ (ExB.on p1 q)
  refine h2.run R1 L1 eb fun F2 H2 α2 y p2 R2 r2 L2 => ?_
  obtain ⟨k, p, ks, e1, e2, e3, e4⟩ := sInR_ok R2 (r1.mono p2) r2 e (q.on (p1.trans p2))
  exact ⟨k, p, _, _, e1, e2, e3, e4⟩
theorem deb_snotin {ta tb : TE} {f1 f2 : BE} (h1 : DEB mg K w W ec ta f1) (h2 : DEB mg K w W ec tb f2) : DEB mg K w W ec (tOp (rSNotIn w) ta tb) (bSnotin f1 f2) := fun F0 H0 F H α σ env s ans R L e Q q => by
  rcases bBd e with ⟨a, s1, ea, e⟩ | ⟨x, s1, ea, rfl⟩
  case inr => exact h1 F0 H0 F H α σ env s _ R L ea _ q
  refine h1.run R L ea fun F1 H1 α1 x p1 R1 r1 L1 => ?_
  rcases bBd e with ⟨b, s2, eb, e⟩ | ⟨y, s2, eb, rfl⟩
  case inr => exact h2 F0 H0 F1 H1 α1 σ env s1 _ R1 L1 eb _ (ExB.on p1 q)
  refine h2.run R1 L1 eb fun F2 H2 α2 y p2 R2 r2 L2 => ?_
  obtain ⟨k, p, ks, e1, e2, e3, e4⟩ := sInR_ok R2 (r1.mono p2) r2 e (q.on (p1.trans p2))
  exact ⟨k, p, _, _, e1, e2, e3, e4⟩
theorem deb_sortedSet {ta : TE} {f : BE} (h : DEB mg K w W ec ta f) : DEB mg K w W ec (tCB (rSortedSet w) (tCons ta tNil)) (bSortedSet f) := fun F0 H0 F H α σ env s ans R L e Q q => by
  rcases bBd e with ⟨a, s1, ea, e⟩ | ⟨x, s1, ea, rfl⟩
  case inr => exact h F0 H0 F H α σ env s _ R L ea _ q
  refine h.run R L ea fun F1 H1 α1 x p1 R1 r1 L1 => ?_
  split at e
  case h_2 => cases e
  split at e
  case h_2 => cases e
  rename_i ks hs
  split at e
  case isFalse => cases e
  rename_i hl
  cases e
  obtain ⟨h1, h2⟩ := R1.ob _ _ hs
  refine ⟨_, _, _, by rw [r1.2], h2, hl, fun ns p hpw hmem hlen hp => ?_⟩
  have es : sortU ks = ns := sortU_eq ⟨hpw, fun k => by rw [hmem k]; simp⟩
  rw [es] at q
  refine q F1 _ (ext α1 s1.length p) _ ?_ (R1.newCe hp ⟨R1.i.free hp, _, upd_same, DpAll.ints ns⟩) ?_
  · rw [ln1]; exact p1.trans .ext
  · rw [ln1]; exact ⟨Nat.lt_succ_self _, by rw [ext_same]⟩
end
section
variable {X : Cx} {W : WX} {ec : EC} {x : Str} {a b o e : Expr} {pos p apos cpos : Pos} {ta tb te : TE} {f g : BE}
theorem eb_set1 {w : World} (hcd : PySem.W.kdsCode X.K X.env.code = true) (h1 : SEB X W ec e te f) (hp : PySem.W.kdsPlain e = true := by rfl) (hw : X.w = w := by rfl) : SEB X W ec (.Set [e] 0 pos) (tSet1 w te) (bSet1 f) := by
  subst hw
  exact ⟨fun tk => pe_set1 (h1.pe tk) hp hcd, deb_set1 h1.de⟩
theorem eb_sadd {w : World} (h0 : SEB X W ec o ta g) (h1 : SEB X W ec e te f)
    (hbase : attributeBase o "add" X.env (eval o X.env) = eval o X.env := by rfl)
    (hfew : ((backTo cpos (starEach [e] X.env)).all (fun x => !x.1) && (backToKw cpos (keywordEach [] X.env)).all (fun x => x.1.isSome)
      && decide ([e].length + ([] : List Keyword).length + (if ([] : List Keyword).isEmpty then 0 else 1) < 30)) = true := by rfl)
    (hline : (apos.endLine == cpos.line) = true := by rfl) (hst : starEach [e] X.env = (false, eval e X.env) :: starEach [] X.env := by rfl) (hplain : (backTo cpos (starEach [] X.env)).any (·.1) = false := by rfl) (hw : X.w = w := by rfl) :
    SEB X W ec (.Call (.Attribute o "add" apos) [e] [] cpos) (tSAdd w ta (tCons te tNil)) (bSAdd g f) := by
  subst hw
  exact ⟨fun tk => pe_sadd (h0.pe tk) (pa_cons (h1.pe tk) pa_nil hst) hbase hfew hline hst hplain, deb_sadd h0.de h1.de⟩
theorem tb_sin {w : World} (h1 : SEB X W ec a ta f) (h2 : SEB X W ec b tb g) (hm : behindInMarks .In b = false := by rfl) (hw : X.w = w := by rfl) : STB X W ec (.Compare a [.In] [b] pos) (tTest (tOp (rSIn w) ta tb)) (bTE (bSin f g)) := by
  subst hw
  exact ⟨fun tk => pt_cmpR or_sin (h1.pe tk) (h2.pe tk) hm, dtb_test (deb_sin h1.de h2.de)⟩
theorem tb_snotin {w : World} (h1 : SEB X W ec a ta f) (h2 : SEB X W ec b tb g) (hm : behindInMarks .NotIn b = false := by rfl) (hw : X.w = w := by rfl) : STB X W ec (.Compare a [.NotIn] [b] pos) (tTest (tOp (rSNotIn w) ta tb)) (bTE (bSnotin f g)) := by
  subst hw
  exact ⟨fun tk => pt_cmpR or_snotin (h1.pe tk) (h2.pe tk) hm, dtb_test (deb_snotin h1.de h2.de)⟩
theorem eb_sortedSet {w : World} (hc : X.calm = true) (hg : Gl X x) (hm : X.mg x = none) (hv : bootBuiltins x = some (.builtin "sorted")) (h1 : SEB X W ec e te f) (hn : x ≠ "__name__" := by decide) (hdb : (x == ("__debug__" : Str)) = false := by decide)
    (he : starEach [e] X.env = (false, eval e X.env) :: starEach [] X.env := by rfl) (hpl : (backTo pos (starEach [] X.env)).any (·.1) = false := by rfl) (hw : X.w = w := by rfl) :
    SEB X W ec (.Call (.Name x p) [e] [] pos) (tCB (rSortedSet w) (tCons te tNil)) (bSortedSet f) := by
  subst hw
  exact ⟨fun tk => pe_callB (cr_sortedSet hc) hg hm hv (pa_cons (h1.pe tk) pa_nil he) hn hdb he hpl, deb_sortedSet h1.de⟩
end
end Bn
namespace Dn
open PySem PySem.Spec PyProof.Rows L2
/-- the ints in order -/
def sortI (ns : List Int) : List Int := ns.mergeSort fun a b => decide (a ≤ b)
theorem sortI_eq {ns ms : List Int} (p : ms.Perm ns) (s : ms.Pairwise (· ≤ ·)) : sortI ns = ms := by
  refine List.Perm.eq_of_pairwise (le := (· ≤ ·)) (fun a b _ _ h1 h2 => Int.le_antisymm h1 h2) ?_ s ((List.mergeSort_perm ns _).trans p.symm)
  have := List.pairwise_mergeSort (le := fun a b : Int => decide (a ≤ b)) (fun a b c h1 h2 => by simp at *; omega) (fun a b => by simp; omega) ns
  exact this.imp fun h => by simpa using h
def asI : List PyData → Option (List Int)
  | [] => some []
  | .int i :: r => (asI r).bind fun is => some (i :: is)
  | _ :: _ => none
theorem asI_map (ns : List Int) : asI (ns.map .int) = some ns := by
  induction ns with
  | nil => rfl
  | cons n r ih =>
    show (asI (r.map .int)).bind _ = _
    rw [ih]
    rfl
theorem asI_some : ∀ {ds : List PyData} {ns : List Int}, asI ds = some ns → ds = ns.map .int
  | [], ns, e => by cases e; rfl
  | .int i :: r, ns, e => by
    obtain ⟨is, e1, e⟩ := bnd e
    cases e
    rw [asI_some e1]
    rfl
  | .none :: _, _, e => by cases e
  | .bool _ :: _, _, e => by cases e
  | .str _ :: _, _, e => by cases e
  | .list _ :: _, _, e => by cases e
  | .tuple _ :: _, _, e => by cases e
  | .dict _ :: _, _, e => by cases e
theorem dpa_ints {K : PySem.W.Frag} {F : Hp} : ∀ {xs : List V} {ns : List Int}, DpAll K F xs (ns.map .int) → xs = ns.map V.int
  | [], [], _ => rfl
  | _ :: _, n :: r, .cons h t => by rw [dp_int h, dpa_ints t]; rfl
def gSorted : List PyData → Option R
  | [.list ds] => (asI ds).bind fun ns => some (.own ((sortI ns).map .int))
  | _ => none
theorem gSorted_ints (ns : List Int) : gSorted [.list (ns.map .int)] = some (.own ((sortI ns).map .int)) := by
  show (asI (ns.map .int)).bind _ = _
  rw [asI_map]
  rfl
theorem rc_sorted {K : PySem.W.Frag} : RCD K (rSortedI K) gSorted := fun F H vs ds r fh h e Q q => by
  unfold gSorted at e
  split at e
  case h_2 => cases e
  rename_i xs
  obtain ⟨ns, en, e⟩ := bnd e
  cases e
  rw [asI_some en] at h
  cases h with
  | cons h1 h2 =>
    cases h2
    obtain ⟨a, ys, rfl, s1, a1⟩ := dp_list h1
    rw [dpa_ints a1] at s1
    refine ⟨a, ns, rfl, sqL_mono fh s1, fun ms p hp hs hn => ?_⟩
    rw [sortI_eq hp hs] at q
    exact q F _ _ (Grow.new fh hn) (newL fh hn (DpAll.ints ms))
theorem se_c_sorted {X : Cx} {K : PySem.W.Frag} {x : Str} {p pos : Pos} {e : Expr} {es : List Expr} {t : TA} {af : AF} (hg : Gl X x) (hm : X.mg x = none) (hv : bootBuiltins x = some (.builtin "sorted")) (ha : SA X (e :: es) t af) (hn : x ≠ "__name__" := by decide) (hdb : (x == ("__debug__" : Str)) = false := by decide)
    (he : starEach (e :: es) X.env = (false, eval e X.env) :: starEach es X.env := by rfl) (hpl : (backTo pos (starEach es X.env)).any (·.1) = false := by rfl) (hK : X.K = K := by rfl) : SE X (.Call (.Name x p) (e :: es) [] pos) (tCB (rSortedI K) t) (eCall gSorted af) := by
  subst hK
  exact se_cb cr_sortedI rc_sorted hg hm hv ha hn hdb he hpl
end Dn
/-! Bn9: raise and try of the program's own exceptions (without fields of their own). -/
namespace Bn
open PySem PySem.Spec PyProof.Rows L2 Dn
/-- an own class of exceptions that has no __init__ of its own -/
structure Exc (K : PySem.W.Frag) (mg : Str → Option Value) (x : Str) (C : Addr) : Prop where
  g : mg x = some (.ref C)
  e : PySem.W.excIn K C [.type "ValueError", .type "Exception", .type "BaseException", .type "object"] "ValueError.__new__" = true
  k : PySem.W.keepIn K (.ref C) = true
  s : PySem.W.subIn K (.ref C) (.type "BaseException") = some true
  t : PySem.W.typeIn K (.ref C) = some (.type "type")
  d : PySem.W.hasDictIn K C = true
theorem pmk_own0 {X : Cx} {x : Str} {C : Addr} {p pos : Pos} (E : Exc X.K X.mg x C) (hg : Gl X x) (hdb : (x == ("__debug__" : Str)) = false) : PMk X (.Call (.Name x p) [] [] pos) fun _ H Q => Q (.ref C) none H := fun pins s σ H Q I q => by
  refine wpAny_Call_ofName (np := p) (args := []) (keywords := []) (ld_glob I hg E.g ?_ hdb)
  show wpAny _ _ (callWith pos _ [] (backTo pos (starEach [] X.env)) []) _ _ _
  refine PySem.W.callWith_K0 I.kIn E.k ?_
  obtain ⟨bm, N, nm, qn, bs, hdct, sn, sub, ab, col, dd, k0, k1, k2, k3, k5, mN, h1, h2, h3, h4⟩ := exc_obj I.kIn E.e
  cases s
  refine wpAny_call_exc_subU PySem.F.excBase_ValueError (by decide +kernel) PySem.F.excBase_ValueError h4 h1 h2 h3 (fun h' e made => ?_) (Nat.zero_le _)
  exact mk_of I made (raises_own E.s E.t) q (I.hok.gone made.new)
def fRaise (x : Str) : BF := fun env s => some (.ex ⟨x, []⟩ env s)
def tRaise (C : Addr) (W : WX) : TS := fun _ σ H => W (.ref C) none σ H
theorem dsb_raise {mg : Str → Option Value} {K : PySem.W.Frag} {w : World} {W : WX} {ec : EC} {x : Str} {C : Addr} (hg : mg x = some (.ref C)) : DSB mg K w W ec (tRaise C W) (fRaise x) := fun F0 H0 F H α σ env s o R L e D q => by
  cases e
  exact q F H α σ (.ref C) none .refl R L ⟨hg, .inl ⟨rfl, rfl⟩⟩
theorem sb_raise {X : Cx} {W : WX} {ec : EC} {x : Str} {C : Addr} {p cpos pos : Pos} (hc : X.calm = true) (E : Exc X.K X.mg x C) (hg : Gl X x) (hdb : (x == ("__debug__" : Str)) = false := by decide) :
    SSB X W ec (.Raise (some (.Call (.Name x p) [] [] cpos)) none pos) (tRaise C W) (fRaise x) :=
  ⟨fun tk _ => ps_raise hc tk (pmk_own0 E hg hdb), dsb_raise E.g⟩
/-! try -/
/-- what a handler's class is told of the classes that may come -/
def TstOk (K : PySem.W.Frag) (mg : Str → Option Value) (hc : Value) (l : List (Str × Bool)) : Prop := ∀ (c : Str) (b : Bool) (cls : Value), mg c = some cls → l.lookup c = some b → PySem.W.exmOne K cls hc = some b
theorem tst_nil {K : PySem.W.Frag} {mg : Str → Option Value} {hc : Value} : TstOk K mg hc [] := fun _ _ _ _ h => by cases h
theorem tst_cons {K : PySem.W.Frag} {mg : Str → Option Value} {x c : Str} {C D : Addr} {l : List (Str × Bool)} {b : Bool} (E : Exc K mg x C) (G : Exc K mg c D) (h : PySem.W.subIn K (.ref D) (.ref C) = some b) (t : TstOk K mg (.ref C) l) : TstOk K mg (.ref C) ((c, b) :: l) := fun c' b' cls hm hl => by
  rw [List.lookup_cons] at hl
  split at hl
  · rename_i hq
    cases hl
    have hq : c' = c := by simpa using hq
    subst hq
    rw [G.g] at hm
    cases hm
    exact PySem.W.exm_ref E.s E.d E.t h
  · exact t c' b' cls hm hl
def unX : Sg → Sg
  | .x _ => .un
  | g => g
def inX (i : Option Nat) (x : Xn) (env : Ev) : Ev := match i with
  | some i => env.set i (.x x)
  | none => env
def outX (i : Option Nat) (env : Ev) : Ev := match i with
  | some i => (env.set i .un).map unX
  | none => env.map unX
/-- try: body; except one class (as a name) -/
def fTry (l : List (Str × Bool)) (i : Option Nat) (body suite : BF) : BF := fun env s => match body env s with
  | some (.ex x e1 s1) => match l.lookup x.cls with
    | some true => match suite (inX i x e1) s1 with
      | some (.nx e2 s2) => some (.nx (outX i e2) s2)
      | some (.bk e2 s2) => some (.bk (outX i e2) s2)
      | some (.ct e2 s2) => some (.ct (outX i e2) s2)
      | some (.rt r s2) => some (.rt r s2)
      | _ => none
    | some false => some (.ex x e1 s1)
    | none => none
  | r => r
section
variable {mg : Str → Option Value} {K : PySem.W.Frag} {w : World} {W : WX} {ec : EC} {F F' : Hp} {α α' : Adr} {n n' : Nat} {σ : L2.St} {env : Ev}
theorem Lo.wide {ec' : EC} (L : Lo mg K none F α n σ env) : Lo mg K ec' F α n σ env := ⟨L.len, fun i g e => by
  have := L.at_ i g e
  cases g with
  | un => trivial
  | v a => exact this
  | x e => obtain ⟨_, _, _, h, _⟩ := this; cases h⟩
theorem Lo.inX {i : Nat} {x : Xn} {a : Addr} {cls : Value} {d : Option Addr} (L : Lo mg K none F α n σ env) (h : XnOk mg K F x cls d) : Lo mg K (some (a, cls, d)) F α n (σ.set i (some (.ref a))) (env.set i (.x x)) := by
  have L := L.wide (ec' := some (a, cls, d))
  refine ⟨by rw [List.length_set, List.length_set, L.len], fun j g e => ?_⟩
  by_cases hj : i = j
  · subst hj
    have hi : i < env.length := by have := (List.getElem?_eq_some_iff.mp e).1; rwa [List.length_set] at this
    rw [List.getElem?_set_self hi] at e
    cases e
    exact ⟨a, cls, d, rfl, by rw [List.getElem?_set_self (by rw [L.len]; exact hi)], h⟩
  · rw [List.getElem?_set_ne hj] at e ⊢
    exact L.at_ j g e
theorem Lo.unX (L : Lo mg K ec F α n σ env) : Lo mg K none F α n σ (env.map unX) := by
  refine ⟨by rw [List.length_map, L.len], fun j g e => ?_⟩
  rw [List.getElem?_map] at e
  obtain ⟨g0, e0, rfl⟩ := Option.map_eq_some_iff.mp e
  have := L.at_ j g0 e0
  cases g0 with
  | un => trivial
  | v a => exact this
  | x e => trivial
end
section
variable {mg : Str → Option Value} {K : PySem.W.Frag} {w : World} {Wout : WX} {hc : Value} {l : List (Str × Bool)} {tb : WX → TS} {ts : Addr → Value → Option Addr → TS} {body suite : BF}
theorem dsb_tryAs {i : Nat} (hT : TstOk K mg hc l) (hb : ∀ W, DSB mg K w W none (tb W) body) (hs : ∀ a cls d, DSB mg K w (fun _ _ _ _ => False) (some (a, cls, d)) (ts a cls d) suite) :
    DSB mg K w Wout none (fun D σ H => tb (wAs K hc i ts Wout D) D σ H) (fTry l (some i) body suite) := fun F0 H0 F H α σ env s o R L e D q => by
  unfold fTry at e
  cases hbd : body env s with
  | none => rw [hbd] at e; cases e
  | some ob =>
    rw [hbd] at e
    refine hb _ F0 H0 F H α σ env s ob R L hbd D ?_
    cases ob with
    | nx e1 s1 => cases e; exact q
    | rt e1 s1 => cases e; exact q
    | bk e1 s1 => cases e; exact q
    | ct e1 s1 => cases e; exact q
    | ex x e1 s1 =>
      intro F1 H1 α1 σ1 cls d p R1 L1 xx
      dsimp only at e
      split at e
      · rename_i hl
        refine ⟨true, hT _ _ _ xx.1 hl, fun _ a ha => ?_, fun h => by cases h⟩
        have L2 : Lo mg K (some (a, cls, d)) F1 α1 s1.length (σ1.set i (some (.ref a))) (inX (some i) x e1) := L1.inX xx
        cases hsu : suite (inX (some i) x e1) s1 with
        | none => rw [hsu] at e; cases e
        | some os =>
          rw [hsu] at e
          refine hs a cls d F0 H0 F1 H1 α1 _ _ s1 os R1 L2 hsu _ ?_
          cases os with
          | nx e2 s2 => cases e; exact fun F2 H2 α2 σ2 p2 R2 L2 => q F2 H2 α2 _ (p.trans p2) R2 L2.un.unX
          | bk e2 s2 => cases e; exact fun F2 H2 α2 σ2 p2 R2 L2 => q F2 H2 α2 _ (p.trans p2) R2 L2.un.unX
          | ct e2 s2 => cases e; exact fun F2 H2 α2 σ2 p2 R2 L2 => q F2 H2 α2 _ (p.trans p2) R2 L2.un.unX
          | rt r s2 => cases e; exact fun F2 H2 α2 y p2 R2 r2 => q F2 H2 α2 y (p.trans p2) R2 r2
          | ex x e2 s2 => cases e
      · rename_i hl
        cases e
        exact ⟨false, hT _ _ _ xx.1 hl, fun h => (by cases h), fun _ => q F1 H1 α1 σ1 cls d p R1 L1 xx⟩
      · cases e
theorem dsb_tryOnly (hT : TstOk K mg hc l) (hb : ∀ W, DSB mg K w W none (tb W) body) (hs : ∀ a cls d, DSB mg K w (fun _ _ _ _ => False) (some (a, cls, d)) (ts a cls d) suite) :
    DSB mg K w Wout none (fun D σ H => tb (wOnly K hc ts Wout D) D σ H) (fTry l none body suite) := fun F0 H0 F H α σ env s o R L e D q => by
  unfold fTry at e
  cases hbd : body env s with
  | none => rw [hbd] at e; cases e
  | some ob =>
    rw [hbd] at e
    refine hb _ F0 H0 F H α σ env s ob R L hbd D ?_
    cases ob with
    | nx e1 s1 => cases e; exact q
    | rt e1 s1 => cases e; exact q
    | bk e1 s1 => cases e; exact q
    | ct e1 s1 => cases e; exact q
    | ex x e1 s1 =>
      intro F1 H1 α1 σ1 cls d p R1 L1 xx
      dsimp only at e
      split at e
      · rename_i hl
        refine ⟨true, hT _ _ _ xx.1 hl, fun _ a ha => ?_, fun h => by cases h⟩
        have L2 : Lo mg K (some (a, cls, d)) F1 α1 s1.length σ1 (inX none x e1) := L1.wide
        cases hsu : suite (inX none x e1) s1 with
        | none => rw [hsu] at e; cases e
        | some os =>
          rw [hsu] at e
          refine hs a cls d F0 H0 F1 H1 α1 _ _ s1 os R1 L2 hsu _ ?_
          cases os with
          | nx e2 s2 => cases e; exact fun F2 H2 α2 σ2 p2 R2 L2 => q F2 H2 α2 _ (p.trans p2) R2 L2.unX
          | bk e2 s2 => cases e; exact fun F2 H2 α2 σ2 p2 R2 L2 => q F2 H2 α2 _ (p.trans p2) R2 L2.unX
          | ct e2 s2 => cases e; exact fun F2 H2 α2 σ2 p2 R2 L2 => q F2 H2 α2 _ (p.trans p2) R2 L2.unX
          | rt r s2 => cases e; exact fun F2 H2 α2 y p2 R2 r2 => q F2 H2 α2 y (p.trans p2) R2 r2
          | ex x e2 s2 => cases e
      · rename_i hl
        cases e
        exact ⟨false, hT _ _ _ xx.1 hl, fun h => (by cases h), fun _ => q F1 H1 α1 σ1 cls d p R1 L1 xx⟩
      · cases e
end
abbrev WNo : WX := fun _ _ _ _ => False
section
variable {X : Cx} {W : WX} {x n : Str} {C : Addr} {l : List (Str × Bool)} {body suite : List Stmt} {b0 : Stmt} {np pos pos' : Pos} {tb : WX → TS} {ts : Addr → Value → Option Addr → TS} {fb fs : BF} {i : Nat} {K : PySem.W.Frag}
theorem sb_tryAs (hN : X.N.Nodup) (hi : X.N[i]? = some n) (hk : X.env.kindOf n = some NameKind.local) (hst : X.stack = X.env :: X.outer) (hfr : X.env.frame = some X.env.locals) (hg : Gl X x) (E : Exc X.K X.mg x C) (hT : TstOk X.K X.mg (.ref C) l)
    (hb : ∀ (W : WX) (pn : List (Addr × Obj)) (xe : Value → Shared → Prop), SSsB (X.tr pn xe) W none body (tb W) fb)
    (hs : ∀ (a : Addr) (oe : Obj) (cls : Value) (d : Option Addr) (pn : List (Addr × Obj)), Zc cls d oe → (∃ vs, oe.data = Data.fields vs) → SSsB (X.suite a ((a, oe) :: pn)) WNo (some (a, cls, d)) (b0 :: suite) (ts a cls d) fs)
    (hdb : (x == ("__debug__" : Str)) = false := by decide) (hK : X.K = K := by rfl) :
    SSB X W none (.Try body [.ExceptHandler (some (.Name x np)) (some n) (b0 :: suite) pos'] [] [] pos) (fun D σ H => tb (wAs K (.ref C) i ts W D) D σ H) (fTry l (some i) fb fs) := by
  subst hK
  refine ⟨fun tk _ => ps_try_as hst hfr hN hi hk ⟨hg, hdb, .inl E.g⟩ tk (fun W pn xe tkW po => (hb W pn xe).ps tkW po) (fun a oe cls d pn hz hv => (hs a oe cls d pn hz hv).ps takes0 PassesOwn.never), dsb_tryAs hT (fun W => (hb W [] fun _ _ => False).ds) fun a cls d => ?_⟩
  exact (hs a ⟨cls, d, .fields #[], #[]⟩ cls d [] ⟨rfl, rfl⟩ ⟨_, rfl⟩).ds
theorem sb_tryOnly (hst : X.stack = X.env :: X.outer) (hfr : X.env.frame = some X.env.locals) (hg : Gl X x) (E : Exc X.K X.mg x C) (hT : TstOk X.K X.mg (.ref C) l)
    (hb : ∀ (W : WX) (pn : List (Addr × Obj)) (xe : Value → Shared → Prop), SSsB (X.tr pn xe) W none body (tb W) fb)
    (hs : ∀ (a : Addr) (oe : Obj) (cls : Value) (d : Option Addr) (pn : List (Addr × Obj)), Zc cls d oe → (∃ vs, oe.data = Data.fields vs) → SSsB (X.suite a ((a, oe) :: pn)) WNo (some (a, cls, d)) (b0 :: suite) (ts a cls d) fs)
    (hdb : (x == ("__debug__" : Str)) = false := by decide) (hK : X.K = K := by rfl) :
    SSB X W none (.Try body [.ExceptHandler (some (.Name x np)) none (b0 :: suite) pos'] [] [] pos) (fun D σ H => tb (wOnly K (.ref C) ts W D) D σ H) (fTry l none fb fs) := by
  subst hK
  refine ⟨fun tk _ => ps_try_only hst hfr ⟨hg, hdb, .inl E.g⟩ tk (fun W pn xe tkW po => (hb W pn xe).ps tkW po) (fun a oe cls d pn hz hv => (hs a oe cls d pn hz hv).ps takes0 PassesOwn.never), dsb_tryOnly hT (fun W => (hb W [] fun _ _ => False).ds) fun a cls d => ?_⟩
  exact (hs a ⟨cls, d, .fields #[], #[]⟩ cls d [] ⟨rfl, rfl⟩ ⟨_, rfl⟩).ds
end
/-! isinstance of the exception that is handled -/
/-- what isinstance says of the classes that may come -/
def IsOk (K : PySem.W.Frag) (mg : Str → Option Value) (cv : V) (l : List (Str × Bool)) : Prop := ∀ (c : Str) (b : Bool) (cls : Value), mg c = some cls → l.lookup c = some b → ∃ (D : Addr) (u : Value), cls = .ref D ∧ ExcC K D ∧ (∀ z, RelV cv z → z = u) ∧ PySem.W.kitOne K (.ref D) u = some b
theorem is_nil {K : PySem.W.Frag} {mg : Str → Option Value} {cv : V} : IsOk K mg cv [] := fun _ _ _ _ h => by cases h
theorem is_consR {K : PySem.W.Frag} {mg : Str → Option Value} {c : Str} {C D : Addr} {l : List (Str × Bool)} {b : Bool} (g : mg c = some (.ref D)) (e : ExcC K D) (h : PySem.W.kitOne K (.ref D) (.ref C) = some b) (t : IsOk K mg (.ref C) l) : IsOk K mg (.ref C) ((c, b) :: l) := fun c' b' cls hm hl => by
  rw [List.lookup_cons] at hl
  split at hl
  · rename_i hq
    cases hl
    have hq : c' = c := by simpa using hq
    subst hq
    rw [g] at hm
    cases hm
    exact ⟨D, .ref C, rfl, e, fun z hz => hz, h⟩
  · exact t c' b' cls hm hl
theorem is_consT {K : PySem.W.Frag} {mg : Str → Option Value} {c : Str} {D : Addr} {l : List (Str × Bool)} {b : Bool} {T : String} (g : mg c = some (.ref D)) (e : ExcC K D) (h : PySem.W.kitOne K (.ref D) (.type T) = some b) (t : IsOk K mg (.ty T) l) : IsOk K mg (.ty T) ((c, b) :: l) := fun c' b' cls hm hl => by
  rw [List.lookup_cons] at hl
  split at hl
  · rename_i hq
    cases hl
    have hq : c' = c := by simpa using hq
    subst hq
    rw [g] at hm
    cases hm
    exact ⟨D, .type T, rfl, e, fun z hz => hz, h⟩
  · exact t c' b' cls hm hl
/-- the handled exception stands in slot j -/
def bIsX (l : List (Str × Bool)) (j : Nat) : BE := fun env s => match env[j]? with
  | some (.x x) => if x.fs = [] then (l.lookup x.cls).bind fun b => some (.ok (.d (.bool b)) s) else none
  | _ => none
def tIsX (K : PySem.W.Frag) (a : Addr) (cls : Value) (d : Option Addr) (cv : V) (j : Nat) : TE := fun σ H Q => ∃ D, cls = .ref D ∧ d = none ∧ ExcC K D ∧ tCB (rIsE K D a) (tCons (tVar j) (tCons (tC cv) tNil)) σ H Q
theorem deb_isX {mg : Str → Option Value} {K : PySem.W.Frag} {w : World} {W : WX} {a : Addr} {cls : Value} {d : Option Addr} {cv : V} {l : List (Str × Bool)} {j : Nat} (h : IsOk K mg cv l) : DEB mg K w W (some (a, cls, d)) (tIsX K a cls d cv j) (bIsX l j) := fun F0 H0 F H α σ env s ans R L e Q q => by
  unfold bIsX at e
  split at e
  case h_2 => cases e
  rename_i x hx
  split at e
  case isFalse => cases e
  rename_i hf
  obtain ⟨b, hb, e⟩ := bnd e
  cases e
  obtain ⟨a', cls', d', h1, h2, h3, h4⟩ := L.at_ j _ hx
  cases h1
  have hd : d = none := by
    rcases h4 with h4 | ⟨h5, _⟩
    · exact h4.2
    · exact absurd hf h5
  obtain ⟨D, u, rfl, hE, hu, hk⟩ := h _ _ _ h3 hb
  exact ⟨D, rfl, hd, hE, .ref a, h2, ⟨cv, u, b, rfl, hu, hk, q F H α (.bl b) .refl R (.bl b)⟩⟩
theorem eb_isX {X : Cx} {a : Addr} {oe : Obj} {cls : Value} {d : Option Addr} {pn : List (Addr × Obj)} {x : Str} {p pos : Pos} {e1 e2 : Expr} {j : Nat} {cv : V} {l : List (Str × Bool)} {K : PySem.W.Frag} (hz : Zc cls d oe) (hv : ∃ vs, oe.data = Data.fields vs)
    (hg : Gl X x) (hm : X.mg x = none) (hb : bootBuiltins x = some (.builtin "isinstance")) (h1 : PE (X.suite a ((a, oe) :: pn)) e1 (tVar j)) (h2 : PE (X.suite a ((a, oe) :: pn)) e2 (tC cv)) (hl : IsOk X.K X.mg cv l)
    (hn : x ≠ "__name__" := by decide) (hdb : (x == ("__debug__" : Str)) = false := by decide)
    (he2 : starEach [e2] X.env = (false, eval e2 X.env) :: starEach [] X.env := by rfl) (he : starEach [e1, e2] X.env = (false, eval e1 X.env) :: starEach [e2] X.env := by rfl) (hpl : (backTo pos (starEach [e2] X.env)).any (·.1) = false := by rfl) (hK : X.K = K := by rfl) :
    SEB (X.suite a ((a, oe) :: pn)) WNo (some (a, cls, d)) (.Call (.Name x p) [e1, e2] [] pos) (tIsX K a cls d cv j) (bIsX l j) := by
  subst hK
  refine ⟨fun _ => ⟨fun pins s σ H Q I h => ?_⟩, deb_isX hl⟩
  obtain ⟨D, rfl, rfl, hE, h⟩ := h
  exact (pe_callB (X := X.suite a ((a, oe) :: pn)) (call_isE hE hz hv) hg hm hb (pa_cons h1 (pa_cons h2 pa_nil he2) he) hn hdb he hpl).run pins s σ H Q I h
theorem kit_T {K : PySem.W.Frag} {D : Addr} {T : String} {b : Bool} (hT : PySem.W.kitMeta T = true) (h : PySem.W.subIn K (.ref D) (.type T) = some b) : PySem.W.kitOne K (.ref D) (.type T) = some b := by
  show (if (Value.ref D == Value.type T) = true then some true else PySem.W.kitCls K (.ref D) (.type T)) = _
  rw [if_neg (by intro z; cases z)]
  show (if PySem.W.kitMeta T = true then PySem.W.subIn K (.ref D) (.type T) else none) = _
  rw [if_pos hT, h]
theorem kit_same {K : PySem.W.Frag} {D : Addr} : PySem.W.kitOne K (.ref D) (.ref D) = some true := by
  show (if (Value.ref D == Value.ref D) = true then some true else _) = _
  rw [if_pos (by simp)]
theorem kit_R {K : PySem.W.Frag} {D C : Addr} {b : Bool} (hne : (Value.ref D == Value.ref C) = false) (hc : (PySem.W.clsIn K C).isSome = true) (ht : PySem.W.typeIn K (.ref C) = some (.type "type")) (h : PySem.W.subIn K (.ref D) (.ref C) = some b) : PySem.W.kitOne K (.ref D) (.ref C) = some b := by
  show (if (Value.ref D == Value.ref C) = true then some true else PySem.W.kitCls K (.ref D) (.ref C)) = _
  rw [if_neg (by rw [hne]; decide)]
  show (if ((PySem.W.clsIn K C).isSome && PySem.W.typeIn K (.ref C) == some (.type "type")) = true then PySem.W.subIn K (.ref D) (.ref C) else none) = _
  rw [if_pos (by rw [hc, ht]; decide), h]
/-! list + list where the lists may hold cells -/
def lstOf (s : Sto) : AV → Option (List AV)
  | .d (.list ds) => some (ds.map .d)
  | .c k => match s[k]? with
    | some (.ld ds) => some (ds.map .d)
    | some (.lst vs) => some vs
    | some (.frz (.list ds)) => some (ds.map .d)
    | _ => none
  | _ => none
noncomputable def addA (s : Sto) (a b : AV) : Option (An AV) := match lstOf s a, lstOf s b with
  | some xs, some ys => if Fits (xs.length + ys.length) then some (mkL (xs ++ ys) s) else none
  | _, _ => opR s [a, b] (g2 gAdd)
@[simp] noncomputable def bCatL (f1 f2 : BE) : BE := fun env s => bB (f1 env s) fun a s1 => bB (f2 env s1) fun b s2 => addA s2 a b
section
variable {mg : Str → Option Value} {K : PySem.W.Frag} {w : World} {W : WX} {ec : EC} {F0 H0 F H F1 H1 : Hp} {α α1 : Adr} {σ : L2.St} {env : Ev} {s s1 : Sto} {n : Nat}
theorem avrs_data {xs : List V} {ds : List PyData} (h : DpAll K F xs ds) : AVRs K F α n xs (ds.map .d) := by
  induction ds generalizing xs with
  | nil => cases h; exact .nil
  | cons d ds ih => cases h with | cons h1 h2 => exact .cons h1 (ih h2)
theorem lstOf_ok {a : AV} {x : V} {as : List AV} (R : Rl K w F0 H0 F H α s) (r : AVR K F α s.length x a) (e : lstOf s a = some as) : ∃ l xs, x = .ref l ∧ SqL K H l xs ∧ AVRs K F α s.length xs as := by
  unfold lstOf at e
  split at e
  · cases e
    obtain ⟨l, xs, rfl, h1, h2⟩ := dp_list r
    exact ⟨l, xs, rfl, sqL_mono R.i h1, avrs_data h2⟩
  · rename_i k
    obtain ⟨hk, rfl⟩ := r
    split at e
    · rename_i ds hs
      cases e
      obtain ⟨h1, xs, h2, h3⟩ := R.ob _ _ hs
      exact ⟨_, xs, rfl, .of h2, avrs_data h3⟩
    · rename_i vs hs
      cases e
      obtain ⟨h1, xs, h2, h3⟩ := R.ob _ _ hs
      exact ⟨_, xs, rfl, .of h2, h3⟩
    · rename_i ds hs
      cases e
      obtain ⟨h1, h2⟩ := R.ob _ _ hs
      obtain ⟨l, xs, e, h3, h4⟩ := dp_list h2
      exact ⟨l, xs, e, sqL_mono R.i h3, avrs_data h4⟩
    · cases e
  · cases e
theorem mkL_ok {xs : List V} {as : List AV} {Q : VK} {p : Addr} (R : Rl K w F0 H0 F H α s) (r : AVRs K F α s.length xs as) (hp : H p = none) (q : EmB mg K w W F0 H0 F α s.length σ Q (mkL as s)) : Q (.ref p) (upd H p (.lst xs)) := by
  unfold mkL at q
  split at q
  · rename_i ds hd
    refine q F _ (ext α s.length p) _ ?_ (R.newCe hp ⟨R.i.free hp, xs, upd_same, rdA_ok R r hd⟩) ?_
    · rw [ln1]; exact .ext
    · rw [ln1]; exact ⟨Nat.lt_succ_self _, by rw [ext_same]⟩
  · refine q F _ (ext α s.length p) _ ?_ (R.newCe hp ⟨R.i.free hp, xs, upd_same, r.mono .ext⟩) ?_
    · rw [ln1]; exact .ext
    · rw [ln1]; exact ⟨Nat.lt_succ_self _, by rw [ext_same]⟩
theorem deb_catL {ta tb : TE} {f1 f2 : BE} (h1 : DEB mg K w W ec ta f1) (h2 : DEB mg K w W ec tb f2) : DEB mg K w W ec (tOp (rAddG K) ta tb) (bCatL f1 f2) := fun F0 H0 F H α σ env s ans R L e Q q => by
  rcases bBd e with ⟨a, s1, ea, e⟩ | ⟨x, s1, ea, rfl⟩
  case inr => exact h1 F0 H0 F H α σ env s _ R L ea _ q
  refine h1.run R L ea fun F1 H1 α1 x p1 R1 r1 L1 => ?_
  rcases bBd e with ⟨b, s2, eb, e⟩ | ⟨y, s2, eb, rfl⟩
  case inr => exact h2 F0 H0 F1 H1 α1 σ env s1 _ R1 L1 eb _ (ExB.on p1 q)
  refine h2.run R1 L1 eb fun F2 H2 α2 y p2 R2 r2 L2 => ?_
  have r1 := r1.mono p2
  have q := q.on (p1.trans p2)
  unfold addA at e
  split at e
  case h_2 =>
    exact opR_ok (r := fun vs H Q => ∃ x y, vs = [x, y] ∧ rAddG K x y H Q) (fun F H vs ds r' fh d e Q q => by
      unfold g2 at e
      split at e
      · rename_i u v
        cases d with
        | cons d1 d =>
          cases d with
          | cons d2 d =>
            cases d
            exact ⟨_, _, rfl, rv_add F H _ _ _ _ r' fh d1 d2 e Q q⟩
      · cases e) R2 (.cons r1 (.cons r2 .nil)) e q |> fun ⟨x', y', e, h⟩ => by
        cases e
        exact h
  rename_i xs ys e1 e2
  split at e
  case isFalse => cases e
  rename_i hl
  cases e
  obtain ⟨l1, us, rfl, sq1, a1⟩ := lstOf_ok R2 r1 e1
  obtain ⟨l2, vs, rfl, sq2, a2⟩ := lstOf_ok R2 r2 e2
  refine .inr (.inl ⟨l1, l2, us, vs, rfl, rfl, sq1, sq2, by rw [a1.len, a2.len]; exact szL hl, fun p hp => ?_⟩)
  exact mkL_ok R2 (a1.app a2) hp q
end
theorem eb_catL {X : Cx} {W : WX} {ec : EC} {a b : Expr} {pos : Pos} {ta tb : TE} {f g : BE} {K : PySem.W.Frag} (h1 : SEB X W ec a ta f) (h2 : SEB X W ec b tb g) (hK : X.K = K := by rfl) : SEB X W ec (.BinOp a .Add b pos) (tOp (rAddG K) ta tb) (bCatL f g) := by
  subst hK
  exact ⟨fun tk => pe_op op_addG (h1.pe tk) (h2.pe tk), deb_catL h1.de h2.de⟩
end Bn
/-! Bx1: own exceptions whose __init__ says super().__init__(text), then self.f = x. -/
namespace Bx
open PySem PySem.Spec PySem.Calls PyProof.Rows L2 NdefX
/-- what the written part says of such a class C; F: its __init__, cc: the cell of __class__ -/
structure SupC (P : Program) (K : PySem.W.Frag) (mg : Str → Option Value) (F : NF) (C cc fI : Addr) (fd : FuncData) : Prop where
  fn : ∃ oc od osl, K.lookup fI = some ⟨oc, od, .func fd, osl⟩
  fd : ∃ dV kV doc pm an ct, fd = PySem.W.fnX F.name F.qual F.params F.body F.scope F.cl dV kV doc pm an (.ref F.c) ct
  cl : F.cl = [(("__class__" : Str), cc)]
  cell : ∃ ccl ccd ccs, K.lookup cc = some ⟨ccl, ccd, .cell (some (.ref C)), ccs⟩
  code : ∃ ocl ocd vs ocs file tf, K.lookup F.c = some ⟨ocl, ocd, .fields vs, ocs⟩ ∧ vs[2]? = some (.str file tf) ∧ ((P.main.file : Str) == file) = true
  cd : PySem.W.codeIn K (.ref F.c) F.qual = true
  sub : PySem.W.mroIn K C (.ref C) = some true
  along : PySem.W.ks_superIn K C C "__init__" = some (some (.builtin "ValueError.__init__"))
  subV : PySem.W.subIn K (.ref C) (.type "ValueError") = some true
  opq : PySem.W.nsIn K cStatics "thirdparty.any" = some none
  mgS : mg "super" = none
  top : (P.main.scope.names.lookup ("super" : Str)).isSome = false
  oex : OexC K C
theorem look1 {α : Type} {y k : Str} {v c : α} (h : [(k, v)].lookup y = some c) : y = k ∧ v = c := by
  rw [List.lookup_cons] at h
  split at h
  · rename_i q
    cases h
    exact ⟨by simpa using q, rfl⟩
  · cases h
section
variable {CX : CXT} {P : Program} {w : World} {K : PySem.W.Frag} {mg : Str → Option Value} {base : Heap} {N ps : List Str} {F : NF} {fI C cc : Addr} {fd : FuncData} {k : Nat} {sp : Sp} {A : Around} {outer : List Env} {s : Shared} {H : Hp} {E : XK}
theorem oinit_w {X : Cx} {pins : List (Addr × Obj)} {σ : L2.St} {H : Hp} {s : Shared} {a C u : Addr} {us : List Value} {Q : Value → Shared → Prop} {E : Value → Shared → Prop} {A : Around} (T : OexC X.K C) (I : Inv X pins σ H s) (e : H a = some (exo a C none)) (hu : s.heap.get? u = some (PySem.W.kxs_mw "ValueError.__init__" a)) (hl : us.length ≤ sizeLine) (h : ∀ s', Inv X pins σ H s' → Q .none s') :
    wpAny (model X.prog X.w) A (call (.ref u) us) Q E s := by
  obtain ⟨nm, q, N, bs, bm, sn, sub, ab, col, dd, k0, k1, k2, k3, k5, hC, hbm⟩ := T.cls
  obtain ⟨t1, ho⟩ := exo_at I.hok e
  have KI := I.kIn _ _ hC
  obtain ⟨hp, g, d, t, os⟩ := s
  refine wpAny_call (codeAny_of_tree ?_)
  show wpAny _ A.in1 (callAny (.ref u) ⟨us, []⟩) _ _ _
  simp only [callAny]
  refine wpAny_bind (wpAny_load hu ?_)
  simp only [PySem.W.kxs_mw, show (Value.type "method-wrapper" == Value.type "method" || Value.type "method-wrapper" == Value.type "builtin_function_or_method" || Value.type "method-wrapper" == Value.type "method-wrapper") = true by decide, if_true]
  refine PySem.W.KFB.if_so (by decide) ?_
  refine wpAny_bind (PySem.W.check_bound_init PySem.F.excBase_ValueError.toExcCallFacts KI ho rfl ?_)
  refine wpAny_bind (wpAny_pure (wpAny_pure ?_))
  refine ⟨plainId_quiet PySem.F.excBase_ValueError.init.plain _, codeAny_builtin PySem.F.excBase_ValueError.initEntry ?_⟩
  refine PySem.W.exc_init_tree (cls := .ref C) (t0 := t1) (dv := none) (c2 := .none) (c3 := .none) (b4 := .bool false) ho hl fun h' kk hx _ => ?_
  have J := I.write (t' := t) (x := a) (e := a) (o := exo a C none) (by rw [e]; exact True.intro) (.inl rfl) kk ⟨_, hx⟩ (exo_ok hx)
  have eu : upd H a (exo a C none) = H := by
    funext b
    by_cases hb : b = a
    · rw [hb, upd_same, e]
    · rw [upd_ne hb]
  rw [eu] at J
  exact h _ J
/-- THE RULE: such an __init__ by its body -/
theorem ini_fn {es : Expr} {rest : List Stmt} {q0 q1 q2 q3 q4 : Pos} {ar : Arg} (S : NScope N ps ["__class__"] F.scope) (T : SupC P K mg F C cc fI fd)
    (hbody : F.body = .Expr (.Call (.Attribute (.Call (.Name "super" q0) [] [] q1) "__init__" q2) [es] [] q3) q4 :: rest)
    (hks : F.scope.names.lookup ("super" : Str) = some .globalImplicit) (hp : (F.params.posonlyargs ++ F.params.args).head? = some ar) (hp0 : ps[0]? = some ar.arg)
    (heq : ∀ L : Addr, ∃ pl : Sem Bool, eval (.Call (.Attribute (.Call (.Name "super" q0) [] [] q1) "__init__" q2) [es] [] q3) (envF F fI L) = (do
      let ov ← attributeBase (.Call (.Name "super" q0) [] [] q1) "__init__" (envF F fI L) (eval (.Call (.Name "super" q0) [] [] q1) (envF F fI L))
      standAt q2.atName
      let (f, first) ← holding [ov] (getMethod ov "__init__" pl)
      callWith q3 f first (backTo q3 (starEach [es] (envF F fI L))) []))
    (hst : ∀ L : Addr, starEach [es] (envF F fI L) = (false, eval es (envF F fI L)) :: starEach [] (envF F fI L))
    (len : ∀ vs H Q E, sp vs H Q E → vs.length = ps.length)
    (hb : ∀ (A : Around) (outer : List Env) (s : Shared) (H : Hp) (vs : List V) (Q : VK) (E : XK), Room k (A.deeper (envF F fI s.heap.objs.size)) → sp vs H Q E →
      ∃ (te : TE) (tr : TS), PE (ncx CX P w K mg base N F fI A outer s H E) es te ∧ PSs (ncx CX P w K mg base N F fI A outer s H E) rest tr ∧
        ∃ (a : Addr) (ws : List V), vs = .ref a :: ws ∧ H a = some (exo a C none) ∧ te (startF N vs [none]) H fun _ H1 => H1 a = some (exo a C none) ∧ tr { nx := fun _ H' => Q .non H', rt := Q } (startF N vs [none]) H1) :
    FnOk P w K mg base CX (k + 1) fI fd ps sp := by
  refine ⟨len, fun A outer s H args us vs Q E hr e0 hbind r hsp => ?_⟩
  have hl := len _ _ _ _ hsp
  have KX : K.In s.heap := e0.mod.kin.keeps fun b o e => (e0.bs b o e).1
  have lim : s.heap.NoLimit := e0.mod.nolimit.keeps fun b o e => (e0.bs b o e).1
  obtain ⟨oc, od, osl, lk⟩ := T.fn
  obtain ⟨dV, kV, doc, pm, an, ct, hfd⟩ := T.fd
  obtain ⟨ccl, ccd, ccs, hcc⟩ := T.cell
  obtain ⟨ocl, ocd, vsc, ocs, file, tf, hco, hvs, hfile⟩ := T.code
  subst hfd
  have hccS := KX _ _ hcc
  have hccH : H cc = none := (e0.bs cc _ (e0.mod.kin _ _ hcc)).2
  have Ce : CellsAt F.cl ["__class__"] [none] s.heap H := by
    rw [T.cl]
    refine ⟨rfl, fun y c hy => ?_, fun x y c h1 h2 => ?_, fun i y hi => ?_⟩
    · obtain ⟨_, rfl⟩ := look1 hy
      exact ⟨hccH, _, _, hccS, rfl⟩
    · exact (look1 h1).1.trans (look1 h2).1.symm
    · match i, hi with
      | 0, hi => cases hi; exact ⟨cc, rfl, fun v hv => by cases hv⟩
  refine ks_codeAny_call_defAt (fd := PySem.W.fnX F.name F.qual F.params F.body F.scope F.cl dV kV doc pm an (.ref F.c) ct) (body := F.body) hr.depth (KX _ _ lk) rfl lim (PySem.W.codeRec_of KX T.cd) rfl hbind S.nocell (fun ⟨n, _⟩ hy => S.par n (List.of_mem_zip hy).1) (fun h₁ hns kp => ?_) S.co S.gen S.kind
  show PySem.wpAt (model P w) (A.deeper (envF F fI s.heap.objs.size)) (.func F.body (envF F fI s.heap.objs.size)) (execs F.body (envF F fI s.heap.objs.size)) _ _ _
  obtain ⟨te, tr, he, hrest, a, ws, hvs0, ha, ht⟩ := hb A outer s H vs Q E (hr.deeper _) hsp
  have I : Inv (ncx CX P w K mg base N F fI A outer s H E) [] (startF N vs [none]) H { s with heap := h₁, toks := s.toks + (ps.zip us).length } := inv_startN S hr.hd e0 hl r Ce hns kp
  generalize hs1 : ({ s with heap := h₁, toks := s.toks + (ps.zip us).length } : Shared) = s1 at I ⊢
  have hh1 : s1.heap = h₁ := by rw [← hs1]
  have KX1 : K.In s1.heap := I.kIn
  -- self
  have hself : s1.heap.get? a = s1.heap.get? a := rfl
  obtain ⟨t1, hoa⟩ := exo_at I.hok ha
  have hv0 : (fun y => (ps.zip us).reverse.lookup y) ar.arg = some (.ref a) := by
    have nd : ps.Nodup := by
      have q := S.nd.sublist (List.take_sublist (ps.length + 1) N)
      have e1 := S.pre
      rw [show ps.length + (["__class__"] : List Str).length = ps.length + 1 from rfl] at e1
      rw [e1] at q
      exact (List.nodup_append.mp q).1
    have hu0 : us[0]? = some (.ref a) := by
      obtain ⟨u, hu, ru⟩ := r.get (i := 0) (show vs[0]? = some (V.ref a) by rw [hvs0]; rfl)
      obtain rfl : u = Value.ref a := ru
      exact hu
    exact zip_look nd hp0 hu0
  have hkc : F.scope.names.lookup ("__class__" : Str) = some .free := S.frk "__class__" (by simp)
  have hka : F.scope.names.lookup ar.arg = some .local := S.par _ (List.mem_of_getElem? hp0)
  obtain ⟨nm, q, NN, bs, bm, sn, sub, ab, col, dd, k0, k1, k2, k3, k5, hC, hbm⟩ := T.oex.cls
  have hcl : PySem.W.clsIn K C = some { name := nm, bases := bs, mro := .ref C :: bm, ns := NN, qualname := q, hasDict := true, slotNames := sn, subclasses := sub, abstract := ab, collection := col, hasDel := false } := by unfold PySem.W.clsIn; rw [hC] <;> rfl
  obtain ⟨mb, hb1, hb2⟩ := I.mod.blt
  rw [hbody]
  obtain ⟨pl, hpl⟩ := heq s.heap.objs.size
  have hint : interactive (envF F fI s.heap.objs.size) = false := by
    unfold interactive
    rw [show (envF F fI s.heap.objs.size).scope.kind = ScopeKind.function from S.kind]
    rfl
  refine ks_wpAt_execs_cons (ks_wpAt_Expr_any (hi := hint) (ks_wpAt_MethodCall (he := hpl) (ks_wpAt_super_base (env := envF F fI s.heap.objs.size) hks hkc (by decide) rfl (KX1 _ _ lk) rfl hp rfl (KX1 _ _ hco) rfl hvs hfile T.top ?_)))
  refine PySem.W.ks_loadName_global (env := envF F fI s.heap.objs.size) S.kind hks (loadGlobal_builtin (I.mod.glob.keeps I.bk) T.mgS (hb1.keeps I.bk) ((hb2 _ (by decide)).trans Boot.«super») ⟨rfl, ?_⟩)
  refine wpAny_loadName_free (env := envF F fI s.heap.objs.size) S.kind hkc (by show F.cl.lookup _ = _; rw [T.cl]; rfl) ⟨_, KX1 _ _ hcc, rfl⟩ ?_
  refine wpAny_loadName_local (env := envF F fI s.heap.objs.size) S.kind hka (by rw [hh1]; exact hns) hv0 ?_
  refine ks_wpAny_isType_cls (KX1 _ _ hC) rfl ⟨rfl, ?_⟩
  refine ks_wpAny_call_super (KX1 _ _ hC) rfl hoa rfl (fun c z => by cases z) (PySem.W.looks_mroIn KX1 T.sub) (fun h' hso k2 => ?_)
  have I2 : Inv (ncx CX P w K mg base N F fI A outer s H E) [] (startF N vs [none]) H { s1 with heap := h' } := I.kept k2
  have KX2 : K.In h' := I2.kIn
  have hInst : PySem.W.InstAt h' a ({ cls := .ref C, dict := none, data := .fields #[.ref t1, .none, .none, .none, .bool false, .none] } : Obj) C none := ⟨k2 _ _ hoa, rfl, rfl, trivial⟩
  have hLC : PySem.W.Looks (model P w) h' (mroOf (.ref C)) (.ref C :: bm) := fun A Q E s k q => wpAny_bind ((PySem.W.looks_clsIn KX2 hcl) A _ E s k (wpAny_pure q))
  have hal := T.along
  unfold PySem.W.ks_superIn at hal
  rw [hcl] at hal
  refine PySem.W.kxs_getMethod PySem.W.kxs_ValueError hso (PySem.W.looks_opaque KX2 T.opq) hLC rfl KX2 hal (hInst.type.andThen (PySem.W.looks_subIn KX2 T.subV)) (PySem.W.ks_ne KX2 hInst hcl) (by decide) ?_
  -- the wrapper is pinned
  have I3 : Inv (ncx CX P w K mg base N F fI A outer s H E) [] (startF N vs [none]) H { s1 with heap := h'.push (PySem.W.kxs_mw "ValueError.__init__" a), toks := s1.toks + 1 } := I2.kept (t' := s1.toks + 1) fun b o e => Heap.get?_push_of_some _ e
  have hu : (h'.push (PySem.W.kxs_mw "ValueError.__init__" a)).get? h'.objs.size = some (PySem.W.kxs_mw "ValueError.__init__" a) := Heap.get?_push_size _ rfl
  have I4 : Inv (ncx CX P w K mg base N F fI A outer s H E) [(h'.objs.size, PySem.W.kxs_mw "ValueError.__init__" a)] (startF N vs [none]) H { s1 with heap := h'.push (PySem.W.kxs_mw "ValueError.__init__" a), toks := s1.toks + 1 } := I3.pins_of fun p hp => by
    obtain rfl : p = (h'.objs.size, PySem.W.kxs_mw "ValueError.__init__" a) := by simpa using hp
    exact ⟨hu, I2.hok.fresh (Nat.le_refl _), fun z => absurd I2.lt (by rw [← show h'.objs.size = _ from z]; exact Nat.lt_irrefl _), I2.nofs (Nat.le_refl _), fun v z => by cases z⟩
  refine PySem.W.kxs_callWith (i := "ValueError.__init__") (u := h'.objs.size) (x := a) (by rw [hst]; rfl) ?_
  have hta : tCons te tNil (startF N vs [none]) H fun vs1 H1 => vs1.length = 1 ∧ H1 a = some (exo a C none) ∧ tr { nx := fun _ H' => Q .non H', rt := Q } (startF N vs [none]) H1 := by
    have e0 : (fun (x : V) (H1 : Hp) => ([x] : List V).length = 1 ∧ H1 a = some (exo a C none) ∧ tr { nx := fun _ H' => Q .non H', rt := Q } (startF N vs [none]) H1) = fun (x : V) (H1 : Hp) => H1 a = some (exo a C none) ∧ tr { nx := fun _ H' => Q .non H', rt := Q } (startF N vs [none]) H1 := by
      funext x H1
      simp
    show te (startF N vs [none]) H fun (x : V) (H1 : Hp) => ([x] : List V).length = 1 ∧ H1 a = some (exo a C none) ∧ tr { nx := fun _ H' => Q .non H', rt := Q } (startF N vs [none]) H1
    rw [e0]
    exact ht
  have hrun := (pa_cons he pa_nil (hst _)).run q3 _ _ _ H _ I4 hta
  rw [show starEach [es] (ncx CX P w K mg base N F fI A outer s H E).env = _ from hst s.heap.objs.size] at hrun
  rw [hst]
  refine evalArgs_plain ?_
  refine thn hrun fun us1 s4 ⟨vs1, H1, I5, r1, hl1, ha1, ht1⟩ => ?_
  have hpin : s4.heap.get? h'.objs.size = some (PySem.W.kxs_mw "ValueError.__init__" a) := (I5.pin (h'.objs.size, PySem.W.kxs_mw "ValueError.__init__" a) (by simp [ncx])).1
  refine ⟨hpin, ?_⟩
  refine oinit_w T.oex I5 ha1 hpin (by rw [List.nil_append, ← r1.length, hl1]; decide) fun s5 I6 => ?_
  refine wpAt_of_wpAny (wpAny_mono (hrest.run [] _ _ _ _ (I6.pins_of fun p hp => by cases hp) ht1) (fun fl s' hs => ?_) fun e s' hs => hs)
  have fin : ∀ {σ' : L2.St} {H' : Hp} {v : V} {u : Value}, Inv (ncx CX P w K mg base N F fI A outer s H E) [] σ' H' s' → L2.RelV v u → Q v H' → CE outer P w H s Q u s' :=
    fun {σ' H' v u} J rv q => ⟨v, H', J.os, J.bare, J.base, J.hok, rv, q⟩
  cases fl with
  | ret u =>
    obtain ⟨v, σ', H', J, rv, q⟩ := hs
    exact fin J rv q
  | next =>
    obtain ⟨σ', H', J, q⟩ := hs
    exact fin (v := V.non) (u := Value.none) J rfl q
  | brk =>
    obtain ⟨_, _, _, q⟩ := hs
    exact False.elim q
  | cont =>
    obtain ⟨_, _, _, q⟩ := hs
    exact False.elim q
end
end Bx
/-! Bx2: raise C(ints) of own classes with fields; their handlers, isinstance and fields. -/
namespace PySem.W
open PySem PySem.Spec PySem.Calls PyProof.Rows
section
variable {prog : Program} {w : World} {A : Around} {E : Value → Shared → Prop} {s : Shared} {K : Frag} {x D : Addr} {ox : Obj} {od : Option Obj}
theorem findObj_dataO {C : Addr} {name : Str} {a g : Value} (hc : (clsIn K C).isSome = true) (ha : findIn K (.ref C) name = some (some a)) (hg : specialIn K a "__get__" = some (some g)) (ht : takesIn K a = some true) : findObj K C od name = some (.bind g a) := by
  obtain ⟨cd, hc⟩ := Option.isSome_iff_exists.mp hc
  unfold findObj
  rw [hc, Option.bind_some, ha, Option.bind_some]
  simp [hg, ht]
theorem kin_classO {Q : Option Value → Shared → Prop} (T : L2.ExcC K D)
    (X : K.In s.heap) (I : InstAt s.heap x ox D od) (h : Q (some (.ref D)) { s with toks := s.toks + 1 }) : wpAny (model prog w) A (getAttr? (.ref x) "__class__") Q E s := by
  obtain ⟨hga, hgt, hsub, hdct, ha, hn, htk, hm⟩ := T
  have hf : findObj K D od "__class__" = some (.bind (.builtin "getset_descriptor.__get__") (.builtin "object.__class__")) := findObj_dataO (by obtain ⟨cd, hc, _⟩ := any_some hdct; rw [hc]; rfl) ha hn htk
  obtain ⟨hp, g, d, t, os⟩ := s
  have L0 := I.type (M := model prog w)
  have L1 := looks_findIn (M := model prog w) X hga
  have L2 := looks_findIn (M := model prog w) X hgt
  have L3 := looks_find (M := model prog w) X I hf
  have sub : Looks (model prog w) hp (isInstance (.ref x) (.type "BaseException")) true := L0.andThen (looks_subIn X hsub)
  have hx0 : (false && onTheHeap (Value.builtin "BaseException.__getattribute__")) = false := rfl
  have hx2 : (Value.builtin "BaseException.__getattribute__" == Value.builtin "object.__getattribute__") = false := by decide +kernel
  have hx1 : (onTheHeap (Value.ref D) && Value.builtin "BaseException.__getattribute__" == Value.builtin "object.__getattribute__") = false := by rw [hx2]; rfl
  unfold getAttr? getAttrBy? getAttrBy
  refine wpAny_bind (wpAny_mkText (wpAny_bind (wpAny_attempt (wpAny_holding (wpAny_bind (L0.at (wpAny_bind (L1.at ?_))))))))
  show wpAny _ _ (if (onTheHeap (Value.ref D) && Value.builtin "BaseException.__getattribute__" == Value.builtin "object.__getattribute__") = true then _ else _) _ _ _
  rw [hx1, if_neg Bool.false_ne_true]
  unfold getAttrByItsOwn hookBefore
  refine wpAny_bind ?_
  rw [if_pos (show onTheHeap (Value.ref D) = true from rfl)]
  refine L2.at ?_
  refine wpAny_bind (wpAny_attempt (wpAny_holding ?_))
  unfold callGetattribute
  rw [hx0, if_neg Bool.false_ne_true]
  unfold boundAndCalled
  rw [PySem.F.excAttr_ValueError.ga.bind (.ref x)]
  refine wpAny_bind (wpAny_pure ?_)
  show wpAny _ _ (call (.builtin "BaseException.__getattribute__") [.ref x, .str "__class__" t]) _ _ _
  refine wpAny_call (codeAny_call_builtin PySem.F.excAttr_ValueError.ga.plain PySem.F.entry_bexc_ga ?_)
  refine @check_slot (model prog w) _ _ ⟨hp, g, d, t + 1, os⟩ "BaseException.__getattribute__" "BaseException" "__getattribute__" (.ref x) [.str "__class__" t] [] _ (by decide +kernel) (by decide +kernel) sub (PySem.F.args_bexc_ga (.ref x) (.str "__class__" t)) ?_
  unfold Builtin.«object.__getattribute__»
  refine wpAny_bind (wpAny_of_eq (a := ((Value.ref x : Value), [Value.str "__class__" t])) (by first | rfl | (simp only [slotArgs]; rfl)) ?_)
  refine wpAny_bind (wpAny_pure (wpAny_bind (L0.at (wpAny_bind (L3.at ?_)))))
  show wpAny _ _ (holding [Value.builtin "object.__class__"] (call (.builtin "getset_descriptor.__get__") [.builtin "object.__class__", .ref x, .ref D]) >>= ret) _ _ _
  refine wpAny_bind (wpAny_holding (wpAny_call (class_get (s := ⟨hp, g, d, t + 1, os⟩) (ox := ox) (od := od) X I hm ?_)))
  refine wpAny_pure ?_
  show wpAny _ _ (handedOut (.ref D)) _ _ _
  rw [handedOut_of (v := .ref D) rfl]
  first
    | exact wpAny_pure (wpAny_pure h)
    | exact wpAny_pure h
    | exact wpAny_pure (wpAny_bind (wpAny_pure (wpAny_pure h)))
theorem kitx_excO (T : L2.ExcC K D) : KitX K (.ref x) (.ref D) (fun h => InstAt h x ox D od) where
  ty := fun _ _ _ I => I.type
  it := fun _ _ X _ => by
    obtain ⟨cdD, hcD, _⟩ := any_some T.hd
    unfold clsIn at hcD
    split at hcD
    · rename_i c' d' cd' sl' ho
      intro A' Q' E' s' k q
      unfold isType loadHead
      exact wpAny_bind (wpAny_loadPart (k _ _ (X _ _ ho)) (wpAny_pure q))
    · cases hcD
  ne := fun h tp dd its n sl X htp => by
    obtain ⟨cdD, hcD, _⟩ := any_some T.hd
    refine Bool.eq_false_iff.mpr fun q => ?_
    have e : D = tp := Value.ref.inj (beq_iff_eq.mp q)
    subst e
    unfold clsIn at hcD
    split at hcD
    · rename_i c' d' cd' sl' ho
      have z := (X _ _ ho).symm.trans htp
      cases z
    · cases hcD
  ca := fun X I k => kin_classO T X I k
end
end PySem.W
namespace Bx
open PySem PySem.Spec PySem.Calls PyProof.Rows L2 NdefX Dn Bn
/-! ### the text -/
inductive Pt where
  | lit (s : Str)
  | var (i : Nat)
def Pt.te : Pt → TE
  | .lit s => tC (.str s)
  | .var i => tFmt (tVar i)
def Pt.len : Pt → Nat
  | .lit s => s.length
  | .var _ => 13
theorem app_len {a b : Str} : (a ++ b).length = a.length + b.length := by
  show (a.cps ++ b.cps).size = _
  exact Array.size_append
theorem int_len {n : Int} (h : n.natAbs < 10 ^ 12) : ((toString n : String) : Str).length ≤ 13 := by
  rw [show (((toString n : String) : Str)).length = (toString n : String).length from PySem.ofString_length _]
  exact int_text_length_le10 (by decide) h
theorem js_run {σ : L2.St} {H : Hp} {Q : Str → Hp → Prop} : ∀ (pts : List Pt) (acc : Str), acc.length + (pts.map Pt.len).sum ≤ 1000 → (∀ i, Pt.var i ∈ pts → ∃ n : Int, σ[i]? = some (some (.int n)) ∧ n.natAbs < 10 ^ 12) → (∀ out, Q out H) → tJs (pts.map Pt.te) acc σ H Q
  | [], acc, _, _, q => q acc
  | .lit s :: pts, acc, hl, hv, q => by
    have hs : (Pt.lit s).len = s.length := rfl
    rw [List.map_cons, List.sum_cons, hs] at hl
    refine ⟨s, rfl, by rw [app_len, sizeLine_eq]; omega, js_run pts _ (by rw [app_len]; omega) (fun i hi => hv i (List.mem_cons_of_mem _ hi)) q⟩
  | .var i :: pts, acc, hl, hv, q => by
    have hs : (Pt.var i).len = 13 := rfl
    rw [List.map_cons, List.sum_cons, hs] at hl
    obtain ⟨n, e, hn⟩ := hv i List.mem_cons_self
    have hlen := int_len hn
    have h2 : n.natAbs.log2 < 1920 := by
      have h40 : n.natAbs.log2 < 40 := by
        by_cases h0 : n.natAbs = 0
        · rw [h0]; decide
        · exact (Nat.log2_lt h0).mpr (Nat.lt_of_lt_of_le hn (by decide))
      omega
    refine ⟨_, e, .inr ⟨n, rfl, h2, _, rfl, by rw [app_len, sizeLine_eq]; omega, js_run pts _ (by rw [app_len]; omega) (fun i hi => hv i (List.mem_cons_of_mem _ hi)) q⟩⟩
/-! ### what such an __init__ keeps -/
def spIni (C : Addr) (fs : List Str) : Sp := fun vs H Q E => ∃ (a : Addr) (is : List Int), vs = .ref a :: is.map V.int ∧ is.length = fs.length ∧ (∀ i ∈ is, i.natAbs < 10 ^ 12) ∧ H a = some (exo a C none) ∧
  ∀ dx, H dx = none → dx ≠ a → Q .non (upd (upd H dx (exd dx (fs.zip (is.map V.int)).reverse)) a (exo a C (some dx)))
section
variable {P : Program} {w : World} {K : PySem.W.Frag} {mg : Str → Option Value} {base : Heap} {F : NF} {fI C cc : Addr} {fd : FuncData}
/-- one field -/
theorem ini1 {es : Expr} {pts : List Pt} {self x : Str} {q0 q1 q2 q3 q4 r1 r2 r3 r4 : Pos} {ar : Arg} (S : NScope [self, x, "__class__"] [self, x] ["__class__"] F.scope) (T : SupC P K mg F C cc fI fd)
    (hbody : F.body = [.Expr (.Call (.Attribute (.Call (.Name "super" q0) [] [] q1) "__init__" q2) [es] [] q3) q4, .Assign [.Attribute (.Name self r1) x r2] (.Name x r3) r4])
    (hks : F.scope.names.lookup ("super" : Str) = some .globalImplicit) (hp : (F.params.posonlyargs ++ F.params.args).head? = some ar) (hp0 : ar.arg = self)
    (heq : ∀ L : Addr, ∃ pl : Sem Bool, eval (.Call (.Attribute (.Call (.Name "super" q0) [] [] q1) "__init__" q2) [es] [] q3) (envF F fI L) = (do
      let ov ← attributeBase (.Call (.Name "super" q0) [] [] q1) "__init__" (envF F fI L) (eval (.Call (.Name "super" q0) [] [] q1) (envF F fI L))
      standAt q2.atName
      let (f, first) ← holding [ov] (getMethod ov "__init__" pl)
      callWith q3 f first (backTo q3 (starEach [es] (envF F fI L))) []))
    (hst : ∀ L : Addr, starEach [es] (envF F fI L) = (false, eval es (envF F fI L)) :: starEach [] (envF F fI L))
    (hno : PySem.W.findIn K (.ref C) x = some none) (hd0 : (self == ("__debug__" : Str)) = false) (hd1 : (self == ("__classdict__" : Str)) = false) (hd2 : (x == ("__debug__" : Str)) = false) (hd3 : (x == ("__classdict__" : Str)) = false)
    (hE : ∀ (A : Around) (outer : List Env) (s : Shared) (H : Hp) (E : XK), PE (ncx CX0 P w K mg base [self, x, "__class__"] F fI A outer s H E) es (fun σ H Q => tJs (pts.map Pt.te) Str.empty σ H fun out H1 => Q (.str out) H1))
    (hl : (pts.map Pt.len).sum ≤ 1000) (hv : ∀ i, Pt.var i ∈ pts → i = 1) (k : Nat) : FnOk P w K mg base CX0 (k + 1) fI fd [self, x] (spIni C [x]) := by
  refine ini_fn S T hbody hks hp (by rw [hp0]; rfl) heq hst (fun vs H Q E ⟨a, is, h1, h2, _⟩ => by rw [h1, List.length_cons, List.length_map, h2]; rfl) fun A outer s H vs Q E _ ⟨a, is, h1, h2, h3, h4, h5⟩ => ?_
  match is, h2 with
  | [i], _ =>
  refine ⟨_, _, hE A outer s H E, pss_one (ps_ost (pe_var (i := 0) rfl (.inl (S.par self (by simp))) hd0 hd1) (pe_var (i := 1) rfl (.inl (S.par x (by simp))) hd2 hd3)), a, [V.int i], h1, h4, ?_⟩
  subst h1
  refine js_run pts _ (by show 0 + _ ≤ _; omega) (fun j hj => ⟨i, by rw [hv j hj]; rfl, h3 i (by simp)⟩) fun out => ⟨h4, ?_⟩
  refine ⟨V.int i, rfl, V.ref a, rfl, a, C, rfl, T.oex, hno, .inl ⟨h4, fun dx hn hne => ?_⟩⟩
  exact h5 dx hn hne
/-- two fields -/
theorem ini2 {es : Expr} {pts : List Pt} {self x y : Str} {q0 q1 q2 q3 q4 r1 r2 r3 r4 u1 u2 u3 u4 : Pos} {ar : Arg} (S : NScope [self, x, y, "__class__"] [self, x, y] ["__class__"] F.scope) (T : SupC P K mg F C cc fI fd)
    (hbody : F.body = [.Expr (.Call (.Attribute (.Call (.Name "super" q0) [] [] q1) "__init__" q2) [es] [] q3) q4, .Assign [.Attribute (.Name self r1) x r2] (.Name x r3) r4, .Assign [.Attribute (.Name self u1) y u2] (.Name y u3) u4])
    (hks : F.scope.names.lookup ("super" : Str) = some .globalImplicit) (hp : (F.params.posonlyargs ++ F.params.args).head? = some ar) (hp0 : ar.arg = self)
    (heq : ∀ L : Addr, ∃ pl : Sem Bool, eval (.Call (.Attribute (.Call (.Name "super" q0) [] [] q1) "__init__" q2) [es] [] q3) (envF F fI L) = (do
      let ov ← attributeBase (.Call (.Name "super" q0) [] [] q1) "__init__" (envF F fI L) (eval (.Call (.Name "super" q0) [] [] q1) (envF F fI L))
      standAt q2.atName
      let (f, first) ← holding [ov] (getMethod ov "__init__" pl)
      callWith q3 f first (backTo q3 (starEach [es] (envF F fI L))) []))
    (hst : ∀ L : Addr, starEach [es] (envF F fI L) = (false, eval es (envF F fI L)) :: starEach [] (envF F fI L))
    (hno : PySem.W.findIn K (.ref C) x = some none) (hnoy : PySem.W.findIn K (.ref C) y = some none) (hd0 : (self == ("__debug__" : Str)) = false) (hd1 : (self == ("__classdict__" : Str)) = false) (hd2 : (x == ("__debug__" : Str)) = false) (hd3 : (x == ("__classdict__" : Str)) = false) (hd4 : (y == ("__debug__" : Str)) = false) (hd5 : (y == ("__classdict__" : Str)) = false)
    (hE : ∀ (A : Around) (outer : List Env) (s : Shared) (H : Hp) (E : XK), PE (ncx CX0 P w K mg base [self, x, y, "__class__"] F fI A outer s H E) es (fun σ H Q => tJs (pts.map Pt.te) Str.empty σ H fun out H1 => Q (.str out) H1))
    (hl : (pts.map Pt.len).sum ≤ 1000) (hv : ∀ i, Pt.var i ∈ pts → i = 1 ∨ i = 2) (k : Nat) : FnOk P w K mg base CX0 (k + 1) fI fd [self, x, y] (spIni C [x, y]) := by
  refine ini_fn S T hbody hks hp (by rw [hp0]; rfl) heq hst (fun vs H Q E ⟨a, is, h1, h2, _⟩ => by rw [h1, List.length_cons, List.length_map, h2]; rfl) fun A outer s H vs Q E _ ⟨a, is, h1, h2, h3, h4, h5⟩ => ?_
  match is, h2 with
  | [i, j], _ =>
  refine ⟨_, _, hE A outer s H E, pss_cons (ps_ost (pe_var (i := 0) rfl (.inl (S.par self (by simp))) hd0 hd1) (pe_var (i := 1) rfl (.inl (S.par x (by simp))) hd2 hd3)) (pss_one (ps_ost (pe_var (i := 0) rfl (.inl (S.par self (by simp))) hd0 hd1) (pe_var (i := 2) rfl (.inl (S.par y (by simp))) hd4 hd5))), a, [V.int i, V.int j], h1, h4, ?_⟩
  subst h1
  refine js_run pts _ (by show 0 + _ ≤ _; omega) (fun n hn => ?_) fun out => ⟨h4, ?_⟩
  · rcases hv n hn with rfl | rfl
    · exact ⟨i, rfl, h3 i (by simp)⟩
    · exact ⟨j, rfl, h3 j (by simp)⟩
  refine ⟨V.int i, rfl, V.ref a, rfl, a, C, rfl, T.oex, hno, .inl ⟨h4, fun dx hn hne => ?_⟩⟩
  refine ⟨V.int j, rfl, V.ref a, rfl, a, C, rfl, T.oex, hnoy, .inr ⟨dx, [(x, V.int i)], upd_same, by rw [upd_ne hne, upd_same], by show 1 ≤ 900; decide, ?_⟩⟩
  have q := h5 dx hn hne
  have e : upd (upd (upd H dx (exd dx [(x, V.int i)])) a (exo a C (some dx))) dx (exd dx ((y, V.int j) :: [(x, V.int i)])) = upd (upd H dx (exd dx (([x, y] : List Str).zip (([i, j] : List Int).map V.int)).reverse)) a (exo a C (some dx)) := by
    funext b
    by_cases hb : b = dx
    · subst hb
      rw [upd_same, upd_ne hne, upd_same]; rfl
    · by_cases ha : b = a
      · subst ha
        rw [upd_ne hb, upd_same, upd_same]
      · rw [upd_ne hb, upd_ne ha, upd_ne hb, upd_ne ha, upd_ne hb]
  rw [← e] at q
  exact q
end
/-! ### raise C(ints) -/
/-- an own class of exceptions, told by name -/
structure ExN (K : PySem.W.Frag) (mg : Str → Option Value) (x : Str) (C : Addr) : Prop where
  g : mg x = some (.ref C)
  s : PySem.W.subIn K (.ref C) (.type "BaseException") = some true
  t : PySem.W.typeIn K (.ref C) = some (.type "type")
  d : PySem.W.hasDictIn K C = true
theorem _root_.Bn.Exc.n {K : PySem.W.Frag} {mg : Str → Option Value} {x : Str} {C : Addr} (E : Exc K mg x C) : ExN K mg x C := ⟨E.g, E.s, E.t, E.d⟩
def intsA : List AV → Option (List Int)
  | [] => some []
  | .d (.int i) :: r => if i.natAbs < 10 ^ 12 then (intsA r).bind fun is => some (i :: is) else none
  | _ => none
def fRaiseF (x : Str) (fs : List Str) (af : BA) : BF := fun env s => bS (af env s) env fun as s1 => match intsA as with
  | some is => if is.length = fs.length then some (.ex ⟨x, (fs.zip (is.map PyData.int)).reverse⟩ env s1) else none
  | none => none
def tRaiseF (C : Addr) (fs : List Str) (ta : TA) (W : WX) : TS := fun _ σ H => tMkO C (spIni C fs) [] ta σ H fun cls d H' => W cls d σ H'
section
variable {mg : Str → Option Value} {K : PySem.W.Frag} {w : World} {W : WX} {ec : EC} {F : Hp} {α : Adr} {n : Nat}
theorem ints_ok : ∀ {as : List AV} {is : List Int} {xs : List V}, intsA as = some is → AVRs K F α n xs as → xs = is.map V.int ∧ ∀ i ∈ is, i.natAbs < 10 ^ 12
  | [], is, xs, e, r => by
    cases e
    cases r
    exact ⟨rfl, fun i hi => by cases hi⟩
  | .d (.int i) :: as, is, xs, e, r => by
    unfold intsA at e
    split at e
    · rename_i hi
      obtain ⟨js, ej, e⟩ := bnd e
      cases e
      cases r with
      | cons h1 r =>
        obtain ⟨e1, e2⟩ := ints_ok ej r
        rw [dp_int h1, e1]
        exact ⟨rfl, fun j hj => (List.mem_cons.mp hj).elim (fun z => by rw [z]; exact hi) (e2 j)⟩
    · cases e
theorem dpa_ints : ∀ {is : List Int}, DpAll K F (is.map V.int) (is.map PyData.int)
  | [] => .nil
  | i :: is => .cons (.int i) dpa_ints
theorem dpa_app : ∀ {xs ys : List V} {ds es : List PyData}, DpAll K F xs ds → DpAll K F ys es → DpAll K F (xs ++ ys) (ds ++ es)
  | [], _, [], _, _, h2 => h2
  | _ :: _, _, _ :: _, _, .cons h t, h2 => .cons h (dpa_app t h2)
theorem dpa_rev : ∀ {xs : List V} {ds : List PyData}, DpAll K F xs ds → DpAll K F xs.reverse ds.reverse
  | [], [], _ => .nil
  | _ :: _, _ :: _, .cons h t => by
    rw [List.reverse_cons, List.reverse_cons]
    exact dpa_app (dpa_rev t) (.cons h .nil)
theorem zip_fst {α β : Type} : ∀ {xs : List α} {ys : List β}, xs.length = ys.length → (xs.zip ys).map Prod.fst = xs
  | [], [], _ => rfl
  | x :: xs, y :: ys, h => by rw [List.zip_cons_cons, List.map_cons, zip_fst (by simpa using h)]
theorem zip_snd {α β : Type} : ∀ {xs : List α} {ys : List β}, xs.length = ys.length → (xs.zip ys).map Prod.snd = ys
  | [], [], _ => rfl
  | x :: xs, y :: ys, h => by rw [List.zip_cons_cons, List.map_cons, zip_snd (by simpa using h)]
theorem dsb_raiseF {x : Str} {C : Addr} {fs : List Str} {ta : TA} {af : BA} (hg : mg x = some (.ref C)) (hf : fs ≠ []) (hf2 : fs.length ≤ 1000) (h : DAB mg K w W ec ta af) : DSB mg K w W ec (tRaiseF C fs ta W) (fRaiseF x fs af) := fun F0 H0 F H α σ env s o R L e D q => by
  rcases bSd e with ⟨as, s1, ea, e⟩ | ⟨x, s1, ea, rfl⟩
  case inr => exact h F0 H0 F H α σ env s _ R L ea _ (exOfB L q)
  split at e
  case h_2 => cases e
  rename_i is hi
  split at e
  case isFalse => cases e
  rename_i hlen
  cases e
  refine h.run R L ea fun F1 H1 α1 xs p1 R1 r1 L1 => ?_
  obtain ⟨rfl, hs⟩ := ints_ok hi r1
  have hsz : is.length ≤ 1000 := by rw [hlen]; exact hf2
  refine ⟨by rw [List.length_map]; exact hsz, fun a ha => ⟨a, is, by rw [List.append_nil], hlen, hs, upd_same, fun dx hd hne => ⟨rfl, dx, _, upd_same, by rw [upd_ne hne, upd_same], ?_, ?_⟩⟩⟩
  · rw [upd_ne hne] at hd
    exact hd
  rw [upd_ne hne] at hd
  have eh : upd (del (upd (upd (upd H1 a (exo a C none)) dx (exd dx (fs.zip (is.map V.int)).reverse)) a (exo a C (some dx))) a) dx (.xd (fs.zip (is.map V.int)).reverse) = upd H1 dx (.xd (fs.zip (is.map V.int)).reverse) := by
    funext b
    by_cases hb : b = dx
    · subst hb
      rw [upd_same, upd_same]
    · rw [upd_ne hb, upd_ne hb]
      by_cases hba : b = a
      · rw [hba, del_same, ha]
      · rw [del_ne hba, upd_ne hba, upd_ne hb, upd_ne hba]
  rw [eh]
  have G : Grow F1 H1 (upd F1 dx (.xd (fs.zip (is.map V.int)).reverse)) (upd H1 dx (.xd (fs.zip (is.map V.int)).reverse)) := (Grow.new R1.i hd).frz hd (R1.i.free hd) upd_same
  have p2 : Pg F1 α1 s1.length (upd F1 dx (.xd (fs.zip (is.map V.int)).reverse)) α1 s1.length := Pg.ofGrow G
  have hl1 : fs.length = (is.map V.int).length := by rw [List.length_map]; exact hlen.symm
  have hl2 : fs.length = (is.map PyData.int).length := by rw [List.length_map]; exact hlen.symm
  refine q _ _ α1 σ (.ref C) (some dx) (p1.trans p2) (R1.grow G) (L1.mono p2) ⟨hg, .inr ⟨?_, dx, _, rfl, upd_same, ?_, ?_⟩⟩
  · intro z
    have z2 := congrArg List.length z
    rw [List.length_reverse, List.length_zip, ← hl2, Nat.min_self] at z2
    exact hf (List.eq_nil_of_length_eq_zero z2)
  · rw [List.map_reverse, List.map_reverse, zip_fst hl1, zip_fst hl2]
  · rw [List.map_reverse, List.map_reverse, zip_snd hl1, zip_snd hl2]
    exact dpa_rev dpa_ints
end
theorem sb_raiseF {X : Cx} {W : WX} {ec : EC} {x : Str} {C fI : Addr} {fd : FuncData} {ps fs : List Str} {es : List Expr} {e : Expr} {ta : TA} {af : BA} {p cpos pos : Pos} {k : Nat} (hc : X.calm = true) (T : OexC X.K C) (hm : X.mg x = some (.ref C)) (iC : PySem.W.findIn X.K (.ref C) "__init__" = some (some (.ref fI))) (tI : PySem.W.typeIn X.K (.ref fI) = some (.type "function"))
    (F1 : FnOk X.prog X.w X.K X.mg X.base CX0 k fI fd ps (spIni C fs)) (hr : Room (k + 1) X.A) (hb : Binds X.K fd ps []) (hg : Gl X x) (hf : fs ≠ []) (hf2 : fs.length ≤ 1000) (ha : SAB X W ec (e :: es) ta af)
    (hdb : (x == ("__debug__" : Str)) = false := by decide) (he : starEach (e :: es) X.env = (false, eval e X.env) :: starEach es X.env := by rfl) (hpl : (backTo cpos (starEach es X.env)).any (·.1) = false := by rfl) :
    SSB X W ec (.Raise (some (.Call (.Name x p) (e :: es) [] cpos)) none pos) (tRaiseF C fs ta W) (fRaiseF x fs af) :=
  ⟨fun tk _ => ps_raise hc tk (pmk_oex T iC tI F1 hr hb .nil (fun _ _ _ _ _ _ _ z => z.elim) hg hm (ha.pa tk) hdb he hpl), dsb_raiseF hm hf hf2 ha.da⟩
/-! ### handlers -/
theorem tst_consN {K : PySem.W.Frag} {mg : Str → Option Value} {x c : Str} {C D : Addr} {l : List (Str × Bool)} {b : Bool} (E : ExN K mg x C) (G : ExN K mg c D) (h : PySem.W.subIn K (.ref D) (.ref C) = some b) (t : TstOk K mg (.ref C) l) : TstOk K mg (.ref C) ((c, b) :: l) := fun c' b' cls hm hl => by
  rw [List.lookup_cons] at hl
  split at hl
  · rename_i hq
    cases hl
    have hq : c' = c := by simpa using hq
    subst hq
    rw [G.g] at hm
    cases hm
    exact PySem.W.exm_ref E.s E.d E.t h
  · exact t c' b' cls hm hl
section
variable {X : Cx} {W : WX} {x n : Str} {C : Addr} {l : List (Str × Bool)} {body suite : List Stmt} {b0 : Stmt} {np pos pos' : Pos} {tb : WX → TS} {ts : Addr → Value → Option Addr → TS} {fb fs : BF} {i : Nat} {K : PySem.W.Frag}
theorem sb_tryAsN (hN : X.N.Nodup) (hi : X.N[i]? = some n) (hk : X.env.kindOf n = some NameKind.local) (hst : X.stack = X.env :: X.outer) (hfr : X.env.frame = some X.env.locals) (hg : Gl X x) (E : ExN X.K X.mg x C) (hT : TstOk X.K X.mg (.ref C) l)
    (hb : ∀ (W : WX) (pn : List (Addr × Obj)) (xe : Value → Shared → Prop), SSsB (X.tr pn xe) W none body (tb W) fb)
    (hs : ∀ (a : Addr) (oe : Obj) (cls : Value) (d : Option Addr) (pn : List (Addr × Obj)), Zc cls d oe → (∃ vs, oe.data = Data.fields vs) → SSsB (X.suite a ((a, oe) :: pn)) WNo (some (a, cls, d)) (b0 :: suite) (ts a cls d) fs)
    (hdb : (x == ("__debug__" : Str)) = false := by decide) (hK : X.K = K := by rfl) :
    SSB X W none (.Try body [.ExceptHandler (some (.Name x np)) (some n) (b0 :: suite) pos'] [] [] pos) (fun D σ H => tb (wAs K (.ref C) i ts W D) D σ H) (fTry l (some i) fb fs) := by
  subst hK
  refine ⟨fun tk _ => ps_try_as hst hfr hN hi hk ⟨hg, hdb, .inl E.g⟩ tk (fun W pn xe tkW po => (hb W pn xe).ps tkW po) (fun a oe cls d pn hz hv => (hs a oe cls d pn hz hv).ps takes0 PassesOwn.never), dsb_tryAs hT (fun W => (hb W [] fun _ _ => False).ds) fun a cls d => ?_⟩
  exact (hs a ⟨cls, d, .fields #[], #[]⟩ cls d [] ⟨rfl, rfl⟩ ⟨_, rfl⟩).ds
theorem sb_tryOnlyN (hst : X.stack = X.env :: X.outer) (hfr : X.env.frame = some X.env.locals) (hg : Gl X x) (E : ExN X.K X.mg x C) (hT : TstOk X.K X.mg (.ref C) l)
    (hb : ∀ (W : WX) (pn : List (Addr × Obj)) (xe : Value → Shared → Prop), SSsB (X.tr pn xe) W none body (tb W) fb)
    (hs : ∀ (a : Addr) (oe : Obj) (cls : Value) (d : Option Addr) (pn : List (Addr × Obj)), Zc cls d oe → (∃ vs, oe.data = Data.fields vs) → SSsB (X.suite a ((a, oe) :: pn)) WNo (some (a, cls, d)) (b0 :: suite) (ts a cls d) fs)
    (hdb : (x == ("__debug__" : Str)) = false := by decide) (hK : X.K = K := by rfl) :
    SSB X W none (.Try body [.ExceptHandler (some (.Name x np)) none (b0 :: suite) pos'] [] [] pos) (fun D σ H => tb (wOnly K (.ref C) ts W D) D σ H) (fTry l none fb fs) := by
  subst hK
  refine ⟨fun tk _ => ps_try_only hst hfr ⟨hg, hdb, .inl E.g⟩ tk (fun W pn xe tkW po => (hb W pn xe).ps tkW po) (fun a oe cls d pn hz hv => (hs a oe cls d pn hz hv).ps takes0 PassesOwn.never), dsb_tryOnly hT (fun W => (hb W [] fun _ _ => False).ds) fun a cls d => ?_⟩
  exact (hs a ⟨cls, d, .fields #[], #[]⟩ cls d [] ⟨rfl, rfl⟩ ⟨_, rfl⟩).ds
end
/-! ### isinstance of the handled exception, with fields or without -/
def bIsF (l : List (Str × Bool)) (j : Nat) : BE := fun env s => match env[j]? with
  | some (.x x) => (l.lookup x.cls).bind fun b => some (.ok (.d (.bool b)) s)
  | _ => none
def tIsF (K : PySem.W.Frag) (a : Addr) (cls : Value) (d : Option Addr) (cv : V) (j : Nat) : TE := fun σ H Q => ∃ D, cls = .ref D ∧ ExcC K D ∧ (d = none ∨ ∃ (dd : Addr) (fs : List (Str × V)), d = some dd ∧ H dd = some (.xd fs)) ∧
  ∃ (v : Value) (b : Bool), σ[j]? = some (some (.ref a)) ∧ (∀ u, RelV cv u → u = v) ∧ PySem.W.kitOne K (.ref D) v = some b ∧ Q (.bl b) H
theorem deb_isF {mg : Str → Option Value} {K : PySem.W.Frag} {w : World} {W : WX} {a : Addr} {cls : Value} {d : Option Addr} {cv : V} {l : List (Str × Bool)} {j : Nat} (h : IsOk K mg cv l) : DEB mg K w W (some (a, cls, d)) (tIsF K a cls d cv j) (bIsF l j) := fun F0 H0 F H α σ env s ans R L e Q q => by
  unfold bIsF at e
  split at e
  case h_2 => cases e
  rename_i x hx
  obtain ⟨b, hb, e⟩ := bnd e
  cases e
  obtain ⟨a', cls', d', h1, h2, h3, h4⟩ := L.at_ j _ hx
  cases h1
  obtain ⟨D, u, rfl, hE, hu, hk⟩ := h _ _ _ h3 hb
  refine ⟨D, rfl, hE, ?_, u, b, h2, hu, hk, q F H α (.bl b) .refl R (.bl b)⟩
  rcases h4 with h4 | ⟨_, dd, vs, hd, hF, _⟩
  · exact .inl h4.2
  · exact .inr ⟨dd, vs, hd, R.i _ _ hF⟩
theorem eb_isF {X : Cx} {a : Addr} {oe : Obj} {cls : Value} {d : Option Addr} {pn : List (Addr × Obj)} {x : Str} {p pos : Pos} {e1 e2 : Expr} {j : Nat} {cv : V} {l : List (Str × Bool)} {K : PySem.W.Frag} (hz : Zc cls d oe) (hv : ∃ vs, oe.data = Data.fields vs)
    (hg : Gl X x) (hm : X.mg x = none) (hb : bootBuiltins x = some (.builtin "isinstance")) (h1 : PE (X.suite a ((a, oe) :: pn)) e1 (tVar j)) (h2 : PE (X.suite a ((a, oe) :: pn)) e2 (tC cv)) (hl : IsOk X.K X.mg cv l)
    (hn : x ≠ "__name__" := by decide) (hdb : (x == ("__debug__" : Str)) = false := by decide)
    (he2 : starEach [e2] X.env = (false, eval e2 X.env) :: starEach [] X.env := by rfl) (he : starEach [e1, e2] X.env = (false, eval e1 X.env) :: starEach [e2] X.env := by rfl) (hpl : (backTo pos (starEach [e2] X.env)).any (·.1) = false := by rfl) (hK : X.K = K := by rfl) :
    SEB (X.suite a ((a, oe) :: pn)) WNo (some (a, cls, d)) (.Call (.Name x p) [e1, e2] [] pos) (tIsF K a cls d cv j) (bIsF l j) := by
  subst hK
  refine ⟨fun _ => ⟨fun pins s σ H Q I h => ?_⟩, deb_isF hl⟩
  obtain ⟨D, rfl, hE, hd, v, b, hs, hu, hk, q⟩ := h
  have hcall : CallR (X.suite a ((a, oe) :: pn)) (.builtin "isinstance") (fun xs H1 Q1 => xs = [.ref a, cv] ∧ H1 = H ∧ Q1 (.bl b) H) := by
    intro pins' s' σ' H1 xs us Q' I' r h
    obtain ⟨rfl, hH1, q'⟩ := h
    cases r with
    | cons rx rr =>
      cases rr with
      | cons rt rr =>
        cases rr
        cases rx
        have ec := hu _ rt
        subst ec
        obtain ⟨hget, _⟩ := I'.pin (a, oe) (List.mem_append.mpr (.inl List.mem_cons_self))
        obtain ⟨vs, hv⟩ := hv
        have J : ∃ od, PySem.W.InstAt s'.heap a oe D od := by
          obtain ⟨oc, odd, oda, osl⟩ := oe
          obtain ⟨g1, g2⟩ := hz
          dsimp only at g1 g2 hv
          subst g1 hv
          rcases hd with hd | ⟨dd, fs, hd, hH⟩
          · rw [hd] at g2
            subst g2
            exact ⟨none, hget, rfl, rfl, trivial⟩
          · rw [hd] at g2
            subst g2
            have hx : ObjOk X.prog X.w H1 s'.heap dd (.xd fs) := I'.hok dd _ (by rw [hH1]; exact hH)
            obtain ⟨mA, hns, hr⟩ := hx
            obtain ⟨od, ho, hl⟩ := lookIn_ns hns
            exact ⟨some od, hget, rfl, rfl, ho⟩
        obtain ⟨od, J⟩ := J
        exact PySem.W.kia_one (PySem.W.kitx_excO hE) I'.kIn J hk (fun z => nomatch z) fun tk => ⟨.bl b, H1, I'.kept (t' := tk) fun _ _ z => z, rfl, by rw [hH1]; exact q'⟩
  refine (pe_callB (X := X.suite a ((a, oe) :: pn)) hcall hg hm hb (pa_cons h1 (pa_cons h2 pa_nil he2) he) hn hdb he hpl).run pins s σ H Q I ?_
  exact ⟨.ref a, hs, rfl, rfl, q⟩
/-! ### a field of the handled exception -/
def bXf (cs : List Str) (j : Nat) (f : Str) : BE := fun env s => match env[j]? with
  | some (.x x) => if x.cls ∈ cs then (x.fs.lookup f).bind fun d => some (.ok (.d d) s) else none
  | _ => none
/-- the classes that may come, each of which has fields that are read so -/
def XfOk (K : PySem.W.Frag) (mg : Str → Option Value) (f : Str) (cs : List Str) : Prop := ∀ c ∈ cs, ∃ C : Addr, mg c = some (.ref C) ∧ XfC K C ∧ PySem.W.findIn K (.ref C) f = some none
theorem xf_nil {K : PySem.W.Frag} {mg : Str → Option Value} {f : Str} : XfOk K mg f [] := fun _ h => by cases h
theorem xf_cons {K : PySem.W.Frag} {mg : Str → Option Value} {f c : Str} {C : Addr} {cs : List Str} (g : mg c = some (.ref C)) (x : XfC K C) (n : PySem.W.findIn K (.ref C) f = some none) (t : XfOk K mg f cs) : XfOk K mg f (c :: cs) := fun c' h => by
  rcases List.mem_cons.mp h with rfl | h
  · exact ⟨C, g, x, n⟩
  · exact t c' h
def tXfs (K : PySem.W.Frag) (a : Addr) (cls : Value) (d : Option Addr) (f : Str) (j : Nat) : TE := fun σ H Q => ∃ C, XfC K C ∧ PySem.W.findIn K (.ref C) f = some none ∧ tXf a cls d C f (tVar j) σ H Q
theorem look_fs {f : Str} {d : PyData} {K : PySem.W.Frag} {F : Hp} : ∀ {fs : List (Str × PyData)} {vs : List (Str × V)}, vs.map Prod.fst = fs.map Prod.fst → DpAll K F (vs.map Prod.snd) (fs.map Prod.snd) → fs.lookup f = some d → ∃ v, vs.lookup f = some v ∧ Dp K F v d
  | [], [], _, _, e => by cases e
  | (g, d0) :: fs, (h, v0) :: vs, e1, e2, e => by
    rw [List.map_cons, List.map_cons] at e1 e2
    injection e1 with e3 e4
    dsimp only at e3
    subst e3
    cases e2 with
    | cons a b =>
      rw [lookup_put]
      rw [List.lookup_cons] at e
      split at e
      · rename_i hq
        cases e
        rw [if_pos (by simpa using hq)]
        exact ⟨_, rfl, a⟩
      · rename_i hq
        rw [if_neg (by simpa using hq)]
        exact look_fs e4 b e
  | [], _ :: _, e1, _, _ => by cases e1
  | _ :: _, [], e1, _, _ => by cases e1
theorem deb_xf {mg : Str → Option Value} {K : PySem.W.Frag} {w : World} {W : WX} {a : Addr} {cls : Value} {d : Option Addr} {f : Str} {cs : List Str} {j : Nat} (h : XfOk K mg f cs) : DEB mg K w W (some (a, cls, d)) (tXfs K a cls d f j) (bXf cs j f) := fun F0 H0 F H α σ env s ans R L e Q q => by
  unfold bXf at e
  split at e
  case h_2 => cases e
  rename_i x hx
  split at e
  case isFalse => cases e
  rename_i hcs
  obtain ⟨dd, hl, e⟩ := bnd e
  cases e
  obtain ⟨a', cls', d', h1, h2, h3, h4⟩ := L.at_ j _ hx
  cases h1
  obtain ⟨C, hm, hX, hn⟩ := h _ hcs
  rw [hm] at h3
  cases h3
  rcases h4 with h4 | ⟨_, da, vs, hd, hF, e1, e2⟩
  · rw [h4.1] at hl; cases hl
  obtain ⟨v, hv, dv⟩ := look_fs e1 e2 hl
  exact ⟨C, hX, hn, _, h2, rfl, rfl, da, vs, v, hd, R.i _ _ hF, hv, q F H α v .refl R dv⟩
theorem eb_xf {X : Cx} {a : Addr} {oe : Obj} {cls : Value} {d : Option Addr} {pn : List (Addr × Obj)} {e : Expr} {pos : Pos} {f : Str} {cs : List Str} {j : Nat} {K : PySem.W.Frag} (hz : Zc cls d oe) (hv : ∃ vs, oe.data = Data.fields vs)
    (h1 : PE (X.suite a ((a, oe) :: pn)) e (tVar j)) (h : XfOk X.K X.mg f cs) (hb : attributeBase e f X.env (eval e X.env) = eval e X.env := by rfl) (hK : X.K = K := by rfl) :
    SEB (X.suite a ((a, oe) :: pn)) WNo (some (a, cls, d)) (.Attribute e f pos) (tXfs K a cls d f j) (bXf cs j f) := by
  subst hK
  refine ⟨fun _ => ⟨fun pins s σ H Q I h => ?_⟩, deb_xf h⟩
  obtain ⟨C, hX, hn, h⟩ := h
  exact (pe_xf hX hn hz hv h1 hb).run pins s σ H Q I h
end Bx
/-! Bx3: is True, is not False; isinstance of what a reading over the store gives. -/
namespace Dn
open PySem PySem.Spec PyProof.Rows L2
@[simp] def gNotB : PyData → PyData → Option R
  | .bool a, .bool b => some (.val (.bool (!decide (a = b))))
  | _, _ => none
theorem rv_notB {K : PySem.W.Frag} : RVD K rNotB gNotB := fun F H x y dx dy r fh d1 d2 e Q q => by
  unfold gNotB at e
  split at e
  · cases e
    rw [dp_bool d1, dp_bool d2]
    exact ⟨_, _, rfl, rfl, q F H _ (Grow.refl fh) (.bl _)⟩
  · cases e
section
variable {X : Cx} {a b : Expr} {pos : Pos} {ta tb : TE} {f g : EF}
theorem se_notB (h1 : SE X a ta f) (h2 : SE X b tb g) : SE X (.Compare a [.IsNot] [b] pos) (tOp rNotB ta tb) (eBin gNotB f g) := ⟨pe_cmpR op_notBl h1.pe h2.pe (nomark _), de_bin rv_notB h1.de h2.de⟩
theorem st_isB (h1 : SE X a ta f) (h2 : SE X b tb g) : ST X (.Compare a [.Is] [b] pos) (tTest (tOp rIsB ta tb)) (tE (eBin gIsB f g)) := ⟨pt_cmpR op_isBl h1.pe h2.pe (nomark _), dt_test (de_bin rv_isB h1.de h2.de)⟩
theorem st_notB (h1 : SE X a ta f) (h2 : SE X b tb g) : ST X (.Compare a [.IsNot] [b] pos) (tTest (tOp rNotB ta tb)) (tE (eBin gNotB f g)) := ⟨pt_cmpR op_notBl h1.pe h2.pe (nomark _), dt_test (de_bin rv_notB h1.de h2.de)⟩
end
end Dn
namespace Bn
open PySem PySem.Spec PyProof.Rows L2 Dn
section
variable {X : Cx} {W : WX} {ec : EC} {a b : Expr} {pos p : Pos} {ta tb : TE} {f g : BE} {x : Str}
theorem tb_isB (h1 : SEB X W ec a ta f) (h2 : SEB X W ec b tb g) : STB X W ec (.Compare a [.Is] [b] pos) (tTest (tOp rIsB ta tb)) (bTE (bBin gIsB f g)) := ⟨fun tk => pt_cmpR op_isBl (h1.pe tk) (h2.pe tk) (nomark _), dtb_test (deb_bin rv_isB h1.de h2.de)⟩
theorem eb_notB (h1 : SEB X W ec a ta f) (h2 : SEB X W ec b tb g) : SEB X W ec (.Compare a [.IsNot] [b] pos) (tOp rNotB ta tb) (bBin gNotB f g) := ⟨fun tk => pe_cmpR op_notBl (h1.pe tk) (h2.pe tk) (nomark _), deb_bin rv_notB h1.de h2.de⟩
theorem tb_notB (h1 : SEB X W ec a ta f) (h2 : SEB X W ec b tb g) : STB X W ec (.Compare a [.IsNot] [b] pos) (tTest (tOp rNotB ta tb)) (bTE (bBin gNotB f g)) := ⟨fun tk => pt_cmpR op_notBl (h1.pe tk) (h2.pe tk) (nomark _), dtb_test (deb_bin rv_notB h1.de h2.de)⟩
@[simp] def bIsi (T : String) (f : BE) : BE := fun env s => bB (f env s) fun a s1 => (dp s1 a).bind fun d => some (.ok (.d (.bool (isi T d))) s1)
theorem deb_isi {mg : Str → Option Value} {K : PySem.W.Frag} {w : World} {T : String} (hT : T ∈ ["int", "bool", "str", "tuple", "list"]) (h1 : DEB mg K w W ec ta f) : DEB mg K w W ec (tCB (rIsi K) (tCons ta (tCons (tC (.ty T)) tNil))) (bIsi T f) := fun F0 H0 F H α σ env s ans R L e Q q => by
  rcases bBd e with ⟨a, s1, ea, e⟩ | ⟨x, s1, ea, rfl⟩
  case inr => exact h1 F0 H0 F H α σ env s _ R L ea _ q
  refine h1.run R L ea fun F1 H1 α1 x p1 R1 r1 L1 => ?_
  obtain ⟨d, hd, e⟩ := bnd e
  cases e
  exact ⟨x, .ty T, _, _, _, rfl, .ty T, dp_ty (dp_ok R1 r1 hd), kit_isi hT, q F1 H1 α1 _ p1 R1 (.bl _)⟩
theorem eb_isi {K : PySem.W.Frag} {T : String} {pT : Pos} {xT : Str} (hT : T ∈ ["int", "bool", "str", "tuple", "list"]) (hg : Gl X x) (hm : X.mg x = none) (hv : bootBuiltins x = some (.builtin "isinstance")) (hgT : Gl X xT) (hmT : X.mg xT = none) (hvT : bootBuiltins xT = some (.type T)) (h1 : SEB X W ec a ta f) (hn : x ≠ "__name__" := by decide) (hdb : (x == ("__debug__" : Str)) = false := by decide)
    (hnT : xT ≠ "__name__" := by decide) (hdT : (xT == ("__debug__" : Str)) = false := by decide)
    (he1 : starEach [.Name xT pT] X.env = (false, eval (.Name xT pT) X.env) :: starEach [] X.env := by rfl)
    (he : starEach [a, .Name xT pT] X.env = (false, eval a X.env) :: starEach [.Name xT pT] X.env := by rfl) (hpl : (backTo pos (starEach [.Name xT pT] X.env)).any (·.1) = false := by rfl) (hK : X.K = K := by rfl) : SEB X W ec (.Call (.Name x p) [a, .Name xT pT] [] pos) (tCB (rIsi K) (tCons ta (tCons (tC (.ty T)) tNil))) (bIsi T f) := by
  subst hK
  exact ⟨fun tk => pe_callB call_isi hg hm hv (pa_cons (h1.pe tk) (pa_cons (pe_bltn (v := .ty T) hgT hmT hvT rfl hnT hdT) pa_nil he1) he) hn hdb he hpl, deb_isi hT h1.de⟩
end
end Bn
namespace Law
open PySem PySem.Spec PyProof.Rows L2 Dn
def topS (i : Nat) : Stmt := PySem.Challenge.pw_oddkeep_k40_closed_classes.main.body.getD i (.Pass ⟨0, 0, 0, 0⟩)
abbrev s_targets : Stmt := topS 6
abbrev s__law_draws : Stmt := topS 12
abbrev s__law_gcd : Stmt := topS 13
abbrev s__law_is_whole : Stmt := topS 22
abbrev s__law_branches : Stmt := topS 28
abbrev s_reached : Stmt := topS 7
abbrev s__law_number : Stmt := topS 14
abbrev s__law_reached : Stmt := topS 29
abbrev s_check_chain : Stmt := topS 9
abbrev s_closed_classes : Stmt := topS 10
abbrev s__law_chances_of : Stmt := topS 25
abbrev s__law_closed : Stmt := topS 30
abbrev s__law_place : Stmt := topS 26
abbrev s__law_refused : Stmt := topS 31
abbrev s__law_chain : Stmt := topS 27
abbrev s_law : Stmt := topS 32
noncomputable def b_targets_1 : EF :=
  (eLc [3] (iS (eBin gIx (eVar 2) (eC (.int 1)))) (gtName 3) tYesD (eBin gIx (eVar 3) (eC (.int 1))))
noncomputable def b_targets : SF :=
  (sSeq (sSet 2 (eBin gIx (eVar 0) (eVar 1)))
    (sSeq (sIf (tE (eBin gEqT (eBin gIx (eVar 2) (eC (.int 0))) (eC (.str "draw")))) (sRet b_targets_1) sNext)
    (sSeq (sIf (tE (eBin gInG (eBin gIx (eVar 2) (eC (.int 0))) (eC (.tuple [.str "ours", .str "theirs"])))) (sRet (eCall gList (aCons (eBin gIx (eVar 2) (eC (.int 1))) aNil))) sNext)
    (sSeq (sIf (tE (eBin gEqT (eBin gIx (eVar 2) (eC (.int 0))) (eC (.str "reward")))) (sRet (eLst (aCons (eBin gIx (eVar 2) (eC (.int 2))) aNil))) sNext)
    (sRet (eLst aNil))))))
noncomputable abbrev m_targets := fnD 4 2 b_targets
noncomputable def b__law_draws_1 : EF :=
  (eLc [6] (iS (eVar 0)) (gtName 6) tYesD (eVar 6))
noncomputable def b__law_draws_2 : SF :=
  (sSeq (sSet 5 (eC (.int 0)))
    (sSeq (sIf (tE (eBin gGt (ePeek (eCall gLen (aCons (eVar 2) aNil))) (eC (.int 0)))) (sSeq (sSet 7 (eBin gMod (eCall gInt (aCons (eVar 4) aNil)) (ePeek (eCall gLen (aCons (eVar 2) aNil)))))
    (sIf (tE (eBin gGe (eIxO 2 (eVar 7)) (eBin gPow (eC (.int 10)) (eC (.int 18))))) (sSeq (sSet 5 (eBin gMod (eCall gInt (aCons (eIxO 2 (eVar 7)) aNil)) (eC (.int 1000))))
    (sPut 2 (eVar 7) (eBin gFdiv (eIxO 2 (eVar 7)) (eC (.int 1000))))) (sSeq (sSet 8 (eBin gMod (eCall gInt (aCons (eBin gAdd (eBin gAdd (eBin gMul (eIxO 2 (eVar 7)) (eC (.int 48271))) (eBin gMul (eVar 4) (eC (.int 69621)))) (eC (.int 11))) aNil)) (eC (.int 2147483647))))
    (sSeq (sSet 8 (eBin gMod (eCall gInt (aCons (eBin gAdd (eBin gMul (eVar 8) (eC (.int 16807))) (eVar 7)) aNil)) (eC (.int 2147483629))))
    (sSet 5 (eBin gMod (eCall gInt (aCons (eBin gFdiv (eVar 8) (eC (.int 7))) aNil)) (eC (.int 1000)))))))) sNext)
    (sAppend 3 (eVar 5))))
noncomputable def b__law_draws : SF :=
  (sSeq (sSet 2 b__law_draws_1)
    (sSeq (sSet 3 (eLst aNil))
    (sSeq (sFor (iR1 (aCons (eVar 1) aNil)) (gtName 4) b__law_draws_2)
    (sRetOwn 3))))
noncomputable abbrev m__law_draws := fnD 9 2 b__law_draws
noncomputable def b__law_gcd_1 : SF :=
  (sSeq (sIf (tE (eBin gEqT (eVar 1) (eC (.int 0)))) sBreak sNext)
    (sPar 0 1 (aCons (eVar 1) (aCons (eBin gMod (eCall gInt (aCons (eVar 0) aNil)) (eVar 1)) aNil))))
noncomputable def b__law_gcd : SF :=
  (sSeq (sPar 0 1 (aCons (eCall gAbs (aCons (eVar 0) aNil)) (aCons (eCall gAbs (aCons (eVar 1) aNil)) aNil)))
    (sSeq (sFor (iR1 (aCons (eC (.int 20000)) aNil)) (gtName 2) b__law_gcd_1)
    (sRet (eVar 0))))
noncomputable abbrev m__law_gcd := fnD 3 2 b__law_gcd
noncomputable def b__law_is_whole : SF :=
  (sRet (eIf (tE (eIsi "int" (eVar 0))) (eT (tNotD (tE (eIsi "bool" (eVar 0))))) (eC (.bool false))))
noncomputable abbrev m__law_is_whole := fnD 1 1 b__law_is_whole
noncomputable def b__law_branches : SF :=
  (sSeq (sIf (tE (eBin gEqT (eBin gIx (eBin gIx (eVar 0) (eVar 1)) (eC (.int 0))) (eC (.str "draw")))) (sRet (eCall gList (aCons (eBin gIx (eBin gIx (eVar 0) (eVar 1)) (eC (.int 1))) aNil))) sNext)
    (sSeq (sIf (tE (eBin gEqT (eBin gIx (eBin gIx (eVar 0) (eVar 1)) (eC (.int 0))) (eC (.str "reward")))) (sRet (eLst (aCons (eTup (aCons (eTup (aCons (eC (.int 1)) (aCons (eC (.int 1)) aNil))) (aCons (eBin gIx (eBin gIx (eVar 0) (eVar 1)) (eC (.int 2))) aNil))) aNil))) sNext)
    (sRet (eLst aNil))))
noncomputable abbrev m__law_branches := fnD 2 2 b__law_branches
noncomputable def b_reached_1 : Bn.BF :=
  (Bn.fIf (Bn.bTE (Bn.bSnotin (Bn.bP (eVar 5)) (Bn.bVar 2))) (Bn.fSeq (Bn.fDrop (Bn.bSAdd (Bn.bVar 2) (Bn.bP (eVar 5))))
    (Bn.fDrop (Bn.bAppend (Bn.bVar 3) (Bn.bP (eVar 5))))) Bn.fNext)
noncomputable def b_reached_2 : Bn.BF :=
  (Bn.fSeq (Bn.fSet 4 (Bn.bPop (Bn.bVar 3)))
    (Bn.fFor (Bn.biP (iS (eCall m_targets (aCons (eVar 0) (aCons (eVar 4) aNil))))) (Bn.btName 5) b_reached_1))
noncomputable def b_reached : Bn.BF :=
  (Bn.fSeq (Bn.fSet 2 (Bn.bSet1 (Bn.bP (eVar 1))))
    (Bn.fSeq (Bn.fSet 3 (Bn.bP (eLst (aCons (eVar 1) aNil))))
    (Bn.fSeq (Bn.fWhile (Bn.bPkT (tTru (eVar 3))) b_reached_2)
    (Bn.fRet (Bn.bSortedSet (Bn.bVar 2))))))
noncomputable abbrev m_reached := Bn.fnDB 6 2 b_reached
noncomputable def b__law_number : SF :=
  (sSeq (sIf (tE (eBin gLt (eVar 1) (eC (.int 0)))) (sPar 0 1 (aCons (eUn gNeg (eVar 0)) (aCons (eUn gNeg (eVar 1)) aNil))) sNext)
    (sSeq (sSet 2 (eCall m__law_gcd (aCons (eVar 0) (aCons (eVar 1) aNil))))
    (sRet (eTup (aCons (eBin gFdiv (eVar 0) (eVar 2)) (aCons (eBin gFdiv (eVar 1) (eVar 2)) aNil))))))
noncomputable abbrev m__law_number := fnD 3 2 b__law_number
noncomputable def b__law_reached_1 : SF :=
  (sIf (tPeek (tE (eBin gNotInG (eVar 6) (eVar 2)))) (sAppend 2 (eVar 6)) sNext)
noncomputable def b__law_reached_2 : SF :=
  (sFor (iS (eCall m__law_branches (aCons (eVar 0) (aCons (eVar 4) aNil)))) (gtTup2 5 6) b__law_reached_1)
noncomputable def b__law_reached_3 : SF :=
  (sFor (iS (ePeek (eCall gList (aCons (eVar 2) aNil)))) (gtName 4) b__law_reached_2)
noncomputable def b__law_reached : SF :=
  (sSeq (sSet 2 (eLst (aCons (eVar 1) aNil)))
    (sSeq (sFor (iR1 (aCons (eCall gLen (aCons (eVar 0) aNil)) aNil)) (gtName 3) b__law_reached_3)
    (sRet (ePeek (eCall gSorted (aCons (eVar 2) aNil))))))
noncomputable abbrev m__law_reached := fnD 7 2 b__law_reached
noncomputable def b_check_chain_1 : Bn.BF :=
  (Bn.fIf (Bn.bPT (tE (eBin gInG (eBin gIx (eVar 2) (eC (.int 0))) (eC (.tuple [.str "ours", .str "theirs"]))))) (Bx.fRaiseF "NotChain" ["place"] (Bn.bCons (Bn.bP (eVar 1)) Bn.bNil)) Bn.fNext)
noncomputable def b_check_chain : Bn.BF :=
  (Bn.fFor (Bn.biP (iEn (aCons (eVar 0) aNil))) (Bn.btTup 2 (Bn.btCons (Bn.btName 1) (Bn.btCons (Bn.btName 2) Bn.btNil))) b_check_chain_1)
noncomputable abbrev m_check_chain := Bn.fnXB 3 1 b_check_chain
noncomputable def b_closed_classes_1 : Bn.BE :=
  (Bn.bLc [3] (Bn.biP (iR1 (aCons (eCall gLen (aCons (eVar 0) aNil)) aNil))) (Bn.btName 3) Bn.bYes (Bn.bP (eCall m_reached (aCons (eVar 0) (aCons (eVar 3) aNil)))))
noncomputable def b_closed_classes_2 : EF :=
  (eLc [4] (iS (eBin gIx (eVar 1) (eVar 3))) (gtName 4) tYesD (eBin gEqT (eBin gIx (eVar 1) (eVar 4)) (eBin gIx (eVar 1) (eVar 3))))
noncomputable def b_closed_classes_3 : Bn.BF :=
  (Bn.fIf (Bn.bPkT (tAndD (tE (eBin gEqT (eBin gIx (eBin gIx (eVar 1) (eVar 3)) (eC (.int 0))) (eVar 3))) (tE (eCall gAll (aCons b_closed_classes_2 aNil))))) (Bn.fDrop (Bn.bAppend (Bn.bVar 2) (Bn.bIx (Bn.bVar 1) (Bn.bP (eVar 3))))) Bn.fNext)
noncomputable def b_closed_classes : Bn.BF :=
  (Bn.fSeq (Bn.fSet 1 b_closed_classes_1)
    (Bn.fSeq (Bn.fSet 2 (Bn.bP (eLst aNil)))
    (Bn.fSeq (Bn.fFor (Bn.biP (iR1 (aCons (eCall gLen (aCons (eVar 0) aNil)) aNil))) (Bn.btName 3) b_closed_classes_3)
    (Bn.fRet (Bn.bVar 2)))))
noncomputable abbrev m_closed_classes := Bn.fnB 5 1 b_closed_classes
noncomputable def b__law_chances_of_1 : EF :=
  (eLc [3] (iR1 (aCons (eVar 1) aNil)) (gtName 3) tYesD (eBin gAdd (eC (.int 1)) (eBin gMod (eCall gInt (aCons (eBin gIx (eVar 0) (eVar 3)) aNil)) (eC (.int 4)))))
noncomputable def b__law_chances_of_2 : EF :=
  (eLc [4] (iS (eVar 2)) (gtName 4) tYesD (eCall m__law_number (aCons (eVar 4) (aCons (eCall gSum (aCons (eVar 2) aNil)) aNil))))
noncomputable def b__law_chances_of : SF :=
  (sSeq (sSet 2 b__law_chances_of_1)
    (sFrz 2 (sRet b__law_chances_of_2)))
noncomputable abbrev m__law_chances_of := fnD 5 2 b__law_chances_of
noncomputable def b__law_closed_1 : EF :=
  (eLc [4] (iS (eVar 3)) (gtName 4) (tE (eBin gNotInG (eVar 2) (eCall m__law_reached (aCons (eVar 0) (aCons (eVar 4) aNil))))) (eVar 4))
noncomputable def b__law_closed_2 : SF :=
  (sSeq (sSet 3 (eCall m__law_reached (aCons (eVar 0) (aCons (eVar 2) aNil))))
    (sFrz 3 (sIf (tAndD (tE (eBin gEqT (eCall gLen (aCons b__law_closed_1 aNil)) (eC (.int 0)))) (tPeek (tE (eBin gNotInG (eVar 3) (eVar 1))))) (sAppend 1 (eVar 3)) sNext)))
noncomputable def b__law_closed : SF :=
  (sSeq (sSet 1 (eLst aNil))
    (sSeq (sFor (iR1 (aCons (eCall gLen (aCons (eVar 0) aNil)) aNil)) (gtName 2) b__law_closed_2)
    (sRetOwn 1)))
noncomputable abbrev m__law_closed := fnD 5 1 b__law_closed
noncomputable def b__law_place_1 : EF :=
  (eLc [5] (iR1 (aCons (eVar 3) aNil)) (gtName 5) tYesD (eTup (aCons (eIxO 4 (eVar 5)) (aCons (eBin gMod (eCall gInt (aCons (eBin gIx (eVar 0) (eBin gAdd (eC (.int 8)) (eVar 5))) aNil)) (eVar 1)) aNil))))
noncomputable def b__law_place : SF :=
  (sSeq (sSet 2 (eBin gMod (eCall gInt (aCons (eBin gIx (eVar 0) (eC (.int 0))) aNil)) (eC (.int 9))))
    (sSeq (sIf (tE (eBin gEqT (eVar 2) (eC (.int 0)))) (sRet (eTup (aCons (eC (.str "finish")) aNil))) sNext)
    (sSeq (sIf (tE (eBin gEqT (eVar 2) (eC (.int 1)))) (sRet (eTup (aCons (eC (.str "lose")) aNil))) sNext)
    (sSeq (sIf (tE (eBin gEqT (eVar 2) (eC (.int 2)))) (sRet (eTup (aCons (eC (.str "reward")) (aCons (eCall m__law_number (aCons (eBin gMod (eCall gInt (aCons (eBin gIx (eVar 0) (eC (.int 1))) aNil)) (eC (.int 7))) (aCons (eBin gAdd (eC (.int 1)) (eBin gMod (eCall gInt (aCons (eBin gFdiv (eBin gIx (eVar 0) (eC (.int 1))) (eC (.int 7))) aNil)) (eC (.int 3)))) aNil))) (aCons (eBin gMod (eCall gInt (aCons (eBin gIx (eVar 0) (eC (.int 2))) aNil)) (eVar 1)) aNil))))) sNext)
    (sSeq (sSet 3 (eBin gIx (eLst (aCons (eC (.int 1)) (aCons (eC (.int 2)) (aCons (eC (.int 2)) (aCons (eC (.int 3)) (aCons (eC (.int 2)) (aCons (eC (.int 6)) aNil))))))) (eBin gMod (eCall gInt (aCons (eBin gIx (eVar 0) (eC (.int 1))) aNil)) (eC (.int 6)))))
    (sSeq (sSet 4 (eCall m__law_chances_of (aCons (eSl (eVar 0) (oSome (eC (.int 2))) (oSome (eC (.int 8)))) (aCons (eVar 3) aNil))))
    (sRet (eTup (aCons (eC (.str "draw")) (aCons b__law_place_1 aNil))))))))))
noncomputable abbrev m__law_place := fnD 6 2 b__law_place
noncomputable def b__law_refused_1 : Bn.BF :=
  (Bn.fIf (Bn.bTE (Bn.bBin gIsN (Bn.bCallX m_check_chain (Bn.bCons (Bn.bP (eVar 0)) Bn.bNil)) (Bn.bP (eC .none)))) (Bn.fRet (Bn.bP (eLst aNil))) Bn.fNext)
noncomputable def b__law_refused_2 : Bn.BF :=
  (Bn.fIf (Bn.bAnd (Bn.bTE (Bx.bIsF [("NotChain", true)] 1)) (Bn.bAnd (Bn.bTE (Bx.bIsF [("NotChain", true)] 1)) (Bn.bNot (Bn.bTE (Bx.bIsF [("NotChain", false)] 1))))) (Bn.fRet (Bn.bLst (Bn.bCons (Bx.bXf ["NotChain"] 1 "place") Bn.bNil))) Bn.fNext)
noncomputable def b__law_refused : Bn.BF :=
  (Bn.fSeq (Bn.fTry [("NotChain", true)] (some 1) b__law_refused_1 b__law_refused_2)
    (Bn.fRet (Bn.bP (eLst (aCons (eC (.str "other")) aNil)))))
noncomputable abbrev m__law_refused := Bn.fnXB 2 1 b__law_refused
noncomputable def b__law_chain_1 : EF :=
  (eLc [2] (iR1 (aCons (eVar 1) aNil)) (gtName 2) tYesD (eCall m__law_place (aCons (eSl (eVar 0) (oSome (eBin gAdd (eC (.int 1)) (eBin gMul (eC (.int 14)) (eVar 2)))) (oSome (eBin gAdd (eC (.int 15)) (eBin gMul (eC (.int 14)) (eVar 2))))) (aCons (eVar 1) aNil))))
noncomputable def b__law_chain : SF :=
  (sSeq (sSet 1 (eBin gAdd (eC (.int 1)) (eBin gMod (eCall gInt (aCons (eBin gIx (eVar 0) (eC (.int 0))) aNil)) (eC (.int 7)))))
    (sRet b__law_chain_1))
noncomputable abbrev m__law_chain := fnD 3 1 b__law_chain
noncomputable def b_law_1 : EF :=
  (eLc [12] (iS (eVar 10)) (gtName 12) tYesD (eCall m__law_is_whole (aCons (eVar 12) aNil)))
noncomputable def b_law_2 : Bn.BF :=
  (Bn.fSeq (Bn.fIf (Bn.bPkT (tNotD (tE (eCall gAll (aCons b_law_1 aNil))))) (Bn.fRet (Bn.bP (eC (.bool false)))) Bn.fNext)
    (Bn.fDrop (Bn.bAppend (Bn.bVar 10) (Bn.bP (eC (.int 99))))))
noncomputable def b_law_3 : Bn.BF :=
  (Bn.fSeq (Bn.fSet 9 (Bn.bCallB m_closed_classes (Bn.bCons (Bn.bP (eVar 2)) Bn.bNil)))
    (Bn.fSeq (Bn.fIf (Bn.bPkT (tOrD (tNotD (tE (eIsi "list" (eVar 9)))) (tE (eBin gNeT (eVar 9) (eVar 4))))) (Bn.fRet (Bn.bP (eC (.bool false)))) Bn.fNext)
    (Bn.fSeq (Bn.fFor (Bn.biE (Bn.bVar 9)) (Bn.btName 10) b_law_2)
    (Bn.fDrop (Bn.bAppend (Bn.bVar 9) (Bn.bP (eLst aNil)))))))
noncomputable def b_law_4 : Bn.BF :=
  (Bn.fSeq (Bn.fSet 11 (Bn.bPk (eBin gMod (eCall gInt (aCons (eBin gIx (eVar 1) (eBin gAdd (eC (.int 111)) (eVar 8))) aNil)) (eCall gLen (aCons (eVar 6) aNil)))))
    (Bn.fSeq (Bn.fPut (Bn.bVar 6) (Bn.bP (eVar 11)) (Bn.bTup (Bn.bCons (Bn.bP (eBin gIx (eLst (aCons (eC (.str "ours")) (aCons (eC (.str "theirs")) aNil))) (eBin gMod (eCall gInt (aCons (eBin gIx (eVar 1) (eBin gAdd (eC (.int 113)) (eVar 8))) aNil)) (eC (.int 2))))) (Bn.bCons (Bn.bFz (Bn.bLst (Bn.bCons (Bn.bPk (eBin gMod (eCall gInt (aCons (eBin gIx (eVar 1) (eBin gAdd (eC (.int 115)) (eVar 8))) aNil)) (eCall gLen (aCons (eVar 6) aNil)))) (Bn.bCons (Bn.bP (eVar 11)) Bn.bNil)))) Bn.bNil))))
    (Bn.fDrop (Bn.bAppend (Bn.bVar 7) (Bn.bP (eVar 11))))))
noncomputable def b_law : Bn.BF :=
  (Bn.fSeq (Bn.fSet 1 (Bn.bFz (Bn.bP (eCall m__law_draws (aCons (eVar 0) (aCons (eC (.int 120)) aNil))))))
    (Bn.fSeq (Bn.fSet 2 (Bn.bFz (Bn.bP (eCall m__law_chain (aCons (eVar 1) aNil)))))
    (Bn.fSeq (Bn.fSet 3 (Bn.bP (eCall gRepr (aCons (eVar 2) aNil))))
    (Bn.fSeq (Bn.fSet 4 (Bn.bFz (Bn.bP (eCall m__law_closed (aCons (eVar 2) aNil)))))
    (Bn.fSeq (Bn.fFor (Bn.biP (iR1 (aCons (eC (.int 2)) aNil))) (Bn.btName 5) b_law_3)
    (Bn.fSeq (Bn.fSet 6 (Bn.bP (eCall gList (aCons (eVar 2) aNil))))
    (Bn.fSeq (Bn.fSet 7 (Bn.bP (eLst aNil)))
    (Bn.fSeq (Bn.fFor (Bn.biP (iR1 (aCons (eBin gAdd (eC (.int 1)) (eBin gMod (eCall gInt (aCons (eBin gIx (eVar 1) (eC (.int 110))) aNil)) (eC (.int 2)))) aNil))) (Bn.btName 8) b_law_4)
    (Bn.fSeq (Bn.fIf (Bn.bOr (Bn.bTE (Bn.bBin gNeT (Bn.bCallX m__law_refused (Bn.bCons (Bn.bP (eVar 2)) Bn.bNil)) (Bn.bP (eLst aNil)))) (Bn.bTE (Bn.bBin gNeT (Bn.bCallX m__law_refused (Bn.bCons (Bn.bFz (Bn.bVar 6)) Bn.bNil)) (Bn.bLst (Bn.bCons (Bn.bPk (eCall gMin (aCons (eVar 7) aNil))) Bn.bNil))))) (Bn.fRet (Bn.bP (eC (.bool false)))) Bn.fNext)
    (Bn.fRet (Bn.bP (eBin gEqT (eCall gRepr (aCons (eVar 2) aNil)) (eVar 3)))))))))))))
noncomputable abbrev m_law := Bn.fnXB 13 1 b_law
end Law
/-! Rb: comprehensions and loops over typed lists, words -/
namespace Dn
open PySem PySem.Spec PyProof.Rows L2
abbrev nI (x : Nat) : PyData := .int (x : Int)
abbrev il (xs : List Nat) : List PyData := xs.map nI
theorem il_app (a b : List Nat) : il (a ++ b) = il a ++ il b := List.map_append
def od : Option Nat → PyData
  | none => .none
  | some n => .int (n : Int)
@[simp] theorem od_none : od none = .none := rfl
@[simp] theorem od_some {n : Nat} : od (some n) = .int (n : Int) := rfl
@[simp] theorem isNone_od (o : Option Nat) : isNone (od o) = o.isNone := by cases o <;> rfl
/-! places in written lists -/
@[simp] theorem atI_0 {α : Type} {x : α} {l : List α} : atI (x :: l) 0 = some x := atI_nat' (by decide) rfl
@[simp] theorem atI_1 {α : Type} {x y : α} {l : List α} : atI (x :: y :: l) 1 = some y := atI_nat' (by decide) rfl
@[simp] theorem atI_2 {α : Type} {x y z : α} {l : List α} : atI (x :: y :: z :: l) 2 = some z := atI_nat' (by decide) rfl
@[simp] theorem atI_3 {α : Type} {x y z w : α} {l : List α} : atI (x :: y :: z :: w :: l) 3 = some w := atI_nat' (by decide) rfl
theorem atI_map {α β : Type} {f : α → β} {xs : List α} {p : Nat} {x : α} (h : xs[p]? = some x) : atI (xs.map f) (p : Int) = some (f x) :=
  atI_nat' (by omega) (by rw [Int.toNat_natCast, List.getElem?_map, h]; rfl)
theorem ixN_of {n p : Nat} (h : p < n) : ixN n (p : Int) = some p := by rw [ixN_nat (by omega) (by omega)]; rfl
/-! words -/
@[simp] theorem w_draw_ours : (("draw" : Str) = ("ours" : Str)) = False := eq_false (by decide +kernel)
@[simp] theorem w_draw_theirs : (("draw" : Str) = ("theirs" : Str)) = False := eq_false (by decide +kernel)
@[simp] theorem w_draw_reward : (("draw" : Str) = ("reward" : Str)) = False := eq_false (by decide +kernel)
@[simp] theorem w_draw_finish : (("draw" : Str) = ("finish" : Str)) = False := eq_false (by decide +kernel)
@[simp] theorem w_draw_lose : (("draw" : Str) = ("lose" : Str)) = False := eq_false (by decide +kernel)
@[simp] theorem w_ours_draw : (("ours" : Str) = ("draw" : Str)) = False := eq_false (by decide +kernel)
@[simp] theorem w_ours_theirs : (("ours" : Str) = ("theirs" : Str)) = False := eq_false (by decide +kernel)
@[simp] theorem w_ours_reward : (("ours" : Str) = ("reward" : Str)) = False := eq_false (by decide +kernel)
@[simp] theorem w_ours_finish : (("ours" : Str) = ("finish" : Str)) = False := eq_false (by decide +kernel)
@[simp] theorem w_ours_lose : (("ours" : Str) = ("lose" : Str)) = False := eq_false (by decide +kernel)
@[simp] theorem w_theirs_draw : (("theirs" : Str) = ("draw" : Str)) = False := eq_false (by decide +kernel)
@[simp] theorem w_theirs_ours : (("theirs" : Str) = ("ours" : Str)) = False := eq_false (by decide +kernel)
@[simp] theorem w_theirs_reward : (("theirs" : Str) = ("reward" : Str)) = False := eq_false (by decide +kernel)
@[simp] theorem w_theirs_finish : (("theirs" : Str) = ("finish" : Str)) = False := eq_false (by decide +kernel)
@[simp] theorem w_theirs_lose : (("theirs" : Str) = ("lose" : Str)) = False := eq_false (by decide +kernel)
@[simp] theorem w_reward_draw : (("reward" : Str) = ("draw" : Str)) = False := eq_false (by decide +kernel)
@[simp] theorem w_reward_ours : (("reward" : Str) = ("ours" : Str)) = False := eq_false (by decide +kernel)
@[simp] theorem w_reward_theirs : (("reward" : Str) = ("theirs" : Str)) = False := eq_false (by decide +kernel)
@[simp] theorem w_reward_finish : (("reward" : Str) = ("finish" : Str)) = False := eq_false (by decide +kernel)
@[simp] theorem w_reward_lose : (("reward" : Str) = ("lose" : Str)) = False := eq_false (by decide +kernel)
@[simp] theorem w_finish_draw : (("finish" : Str) = ("draw" : Str)) = False := eq_false (by decide +kernel)
@[simp] theorem w_finish_ours : (("finish" : Str) = ("ours" : Str)) = False := eq_false (by decide +kernel)
@[simp] theorem w_finish_theirs : (("finish" : Str) = ("theirs" : Str)) = False := eq_false (by decide +kernel)
@[simp] theorem w_finish_reward : (("finish" : Str) = ("reward" : Str)) = False := eq_false (by decide +kernel)
@[simp] theorem w_finish_lose : (("finish" : Str) = ("lose" : Str)) = False := eq_false (by decide +kernel)
@[simp] theorem w_lose_draw : (("lose" : Str) = ("draw" : Str)) = False := eq_false (by decide +kernel)
@[simp] theorem w_lose_ours : (("lose" : Str) = ("ours" : Str)) = False := eq_false (by decide +kernel)
@[simp] theorem w_lose_theirs : (("lose" : Str) = ("theirs" : Str)) = False := eq_false (by decide +kernel)
@[simp] theorem w_lose_reward : (("lose" : Str) = ("reward" : Str)) = False := eq_false (by decide +kernel)
@[simp] theorem w_lose_finish : (("lose" : Str) = ("finish" : Str)) = False := eq_false (by decide +kernel)
@[simp] theorem w_sure_chance : (("sure" : Str) = ("chance" : Str)) = False := eq_false (by decide +kernel)
@[simp] theorem w_sure_almost : (("sure" : Str) = ("almost" : Str)) = False := eq_false (by decide +kernel)
@[simp] theorem w_chance_sure : (("chance" : Str) = ("sure" : Str)) = False := eq_false (by decide +kernel)
@[simp] theorem w_chance_almost : (("chance" : Str) = ("almost" : Str)) = False := eq_false (by decide +kernel)
@[simp] theorem w_almost_sure : (("almost" : Str) = ("sure" : Str)) = False := eq_false (by decide +kernel)
@[simp] theorem w_almost_chance : (("almost" : Str) = ("chance" : Str)) = False := eq_false (by decide +kernel)
theorem shp_lit {x : Str} (h : PyData.strOk x = true) : Shp (.str x) := by
  show (PyData.strOk x && _) = true
  rw [h]
  rfl
/-! comprehensions over typed lists -/
theorem lcD_typ {α : Type} {vs : List Nat} {g : GF} {c : TF} {f : EF} {env : En} (enc h : α → PyData) : ∀ {xs : List α}, (∀ a ∈ xs, ∃ e1 r, g (enc a) (wipeD env vs) = some e1 ∧ c e1 = some true ∧ f e1 = some r ∧ r.frz = h a) → lcD vs g c f env (xs.map enc) = some (xs.map h)
  | [], _ => rfl
  | a :: xs, hd => by
    obtain ⟨e1, r, h1, h2, h3, h4⟩ := hd a List.mem_cons_self
    have ih := lcD_typ (xs := xs) enc h fun x hx => hd x (List.mem_cons_of_mem _ hx)
    rw [List.map_cons]
    unfold lcD
    rw [h1, Option.bind_some, h2, Option.bind_some, if_pos rfl, h3, Option.bind_some, ih, Option.bind_some, h4, List.map_cons]
theorem lcD_flt {α : Type} {vs : List Nat} {g : GF} {c : TF} {f : EF} {env : En} (enc h : α → PyData) (p : α → Bool) : ∀ {xs : List α}, (∀ a ∈ xs, ∃ e1, g (enc a) (wipeD env vs) = some e1 ∧ c e1 = some (p a) ∧ (p a = true → ∃ r, f e1 = some r ∧ r.frz = h a)) → lcD vs g c f env (xs.map enc) = some ((xs.filter p).map h)
  | [], _ => rfl
  | a :: xs, hd => by
    obtain ⟨e1, h1, h2, h3⟩ := hd a List.mem_cons_self
    have ih := lcD_flt (xs := xs) enc h p fun x hx => hd x (List.mem_cons_of_mem _ hx)
    rw [List.map_cons]
    unfold lcD
    rw [h1, Option.bind_some, h2, Option.bind_some]
    cases q : p a with
    | true =>
      obtain ⟨r, h4, h5⟩ := h3 q
      rw [if_pos rfl, h4, Option.bind_some, ih, Option.bind_some, h5, List.filter_cons_of_pos q, List.map_cons]
    | false =>
      rw [if_neg (by decide), ih, List.filter_cons_of_neg (by rw [q]; decide)]
/-- a loop over a typed list, each turn going on -/
theorem forD_run {α : Type} {g : GF} {body : SF} (enc : α → PyData) (P : List α → En → Prop) (all : List α)
    (turn : ∀ pre a post env, all = pre ++ a :: post → P pre env → ∃ e1 e2, g (enc a) env = some e1 ∧ body e1 = some (.nx e2) ∧ P (pre ++ [a]) e2) : ∀ {xs : List α} {pre : List α} {env : En}, all = pre ++ xs → P pre env →
    ∃ e, forD g body (xs.map enc) env = some (.nx e) ∧ P all e
  | [], pre, env, e, h => ⟨env, rfl, by rw [e, List.append_nil]; exact h⟩
  | a :: xs, pre, env, e, h => by
    obtain ⟨e1, e2, h1, h2, h3⟩ := turn pre a xs env e h
    obtain ⟨e', h4, h5⟩ := forD_run enc P all turn (xs := xs) (by rw [e, List.append_cons]) h3
    refine ⟨e', ?_, h5⟩
    rw [List.map_cons]
    unfold forD
    rw [h1]
    show turnO (body e1) _ = _
    rw [h2]
    exact h4
theorem forD_typ {α : Type} {g : GF} {body : SF} (enc : α → PyData) (P : List α → En → Prop) {all : List α} {env : En} (h : P [] env)
    (turn : ∀ pre a post env, all = pre ++ a :: post → P pre env → ∃ e1 e2, g (enc a) env = some e1 ∧ body e1 = some (.nx e2) ∧ P (pre ++ [a]) e2) :
    ∃ e, forD g body (all.map enc) env = some (.nx e) ∧ P all e := forD_run enc P all turn rfl h
/-- ints from 0 -/
theorem ints0 (n : Nat) : intsFrom 0 n = il (List.range n) := by
  refine List.ext_getElem? fun i => ?_
  rw [List.getElem?_map]
  by_cases h : i < n
  · rw [intsFrom_get n 0 i h, List.getElem?_range h, Int.zero_add]
    rfl
  · rw [List.getElem?_eq_none (by rw [intsFrom_len]; omega), List.getElem?_eq_none (by rw [List.length_range]; omega)]
    rfl
theorem intsLo (lo n : Nat) : intsFrom (lo : Int) n = il ((List.range n).map (lo + ·)) := by
  refine List.ext_getElem? fun i => ?_
  rw [List.getElem?_map, List.getElem?_map]
  by_cases h : i < n
  · rw [intsFrom_get n lo i h, List.getElem?_range h]
    show some (PyData.int ((lo : Int) + (i : Int))) = some (PyData.int ((lo + i : Nat) : Int))
    rw [Int.natCast_add]
  · rw [List.getElem?_eq_none (by rw [intsFrom_len]; omega), List.getElem?_eq_none (by rw [List.length_range]; omega)]
    rfl
/-! membership -/
theorem eqv_int (i j : Int) : PyData.eqv (.int i) (.int j) = (i == j) := by simp only [PyData.eqv]
theorem memD_il (x : Nat) (xs : List Nat) : memD (.int (x : Int)) (il xs) = decide (x ∈ xs) := by
  induction xs with
  | nil => rfl
  | cons y ys ih =>
    unfold memD at ih ⊢
    rw [show il (y :: ys) = nI y :: il ys from rfl, List.any_cons, ih, eqv_int]
    by_cases h : x = y
    · subst h; simp
    · have : ((y : Int) == (x : Int)) = false := beq_eq_false_iff_ne.mpr (by omega)
      rw [this]
      simp [h]
theorem lay_il (xs : List Nat) : PyData.canLayAll0 (il xs) = true ∧ PyData.depthAll (il xs) = 0 := by
  induction xs with
  | nil => exact ⟨rfl, rfl⟩
  | cons y ys ih =>
    constructor
    · show (PyData.canLay0 _ && _) = true
      rw [ih.1]
      rfl
    · show max (PyData.depth _) _ = 0
      rw [ih.2]
      rfl
theorem shp_il (xs : List Nat) : Shp (.list (il xs)) := by
  obtain ⟨h1, h2⟩ := lay_il xs
  show (PyData.canLay0 (.list (il xs)) && decide (PyData.depth (.list (il xs)) ≤ 64)) = true
  rw [show PyData.canLay0 (.list (il xs)) = true from h1, Bool.true_and]
  exact decide_eq_true (by show PyData.depthAll (il xs) + 1 ≤ 64; omega)
theorem gIn_il (x : Nat) (xs : List Nat) : gInG (.int (x : Int)) (.list (il xs)) = some (.val (.bool (decide (x ∈ xs)))) := by
  show (if _ then _ else _) = _
  rw [if_pos ⟨rfl, shp_il xs⟩, memD_il]
theorem boolsD_mapB {α : Type} (p : α → Bool) (xs : List α) : boolsD (xs.map fun a => PyData.bool (p a)) = some (xs.map p) := by
  rw [← boolsD_map (xs.map p), List.map_map]
  rfl
theorem gAll_map {α : Type} (p : α → Bool) (xs : List α) : gAll [.list (xs.map fun a => PyData.bool (p a))] = some (.val (.bool (xs.all p))) := by
  show (boolsD _).bind _ = _
  rw [boolsD_mapB, Option.bind_some, List.all_map]
  rfl
theorem gAny_map {α : Type} (p : α → Bool) (xs : List α) : gAny [.list (xs.map fun a => PyData.bool (p a))] = some (.val (.bool (xs.any p))) := by
  show (boolsD _).bind _ = _
  rw [boolsD_mapB, Option.bind_some, List.any_map]
  rfl
theorem seq_nx {f g : SF} {env e : En} (h : f env = some (.nx e)) : sSeq f g env = g e := by
  show bindO (f env) g = _
  rw [h]
  rfl
theorem seq_rt {f g : SF} {env : En} {r : R} (h : f env = some (.rt r)) : sSeq f g env = some (.rt r) := by
  show bindO (f env) g = _
  rw [h]
  rfl
theorem forD_nx {g : GF} {body : SF} {d : PyData} {ds : List PyData} {env e1 e2 : En} (h1 : g d env = some e1) (h2 : body e1 = some (.nx e2)) : forD g body (d :: ds) env = forD g body ds e2 := by
  show ((g d env).bind fun e1 => turnO (body e1) (forD g body ds)) = _
  rw [h1]
  show turnO (body e1) _ = _
  rw [h2]
  rfl
theorem forD_bk {g : GF} {body : SF} {d : PyData} {ds : List PyData} {env e1 e2 : En} (h1 : g d env = some e1) (h2 : body e1 = some (.bk e2)) : forD g body (d :: ds) env = some (.nx e2) := by
  show ((g d env).bind fun e1 => turnO (body e1) (forD g body ds)) = _
  rw [h1]
  show turnO (body e1) _ = _
  rw [h2]
  rfl
theorem forD_rt {g : GF} {body : SF} {d : PyData} {ds : List PyData} {env e1 : En} {r : R} (h1 : g d env = some e1) (h2 : body e1 = some (.rt r)) : forD g body (d :: ds) env = some (.rt r) := by
  show ((g d env).bind fun e1 => turnO (body e1) (forD g body ds)) = _
  rw [h1]
  show turnO (body e1) _ = _
  rw [h2]
  rfl
theorem mseq_nx {f g : SFm} {env e : En} (h : f env = some (.nx e)) : mSeq f g env = g e := by
  show bindM (f env) g = _
  rw [h]
  rfl
theorem mseq_rt {f g : SFm} {env : En} {r : R} {o : Option En} (h : f env = some (.rt r o)) : mSeq f g env = some (.rt r o) := by
  show bindM (f env) g = _
  rw [h]
  rfl
theorem fnS_eq {N n : Nat} {f : SFm} {st ds : List PyData} (h : ds.length + 1 = n) : fnS N n f st ds = resS (f (startS N n st ds)) := by
  unfold fnS
  rw [if_pos h]
theorem fnX_eq {N n : Nat} {f : SFm} {ds : List PyData} (h : ds.length = n) : fnX N n f ds = resX (f (startD N n ds)) := by
  unfold fnX
  rw [if_pos h]
@[simp] theorem stOf_own {ds : List PyData} {e : En} : stOf (.own ds :: e) = some ds := rfl
@[simp] theorem flatRes_val {d : PyData} : flatRes (.val d) = true := rfl
@[simp] theorem flatRes_own {d : List PyData} : flatRes (.own d) = true := rfl
/-- a comprehension over a typed list, with a state: J holds of what is made so far and of the names -/
theorem lcM_run {α : Type} {vs : List Nat} {g : GF} {c : TM} {f : EM} (enc : α → PyData) (J : List PyData → En → Prop) (all : List α)
    (turn : ∀ pre a post rs e, all = pre ++ a :: post → rs.length = pre.length → J rs e → ∃ e1 e2 e3 r, g (enc a) e = some e1 ∧ c e1 = some (.ok true e2) ∧ f e2 = some (.ok r e3) ∧ J (rs ++ [r.frz]) (wipeD e3 vs)) :
    ∀ {xs pre : List α} {rs : List PyData} {e : En}, all = pre ++ xs → rs.length = pre.length → J rs e → ∃ rs' e', lcM vs g c f (xs.map enc) e = some (rs', e') ∧ J (rs ++ rs') e' ∧ (rs ++ rs').length = all.length
  | [], pre, rs, e, h, hl, j => ⟨[], e, rfl, by rw [List.append_nil]; exact j, by rw [List.append_nil, hl, h, List.append_nil]⟩
  | a :: xs, pre, rs, e, h, hl, j => by
    obtain ⟨e1, e2, e3, r, h1, h2, h3, h4⟩ := turn pre a xs rs e h hl j
    obtain ⟨rs', e', h5, h6, h7⟩ := lcM_run enc J all turn (xs := xs) (pre := pre ++ [a]) (by rw [h, List.append_cons]) (by simp [hl]) h4
    refine ⟨r.frz :: rs', e', ?_, ?_, ?_⟩
    · rw [List.map_cons]
      unfold lcM
      rw [h1, Option.bind_some, h2]
      show (if true = true then _ else _) = _
      rw [if_pos rfl, h3]
      show (lcM vs g c f (xs.map enc) (wipeD e3 vs)).bind _ = _
      rw [h5]
      rfl
    · rw [List.append_cons]
      exact h6
    · rw [List.append_cons]
      exact h7
theorem lcM_typ {α : Type} {vs : List Nat} {g : GF} {c : TM} {f : EM} (enc : α → PyData) (J : List PyData → En → Prop) {all : List α} {e : En} (h : J [] e)
    (turn : ∀ pre a post rs e, all = pre ++ a :: post → rs.length = pre.length → J rs e → ∃ e1 e2 e3 r, g (enc a) e = some e1 ∧ c e1 = some (.ok true e2) ∧ f e2 = some (.ok r e3) ∧ J (rs ++ [r.frz]) (wipeD e3 vs)) :
    ∃ rs' e', lcM vs g c f (all.map enc) e = some (rs', e') ∧ J rs' e' ∧ rs'.length = all.length := by
  obtain ⟨rs', e', h1, h2, h3⟩ := lcM_run enc J all turn (xs := all) (pre := []) (rs := []) rfl rfl h
  exact ⟨rs', e', h1, h2, h3⟩
theorem mLc_eq {vs : List Nat} {it : IM} {g : GF} {c : TM} {f : EM} {env e0 e : En} {ds rs : List PyData} (h1 : it env = some (.ok ds e0)) (hl : Fits ds.length) (h2 : lcM vs g c f ds (wipeD e0 vs) = some (rs, e)) : mLc vs it g c f env = some (.ok (.own rs) (restD e0 vs e)) := by
  unfold mLc
  rw [h1, bM_ok, if_pos hl, h2]
  rfl
/-- a loop over a typed list -/
theorem forM_run {α : Type} {g : GF} {body : SFm} (enc : α → PyData) (P : List α → En → Prop) (all : List α)
    (turn : ∀ pre a post env, all = pre ++ a :: post → P pre env → ∃ e1 e2, g (enc a) env = some e1 ∧ body e1 = some (.nx e2) ∧ P (pre ++ [a]) e2) : ∀ {xs : List α} {pre : List α} {env : En}, all = pre ++ xs → P pre env →
    ∃ e, Dn.forM g body (xs.map enc) env = some (.nx e) ∧ P all e
  | [], pre, env, e, h => ⟨env, rfl, by rw [e, List.append_nil]; exact h⟩
  | a :: xs, pre, env, e, h => by
    obtain ⟨e1, e2, h1, h2, h3⟩ := turn pre a xs env e h
    obtain ⟨e', h4, h5⟩ := forM_run enc P all turn (xs := xs) (by rw [e, List.append_cons]) h3
    refine ⟨e', ?_, h5⟩
    rw [List.map_cons]
    show ((g (enc a) env).bind fun e1 => turnM (body e1) (Dn.forM g body (xs.map enc))) = _
    rw [h1]
    show turnM (body e1) _ = _
    rw [h2]
    exact h4
theorem forM_typ {α : Type} {g : GF} {body : SFm} (enc : α → PyData) (P : List α → En → Prop) {all : List α} {env : En} (h : P [] env)
    (turn : ∀ pre a post env, all = pre ++ a :: post → P pre env → ∃ e1 e2, g (enc a) env = some e1 ∧ body e1 = some (.nx e2) ∧ P (pre ++ [a]) e2) :
    ∃ e, Dn.forM g body (all.map enc) env = some (.nx e) ∧ P all e := forM_run enc P all turn rfl h
theorem gIn_t {x : Str} {ds : List PyData} {b : Bool} (h1 : SeqAt.shaped (.str x) = true := by decide +kernel) (h2 : SeqAt.shaped (.tuple ds) = true := by decide +kernel) (h3 : memD (.str x) ds = b := by decide +kernel) : gInG (.str x) (.tuple ds) = some (.val (.bool b)) := by
  show (if _ then _ else _) = _
  rw [if_pos ⟨h1, h2⟩, h3]
theorem gIn_l {x : Str} {ds : List PyData} {b : Bool} (h1 : SeqAt.shaped (.str x) = true := by decide +kernel) (h2 : SeqAt.shaped (.list ds) = true := by decide +kernel) (h3 : memD (.str x) ds = b := by decide +kernel) : gInG (.str x) (.list ds) = some (.val (.bool b)) := by
  show (if _ then _ else _) = _
  rw [if_pos ⟨h1, h2⟩, h3]
theorem gNotIn_l {x : Str} {ds : List PyData} {b : Bool} (h1 : SeqAt.shaped (.str x) = true := by decide +kernel) (h2 : SeqAt.shaped (.list ds) = true := by decide +kernel) (h3 : (!memD (.str x) ds) = b := by decide +kernel) : gNotInG (.str x) (.list ds) = some (.val (.bool b)) := by
  show (if _ then _ else _) = _
  rw [if_pos ⟨h1, h2⟩, h3]
abbrev sides : PyData := .tuple [.str "ours", .str "theirs"]
@[simp] theorem in_sides1 : gInG (.str "draw") sides = some (.val (.bool false)) := gIn_t
@[simp] theorem in_sides2 : gInG (.str "ours") sides = some (.val (.bool true)) := gIn_t
@[simp] theorem in_sides3 : gInG (.str "theirs") sides = some (.val (.bool true)) := gIn_t
@[simp] theorem in_sides4 : gInG (.str "reward") sides = some (.val (.bool false)) := gIn_t
@[simp] theorem in_sides5 : gInG (.str "finish") sides = some (.val (.bool false)) := gIn_t
@[simp] theorem in_sides6 : gInG (.str "lose") sides = some (.val (.bool false)) := gIn_t
theorem gNotIn_t {x : Str} {ds : List PyData} {b : Bool} (h1 : SeqAt.shaped (.str x) = true := by decide +kernel) (h2 : SeqAt.shaped (.tuple ds) = true := by decide +kernel) (h3 : (!memD (.str x) ds) = b := by decide +kernel) : gNotInG (.str x) (.tuple ds) = some (.val (.bool b)) := by
  show (if _ then _ else _) = _
  rw [if_pos ⟨h1, h2⟩, h3]
@[simp] theorem in_ends_draw : gInG (.str "draw") (.list [.str "finish", .str "lose"]) = some (.val (.bool false)) := gIn_l
@[simp] theorem in_endsT_draw : gInG (.str "draw") (.tuple [.str "finish", .str "lose"]) = some (.val (.bool false)) := gIn_t
@[simp] theorem notin_sides_draw : gNotInG (.str "draw") sides = some (.val (.bool true)) := gNotIn_t
@[simp] theorem in_ends_ours : gInG (.str "ours") (.list [.str "finish", .str "lose"]) = some (.val (.bool false)) := gIn_l
@[simp] theorem in_endsT_ours : gInG (.str "ours") (.tuple [.str "finish", .str "lose"]) = some (.val (.bool false)) := gIn_t
@[simp] theorem notin_sides_ours : gNotInG (.str "ours") sides = some (.val (.bool false)) := gNotIn_t
@[simp] theorem in_ends_theirs : gInG (.str "theirs") (.list [.str "finish", .str "lose"]) = some (.val (.bool false)) := gIn_l
@[simp] theorem in_endsT_theirs : gInG (.str "theirs") (.tuple [.str "finish", .str "lose"]) = some (.val (.bool false)) := gIn_t
@[simp] theorem notin_sides_theirs : gNotInG (.str "theirs") sides = some (.val (.bool false)) := gNotIn_t
@[simp] theorem in_ends_reward : gInG (.str "reward") (.list [.str "finish", .str "lose"]) = some (.val (.bool false)) := gIn_l
@[simp] theorem in_endsT_reward : gInG (.str "reward") (.tuple [.str "finish", .str "lose"]) = some (.val (.bool false)) := gIn_t
@[simp] theorem notin_sides_reward : gNotInG (.str "reward") sides = some (.val (.bool true)) := gNotIn_t
@[simp] theorem in_ends_finish : gInG (.str "finish") (.list [.str "finish", .str "lose"]) = some (.val (.bool true)) := gIn_l
@[simp] theorem in_endsT_finish : gInG (.str "finish") (.tuple [.str "finish", .str "lose"]) = some (.val (.bool true)) := gIn_t
@[simp] theorem notin_sides_finish : gNotInG (.str "finish") sides = some (.val (.bool true)) := gNotIn_t
@[simp] theorem in_ends_lose : gInG (.str "lose") (.list [.str "finish", .str "lose"]) = some (.val (.bool true)) := gIn_l
@[simp] theorem in_endsT_lose : gInG (.str "lose") (.tuple [.str "finish", .str "lose"]) = some (.val (.bool true)) := gIn_t
@[simp] theorem notin_sides_lose : gNotInG (.str "lose") sides = some (.val (.bool true)) := gNotIn_t
theorem lc_id {xs : List PyData} {env : En} {i : Nat} (hi : i < env.length) : lcD [i] (gtName i) tYesD (eVar i) env xs = some xs := by
  have h := lcD_typ (vs := [i]) (g := gtName i) (c := tYesD) (f := eVar i) (env := env) (fun d : PyData => d) (fun d => d) (xs := xs) fun a _ => ⟨(env.set i .no).set i (.val a), .val a, rfl, rfl, by
    have : (List.set env i (.val a))[i]? = some (.val a) := List.getElem?_set_self hi
    simp [this], rfl⟩
  simpa using h
theorem atI_il (xs : List Nat) (k : Nat) (h : k < xs.length) : atI (il xs) (k : Int) = some (.int ((xs.getD k 0 : Nat) : Int)) := by
  have := atI_map (f := nI) (List.getElem?_eq_getElem h)
  rw [this]
  simp [h]
end Dn
/-! Rq0: numbers as rationals -/
namespace Dn
open PySem PySem.Spec PyProof.Rows L2
abbrev qd (r : Rat) : PyData := .tuple [.int r.num, .int (r.den : Int)]
theorem qd_inj {a b : Rat} (h : qd a = qd b) : a = b := by
  injection h with h
  injection h with h1 h2
  injection h2 with h2 _
  injection h1 with h1
  injection h2 with h2
  exact Rat.ext h1 (by omega)
/-- fewer than k bits -/
structure Bt (k : Nat) (r : Rat) : Prop where
  n : r.num.natAbs < 2 ^ k
  d : r.den < 2 ^ k
theorem Bt.mono {k j : Nat} {r : Rat} (h : Bt k r) (hk : k ≤ j) : Bt j r :=
  ⟨Nat.lt_of_lt_of_le h.n (Nat.pow_le_pow_right (by decide) hk), Nat.lt_of_lt_of_le h.d (Nat.pow_le_pow_right (by decide) hk)⟩
theorem pow_mul_lt {a b k j : Nat} (ha : a < 2 ^ k) (hb : b < 2 ^ j) : a * b < 2 ^ (k + j) := by
  rw [Nat.pow_add]
  exact Nat.mul_lt_mul'' ha hb
theorem lt_div8 {n : Nat} {k : Nat} (h : n < 2 ^ k) (hk : k ≤ 8000) : n < divLim := Nat.lt_of_lt_of_le h (Nat.pow_le_pow_right (by decide) hk)
theorem lt_mulL {n : Nat} {k : Nat} (h : n < 2 ^ k) (hk : k ≤ 400000) : n < mulLim := Nat.lt_of_lt_of_le h (Nat.pow_le_pow_right (by decide) hk)
theorem mul_bt {i j : Int} {k : Nat} (h1 : i.natAbs < 2 ^ k) (h2 : j.natAbs < 2 ^ k) (hk : k ≤ 8000) : Dn.MulOk i j := .inr (.inr ⟨lt_mulL h1 (by omega), lt_mulL h2 (by omega)⟩)
theorem gcd_div_le (n d : Int) (h : d ≠ 0) : (Rat.divInt n d).num.natAbs ≤ n.natAbs ∧ (Rat.divInt n d).den ≤ d.natAbs := by
  rw [Rat.num_divInt, Rat.den_divInt, if_neg h]
  have hg : 0 < d.gcd n := Int.gcd_pos_of_ne_zero_left _ h
  refine ⟨?_, Nat.div_le_self _ _⟩
  refine Nat.le_trans (Int.natAbs_ediv_le_natAbs _ _) ?_
  rw [Int.natAbs_mul]
  have : d.sign.natAbs = 1 := by rw [Int.natAbs_sign]; rw [if_neg h]
  rw [this, Nat.one_mul]
  exact Nat.le_refl _
theorem Bt.of {n d : Int} {k : Nat} (h : d ≠ 0) (h1 : n.natAbs < 2 ^ k) (h2 : d.natAbs < 2 ^ k) : Bt k (Rat.divInt n d) :=
  ⟨Nat.lt_of_le_of_lt (gcd_div_le n d h).1 h1, Nat.lt_of_le_of_lt (gcd_div_le n d h).2 h2⟩
theorem add_divInt (a b : Rat) : a + b = Rat.divInt (a.num * b.den + b.num * a.den) ((a.den : Int) * b.den) := by
  rw [Rat.add_def', ← Rat.divInt_ofNat, Int.natCast_mul]
theorem sub_divInt (a b : Rat) : a - b = Rat.divInt (a.num * b.den - b.num * a.den) ((a.den : Int) * b.den) := by
  rw [Rat.sub_def', ← Rat.divInt_ofNat, Int.natCast_mul]
theorem mul_divInt (a b : Rat) : a * b = Rat.divInt (a.num * b.num) ((a.den : Int) * b.den) := by
  rw [Rat.mul_def', ← Rat.divInt_ofNat, Int.natCast_mul]
theorem div_divInt (a b : Rat) : a / b = Rat.divInt (a.num * b.den) ((a.den : Int) * b.num) := by
  rw [Rat.div_def, Rat.inv_def]
  have := Rat.divInt_mul_divInt a.num b.den (d₁ := a.den) (d₂ := b.num)
  rw [Rat.num_divInt_den] at this
  exact this
theorem den_ne (a : Rat) : (a.den : Int) ≠ 0 := by have := a.den_nz; omega
theorem Bt.add {a b : Rat} {k j : Nat} (ha : Bt k a) (hb : Bt j b) : Bt (k + j + 1) (a + b) := by
  rw [add_divInt]
  have m1 := pow_mul_lt ha.n hb.d
  have m2 := pow_mul_lt hb.n ha.d
  have m3 := pow_mul_lt ha.d hb.d
  have e : 2 ^ (k + j + 1) = 2 ^ (k + j) + 2 ^ (k + j) := by rw [Nat.pow_succ]; omega
  rw [Nat.add_comm j k] at m2
  refine Bt.of (Int.mul_ne_zero (den_ne _) (den_ne _)) ?_ ?_
  · have := Int.natAbs_add_le (a.num * b.den) (b.num * a.den)
    rw [Int.natAbs_mul, Int.natAbs_mul, Int.natAbs_natCast, Int.natAbs_natCast] at this
    omega
  · rw [Int.natAbs_mul, Int.natAbs_natCast, Int.natAbs_natCast]
    omega
theorem Bt.neg {a : Rat} {k : Nat} (ha : Bt k a) : Bt k (-a) := ⟨by rw [Rat.neg_num, Int.natAbs_neg]; exact ha.n, by rw [Rat.neg_den]; exact ha.d⟩
theorem Bt.sub {a b : Rat} {k j : Nat} (ha : Bt k a) (hb : Bt j b) : Bt (k + j + 1) (a - b) := by
  rw [Rat.sub_eq_add_neg]
  exact ha.add hb.neg
theorem Bt.mul {a b : Rat} {k j : Nat} (ha : Bt k a) (hb : Bt j b) : Bt (k + j) (a * b) := by
  rw [mul_divInt]
  refine Bt.of (Int.mul_ne_zero (den_ne _) (den_ne _)) ?_ ?_
  · rw [Int.natAbs_mul]
    exact pow_mul_lt ha.n hb.n
  · rw [Int.natAbs_mul, Int.natAbs_natCast, Int.natAbs_natCast]
    exact pow_mul_lt ha.d hb.d
theorem Bt.div {a b : Rat} {k j : Nat} (ha : Bt k a) (hb : Bt j b) (h0 : b ≠ 0) : Bt (k + j) (a / b) := by
  rw [div_divInt]
  have hn : b.num ≠ 0 := fun z => h0 (Rat.num_eq_zero.mp z)
  refine Bt.of (Int.mul_ne_zero (den_ne _) hn) ?_ ?_
  · rw [Int.natAbs_mul, Int.natAbs_natCast]
    exact pow_mul_lt ha.n hb.d
  · rw [Int.natAbs_mul, Int.natAbs_natCast]
    exact pow_mul_lt ha.d hb.n
theorem Bt.int {n : Int} {k : Nat} (h : n.natAbs < 2 ^ k) (hk : 1 ≤ k) : Bt k (n : Rat) := ⟨by simpa using h, by
  have : 2 ^ 1 ≤ 2 ^ k := Nat.pow_le_pow_right (by decide) hk
  simp
  omega⟩
theorem Bt.zero {k : Nat} (hk : 1 ≤ k) : Bt k 0 := Bt.int (n := 0) (by simp; exact Nat.pow_pos (by decide)) hk
theorem Bt.one {k : Nat} (hk : 1 ≤ k) : Bt k 1 := Bt.int (n := 1) (by
  have : 2 ^ 1 ≤ 2 ^ k := Nat.pow_le_pow_right (by decide) hk
  simp
  omega) hk
@[simp] theorem qd_zero : qd 0 = .tuple [.int 0, .int 1] := rfl
@[simp] theorem qd_one : qd 1 = .tuple [.int 1, .int 1] := rfl
/-- reduced by its greatest common divisor, the divisor's sign turned -/
theorem red_num {n d : Int} (h : 0 < d) : n.fdiv (Nat.gcd n.natAbs d.natAbs : Nat) = (Rat.divInt n d).num ∧ d.fdiv (Nat.gcd n.natAbs d.natAbs : Nat) = ((Rat.divInt n d).den : Int) := by
  have hg : 0 < Nat.gcd n.natAbs d.natAbs := Nat.gcd_pos_of_pos_right _ (by omega)
  have hs : d.sign = 1 := Int.sign_eq_one_of_pos h
  have e : d.gcd n = Nat.gcd n.natAbs d.natAbs := by unfold Int.gcd; rw [Nat.gcd_comm]
  rw [Rat.num_divInt, Rat.den_divInt, if_neg (by omega), hs, Int.one_mul, e]
  refine ⟨fdiv_pos (by omega), ?_⟩
  rw [fdiv_pos (by omega), Int.natCast_ediv]
  congr 1
  omega
theorem red_neg {n d : Int} (h : d < 0) : n.fdiv (-(Nat.gcd n.natAbs d.natAbs : Nat)) = (Rat.divInt n d).num ∧ d.fdiv (-(Nat.gcd n.natAbs d.natAbs : Nat)) = ((Rat.divInt n d).den : Int) := by
  have r := red_num (n := -n) (d := -d) (by omega)
  rw [Rat.neg_divInt_neg, Int.natAbs_neg, Int.natAbs_neg] at r
  rw [← r.1, ← r.2]
  constructor
  · rw [← Int.neg_fdiv_neg, Int.neg_neg]
  · rw [← Int.neg_fdiv_neg, Int.neg_neg]
/-! repr, == of numbers -/
theorem lay_qd (r : Rat) : PyData.canLay0 (qd r) = true ∧ PyData.depth (qd r) = 1 := ⟨rfl, rfl⟩
theorem shp_qd (r : Rat) : Shp (qd r) := rfl
theorem eqv_qd (a b : Rat) : PyData.eqv (qd a) (qd b) = decide (a = b) := by
  show (PyData.eqv (.int a.num) (.int b.num) && (PyData.eqv (.int (a.den : Int)) (.int (b.den : Int)) && true)) = _
  rw [eqv_int, eqv_int, Bool.and_true]
  by_cases h : a = b
  · subst h; simp
  · rw [decide_eq_false h]
    by_cases h1 : a.num = b.num
    · have h2 : (a.den : Int) ≠ b.den := fun z => h (Rat.ext h1 (by omega))
      rw [beq_eq_false_iff_ne.mpr h2, Bool.and_false]
    · rw [beq_eq_false_iff_ne.mpr h1, Bool.false_and]
theorem gEqT_qd (a b : Rat) : gEqT (qd a) (qd b) = some (.val (.bool (decide (a = b)))) := by
  show gEq (qd a) (qd b) = _
  unfold gEq
  rw [if_pos ⟨shp_qd a, shp_qd b⟩, eqv_qd]
theorem gNeT_qd (a b : Rat) : gNeT (qd a) (qd b) = some (.val (.bool (!decide (a = b)))) := by
  show gNe (qd a) (qd b) = _
  unfold gNe
  rw [if_pos ⟨shp_qd a, shp_qd b⟩, eqv_qd]
end Dn
/-! Rg0: games with rational chances, as a type of their own -/
namespace Dn
open PySem PySem.Spec PyProof.Rows L2
inductive Pl where
  | draw (bs : List (Rat × Nat))
  | ours (xs : List Nat)
  | theirs (xs : List Nat)
  | rew (c : Rat) (x : Nat)
  | fin
  | lose
abbrev brD (b : Rat × Nat) : PyData := .tuple [qd b.1, .int (b.2 : Int)]
def Pl.d : Pl → PyData
  | draw bs => .tuple [.str "draw", .list (bs.map brD)]
  | ours xs => .tuple [.str "ours", .list (il xs)]
  | theirs xs => .tuple [.str "theirs", .list (il xs)]
  | rew c x => .tuple [.str "reward", qd c, .int (x : Int)]
  | fin => .tuple [.str "finish"]
  | lose => .tuple [.str "lose"]
def Pl.k : Pl → Str
  | draw _ => "draw"
  | ours _ => "ours"
  | theirs _ => "theirs"
  | rew _ _ => "reward"
  | fin => "finish"
  | lose => "lose"
def Pl.tg : Pl → List Nat
  | draw bs => bs.map (·.2)
  | ours xs => xs
  | theirs xs => xs
  | rew _ x => [x]
  | fin => []
  | lose => []
abbrev gd (g : List Pl) : PyData := .list (g.map Pl.d)
/-- sums of rationals, from the left -/
def sumR (xs : List Rat) : Rat := xs.foldl (· + ·) 0
theorem foldl_add (xs : List Rat) (a : Rat) : xs.foldl (· + ·) a = a + xs.foldl (· + ·) 0 := by
  induction xs generalizing a with
  | nil => exact (Rat.add_zero a).symm
  | cons x xs ih =>
    rw [List.foldl_cons, List.foldl_cons, ih (a + x), ih (0 + x), Rat.zero_add, Rat.add_assoc]
@[simp] theorem sumR_nil : sumR [] = 0 := rfl
@[simp] theorem sumR_cons (x : Rat) (xs : List Rat) : sumR (x :: xs) = x + sumR xs := by
  unfold sumR
  rw [List.foldl_cons, foldl_add, Rat.zero_add]
theorem sumR_app (xs ys : List Rat) : sumR (xs ++ ys) = sumR xs + sumR ys := by
  induction xs with
  | nil => rw [List.nil_append, sumR_nil, Rat.zero_add]
  | cons x xs ih => rw [List.cons_append, sumR_cons, sumR_cons, ih, Rat.add_assoc]
theorem sumR_nonneg {xs : List Rat} (h : ∀ x ∈ xs, 0 ≤ x) : 0 ≤ sumR xs := by
  induction xs with
  | nil => exact Rat.le_refl
  | cons x xs ih =>
    rw [sumR_cons]
    exact Rat.add_nonneg (h x List.mem_cons_self) (ih fun y hy => h y (List.mem_cons_of_mem _ hy))
/-- a common denominator -/
def DenDvd (m : Nat) (r : Rat) : Prop := r.den ∣ m
theorem den_add_dvd {m : Nat} {a b : Rat} (ha : a.den ∣ m) (hb : b.den ∣ m) (hm : 0 < m) : (a + b).den ∣ m := by
  obtain ⟨x, hx⟩ := ha
  obtain ⟨y, hy⟩ := hb
  have e : a + b = mkRat (a.num * x + b.num * y) m := by
    have hx0 : x ≠ 0 := fun z => by rw [z, Nat.mul_zero] at hx; omega
    have hy0 : y ≠ 0 := fun z => by rw [z, Nat.mul_zero] at hy; omega
    have ea : a = mkRat (a.num * x) m := by
      rw [hx, Rat.mkRat_mul_right hx0, Rat.mkRat_self]
    have eb : b = mkRat (b.num * y) m := by
      rw [hy, Rat.mkRat_mul_right hy0, Rat.mkRat_self]
    have h := Rat.mkRat_add_mkRat (a.num * x) (b.num * y) (d₁ := m) (d₂ := m) (by omega) (by omega)
    rw [← ea, ← eb] at h
    rw [h, ← Int.add_mul, Rat.mkRat_mul_right (by omega)]
  rw [e, Rat.den_mkRat, if_neg (by omega)]
  exact Nat.div_dvd_of_dvd (Nat.gcd_dvd_left _ _)
theorem den_mul_dvd {m n : Nat} {a b : Rat} (ha : a.den ∣ m) (hb : b.den ∣ n) : (a * b).den ∣ m * n := by
  rw [Rat.den_mul]
  exact Nat.dvd_trans (Nat.div_dvd_of_dvd (Nat.gcd_dvd_right _ _)) (Nat.mul_dvd_mul ha hb)
theorem den_divInt_dvd (n : Int) (m : Nat) (h : m ≠ 0) : (Rat.divInt n m).den ∣ m := by
  rw [Rat.den_divInt, if_neg (by omega), Int.natAbs_natCast]
  exact Nat.div_dvd_of_dvd (Int.gcd_dvd_natAbs_left _ _)
/-- what the laws' drawn places keep: n places; chances whose denominator is at most 18 -/
def Chance (c : Rat) : Prop := 0 < c ∧ c ≤ 1 ∧ c.den ≤ 18
structure Amount (c : Rat) : Prop where
  n : 0 ≤ c
  b : Bt 6 c
def WfP (n : Nat) : Pl → Prop
  | .draw bs => 1 ≤ bs.length ∧ bs.length ≤ 6 ∧ (∀ b ∈ bs, Chance b.1 ∧ b.2 < n) ∧ sumR (bs.map (·.1)) = 1
  | .ours xs => 1 ≤ xs.length ∧ xs.length ≤ 6 ∧ ∀ x ∈ xs, x < n
  | .theirs xs => 1 ≤ xs.length ∧ xs.length ≤ 6 ∧ ∀ x ∈ xs, x < n
  | .rew c x => Amount c ∧ x < n
  | .fin => True
  | .lose => True
def WfG (g : List Pl) : Prop := ∀ p ∈ g, WfP g.length p
theorem Chance.bt {c : Rat} (h : Chance c) : Bt 5 c := by
  obtain ⟨h1, h2, h3⟩ := h
  have hn : c.num ≤ c.den := by
    have := (Rat.le_iff c 1).mp h2
    simp at this
    exact this
  have hp : 0 ≤ c.num := Rat.num_nonneg.mpr (Rat.le_of_lt h1)
  exact ⟨by omega, by omega⟩
theorem WfP.tg {n : Nat} {p : Pl} (h : WfP n p) : ∀ x ∈ p.tg, x < n := by
  cases p with
  | draw bs =>
    intro x hx
    obtain ⟨b, hb, rfl⟩ := List.mem_map.mp hx
    exact (h.2.2.1 b hb).2
  | ours xs => exact h.2.2
  | theirs xs => exact h.2.2
  | rew c x =>
    intro y hy
    cases List.mem_singleton.mp hy
    exact h.2
  | fin => intro x hx; cases hx
  | lose => intro x hx; cases hx
/-- parts of a whole -/
theorem shares_sum (ps : List Nat) (h : 0 < ps.sum) : sumR (ps.map fun p : Nat => Rat.divInt (p : Int) (ps.sum : Int)) = 1 := by
  have key : ∀ (S : Nat), S ≠ 0 → ∀ qs : List Nat, sumR (qs.map fun p : Nat => Rat.divInt (p : Int) (S : Int)) = Rat.divInt (qs.sum : Int) (S : Int) := fun S hS qs => by
    induction qs with
    | nil => exact (Rat.zero_divInt _).symm
    | cons q qs ih =>
      rw [List.map_cons, sumR_cons, ih, Rat.divInt_add_divInt _ _ (by omega) (by omega), List.sum_cons, ← Int.add_mul, Rat.divInt_mul_right (by omega), Int.natCast_add]
  rw [key ps.sum (by omega) ps]
  exact Rat.divInt_self' (by omega)
theorem share_chance (p S : Nat) (h1 : 1 ≤ p) (h2 : p ≤ S) (h3 : S ≤ 18) : Chance (Rat.divInt (p : Int) (S : Int)) := by
  have hS : (S : Int) ≠ 0 := by omega
  refine ⟨?_, ?_, ?_⟩
  · have h0 : 0 ≤ Rat.divInt (p : Int) (S : Int) := Rat.divInt_nonneg (by omega) (by omega)
    refine Rat.lt_of_le_of_ne h0 fun z => ?_
    rw [← Rat.zero_divInt 1, Rat.divInt_eq_divInt_iff (by omega) hS] at z
    omega
  · have e := Rat.divInt_eq_divInt_iff (n₁ := (Rat.divInt (p : Int) S).num) (d₁ := ((Rat.divInt (p : Int) S).den : Int)) (n₂ := (p : Int)) (d₂ := S) (den_ne _) hS
    rw [Rat.num_divInt_den] at e
    have e := e.mp rfl
    have hd : 0 < ((Rat.divInt (p : Int) S).den : Int) := by have := (Rat.divInt (p : Int) S).den_pos; omega
    generalize Rat.divInt (p : Int) S = r at *
    rw [Rat.le_iff]
    have hpS : (p : Int) * r.den ≤ S * r.den := Int.mul_le_mul_of_nonneg_right (by omega) (by omega)
    rw [← e, Int.mul_comm (S : Int)] at hpS
    have := Int.le_of_mul_le_mul_right hpS (by omega)
    simp
    exact this
  · exact Nat.le_trans (gcd_div_le _ _ hS).2 (by omega)
end Dn
/-! Rw: sizes of data: what repr and == want -/
namespace Dn
open PySem PySem.Spec PyProof.Rows L2
def Wd (k w : Nat) (d : PyData) : Prop := d.canLay0 = true ∧ d.depth ≤ k ∧ d.weight ≤ w ∧ d.intsShort 13 = true ∧ d.showable = true
theorem Wd.mono {k w k' w' : Nat} {d : PyData} (h : Wd k w d) (hk : k ≤ k') (hw : w ≤ w') : Wd k' w' d := ⟨h.1, Nat.le_trans h.2.1 hk, Nat.le_trans h.2.2.1 hw, h.2.2.2⟩
theorem wd_int {i : Int} (h : i.natAbs < 10 ^ 12) : Wd 0 40 (.int i) := by
  have hl : i.natAbs.log2 < 40 := by
    by_cases h0 : i.natAbs = 0
    · rw [h0]; decide
    · exact (Nat.log2_lt h0).mpr (Nat.lt_of_lt_of_le h (by decide))
  refine ⟨rfl, Nat.le_refl _, ?_, ?_, ?_⟩
  · show (if (i == 0) = true then 0 else i.natAbs.log2 + 1) ≤ 40
    split
    · omega
    · omega
  · show decide ((PyData.shown (.int i)).length ≤ 13) = true
    refine decide_eq_true ?_
    have e : (PyData.shown (.int i)).length = (toString i : String).length := by
      simp only [PyData.shown]
      exact PySem.ofString_length _
    rw [e]
    exact int_text_length_le10 (by decide) h
  · show decide (i.natAbs.log2 < 1920) = true
    exact decide_eq_true (by omega)
theorem wd_none : Wd 0 0 .none := ⟨rfl, Nat.le_refl _, Nat.le_refl _, rfl, rfl⟩
theorem wd_bool (b : Bool) : Wd 0 0 (.bool b) := ⟨rfl, Nat.le_refl _, Nat.le_refl _, rfl, rfl⟩
theorem wd_str {x : Str} {n : Nat} (h1 : PyData.strOk x = true := by decide +kernel) (h2 : x.cps.size ≤ n := by decide +kernel) : Wd 0 n (.str x) := ⟨h1, Nat.le_refl _, h2, rfl, rfl⟩
theorem wds {k w : Nat} : ∀ {ds : List PyData}, (∀ d ∈ ds, Wd k w d) → PyData.canLayAll0 ds = true ∧ PyData.depthAll ds ≤ k ∧ PyData.weightAll ds ≤ ds.length * (w + 1) ∧ PyData.intsShortAll 13 ds = true ∧ PyData.showableAll ds = true
  | [], _ => ⟨rfl, Nat.zero_le _, by simp [PyData.weightAll], rfl, rfl⟩
  | d :: ds, h => by
    obtain ⟨a1, a2, a3, a4, a5⟩ := h d List.mem_cons_self
    obtain ⟨b1, b2, b3, b4, b5⟩ := wds fun x hx => h x (List.mem_cons_of_mem _ hx)
    refine ⟨?_, ?_, ?_, ?_, ?_⟩
    · show (PyData.canLay0 d && _) = true
      rw [a1, b1]; rfl
    · show max d.depth _ ≤ k
      exact Nat.max_le.mpr ⟨a2, b2⟩
    · show d.weight + 1 + PyData.weightAll ds ≤ (ds.length + 1) * (w + 1)
      rw [Nat.succ_mul]
      omega
    · show (PyData.intsShort 13 d && _) = true
      rw [a4, b4]; rfl
    · show (PyData.showable d && _) = true
      rw [a5, b5]; rfl
theorem wd_list {k w : Nat} {ds : List PyData} (h : ∀ d ∈ ds, Wd k w d) : Wd (k + 1) (ds.length * (w + 1)) (.list ds) := by
  obtain ⟨b1, b2, b3, b4, b5⟩ := wds h
  exact ⟨b1, Nat.succ_le_succ b2, b3, b4, b5⟩
theorem wd_tuple {k w : Nat} {ds : List PyData} (h : ∀ d ∈ ds, Wd k w d) : Wd (k + 1) (ds.length * (w + 1)) (.tuple ds) := by
  obtain ⟨b1, b2, b3, b4, b5⟩ := wds h
  exact ⟨b1, Nat.succ_le_succ b2, b3, b4, b5⟩
theorem Wd.shp {k w : Nat} {d : PyData} (h : Wd k w d) (hk : k ≤ 64) : Shp d := by
  show (d.canLay0 && decide (d.depth ≤ 64)) = true
  rw [h.1, Bool.true_and]
  exact decide_eq_true (Nat.le_trans h.2.1 hk)
theorem Wd.shw {k w : Nat} {d : PyData} (h : Wd k w d) (hk : k ≤ 64) (hw : w ≤ 2 ^ 20) : Shw d := by
  refine ⟨h.2.2.2.2, h.shp hk, ?_⟩
  have hl : PyData.layable0 d = true := by
    show (d.canLay0 && decide (d.depth ≤ 64) && decide (d.weight ≤ 2 ^ 20)) = true
    rw [h.1, Bool.true_and, decide_eq_true (Nat.le_trans h.2.1 hk), decide_eq_true (Nat.le_trans h.2.2.1 hw)]
    rfl
  exact Nat.le_trans (shown_le13 hl h.2.2.2.1) (by rw [sizeLine_eq]; decide)
theorem wd_nat {n : Nat} (h : n < 10 ^ 12) : Wd 0 40 (nI n) := wd_int (by omega)
theorem wd_il {xs : List Nat} (h : ∀ x ∈ xs, x < 10 ^ 12) : Wd 1 (xs.length * 41) (.list (il xs)) := by
  have := wd_list (k := 0) (w := 40) (ds := il xs) fun d hd => by
    obtain ⟨x, hx, rfl⟩ := List.mem_map.mp hd
    exact wd_nat (h x hx)
  rwa [il, List.length_map] at this
theorem wd_od {o : Option Nat} (h : ∀ n, o = some n → n < 10 ^ 12) : Wd 0 40 (od o) := by
  cases o with
  | none => exact wd_none.mono (by decide) (by decide)
  | some n => exact wd_nat (h n rfl)
def Pl.cs : Pl → List PyData
  | .draw bs => bs.map fun b => qd b.1
  | .rew c _ => [qd c]
  | _ => []
theorem wd_qd {k : Nat} {c : Rat} (h : Bt k c) (hk : k ≤ 39) : Wd 1 90 (qd c) := by
  have hp : 2 ^ k ≤ 2 ^ 39 := Nat.pow_le_pow_right (by decide) hk
  have h1 := h.n
  have h2 := h.d
  exact (wd_tuple (k := 0) (w := 40) (ds := [.int c.num, .int (c.den : Int)]) fun d hd => by
    simp at hd
    rcases hd with rfl | rfl
    · exact wd_int (by omega)
    · exact wd_int (by omega)).mono (by decide) (by simp)
/-- a place's data is small -/
def SmP (p : Pl) : Prop := p.tg.length ≤ 6 ∧ (∀ x ∈ p.tg, x < 1000) ∧ ∀ c ∈ p.cs, Wd 1 90 c
theorem wd_place {p : Pl} (h : SmP p) : Wd 4 2500 p.d := by
  obtain ⟨h1, h2, h3⟩ := h
  have two : ∀ {s : Str} {e : PyData}, Wd 0 20 (.str s) → Wd 3 1200 e → Wd 4 2500 (.tuple [.str s, e]) := fun {s e} a b =>
    (wd_tuple (k := 3) (w := 1200) (ds := [.str s, e]) fun d hd => by
      simp at hd
      rcases hd with rfl | rfl
      · exact a.mono (by decide) (by decide)
      · exact b).mono (by decide) (by simp)
  cases p with
  | draw bs =>
    refine two wd_str ((wd_list (k := 2) (w := 182) fun d hd => ?_).mono (by decide) ?_)
    · obtain ⟨b, hb, rfl⟩ := List.mem_map.mp hd
      have hx : b.2 < 1000 := h2 b.2 (List.mem_map.mpr ⟨b, hb, rfl⟩)
      have := wd_tuple (k := 1) (w := 90) (ds := [qd b.1, nI b.2]) fun d hd => by
        simp at hd
        rcases hd with rfl | rfl
        · exact h3 (qd b.1) (List.mem_map.mpr ⟨b, hb, rfl⟩)
        · exact (wd_nat (by omega)).mono (by decide) (by decide)
      exact this
    · rw [List.length_map]
      have : bs.length ≤ 6 := by simpa [Pl.tg] using h1
      omega
  | ours xs =>
    have h1 : xs.length ≤ 6 := h1
    exact two wd_str ((wd_il fun x hx => by have := h2 x hx; omega).mono (by decide) (by omega))
  | theirs xs =>
    have h1 : xs.length ≤ 6 := h1
    exact two wd_str ((wd_il fun x hx => by have := h2 x hx; omega).mono (by decide) (by omega))
  | rew c x =>
    have hx : x < 1000 := h2 x (by simp [Pl.tg])
    exact (wd_tuple (k := 1) (w := 90) (ds := [.str "reward", qd c, nI x]) fun d hd => by
      simp at hd
      rcases hd with rfl | rfl | rfl
      · exact (wd_str (n := 6)).mono (by decide) (by decide)
      · exact h3 _ (by simp [Pl.cs])
      · exact (wd_nat (by omega)).mono (by decide) (by decide)).mono (by decide) (by simp)
  | fin => exact (wd_tuple (k := 0) (w := 6) (ds := [.str "finish"]) fun d hd => by
      simp at hd
      subst hd
      exact wd_str).mono (by decide) (by simp)
  | lose => exact (wd_tuple (k := 0) (w := 6) (ds := [.str "lose"]) fun d hd => by
      simp at hd
      subst hd
      exact wd_str).mono (by decide) (by simp)
theorem wd_game {g : List Pl} (h : ∀ p ∈ g, SmP p) : Wd 5 (g.length * 2501) (gd g) := by
  have := wd_list (k := 4) (w := 2500) (ds := g.map Pl.d) fun d hd => by
    obtain ⟨p, hp, rfl⟩ := List.mem_map.mp hd
    exact wd_place (h p hp)
  rwa [List.length_map] at this
theorem WfP.sm {n : Nat} {p : Pl} (h : WfP n p) (hn : n ≤ 1000) : SmP p := by
  refine ⟨?_, fun x hx => Nat.lt_of_lt_of_le (h.tg x hx) hn, ?_⟩
  · cases p with
    | draw bs => simpa [Pl.tg] using h.2.1
    | ours xs => exact h.2.1
    | theirs xs => exact h.2.1
    | rew c x => simp [Pl.tg]
    | fin => simp [Pl.tg]
    | lose => simp [Pl.tg]
  · intro c hc
    cases p with
    | draw bs =>
      obtain ⟨b, hb, rfl⟩ := List.mem_map.mp hc
      exact wd_qd (h.2.2.1 b hb).1.bt (by decide)
    | ours xs => cases hc
    | theirs xs => cases hc
    | rew c x =>
      cases List.mem_singleton.mp hc
      exact wd_qd h.1.b (by decide)
    | fin => cases hc
    | lose => cases hc
theorem WfG.wd {g : List Pl} (h : WfG g) (hn : g.length ≤ 1000) : Wd 5 (g.length * 2501) (gd g) := wd_game fun p hp => (h p hp).sm hn
theorem wd_nums {k : Nat} {rs : List Rat} (h : ∀ r ∈ rs, Bt k r) (hk : k ≤ 39) : Wd 2 (rs.length * 91) (.list (rs.map qd)) := by
  have := wd_list (k := 1) (w := 90) (ds := rs.map qd) fun d hd => by
    obtain ⟨r, hr, rfl⟩ := List.mem_map.mp hd
    exact wd_qd (h r hr) hk
  rwa [List.length_map] at this
/-- repr of a game and something else -/
theorem shw_pair {a b : PyData} {w v : Nat} (ha : Wd 10 w a) (hb : Wd 10 v b) (hw : w ≤ 200000) (hv : v ≤ 200000) : Shw (.tuple [a, b]) := by
  refine ((wd_tuple (k := 10) (w := 200000) (ds := [a, b]) fun d hd => ?_).shw (by decide) (by simp))
  simp at hd
  rcases hd with rfl | rfl
  · exact ha.mono (by decide) hw
  · exact hb.mono (by decide) hv
theorem gRepr_tup {ds : List PyData} (h : Shw (.tuple ds)) : gRepr [.tuple ds] = some (.val (.str (PyData.shown (.tuple ds)))) := by
  exact if_pos h
theorem gRepr_lst {ds : List PyData} (h : Shw (.list ds)) : gRepr [.list ds] = some (.val (.str (PyData.shown (.list ds)))) := by
  exact if_pos h
end Dn
/-! Rz: loops and comprehensions, the turn as one equation -/
namespace Dn
open PySem PySem.Spec PyProof.Rows L2
@[simp] theorem in_sidesL_draw : gInG (.str "draw") (.list [.str "ours", .str "theirs"]) = some (.val (.bool false)) := gIn_l
@[simp] theorem in_sidesL_ours : gInG (.str "ours") (.list [.str "ours", .str "theirs"]) = some (.val (.bool true)) := gIn_l
@[simp] theorem in_sidesL_theirs : gInG (.str "theirs") (.list [.str "ours", .str "theirs"]) = some (.val (.bool true)) := gIn_l
@[simp] theorem in_sidesL_reward : gInG (.str "reward") (.list [.str "ours", .str "theirs"]) = some (.val (.bool false)) := gIn_l
@[simp] theorem in_sidesL_finish : gInG (.str "finish") (.list [.str "ours", .str "theirs"]) = some (.val (.bool false)) := gIn_l
@[simp] theorem in_sidesL_lose : gInG (.str "lose") (.list [.str "ours", .str "theirs"]) = some (.val (.bool false)) := gIn_l
theorem gIx_list {ds : List PyData} {k : Int} : gIx (.list ds) (.int k) = (atI ds k).bind fun d => some (.val d) := rfl
theorem gIx_tup {ds : List PyData} {k : Int} : gIx (.tuple ds) (.int k) = (atI ds k).bind fun d => some (.val d) := rfl
/-- a turn that goes on -/
def nxt : Option Out → Option En
  | some (.nx e) => some e
  | some (.ct e) => some e
  | _ => none
@[simp] theorem nxt_nx {e : En} : nxt (some (.nx e)) = some e := rfl
@[simp] theorem nxt_ct {e : En} : nxt (some (.ct e)) = some e := rfl
theorem nxt_some {o : Option Out} {e : En} (h : nxt o = some e) : o = some (.nx e) ∨ o = some (.ct e) := by
  cases o with
  | none => cases h
  | some x =>
    cases x with
    | nx e' => cases h; exact .inl rfl
    | ct e' => cases h; exact .inr rfl
    | rt r => cases h
    | bk e' => cases h
theorem turnO_nxt {o : Option Out} {e : En} {k : SF} (h : nxt o = some e) : turnO o k = k e := by
  rcases nxt_some h with rfl | rfl <;> rfl
/-- one element of a comprehension -/
def elD (vs : List Nat) (g : GF) (c : TF) (f : EF) (env : En) (d : PyData) : Option (Option PyData) := (g d (wipeD env vs)).bind fun e1 => (c e1).bind fun b => if b = true then (f e1).bind fun r => some (some r.frz) else some none
theorem lcD_el {α : Type} {vs : List Nat} {g : GF} {c : TF} {f : EF} {env : En} (enc h : α → PyData) (p : α → Bool) : ∀ {xs : List α}, (∀ a ∈ xs, elD vs g c f env (enc a) = some (if p a = true then some (h a) else none)) → lcD vs g c f env (xs.map enc) = some ((xs.filter p).map h)
  | [], _ => rfl
  | a :: xs, hd => by
    have ih := lcD_el (xs := xs) enc h p fun x hx => hd x (List.mem_cons_of_mem _ hx)
    have ha := hd a List.mem_cons_self
    unfold elD at ha
    obtain ⟨e1, h1, ha⟩ := bnd ha
    obtain ⟨b, h2, ha⟩ := bnd ha
    rw [List.map_cons]
    unfold lcD
    rw [h1, Option.bind_some, h2, Option.bind_some]
    by_cases hp : p a = true
    · rw [if_pos hp] at ha
      by_cases hb : b = true
      · rw [if_pos hb] at ha ⊢
        obtain ⟨r, h3, ha⟩ := bnd ha
        have ha := Option.some.inj (Option.some.inj ha)
        rw [h3, Option.bind_some, ih, Option.bind_some, List.filter_cons_of_pos hp, List.map_cons, ha]
      · rw [if_neg hb] at ha
        cases ha
    · rw [if_neg hp] at ha
      by_cases hb : b = true
      · rw [if_pos hb] at ha
        obtain ⟨r, h3, ha⟩ := bnd ha
        cases ha
      · rw [if_neg hb, ih, List.filter_cons_of_neg hp]
theorem eLc_flt {α : Type} {vs : List Nat} {it : IF} {g : GF} {c : TF} {f : EF} {env : En} (enc h : α → PyData) (p : α → Bool) {xs : List α} (hi : it env = some (xs.map enc)) (hl : xs.length ≤ 100000)
    (he : ∀ a ∈ xs, elD vs g c f env (enc a) = some (if p a = true then some (h a) else none)) : eLc vs it g c f env = some (.own ((xs.filter p).map h)) := by
  rw [eLc_eq hi (by rw [List.length_map]; exact fits hl) (lcD_el enc h p he)]
theorem eLc_map {α : Type} {vs : List Nat} {it : IF} {g : GF} {c : TF} {f : EF} {env : En} (enc h : α → PyData) {xs : List α} (hi : it env = some (xs.map enc)) (hl : xs.length ≤ 100000)
    (he : ∀ a ∈ xs, elD vs g c f env (enc a) = some (some (h a))) : eLc vs it g c f env = some (.own (xs.map h)) := by
  have := eLc_flt (f := f) (c := c) (g := g) (vs := vs) enc h (fun _ => true) hi hl (fun a ha => by rw [he a ha]; rfl)
  rwa [List.filter_eq_self.mpr (fun _ _ => rfl)] at this
theorem forD_wp {α : Type} {g : GF} {body : SF} (enc : α → PyData) (P : List α → En → Prop) {all : List α} {env : En} (h : P [] env)
    (turn : ∀ pre a post env, all = pre ++ a :: post → P pre env → ∃ e2, nxt ((g (enc a) env).bind body) = some e2 ∧ P (pre ++ [a]) e2) :
    ∃ e, forD g body (all.map enc) env = some (.nx e) ∧ P all e := by
  suffices H : ∀ (xs pre : List α) (env : En), all = pre ++ xs → P pre env → ∃ e, forD g body (xs.map enc) env = some (.nx e) ∧ P all e from H all [] env rfl h
  intro xs
  induction xs with
  | nil => exact fun pre env e h => ⟨env, rfl, by rw [e, List.append_nil]; exact h⟩
  | cons a xs ih =>
    intro pre env e h
    obtain ⟨e2, h1, h2⟩ := turn pre a xs env e h
    obtain ⟨e', h3, h4⟩ := ih (pre ++ [a]) e2 (by rw [e, List.append_cons]) h2
    refine ⟨e', ?_, h4⟩
    rw [List.map_cons]
    show ((g (enc a) env).bind fun e1 => turnO (body e1) (forD g body (xs.map enc))) = _
    cases q : g (enc a) env with
    | none => rw [q] at h1; cases h1
    | some e1 =>
      rw [q] at h1
      have h1 : nxt (body e1) = some e2 := h1
      rw [Option.bind_some, turnO_nxt h1, h3]
/-- with a way out: the first element at which stop gives an answer -/
theorem forD_stop {α : Type} {g : GF} {body : SF} (enc : α → PyData) (P : List α → En → Prop) (stop : α → Option R) {all : List α} {env : En} (h : P [] env)
    (turn : ∀ pre a post env, all = pre ++ a :: post → P pre env → match stop a with
      | none => ∃ e2, nxt ((g (enc a) env).bind body) = some e2 ∧ P (pre ++ [a]) e2
      | some r => (g (enc a) env).bind body = some (.rt r)) :
    match all.findSome? stop with
      | none => ∃ e, forD g body (all.map enc) env = some (.nx e) ∧ P all e
      | some r => forD g body (all.map enc) env = some (.rt r) := by
  suffices H : ∀ (xs pre : List α) (env : En), all = pre ++ xs → P pre env → match xs.findSome? stop with
      | none => ∃ e, forD g body (xs.map enc) env = some (.nx e) ∧ P all e
      | some r => forD g body (xs.map enc) env = some (.rt r) from H all [] env rfl h
  intro xs
  induction xs with
  | nil => exact fun pre env e h => ⟨env, rfl, by rw [e, List.append_nil]; exact h⟩
  | cons a xs ih =>
    intro pre env e h
    have t := turn pre a xs env e h
    rw [List.findSome?_cons]
    have e0 : forD g body ((a :: xs).map enc) env = ((g (enc a) env).bind fun e1 => turnO (body e1) (forD g body (xs.map enc))) := rfl
    cases q : stop a with
    | none =>
      rw [q] at t
      obtain ⟨e2, h1, h2⟩ := t
      have r := ih (pre ++ [a]) e2 (by rw [e, List.append_cons]) h2
      have e1 : forD g body ((a :: xs).map enc) env = forD g body (xs.map enc) e2 := by
        rw [e0]
        cases q2 : g (enc a) env with
        | none => rw [q2] at h1; cases h1
        | some e1 =>
          rw [q2] at h1
          have h1 : nxt (body e1) = some e2 := h1
          rw [Option.bind_some, turnO_nxt h1]
      rw [e1]
      exact r
    | some r =>
      rw [q] at t
      show forD g body ((a :: xs).map enc) env = _
      rw [e0]
      cases q2 : g (enc a) env with
      | none => rw [q2] at t; cases t
      | some e1 =>
        rw [q2, Option.bind_some] at t
        rw [Option.bind_some, t]
        rfl
def nxtM : Option OutM → Option En
  | some (.nx e) => some e
  | some (.ct e) => some e
  | _ => none
@[simp] theorem nxtM_nx {e : En} : nxtM (some (.nx e)) = some e := rfl
@[simp] theorem nxtM_ct {e : En} : nxtM (some (.ct e)) = some e := rfl
theorem turnM_nxt {o : Option OutM} {e : En} {k : SFm} (h : nxtM o = some e) : turnM o k = k e := by
  cases o with
  | none => cases h
  | some x =>
    cases x with
    | nx e' => cases h; rfl
    | ct e' => cases h; rfl
    | rt r o => cases h
    | bk e' => cases h
    | ex x e' => cases h
theorem forM_wp {α : Type} {g : GF} {body : SFm} (enc : α → PyData) (P : List α → En → Prop) {all : List α} {env : En} (h : P [] env)
    (turn : ∀ pre a post env, all = pre ++ a :: post → P pre env → ∃ e2, nxtM ((g (enc a) env).bind body) = some e2 ∧ P (pre ++ [a]) e2) :
    ∃ e, Dn.forM g body (all.map enc) env = some (.nx e) ∧ P all e := by
  suffices H : ∀ (xs pre : List α) (env : En), all = pre ++ xs → P pre env → ∃ e, Dn.forM g body (xs.map enc) env = some (.nx e) ∧ P all e from H all [] env rfl h
  intro xs
  induction xs with
  | nil => exact fun pre env e h => ⟨env, rfl, by rw [e, List.append_nil]; exact h⟩
  | cons a xs ih =>
    intro pre env e h
    obtain ⟨e2, h1, h2⟩ := turn pre a xs env e h
    obtain ⟨e', h3, h4⟩ := ih (pre ++ [a]) e2 (by rw [e, List.append_cons]) h2
    refine ⟨e', ?_, h4⟩
    rw [List.map_cons]
    show ((g (enc a) env).bind fun e1 => turnM (body e1) (Dn.forM g body (xs.map enc))) = _
    cases q : g (enc a) env with
    | none => rw [q] at h1; cases h1
    | some e1 =>
      rw [q] at h1
      have h1 : nxtM (body e1) = some e2 := h1
      rw [Option.bind_some, turnM_nxt h1, h3]
/-- one element of a comprehension with a state -/
noncomputable def elM (vs : List Nat) (g : GF) (c : TM) (f : EM) (e : En) (d : PyData) : Option (Option PyData × En) := (g d e).bind fun e1 => match c e1 with
    | some (.ok b e2) => if b = true then match f e2 with
        | some (.ok r e3) => some (some r.frz, wipeD e3 vs)
        | _ => none
      else some (none, wipeD e2 vs)
    | _ => none
theorem lcM_wp {α : Type} {vs : List Nat} {g : GF} {c : TM} {f : EM} (enc : α → PyData) (J : List α → List PyData → En → Prop) {all : List α} {env : En} (h : J [] [] env)
    (turn : ∀ pre a post rs e, all = pre ++ a :: post → rs.length = pre.length → J pre rs e → ∃ r e3, elM vs g c f e (enc a) = some (some r, e3) ∧ J (pre ++ [a]) (rs ++ [r]) e3) :
    ∃ rs e, lcM vs g c f (all.map enc) env = some (rs, e) ∧ J all rs e ∧ rs.length = all.length := by
  suffices H : ∀ (xs pre : List α) (rs : List PyData) (env : En), all = pre ++ xs → rs.length = pre.length → J pre rs env → ∃ rs' e, lcM vs g c f (xs.map enc) env = some (rs', e) ∧ J all (rs ++ rs') e ∧ (rs ++ rs').length = all.length by
    obtain ⟨rs, e, h1, h2, h3⟩ := H all [] [] env rfl rfl h
    exact ⟨rs, e, h1, h2, h3⟩
  intro xs
  induction xs with
  | nil => exact fun pre rs env e hl h => ⟨[], env, rfl, by rw [e, List.append_nil, List.append_nil]; exact h, by rw [List.append_nil, hl, e, List.append_nil]⟩
  | cons a xs ih =>
    intro pre rs env e hl h
    obtain ⟨r, e3, h1, h2⟩ := turn pre a xs rs env e hl h
    obtain ⟨rs', e', h3, h4, h5⟩ := ih (pre ++ [a]) (rs ++ [r]) e3 (by rw [e, List.append_cons]) (by simp [hl]) h2
    refine ⟨r :: rs', e', ?_, by rw [List.append_cons]; exact h4, by rw [List.append_cons]; exact h5⟩
    rw [List.map_cons]
    unfold elM at h1
    unfold lcM
    cases q : g (enc a) env with
    | none => rw [q] at h1; cases h1
    | some e1 =>
      rw [q, Option.bind_some] at h1
      rw [Option.bind_some]
      cases q2 : c e1 with
      | none => rw [q2] at h1; cases h1
      | some z =>
        rw [q2] at h1
        cases z with
        | ex x e => cases h1
        | ok b e2 =>
          cases b with
          | false => cases h1
          | true =>
            cases q3 : f e2 with
            | none =>
              have h1 : (match f e2 with
                | some (.ok r e3) => some (some r.frz, wipeD e3 vs)
                | _ => none : Option (Option PyData × En)) = some (some r, e3) := h1
              rw [q3] at h1
              cases h1
            | some w =>
              have h1 : (match f e2 with
                | some (.ok r e3) => some (some r.frz, wipeD e3 vs)
                | _ => none : Option (Option PyData × En)) = some (some r, e3) := h1
              rw [q3] at h1
              cases w with
              | ex x e => cases h1
              | ok r0 e4 =>
                cases h1
                show ((match f e2 with
                  | some (.ok r e3) => (lcM vs g c f (xs.map enc) (wipeD e3 vs)).bind fun p => some (r.frz :: p.1, p.2)
                  | _ => none : Option (List PyData × En))) = _
                rw [q3]
                show (lcM vs g c f (xs.map enc) (wipeD e4 vs)).bind _ = _
                rw [h3]
                rfl
theorem mLc_wp {α : Type} {vs : List Nat} {it : IM} {g : GF} {c : TM} {f : EM} {env e0 : En} (enc : α → PyData) (J : List α → List PyData → En → Prop) {all : List α} (hi : it env = some (.ok (all.map enc) e0)) (hl : all.length ≤ 100000) (h : J [] [] (wipeD e0 vs))
    (turn : ∀ pre a post rs e, all = pre ++ a :: post → rs.length = pre.length → J pre rs e → ∃ r e3, elM vs g c f e (enc a) = some (some r, e3) ∧ J (pre ++ [a]) (rs ++ [r]) e3) :
    ∃ rs e, mLc vs it g c f env = some (.ok (.own rs) (restD e0 vs e)) ∧ J all rs e ∧ rs.length = all.length := by
  obtain ⟨rs, e, h1, h2, h3⟩ := lcM_wp enc J h turn
  exact ⟨rs, e, mLc_eq hi (by rw [List.length_map]; exact fits hl) h1, h2, h3⟩
/-- a loop over an owned list -/
theorem forO_wp {α : Type} {i : Nat} {g : GF} {body : SFm} (enc : α → PyData) (P : List α → En → Prop) {all : List α} {env : En} (h : P [] env) (own : ∀ pre env, P pre env → env[i]? = some (.own (all.map enc)))
    (turn : ∀ pre a post env, all = pre ++ a :: post → P pre env → ∃ e2, nxtM ((g (enc a) env).bind body) = some e2 ∧ P (pre ++ [a]) e2) :
    ∃ e, mForO i g body env = some (.nx e) ∧ P all e := by
  suffices H : ∀ (xs pre : List α) (env : En), all = pre ++ xs → P pre env → ∃ e, forO i (all.map enc) g body (xs.map enc) env = some (.nx e) ∧ P all e by
    obtain ⟨e, h1, h2⟩ := H all [] env rfl h
    refine ⟨e, ?_, h2⟩
    unfold mForO
    rw [own [] env h]
    exact h1
  intro xs
  induction xs with
  | nil => exact fun pre env e h => ⟨env, if_pos (show IsOwn env i (all.map enc) from own pre env h), by rw [e, List.append_nil]; exact h⟩
  | cons a xs ih =>
    intro pre env e h
    obtain ⟨e2, h1, h2⟩ := turn pre a xs env e h
    obtain ⟨e', h3, h4⟩ := ih (pre ++ [a]) e2 (by rw [e, List.append_cons]) h2
    refine ⟨e', ?_, h4⟩
    rw [List.map_cons]
    show (if IsOwn env i (all.map enc) then ((g (enc a) env).bind fun e1 => turnM (body e1) (forO i (all.map enc) g body (xs.map enc))) else none) = _
    rw [if_pos (show IsOwn env i (all.map enc) from own pre env h)]
    cases q : g (enc a) env with
    | none => rw [q] at h1; cases h1
    | some e1 =>
      rw [q] at h1
      have h1 : nxtM (body e1) = some e2 := h1
      rw [Option.bind_some, turnM_nxt h1, h3]
theorem run_nx {S T : SFm} {env e : En} {x : Option FX} (h1 : S env = some (.nx e)) (h2 : resX (T e) = x) : resX (mSeq S T env) = x := by
  rw [mseq_nx h1]
  exact h2
theorem getD_mem {α : Type} {xs : List α} {v : Nat} {d : α} (h : v < xs.length) : xs.getD v d ∈ xs := by
  have : xs.getD v d = xs[v] := by simp [h]
  rw [this]
  exact List.getElem_mem h
end Dn
/-! Rs0: first best branches, lists changed place by place -/
namespace Dn
open PySem PySem.Spec PyProof.Rows L2
theorem fstD_qd (v : Rat) : ∀ rs : List Rat, fstD (qd v) (rs.map qd) = rs.findIdx? (fun r => decide (r = v))
  | [] => rfl
  | r :: rs => by
    rw [List.map_cons, List.findIdx?_cons]
    show (if PyData.eqv (qd r) (qd v) = true then some 0 else (fstD (qd v) (rs.map qd)).map (· + 1)) = _
    rw [eqv_qd, fstD_qd v rs]
def better (side : Str) (new old : Rat) : Bool := if side = ("ours" : Str) then decide (old < new) else decide (new < old)
/-- the first best of the first n -/
def bestN (bt : Rat → Rat → Bool) (rs : List Rat) : Nat → Nat
  | 0 => 0
  | n + 1 => if bt (rs.getD n 0) (rs.getD (bestN bt rs n) 0) = true then n else bestN bt rs n
theorem bestN_succ (bt : Rat → Rat → Bool) (rs : List Rat) (n : Nat) : bestN bt rs (n + 1) = if bt (rs.getD n 0) (rs.getD (bestN bt rs n) 0) = true then n else bestN bt rs n := rfl
structure StrictW (bt : Rat → Rat → Bool) : Prop where
  asym : ∀ a b, bt a b = true → bt b a = false
  neg : ∀ a b c, bt a b = false → bt b c = false → bt a c = false
theorem StrictW.irr {bt : Rat → Rat → Bool} (w : StrictW bt) (a : Rat) : bt a a = false := by
  cases h : bt a a with
  | false => rfl
  | true => exact (w.asym a a h).symm.trans h |>.symm ▸ rfl
theorem StrictW.trans {bt : Rat → Rat → Bool} (w : StrictW bt) {a b c : Rat} (h1 : bt a b = true) (h2 : bt b c = true) : bt a c = true := by
  cases h : bt a c with
  | true => rfl
  | false => rw [w.neg b a c (w.asym _ _ h1) h] at h2; cases h2
theorem StrictW.le_ltX {bt : Rat → Rat → Bool} (w : StrictW bt) {a b c : Rat} (h1 : bt b a = false) (h2 : bt b c = true) : bt a c = true := by
  cases h : bt a c with
  | true => rfl
  | false => rw [w.neg b a c h1 h] at h2; cases h2
theorem StrictW.le_lt_r {bt : Rat → Rat → Bool} (w : StrictW bt) {a b c : Rat} (h1 : bt a b = false) (h2 : bt c b = true) : bt c a = true := by
  cases h : bt c a with
  | true => rfl
  | false => rw [w.neg c a b h h1] at h2; cases h2
theorem better_w (side : Str) : StrictW (better side) := by
  refine ⟨fun a b h => ?_, fun a b c h1 h2 => ?_⟩
  · unfold better at *
    split at h
    · rename_i hs
      rw [if_pos hs]
      simp [Rat.not_lt] at *
      exact Rat.le_of_lt h
    · rename_i hs
      rw [if_neg hs]
      simp [Rat.not_lt] at *
      exact Rat.le_of_lt h
  · unfold better at *
    split at h1
    · rename_i hs
      rw [if_pos hs] at h2 ⊢
      simp [Rat.not_lt] at *
      exact Rat.le_trans h1 h2
    · rename_i hs
      rw [if_neg hs] at h2 ⊢
      simp [Rat.not_lt] at *
      exact Rat.le_trans h2 h1
theorem bestN_spec {bt : Rat → Rat → Bool} (w : StrictW bt) (rs : List Rat) : ∀ n : Nat, 1 ≤ n → bestN bt rs n < n ∧ (∀ j, j < n → bt (rs.getD j 0) (rs.getD (bestN bt rs n) 0) = false) ∧ ∀ j, j < bestN bt rs n → bt (rs.getD (bestN bt rs n) 0) (rs.getD j 0) = true
  | 0, h => by omega
  | n + 1, _ => by
    by_cases h0 : n = 0
    · subst h0
      have e : bestN bt rs 1 = 0 := by
        unfold bestN
        split <;> rfl
      rw [e]
      refine ⟨by omega, fun j hj => ?_, fun j hj => by omega⟩
      have : j = 0 := by omega
      subst this
      exact w.irr _
    · obtain ⟨i1, i2, i3⟩ := bestN_spec w rs n (by omega)
      unfold bestN
      split
      · rename_i hb
        refine ⟨by omega, fun j hj => ?_, fun j hj => w.le_lt_r (i2 j hj) hb⟩
        by_cases hn : j = n
        · subst hn
          exact w.irr _
        · exact w.asym _ _ (w.le_lt_r (i2 j (by omega)) hb)
      · rename_i hb
        refine ⟨by omega, fun j hj => ?_, i3⟩
        by_cases hn : j = n
        · subst hn
          exact Bool.eq_false_iff.mpr hb
        · exact i2 j (by omega)
/-- the first place with the best number -/
theorem bestN_first {bt : Rat → Rat → Bool} (w : StrictW bt) (rs : List Rat) (h : rs ≠ []) : rs.findIdx? (fun r => decide (r = rs.getD (bestN bt rs rs.length) 0)) = some (bestN bt rs rs.length) := by
  have hl : 1 ≤ rs.length := List.length_pos_iff.mpr h
  obtain ⟨h1, h2, h3⟩ := bestN_spec w rs rs.length hl
  generalize bestN bt rs rs.length = k at *
  rw [List.findIdx?_eq_some_iff_getElem]
  refine ⟨h1, by simp [h1], fun j hj => ?_⟩
  have hj' : j < rs.length := by omega
  have q := h3 j hj
  have e1 : rs.getD j 0 = rs[j] := by simp [hj']
  have e2 : rs.getD k 0 = rs[k] := by simp [h1]
  rw [e1, e2] at q
  rw [e2]
  simp
  intro z
  rw [z, w.irr] at q
  cases q
/-- new where one is of pre, else old -/
def mixL (n : Nat) (new old : Nat → PyData) (pre : List Nat) : List PyData := (List.range n).map fun j => if j ∈ pre then new j else old j
theorem mixL_len {n : Nat} {new old : Nat → PyData} {pre : List Nat} : (mixL n new old pre).length = n := by simp [mixL]
theorem mixL_set {n : Nat} {new old : Nat → PyData} {pre : List Nat} {a : Nat} (h : a < n) : (mixL n new old pre).set a (new a) = mixL n new old (pre ++ [a]) := by
  refine List.ext_getElem? fun j => ?_
  unfold mixL
  rw [List.getElem?_set]
  by_cases hj : a = j
  · subst hj
    simp [h]
  · rw [if_neg hj]
    by_cases hn : j < n
    · simp [hn, Ne.symm hj]
    · simp [hn]
theorem mixL_same {n : Nat} {new old : Nat → PyData} {pre : List Nat} {a : Nat} (h : new a = old a) : mixL n new old pre = mixL n new old (pre ++ [a]) := by
  unfold mixL
  refine List.map_congr_left fun j _ => ?_
  by_cases hj : j = a
  · subst hj
    simp [h]
  · simp [hj]
theorem mixL_nil {n : Nat} {new old : Nat → PyData} : mixL n new old [] = (List.range n).map old := by simp [mixL]
theorem mixL_all {n : Nat} {new old : Nat → PyData} {pre : List Nat} (h : ∀ j, j < n → j ∉ pre → new j = old j) : mixL n new old pre = (List.range n).map new := by
  unfold mixL
  refine List.map_congr_left fun j hj => ?_
  by_cases q : j ∈ pre
  · rw [if_pos q]
  · rw [if_neg q, h j (List.mem_range.mp hj) q]
theorem range_get {α : Type} (xs : List α) (d : α) : (List.range xs.length).map (fun j => xs.getD j d) = xs := by
  refine List.ext_getElem? fun j => ?_
  by_cases h : j < xs.length
  · simp [h]
  · simp [h]
theorem range_map {α β : Type} (f : α → β) (xs : List α) (d : α) : (List.range xs.length).map (fun k => f (xs.getD k d)) = xs.map f := by
  refine List.ext_getElem? fun i => ?_
  rw [List.getElem?_map, List.getElem?_map]
  by_cases h : i < xs.length
  · rw [List.getElem?_range h, List.getElem?_eq_getElem h]
    simp [h]
  · rw [List.getElem?_eq_none (by rw [List.length_range]; omega), List.getElem?_eq_none (by omega)]
    rfl
theorem zipIdx_at {α : Type} {xs : List α} {pre post : List (α × Nat)} {a : α × Nat} (h : xs.zipIdx = pre ++ a :: post) : a.2 = pre.length ∧ xs[pre.length]? = some a.1 := by
  have e : xs.zipIdx[pre.length]? = some a := by rw [h]; simp
  rw [List.getElem?_zipIdx] at e
  cases q : xs[pre.length]? with
  | none => rw [q] at e; cases e
  | some x =>
    rw [q] at e
    cases e
    exact ⟨by simp, rfl⟩
theorem enumD_map {α : Type} (f : α → PyData) (xs : List α) : enumD (xs.map f) = xs.zipIdx.map fun p => .tuple [.int (p.2 : Nat), f p.1] := by
  unfold enumD
  rw [List.zipIdx_map, List.map_map]
  rfl
end Dn
/-! Rq1: products of numbers of bounded size -/
namespace Dn
open PySem PySem.Spec PyProof.Rows L2
theorem den_mul_lt {a b : Rat} (ha : Bt 4000 a) (hb : Bt 4000 b) : ((a.den : Int) * b.den).natAbs < divLim := by
  rw [Int.natAbs_mul, Int.natAbs_natCast, Int.natAbs_natCast]
  exact lt_div8 (pow_mul_lt ha.d hb.d) (by omega)
theorem mul_dd {a b : Rat} (ha : Bt 4000 a) (hb : Bt 4000 b) : Dn.MulOk (a.den : Int) (b.den : Int) := mul_bt (k := 4000) (by simpa using ha.d) (by simpa using hb.d) (by omega)
theorem mul_nd {a b : Rat} (ha : Bt 4000 a) (hb : Bt 4000 b) : Dn.MulOk a.num (b.den : Int) := mul_bt (k := 4000) ha.n (by simpa using hb.d) (by omega)
theorem mul_dn {a b : Rat} (ha : Bt 4000 a) (hb : Bt 4000 b) : Dn.MulOk (a.den : Int) b.num := mul_bt (k := 4000) (by simpa using ha.d) hb.n (by omega)
theorem mul_nn {a b : Rat} (ha : Bt 4000 a) (hb : Bt 4000 b) : Dn.MulOk a.num b.num := mul_bt (k := 4000) ha.n hb.n (by omega)
end Dn
/-! Re0: means -/
namespace Dn
open PySem PySem.Spec PyProof.Rows L2
def termsR (bs : List (Rat × Nat)) (rs : List Rat) : List Rat := bs.map fun b => b.1 * rs.getD b.2 0
def meanR (bs : List (Rat × Nat)) (rs : List Rat) : Rat := sumR (termsR bs rs)
theorem sumR_bt {k : Nat} {xs : List Rat} (h : ∀ x ∈ xs, Bt k x) : Bt ((k + 1) * xs.length + 1) (sumR xs) := by
  induction xs with
  | nil => exact Bt.zero (by simp)
  | cons x xs ih =>
    rw [sumR_cons]
    have h1 := (h x List.mem_cons_self).add (ih fun y hy => h y (List.mem_cons_of_mem _ hy))
    refine h1.mono ?_
    rw [List.length_cons, Nat.mul_succ]
    omega
theorem atI_qd {rs : List Rat} {x : Nat} (h : x < rs.length) : atI (rs.map qd) (x : Int) = some (qd (rs.getD x 0)) := by
  rw [atI_map (List.getElem?_eq_getElem h)]
  simp [h]
end Dn
namespace Law
open PySem PySem.Spec PyProof.Rows L2 Dn
/-! Rn1: number, plus, times -/
end Law
namespace Law
open PySem PySem.Spec PyProof.Rows L2 Dn
/-! Pc1: _law_gcd by 20,000 turns, _law_number, sums and products -/
theorem lawgcd_loop : ∀ (xs : List PyData) (a b : Int) (s : Sl), 0 ≤ a → 0 ≤ b → ∃ s' b', Dn.forD (gtName 2) b__law_gcd_1 xs [.val (.int a), .val (.int b), s] = some (.nx [.val (.int (euc xs.length a b)), b', s'])
  | [], a, b, s, _, _ => ⟨_, _, rfl⟩
  | x :: xs, a, b, s, ha, hb => by
    by_cases h : b = 0
    · subst h
      refine ⟨.val x, .val (.int 0), ?_⟩
      rw [forD_bk (e1 := [.val (.int a), .val (.int 0), .val x]) (e2 := [.val (.int a), .val (.int 0), .val x]) rfl (by simp [b__law_gcd_1])]
      rw [List.length_cons, euc, if_pos rfl]
    · have hz : ∀ i, Dn.NzOk i b := fun i => h
      have hm : a.fmod b = a % b := fmod_pos (by omega)
      obtain ⟨s', b', e⟩ := lawgcd_loop xs b (a % b) (.val x) hb (Int.emod_nonneg _ h)
      refine ⟨s', b', ?_⟩
      rw [forD_nx (e1 := [.val (.int a), .val (.int b), .val x]) (e2 := [.val (.int b), .val (.int (a % b)), .val x]) rfl (by simp [b__law_gcd_1, h, hz, hm]), e, List.length_cons, euc, if_neg h]
theorem law_gcd_eq (n d : Int) (hb : d.natAbs < divLim) : m__law_gcd [.int n, .int d] = some (.val (.int (Nat.gcd n.natAbs d.natAbs : Nat))) := by
  unfold m__law_gcd
  rw [fnD_eq (by rfl)]
  have hr : Dn.InR 20000 := inR_of (by decide) (by decide)
  have ha : 0 ≤ (if n < 0 then -n else n) := by split <;> omega
  have hd : 0 ≤ (if d < 0 then -d else d) := by split <;> omega
  obtain ⟨s', b', e⟩ := lawgcd_loop (intsFrom 0 20000) (if n < 0 then -n else n) (if d < 0 then -d else d) .no ha hd
  rw [intsFrom_len, euc_gcd 8000 20000 _ _ ha hd (by
    have : (d.natAbs : Int) < ((2 ^ 8000 : Nat) : Int) := Int.ofNat_lt.mpr hb
    rw [Int.natCast_pow] at this
    have e : (d.natAbs : Int) = (if d < 0 then -d else d) := by split <;> omega
    rw [e] at this
    exact this) (by decide)] at e
  have hg : gcdI (if n < 0 then -n else n) (if d < 0 then -d else d) = (Nat.gcd n.natAbs d.natAbs : Nat) := by
    unfold gcdI
    congr 2
    · split <;> omega
    · split <;> omega
  rw [hg] at e
  simp [b__law_gcd, hr, e]
theorem law_number_rat (n d : Int) (hd : d ≠ 0) (hb : d.natAbs < divLim) : m__law_number [.int n, .int d] = some (.val (qd (Rat.divInt n d))) := by
  unfold m__law_number
  rw [fnD_eq (by rfl)]
  have fd : ∀ (n d : Int), d ≠ 0 → d.natAbs < divLim → ∀ i, Dn.FdOk i (Nat.gcd n.natAbs d.natAbs : Nat) := fun n d hd hb i => by
    have hg : 0 < Nat.gcd n.natAbs d.natAbs := Nat.gcd_pos_of_pos_right _ (by omega)
    have hl : Nat.gcd n.natAbs d.natAbs ≤ d.natAbs := Nat.gcd_le_right _ (by omega)
    exact ⟨by omega, by rw [Int.natAbs_natCast]; exact Nat.lt_of_le_of_lt hl hb⟩
  by_cases h : d < 0
  · have g := law_gcd_eq (-n) (-d) (by rw [Int.natAbs_neg]; exact hb)
    have f := fd (-n) (-d) (by omega) (by rw [Int.natAbs_neg]; exact hb)
    obtain ⟨r1, r2⟩ := red_num (n := -n) (d := -d) (by omega)
    rw [Rat.neg_divInt_neg] at r1 r2
    generalize hgg : ((Nat.gcd (-n).natAbs (-d).natAbs : Nat) : Int) = g at *
    simp [b__law_number, h, g, f, r1, r2]
  · have g := law_gcd_eq n d hb
    have f := fd n d hd hb
    obtain ⟨r1, r2⟩ := red_num (n := n) (d := d) (by omega)
    generalize hgg : ((Nat.gcd n.natAbs d.natAbs : Nat) : Int) = g at *
    simp [b__law_number, h, g, f, r1, r2]
theorem rat_lt' (a b : Rat) : a < b ↔ a.num * b.den < b.num * a.den := Rat.lt_iff a b
end Law
namespace Law
open PySem PySem.Spec PyProof.Rows L2 Dn
/-! ### _law_draws: so many ints from 0 to 999 -/
abbrev drst (ns : List Int) (c : Int) (rests draws : List Int) (s4 s5 s7 s8 : Sl) : En := [.val (.list (ns.map .int)), .val (.int c), .own (rests.map .int), .own (draws.map .int), s4, s5, .no, s7, s8]
def DrawsAt (ns : List Int) (c : Int) (i : Nat) (env : En) : Prop := ∃ (rests draws : List Int) (s4 s5 s7 s8 : Sl), env = drst ns c rests draws s4 s5 s7 s8 ∧ rests.length = ns.length ∧ draws.length = i ∧ i ≤ 1000 ∧ ∀ d ∈ draws, 0 ≤ d ∧ d < 1000
theorem draws_turn {ns : List Int} {c : Int} {i : Nat} {env : En} {x : Int} (hi : i < 1000) (hx : x = i) (h : DrawsAt ns c i env) :
    ∃ e2, b__law_draws_2 (env.set 4 (.val (.int x))) = some (.nx e2) ∧ DrawsAt ns c (i + 1) e2 := by
  obtain ⟨rests, draws, s4, s5, s7, s8, rfl, hr, hd, hi2, hb⟩ := h
  have f1 : ∀ j, FdOk j 1000 := fun j => fd_small (by decide) (by decide)
  have f2 : ∀ j, FdOk j 7 := fun j => fd_small (by decide) (by decide)
  have m1 : ∀ j, Dn.MulOk j 48271 := fun j => mul_r (by decide)
  have m2 : ∀ j, Dn.MulOk j 69621 := fun j => mul_r (by decide)
  have m3 : ∀ j, Dn.MulOk j 16807 := fun j => mul_r (by decide)
  have n1 : ∀ j, NzOk j 1000 := fun j => by unfold NzOk; decide
  have n2 : ∀ j, NzOk j 2147483647 := fun j => by unfold NzOk; decide
  have n3 : ∀ j, NzOk j 2147483629 := fun j => by unfold NzOk; decide
  have pw : PowOk 10 18 := by unfold PowOk; decide
  have hp : (10 : Int) ^ (18 : Int).toNat = 1000000000000000000 := by decide
  have app : ∀ v : Int, 0 ≤ v → v < 1000 → ∀ d ∈ draws ++ [v], 0 ≤ d ∧ d < 1000 := fun v h0 h1 d hm => by
    rcases List.mem_append.mp hm with q | q
    · exact hb d q
    · rw [List.mem_singleton.mp q]
      exact ⟨h0, h1⟩
  by_cases hl : rests.length = 0
  · have hn : ns.length = 0 := by omega
    have e : rests = [] := List.eq_nil_of_length_eq_zero hl
    subst e
    refine ⟨drst ns c ([]) (draws ++ [0]) (.val (.int x)) (.val (.int 0)) (s7) (s8), ?_, ⟨[], draws ++ [0], .val (.int x), .val (.int 0), s7, s8, rfl, hr, by simp [hd], by omega, app 0 (by decide) (by decide)⟩⟩
    simp [b__law_draws_2, fits (show draws.length + 1 ≤ 100000 by omega)]
  · have hpos : (0 : Int) < rests.length := by omega
    have nz : ∀ j, NzOk j (rests.length : Int) := fun j => by unfold NzOk; omega
    have a0 := Int.emod_nonneg x (show (rests.length : Int) ≠ 0 by omega)
    have a1 := Int.emod_lt_of_pos x hpos
    generalize ha : x % (rests.length : Int) = at_ at a0 a1
    have hat : at_.toNat < rests.length := by omega
    obtain ⟨v, hv⟩ : ∃ v, rests[at_.toNat]? = some v := ⟨_, List.getElem?_eq_getElem hat⟩
    have hv2 : atI (rests.map PyData.int) at_ = some (.int v) := atI_nat' a0 (by rw [List.getElem?_map, hv]; rfl)
    have hx2 : ixN rests.length at_ = some at_.toNat := ixN_nat a0 a1
    have fm : x.fmod (rests.length : Int) = at_ := by rw [fmod_pos hpos, ha]
    by_cases hg : 1000000000000000000 ≤ v
    · refine ⟨drst ns c (rests.set at_.toNat (v.fdiv 1000)) (draws ++ [v.fmod 1000]) (.val (.int x)) (.val (.int (v.fmod 1000))) (.val (.int at_)) (s8), ?_, ⟨rests.set at_.toNat (v.fdiv 1000), draws ++ [v.fmod 1000], .val (.int x), .val (.int (v.fmod 1000)), .val (.int at_), s8, rfl, by simp [hr], by simp [hd], by omega, app _ (by rw [fmod_pos (by decide)]; exact Int.emod_nonneg _ (by decide)) (by rw [fmod_pos (by decide)]; exact Int.emod_lt_of_pos _ (by decide))⟩⟩
      simp [b__law_draws_2, hl, hpos, show 0 < rests.length by omega, nz, fm, hv2, hx2, pw, hp, hg, n1, f1, fits (show draws.length + 1 ≤ 100000 by omega), List.map_set]
    · refine ⟨drst ns c (rests) (draws ++ [((((v * 48271 + x * 69621 + 11).fmod 2147483647 * 16807 + at_).fmod 2147483629).fdiv 7).fmod 1000]) (.val (.int x)) (.val (.int (((((v * 48271 + x * 69621 + 11).fmod 2147483647 * 16807 + at_).fmod 2147483629).fdiv 7).fmod 1000))) (.val (.int at_)) (.val (.int (((v * 48271 + x * 69621 + 11).fmod 2147483647 * 16807 + at_).fmod 2147483629))), ?_, ⟨rests, draws ++ [((((v * 48271 + x * 69621 + 11).fmod 2147483647 * 16807 + at_).fmod 2147483629).fdiv 7).fmod 1000], .val (.int x), .val (.int (((((v * 48271 + x * 69621 + 11).fmod 2147483647 * 16807 + at_).fmod 2147483629).fdiv 7).fmod 1000)), .val (.int at_), .val (.int (((v * 48271 + x * 69621 + 11).fmod 2147483647 * 16807 + at_).fmod 2147483629)), rfl, hr, by simp [hd], by omega, app _ (by rw [fmod_pos (by decide)]; exact Int.emod_nonneg _ (by decide)) (by rw [fmod_pos (by decide)]; exact Int.emod_lt_of_pos _ (by decide))⟩⟩
      simp [b__law_draws_2, hl, hpos, show 0 < rests.length by omega, nz, fm, hv2, hx2, pw, hp, hg, n1, n2, n3, f1, f2, m1, m2, m3, fits (show draws.length + 1 ≤ 100000 by omega)]
theorem draws_eq (ns : List Int) (hns : ns.length ≤ 63) (c : Nat) (hc : c ≤ 1000) : ∃ ds : List Int, m__law_draws [.list (ns.map .int), .int c] = some (.own (ds.map .int)) ∧ ds.length = c ∧ ∀ d ∈ ds, 0 ≤ d ∧ d < 1000 := by
  have h1 : b__law_draws_1 [.val (.list (ns.map .int)), .val (.int c), .no, .no, .no, .no, .no, .no, .no] = some (.own (ns.map .int)) := by
    unfold b__law_draws_1
    exact eLc_map PyData.int PyData.int (xs := ns) (by simp) (by omega) fun d _ => by simp [elD]
  have h0 : DrawsAt ns c 0 [.val (.list (ns.map .int)), .val (.int c), .own (ns.map .int), .own (([] : List Int).map .int), .no, .no, .no, .no, .no] := ⟨ns, [], .no, .no, .no, .no, rfl, rfl, rfl, by omega, fun d h => by cases h⟩
  obtain ⟨e, he, hP⟩ := forD_inv (g := gtName 4) (ds := intsFrom 0 c) (DrawsAt ns c) (fun i env d p hd => by
    obtain ⟨hi, rfl⟩ := intsFrom_at hd
    obtain ⟨e2, h3, h4⟩ := draws_turn (x := 0 + i) (by omega) (by omega) p
    exact ⟨_, e2, rfl, h3, h4⟩) h0
  rw [intsFrom_len] at hP
  obtain ⟨rests, draws, s4, s5, s7, s8, rfl, hr, hd, _, hb⟩ := hP
  refine ⟨draws, ?_, hd, hb⟩
  have hcr : InR (c : Int) := inR_of (by omega) (by omega)
  unfold m__law_draws
  rw [fnD_eq (by rfl)]
  have f1 : Fits ns.length := fits (by omega)
  simp at he
  simp [b__law_draws, h1, f1, hcr, he]
end Law
namespace Law
open PySem PySem.Spec PyProof.Rows L2 Dn
/-! Pd2: drawn numbers as a list of Nat -/
def Drn (ds : List Nat) : Prop := ∀ d ∈ ds, d < 1000
theorem draws_nat (ns : List Int) (hns : ns.length ≤ 63) (c : Nat) (hc : c ≤ 1000) : ∃ ds : List Nat, m__law_draws [.list (ns.map .int), .int c] = some (.own (il ds)) ∧ ds.length = c ∧ Drn ds := by
  obtain ⟨ds, e, hl, hd⟩ := draws_eq ns hns c hc
  refine ⟨ds.map Int.toNat, ?_, by simp [hl], fun d h => ?_⟩
  · rw [e, il, List.map_map]
    congr 2
    refine List.map_congr_left fun d h => ?_
    have := hd d h
    show PyData.int d = PyData.int ((d.toNat : Nat) : Int)
    rw [Int.toNat_of_nonneg this.1]
  · obtain ⟨x, hx, rfl⟩ := List.mem_map.mp h
    have := hd x hx
    omega
theorem il_take (n : Nat) (ds : List Nat) : (il ds).take n = il (ds.take n) := (List.map_take ..).symm
theorem il_drop (n : Nat) (ds : List Nat) : (il ds).drop n = il (ds.drop n) := (List.map_drop ..).symm
/-- a slice of drawn numbers -/
theorem sx_il (ds : List Nat) (i j : Nat) (hij : i ≤ j) (hj : j ≤ ds.length) : sxD (il ds) (some (i : Int)) (some (j : Int)) = il ((ds.drop i).take (j - i)) := by
  have hl : (il ds).length = ds.length := List.length_map ..
  have e1 : HT.sIx (il ds).length 0 (some (i : Int)) = i := by
    rw [HT.sIx_nat, hl]
    omega
  have e2 : HT.sIx (il ds).length (il ds).length (some (j : Int)) = j := by
    rw [HT.sIx_nat, hl]
    omega
  unfold sxD
  rw [e1, e2, il_drop, il_take]
theorem drn_sub {ds : List Nat} (h : Drn ds) (i n : Nat) : Drn ((ds.drop i).take n) := fun d hd => h d (List.mem_of_mem_drop (List.mem_of_mem_take hd))
theorem atI_d {ds : List Nat} {i : Nat} (h : i < ds.length) : atI (il ds) (i : Int) = some (.int ((ds.getD i 0 : Nat) : Int)) := atI_il ds i h
end Law
namespace Law
open PySem PySem.Spec PyProof.Rows L2 Dn
/-! Pc2: drawn chains -/
/-- a chance of a draw with parts of up to 24 -/
structure Ch24 (c : Rat) : Prop where
  lo : 0 < c
  hi : c ≤ 1
  d : c.den ≤ 24
def WfC (n : Nat) : Pl → Prop
  | .draw bs => 1 ≤ bs.length ∧ bs.length ≤ 6 ∧ (∀ b ∈ bs, Ch24 b.1 ∧ b.2 < n) ∧ sumR (bs.map (·.1)) = 1
  | .ours _ => False
  | .theirs _ => False
  | .rew c x => Amount c ∧ x < n
  | .fin => True
  | .lose => True
def WfCh (g : List Pl) : Prop := ∀ p ∈ g, WfC g.length p
theorem share24 (p S : Nat) (h1 : 1 ≤ p) (h2 : p ≤ S) (h3 : S ≤ 24) : Ch24 (Rat.divInt (p : Int) (S : Int)) := by
  have hS : (S : Int) ≠ 0 := by omega
  have hS' : (0 : Rat) < (S : Rat) := by
    have : ((0 : Nat) : Rat) < (S : Rat) := Rat.natCast_lt_natCast.mpr (by omega)
    exact this
  refine ⟨?_, ?_, Nat.le_trans (gcd_div_le _ _ hS).2 (by omega)⟩
  · rw [Rat.divInt_eq_div, Rat.intCast_natCast, Rat.intCast_natCast]
    have : (0 : Rat) < (p : Rat) := by
      have : ((0 : Nat) : Rat) < (p : Rat) := Rat.natCast_lt_natCast.mpr (by omega)
      exact this
    rw [Rat.lt_div_iff hS', Rat.zero_mul]
    exact this
  · rw [Rat.divInt_eq_div, Rat.intCast_natCast, Rat.intCast_natCast]
    have : (p : Rat) ≤ (S : Rat) := Rat.natCast_le_natCast.mpr h2
    refine Rat.not_lt.mp fun z => ?_
    rw [Rat.lt_div_iff hS', Rat.one_mul] at z
    exact absurd z (Rat.not_lt.mpr this)
theorem Ch24.bt {c : Rat} (h : Ch24 c) : Bt 5 c := by
  have hn : c.num ≤ c.den := by
    have := (Rat.le_iff c 1).mp h.hi
    simp at this
    exact this
  have hp : 0 ≤ c.num := Rat.num_nonneg.mpr (Rat.le_of_lt h.lo)
  have := h.d
  exact ⟨by omega, by omega⟩
theorem gSum_il (ps : List Nat) : gSum [.list (il ps)] = some (.val (.int (ps.sum : Nat))) := by
  have e : il ps = (ps.map fun p : Nat => (p : Int)).map PyData.int := by rw [List.map_map]; rfl
  show (intsD (il ps)).bind _ = _
  rw [e, intsD_map]
  have : (ps.map fun p : Nat => (p : Int)).sum = ((ps.sum : Nat) : Int) := by
    induction ps with
    | nil => rfl
    | cons p ps ih => rw [List.map_cons, List.sum_cons, List.sum_cons, ih (by rw [List.map_map]; rfl), Int.natCast_add]
  simp [this]
theorem le_sum {x : Nat} : ∀ {ps : List Nat}, x ∈ ps → x ≤ ps.sum
  | [], h => by cases h
  | p :: ps, h => by
    rw [List.sum_cons]
    cases h with
    | head => omega
    | tail _ h => have := le_sum h; omega
theorem sum4 : ∀ qs : List Nat, (∀ x ∈ qs, 1 ≤ x ∧ x ≤ 4) → qs.length ≤ qs.sum ∧ qs.sum ≤ 4 * qs.length
  | [], _ => by simp
  | q :: qs, h => by
    have := sum4 qs fun x hx => h x (List.mem_cons_of_mem _ hx)
    have := h q List.mem_cons_self
    rw [List.sum_cons, List.length_cons]
    omega
theorem fmodN (a m : Nat) (hm : 0 < m) : (a : Int).fmod (m : Int) = ((a % m : Nat) : Int) := by
  rw [fmod_pos (by omega)]
  exact (Int.natCast_emod a m).symm
theorem nzN (m : Nat) (hm : 0 < m) (i : Int) : Dn.NzOk i (m : Int) := by unfold Dn.NzOk; omega
theorem chances_of_eq {ds : List Nat} (h : Drn ds) (w : Nat) (h1 : 1 ≤ w) (h6 : w ≤ 6) (hl : w ≤ ds.length) : ∃ cs : List Rat, m__law_chances_of [.list (il ds), .int (w : Int)] = some (.own (cs.map qd)) ∧ cs.length = w ∧ (∀ c ∈ cs, Ch24 c) ∧ sumR cs = 1 := by
  unfold m__law_chances_of
  rw [fnD_eq (by rfl)]
  have ir : Dn.InR (w : Int) := inR_of (by omega) (by omega)
  obtain ⟨ps, hps⟩ : ∃ ps : List Nat, ps = (List.range w).map fun k => 1 + ds.getD k 0 % 4 := ⟨_, rfl⟩
  have e1 : b__law_chances_of_1 [.val (.list (il ds)), .val (.int (w : Int)), .no, .no, .no] = some (.own (il ps)) := by
    unfold b__law_chances_of_1
    rw [eLc_map nI (fun k => .int ((1 + ds.getD k 0 % 4 : Nat) : Int)) (xs := List.range w) (by simp [ir, ints0]) (by simp; omega) fun k hk => ?_]
    · rw [hps, il, List.map_map]
      rfl
    · have a := atI_d (ds := ds) (i := k) (by have := List.mem_range.mp hk; omega)
      have m := fmodN (ds.getD k 0) 4 (by decide)
      have nz := nzN 4 (by decide)
      have m : ((ds.getD k 0 : Nat) : Int).fmod 4 = _ := m
      have nz : ∀ i, Dn.NzOk i 4 := nz
      generalize ds.getD k 0 = d at *
      generalize il ds = L at *
      simp [elD, a, m, nz]
  have hp : ∀ x ∈ ps, 1 ≤ x ∧ x ≤ 4 := fun x hx => by
    rw [hps] at hx
    obtain ⟨k, _, rfl⟩ := List.mem_map.mp hx
    have := Nat.mod_lt (ds.getD k 0) (show 0 < 4 by decide)
    omega
  have pl : ps.length = w := by simp [hps]
  obtain ⟨s1, s2⟩ := sum4 ps hp
  let cs : List Rat := ps.map fun p : Nat => Rat.divInt (p : Int) (ps.sum : Int)
  have e2 : b__law_chances_of_2 [.val (.list (il ds)), .val (.int (w : Int)), .val (.list (il ps)), .no, .no] = some (.own (cs.map qd)) := by
    unfold b__law_chances_of_2
    rw [eLc_map nI (fun p => qd (Rat.divInt (p : Int) (ps.sum : Int))) (xs := ps) (by simp) (by omega) fun p hp' => ?_, List.map_map]
    · rfl
    · have sm := gSum_il ps
      have hb : ps.sum < 2 ^ 5 := by omega
      have ln := law_number_rat (p : Int) (ps.sum : Int) (by omega) (by rw [Int.natAbs_natCast]; exact lt_div8 hb (by decide))
      generalize il ps = L at *
      simp [-gSum, elD, sm, ln]
  refine ⟨cs, ?_, by simp [cs, pl], fun c hc => ?_, shares_sum ps (by omega)⟩
  · generalize il ps = P at *
    simp [b__law_chances_of, e1, e2]
  · obtain ⟨p, hp', rfl⟩ := List.mem_map.mp hc
    exact share24 _ _ (hp p hp').1 (le_sum hp') (by omega)
theorem width1 (v : Nat) (h : v < 6) : ∃ w : Nat, atI [PyData.int 1, .int 2, .int 2, .int 3, .int 2, .int 6] (v : Int) = some (.int (w : Int)) ∧ 1 ≤ w ∧ w ≤ 6 := by
  rcases (by omega : v = 0 ∨ v = 1 ∨ v = 2 ∨ v = 3 ∨ v = 4 ∨ v = 5) with rfl | rfl | rfl | rfl | rfl | rfl
  · exact ⟨1, rfl, by decide, by decide⟩
  · exact ⟨2, rfl, by decide, by decide⟩
  · exact ⟨2, rfl, by decide, by decide⟩
  · exact ⟨3, rfl, by decide, by decide⟩
  · exact ⟨2, rfl, by decide, by decide⟩
  · exact ⟨6, rfl, by decide, by decide⟩
theorem place_eq {ds : List Nat} (h : Drn ds) (hl : ds.length = 14) (many : Nat) (hm : 1 ≤ many) (hb : many < 1000) : ∃ p : Pl, m__law_place [.list (il ds), .int (many : Int)] = some (.val p.d) ∧ WfC many p := by
  unfold m__law_place
  rw [fnD_eq (by rfl)]
  have few1 : Dn.Few 1 := by simp
  have few2 : Dn.Few 2 := by simp
  have few3 : Dn.Few 3 := by simp
  have few6 : Dn.Few 6 := by simp
  have a0 : atI (il ds) 0 = some (.int ((ds.getD 0 0 : Nat) : Int)) := atI_d (i := 0) (by omega)
  have a1 : atI (il ds) 1 = some (.int ((ds.getD 1 0 : Nat) : Int)) := atI_d (i := 1) (by omega)
  have a2 : atI (il ds) 2 = some (.int ((ds.getD 2 0 : Nat) : Int)) := atI_d (i := 2) (by omega)
  have nzm := nzN many (by omega)
  have n9 : ∀ i, Dn.NzOk i 9 := nzN 9 (by decide)
  have n7 : ∀ i, Dn.NzOk i 7 := nzN 7 (by decide)
  have n6 : ∀ i, Dn.NzOk i 6 := nzN 6 (by decide)
  have n3 : ∀ i, Dn.NzOk i 3 := nzN 3 (by decide)
  have f7 : ∀ i, Dn.FdOk i 7 := fun i => fd_small (by decide) (by decide)
  have k9 : ((ds.getD 0 0 : Nat) : Int).fmod 9 = ((ds.getD 0 0 % 9 : Nat) : Int) := fmodN _ 9 (by decide)
  have hk := Nat.mod_lt (ds.getD 0 0) (show 0 < 9 by decide)
  generalize hkd : ds.getD 0 0 % 9 = kind at *
  generalize ds.getD 0 0 = d0 at *
  by_cases c0 : kind = 0
  · subst c0
    refine ⟨.fin, ?_, trivial⟩
    generalize il ds = L at *
    simp [b__law_place, a0, n9, k9, few1, Pl.d]
  · have c0' : ¬ (kind : Int) = 0 := by omega
    by_cases c1 : kind = 1
    · subst c1
      refine ⟨.lose, ?_, trivial⟩
      generalize il ds = L at *
      simp [b__law_place, a0, n9, k9, few1, Pl.d]
    · have c1' : ¬ (kind : Int) = 1 := by omega
      by_cases c2 : kind = 2
      · subst c2
        have m7 : ((ds.getD 1 0 : Nat) : Int).fmod 7 = ((ds.getD 1 0 % 7 : Nat) : Int) := fmodN _ 7 (by decide)
        have q7 : ((ds.getD 1 0 : Nat) : Int).fdiv 7 = ((ds.getD 1 0 / 7 : Nat) : Int) := by
          rw [fdiv_pos (by decide)]
          exact (Int.natCast_ediv _ 7).symm
        have m3 : ((ds.getD 1 0 / 7 : Nat) : Int).fmod 3 = ((ds.getD 1 0 / 7 % 3 : Nat) : Int) := fmodN _ 3 (by decide)
        have mm := fmodN (ds.getD 2 0) many (by omega)
        have h7 := Nat.mod_lt (ds.getD 1 0) (show 0 < 7 by decide)
        have h3 := Nat.mod_lt (ds.getD 1 0 / 7) (show 0 < 3 by decide)
        have hmm := Nat.mod_lt (ds.getD 2 0) (show 0 < many by omega)
        have ln := law_number_rat ((ds.getD 1 0 % 7 : Nat) : Int) (1 + ((ds.getD 1 0 / 7 % 3 : Nat) : Int)) (by omega) (lt_div8 (k := 3) (by omega) (by decide))
        refine ⟨.rew (Rat.divInt ((ds.getD 1 0 % 7 : Nat) : Int) (1 + ((ds.getD 1 0 / 7 % 3 : Nat) : Int))) (ds.getD 2 0 % many), ?_, ⟨Rat.divInt_nonneg (by omega) (by omega), ?_⟩, hmm⟩
        · generalize il ds = L at *
          generalize ds.getD 1 0 % 7 = u at *
          generalize ds.getD 1 0 / 7 = q at *
          generalize q % 3 = z at *
          generalize ds.getD 2 0 % many = y at *
          generalize ds.getD 1 0 = d1 at *
          generalize ds.getD 2 0 = d2 at *
          simp [b__law_place, a0, a1, a2, n9, k9, n7, m7, f7, q7, n3, m3, ln, nzm, mm, few3, Pl.d]
        · exact (Bt.of (k := 6) (by omega) (by omega) (by omega))
      · have c2' : ¬ (kind : Int) = 2 := by omega
        have m6 : ((ds.getD 1 0 : Nat) : Int).fmod 6 = ((ds.getD 1 0 % 6 : Nat) : Int) := fmodN _ 6 (by decide)
        have h6 := Nat.mod_lt (ds.getD 1 0) (show 0 < 6 by decide)
        obtain ⟨w, hw1, hw2, hw3⟩ := width1 _ h6
        have sx := sx_il ds 2 8 (by decide) (by omega)
        have sx : sxD (il ds) (some 2) (some 8) = il ((ds.drop 2).take 6) := sx
        obtain ⟨cs, e1, cl, cc, csum⟩ := chances_of_eq (drn_sub h 2 6) w hw2 hw3 (by simp; omega)
        have ir : Dn.InR (w : Int) := inR_of (by omega) (by omega)
        let bs : List (Rat × Nat) := (List.range w).map fun k => (cs.getD k 0, ds.getD (8 + k) 0 % many)
        have e2 : b__law_place_1 [.val (.list (il ds)), .val (.int (many : Int)), .val (.int (kind : Int)), .val (.int (w : Int)), .own (cs.map qd), .no] = some (.own (bs.map brD)) := by
          unfold b__law_place_1
          rw [eLc_map nI (fun k => brD (cs.getD k 0, ds.getD (8 + k) 0 % many)) (xs := List.range w) (by simp [ir, ints0]) (by simp; omega) fun k hk => ?_]
          · show _ = some (R.own (((List.range w).map fun k => (cs.getD k 0, ds.getD (8 + k) 0 % many)).map brD))
            rw [List.map_map]
            rfl
          · have hk := List.mem_range.mp hk
            have b1 : atI (cs.map qd) (k : Int) = some (qd (cs.getD k 0)) := by
              rw [atI_map (List.getElem?_eq_getElem (show k < cs.length by omega))]
              simp [show k < cs.length by omega]
            have b2 := atI_d (ds := ds) (i := 8 + k) (by omega)
            have ec : ((8 + k : Nat) : Int) = 8 + (k : Int) := by omega
            rw [ec] at b2
            have mm := fmodN (ds.getD (8 + k) 0) many (by omega)
            generalize ds.getD (8 + k) 0 = d at *
            generalize cs.getD k 0 = c at *
            generalize il ds = L at *
            simp [elD, b1, b2, nzm, mm, few2]
        have bl : bs.length = w := by simp [bs]
        have b1 : bs.map (·.1) = cs := by
          show (((List.range w).map fun k => (cs.getD k 0, ds.getD (8 + k) 0 % many)).map (·.1)) = cs
          rw [List.map_map, ← cl]
          refine List.ext_getElem? fun i => ?_
          by_cases hi : i < cs.length <;> simp [hi]
        refine ⟨.draw bs, ?_, by omega, by omega, fun b hb' => ?_, by rw [b1]; exact csum⟩
        · generalize hB : bs.map brD = B at *
          generalize il ((ds.drop 2).take 6) = L2 at *
          generalize il ds = L at *
          generalize ds.getD 1 0 % 6 = v at *
          generalize ds.getD 1 0 = d1 at *
          simp [b__law_place, a0, a1, n9, k9, c0, c1, c2', c0', c1', n6, m6, hw1, few6, sx, e1, e2, few2, Pl.d, hB]
        · obtain ⟨k, hk, rfl⟩ := List.mem_map.mp hb'
          have hk := List.mem_range.mp hk
          refine ⟨cc _ ?_, Nat.mod_lt _ (by omega)⟩
          have : cs.getD k 0 = cs[k]'(by omega) := by simp [show k < cs.length by omega]
          rw [this]
          exact List.getElem_mem _
theorem chain_eq {ds : List Nat} (h : Drn ds) (hl : 99 ≤ ds.length) : ∃ g : List Pl, m__law_chain [.list (il ds)] = some (.own (g.map Pl.d)) ∧ WfCh g ∧ 1 ≤ g.length ∧ g.length ≤ 7 := by
  unfold m__law_chain
  rw [fnD_eq (by rfl)]
  have a0 : atI (il ds) 0 = some (.int ((ds.getD 0 0 : Nat) : Int)) := atI_d (i := 0) (by omega)
  have n7 : ∀ i, Dn.NzOk i 7 := nzN 7 (by decide)
  have m7 : ((ds.getD 0 0 : Nat) : Int).fmod 7 = ((ds.getD 0 0 % 7 : Nat) : Int) := fmodN _ 7 (by decide)
  have h7 := Nat.mod_lt (ds.getD 0 0) (show 0 < 7 by decide)
  obtain ⟨many, hm⟩ : ∃ many, many = 1 + ds.getD 0 0 % 7 := ⟨_, rfl⟩
  have ir : Dn.InR (many : Int) := inR_of (by omega) (by omega)
  have pls : ∀ k, k < many → ∃ p : Pl, m__law_place [.list (il ((ds.drop (1 + 14 * k)).take 14)), .int (many : Int)] = some (.val p.d) ∧ WfC many p := fun k hk =>
    place_eq (drn_sub h _ _) (by simp; omega) many (by omega) (by omega)
  have ex : ∃ g : List Pl, g.length = many ∧ ∀ k, k < many → m__law_place [.list (il ((ds.drop (1 + 14 * k)).take 14)), .int (many : Int)] = some (.val (g.getD k .lose).d) ∧ WfC many (g.getD k .lose) := by
    have : ∀ n, n ≤ many → ∃ g : List Pl, g.length = n ∧ ∀ k, k < n → m__law_place [.list (il ((ds.drop (1 + 14 * k)).take 14)), .int (many : Int)] = some (.val (g.getD k .lose).d) ∧ WfC many (g.getD k .lose) := fun n => by
      induction n with
      | zero => exact fun _ => ⟨[], rfl, fun k hk => by omega⟩
      | succ n ih =>
        intro hn
        obtain ⟨g, g1, g2⟩ := ih (by omega)
        obtain ⟨p, p1, p2⟩ := pls n (by omega)
        refine ⟨g ++ [p], by simp [g1], fun k hk => ?_⟩
        by_cases q : k < n
        · have : (g ++ [p]).getD k .lose = g.getD k .lose := by simp [List.getElem?_append, g1, q]
          rw [this]
          exact g2 k q
        · have hk : k = n := by omega
          subst hk
          have : (g ++ [p]).getD k .lose = p := by simp [List.getElem?_append, g1]
          rw [this]
          exact ⟨p1, p2⟩
    exact this many (Nat.le_refl _)
  obtain ⟨g, gl, gp⟩ := ex
  have e1 : b__law_chain_1 [.val (.list (il ds)), .val (.int (many : Int)), .no] = some (.own (g.map Pl.d)) := by
    unfold b__law_chain_1
    rw [eLc_map nI (fun k => (g.getD k .lose).d) (xs := List.range many) (by simp [ir, ints0]) (by simp; omega) fun k hk => ?_]
    · rw [← gl]
      congr 2
      refine List.ext_getElem? fun i => ?_
      by_cases hi : i < g.length <;> simp [hi]
    · have hk := List.mem_range.mp hk
      have p := (gp k hk).1
      have sx := sx_il ds (1 + 14 * k) (15 + 14 * k) (by omega) (by omega)
      have ed : 15 + 14 * k - (1 + 14 * k) = 14 := by omega
      rw [ed] at sx
      have ec1 : ((1 + 14 * k : Nat) : Int) = 1 + 14 * (k : Int) := by omega
      have ec2 : ((15 + 14 * k : Nat) : Int) = 15 + 14 * (k : Int) := by omega
      rw [ec1, ec2] at sx
      have m14 : Dn.MulOk 14 (k : Int) := .inl (by decide)
      generalize il ((ds.drop (1 + 14 * k)).take 14) = L2 at *
      generalize (g.getD k .lose).d = X at *
      generalize il ds = L at *
      simp [elD, m14, sx, p]
  refine ⟨g, ?_, fun p hp => ?_, by omega, by omega⟩
  · have ec : (1 : Int) + ((ds.getD 0 0 % 7 : Nat) : Int) = (many : Int) := by omega
    generalize il ds = L at *
    generalize ds.getD 0 0 % 7 = v at *
    generalize ds.getD 0 0 = d0 at *
    simp [b__law_chain, a0, n7, m7, ec, e1]
  · obtain ⟨i, hi, rfl⟩ := List.mem_iff_getElem.mp hp
    have := (gp i (by omega)).2
    have e : g.getD i .lose = g[i] := by simp [hi]
    rw [e] at this
    rw [gl]
    exact this
end Law
namespace Law
open PySem PySem.Spec PyProof.Rows L2 Dn
/-! Pc3: chains with twins -/
theorem atI_last {α : Type} (xs : List α) (x : α) : atI (xs ++ [x]) (-1) = some x := by
  have h : ixN (xs ++ [x]).length (-1) = some xs.length := by
    unfold ixN
    simp
    omega
  unfold atI
  rw [h]
  simp
theorem Pl.at0 (x : Pl) : gIx x.d (.int 0) = some (.val (.str x.k)) := by cases x <;> simp [Pl.d, Pl.k]
theorem WfC.up {n m : Nat} {p : Pl} (h : WfC n p) (hn : n ≤ m) (hd : ∀ bs, p ≠ .draw bs) : WfC m p := by
  cases p with
  | draw bs => exact absurd rfl (hd bs)
  | ours xs => exact h
  | theirs xs => exact h
  | rew c y => exact ⟨h.1, Nat.lt_of_lt_of_le h.2 hn⟩
  | fin => trivial
  | lose => trivial
end Law
namespace Law
open PySem PySem.Spec PyProof.Rows L2 Dn
/-! Pc4: branches of a chain's place, chances into places -/
variable {g : List Pl} {p : Nat} {x : Pl}
def brs : Pl → List (Rat × Nat)
  | .draw bs => bs
  | .rew _ y => [(1, y)]
  | _ => []
theorem brs_len {n : Nat} (W : WfC n x) : (brs x).length ≤ 6 := by
  cases x with
  | draw bs => exact W.2.1
  | ours xs => cases W
  | theirs xs => cases W
  | rew c y => simp [brs]
  | fin => simp [brs]
  | lose => simp [brs]
theorem brs_bt {n : Nat} (W : WfC n x) : ∀ b ∈ brs x, Bt 5 b.1 ∧ b.2 < n := by
  cases x with
  | draw bs => exact fun b hb => ⟨(W.2.2.1 b hb).1.bt, (W.2.2.1 b hb).2⟩
  | ours xs => cases W
  | theirs xs => cases W
  | rew c y => intro b hb; rw [List.mem_singleton.mp hb]; exact ⟨.one (by decide), W.2⟩
  | fin => intro b hb; cases hb
  | lose => intro b hb; cases hb
theorem targets_chain {n : Nat} (W : WfC n x) (hp : g[p]? = some x) : m_targets [gd g, .int (p : Int)] = some (.own (il ((brs x).map (·.2)))) := by
  unfold m_targets
  rw [fnD_eq (by rfl)]
  have h1 := atI_map (f := Pl.d) hp
  have few0 : Dn.Few 0 := by simp
  have few1 : Dn.Few 1 := by simp
  have h0 := Pl.at0 x
  cases x with
  | draw bs =>
    have e1 : b_targets_1 [.val (gd g), .val (.int (p : Int)), .val (Pl.draw bs).d, .no] = some (.own (il (bs.map (·.2)))) := by
      unfold b_targets_1
      rw [eLc_map brD (fun b => nI b.2) (xs := bs) (by simp [Pl.d]) (by have := W.2.1; omega) (fun b hb => by simp [elD]), il, List.map_map]
      rfl
    have h0 : gIx (Pl.draw bs).d (.int 0) = some (.val (.str "draw")) := h0
    show _ = some (R.own (il (bs.map (·.2))))
    generalize (Pl.draw bs).d = X at *
    simp [-gIx, gIx_list, b_targets, h1, h0, e1]
  | ours xs => cases W
  | theirs xs => cases W
  | rew c y => simp [b_targets, h1, brs, Pl.d, few1]
  | fin => simp [b_targets, h1, brs, Pl.d, few0]
  | lose => simp [b_targets, h1, brs, Pl.d, few0]
theorem law_branches_eq {n : Nat} (W : WfC n x) (hp : g[p]? = some x) : m__law_branches [gd g, .int (p : Int)] = some (.own ((brs x).map brD)) := by
  unfold m__law_branches
  rw [fnD_eq (by rfl)]
  have h1 := atI_map (f := Pl.d) hp
  have few0 : Dn.Few 0 := by simp
  have few1 : Dn.Few 1 := by simp
  have few2 : Dn.Few 2 := by simp
  cases x with
  | draw bs => simp [b__law_branches, h1, brs, Pl.d]
  | ours xs => cases W
  | theirs xs => cases W
  | rew c y => simp [b__law_branches, h1, brs, Pl.d, few1, few2]
  | fin => simp [b__law_branches, h1, brs, Pl.d, few0]
  | lose => simp [b__law_branches, h1, brs, Pl.d, few0]
/-- the chance into places -/
def into (x : Pl) (ps : List Nat) : List Rat := ((brs x).filter fun b => decide (b.2 ∈ ps)).map (·.1)
theorem into_bt {n : Nat} (W : WfC n x) (ps : List Nat) : (∀ r ∈ into x ps, Bt 5 r) ∧ (into x ps).length ≤ 6 := by
  refine ⟨fun r hr => ?_, ?_⟩
  · obtain ⟨b, hb, rfl⟩ := List.mem_map.mp hr
    exact (brs_bt W b (List.mem_filter.mp hb).1).1
  · unfold into
    rw [List.length_map]
    exact Nat.le_trans (List.length_filter_le _ _) (brs_len W)
theorem sum_pre {xs pre post : List Rat} {x : Rat} (h : ∀ r ∈ xs, Bt 5 r) (hl : xs.length ≤ 6) (e : xs = pre ++ x :: post) : Bt 4000 (sumR pre) ∧ Bt 4000 x := by
  refine ⟨(sumR_bt (k := 5) fun y hy => h y (by rw [e]; exact List.mem_append_left _ hy)).mono ?_, (h x (by rw [e]; simp)).mono (by decide)⟩
  have : pre.length ≤ xs.length := by rw [e]; simp
  omega
theorem sum5 {xs : List Rat} (h : ∀ r ∈ xs, Bt 5 r) (hl : xs.length ≤ 6) : Bt 4000 (sumR xs) := (sumR_bt (k := 5) h).mono (by omega)
/-- the kind of a place -/
def kindD (x : Pl) : PyData := match x with
  | .rew c _ => .tuple [.str "reward", qd c]
  | x => .tuple [.str x.k]
end Law
/-! Gq: data of a known size is equal to itself -/
namespace Dn
open PySem PySem.Spec PyProof.Rows L2
variable {k w : Nat} {d : PyData}
theorem Wd.eqv (h : Wd k w d) : PyData.eqv d d = true := PySem.SeqAt.eqv_refl _ h.1
theorem Wd.eq (h : Wd k w d) (hk : k ≤ 64) : gEq d d = some (.val (.bool true)) := by
  unfold gEq
  rw [if_pos ⟨h.shp hk, h.shp hk⟩, h.eqv]
theorem Wd.ne (h : Wd k w d) (hk : k ≤ 64) : gNe d d = some (.val (.bool false)) := by
  unfold gNe
  rw [if_pos ⟨h.shp hk, h.shp hk⟩, h.eqv]
  rfl
theorem Wd.eqT (h : Wd k w d) (hk : k ≤ 64) : gEqT d d = some (.val (.bool true)) := by
  have q := h.eq hk
  cases d <;> first | exact q | simp
theorem Wd.neT (h : Wd k w d) (hk : k ≤ 64) : gNeT d d = some (.val (.bool false)) := by
  have q := h.ne hk
  cases d <;> first | exact q | simp
theorem wd_ints {ms : List Int} (h : ∀ m ∈ ms, m.natAbs < 10 ^ 12) : Wd 1 (ms.length * 41) (.list (ms.map .int)) := by
  have := wd_list (k := 0) (w := 40) (ds := ms.map .int) fun d hd => by
    obtain ⟨m, hm, rfl⟩ := List.mem_map.mp hd
    exact wd_int (h m hm)
  rwa [List.length_map] at this
end Dn
/-! Bz: loops over the store as one equation. -/
namespace Bn
open PySem PySem.Spec PyProof.Rows L2 Dn
theorem fnB_eq {N n : Nat} {f : BF} {as : List AV} {s : Sto} (h : as.length = n) : fnB N n f as s = resB (f (startB N n as) s) := by
  unfold fnB; rw [if_pos h]
theorem fnXB_eq {N n : Nat} {f : BF} {ds : List PyData} (h : ds.length = n) : fnXB N n f ds = resX (resB (f (startB N n (ds.map .d)) [])) := by
  unfold fnXB; rw [if_pos h]
theorem fnDB_eq {N n : Nat} {f : BF} {ds : List PyData} (h : ds.length = n) : fnDB N n f ds = resD (resX (resB (f (startB N n (ds.map .d)) []))) := by
  unfold fnDB; rw [if_pos h]
@[simp] theorem resD_rt {r : R} : resD (some (.rt r)) = some r := rfl
@[simp] theorem avD_d {s : Sto} {d : PyData} : avD s (.d d) = some d := rfl
@[simp] theorem avD_w {s : Sto} {v : V} : avD s (.w v) = none := rfl
theorem avD_c {s : Sto} {i : Nat} : avD s (.c i) = match s[i]? with
    | some (.frz d) => some d
    | _ => none := rfl
@[simp] theorem dp_d {s : Sto} {d : PyData} : dp s (.d d) = some d := rfl
theorem dp_ld {s : Sto} {i : Nat} {ds : List PyData} (h : s[i]? = some (.ld ds)) : dp s (.c i) = some (.list ds) := by unfold dp; simp only [dpN, h]
theorem dp_frz {s : Sto} {i : Nat} {d : PyData} (h : s[i]? = some (.frz d)) : dp s (.c i) = some d := by unfold dp; simp only [dpN, h]
theorem dp_lst {s : Sto} {i : Nat} {vs : List AV} (h : s[i]? = some (.lst vs)) : dp s (.c i) = (mapO (dpN s 5) vs).bind fun ds => some (.list ds) := by unfold dp; simp only [dpN, h]
theorem dp_tup {s : Sto} {i : Nat} {vs : List AV} (h : s[i]? = some (.tup vs)) : dp s (.c i) = (mapO (dpN s 5) vs).bind fun ds => some (.tuple ds) := by unfold dp; simp only [dpN, h]
theorem dpN_ld {s : Sto} {k i : Nat} {ds : List PyData} (h : s[i]? = some (.ld ds)) : dpN s (k + 1) (.c i) = some (.list ds) := by simp only [dpN, h]
theorem dpN_frz {s : Sto} {k i : Nat} {d : PyData} (h : s[i]? = some (.frz d)) : dpN s (k + 1) (.c i) = some d := by simp only [dpN, h]
@[simp] theorem dpN_d {s : Sto} {k : Nat} {d : PyData} : dpN s k (.d d) = some d := by cases k <;> rfl
@[simp] theorem mapO_nil {α β : Type} {f : α → Option β} : mapO f [] = some [] := rfl
@[simp] theorem mapO_cons {α β : Type} {f : α → Option β} {a : α} {as : List α} : mapO f (a :: as) = (f a).bind fun b => (mapO f as).bind fun bs => some (b :: bs) := rfl
theorem mapO_map {α β γ : Type} {f : α → Option β} {g : γ → α} {h : γ → β} : ∀ {xs : List γ}, (∀ x ∈ xs, f (g x) = some (h x)) → mapO f (xs.map g) = some (xs.map h)
  | [], _ => rfl
  | x :: xs, e => by
    rw [List.map_cons, mapO_cons, e x (by simp), mapO_map fun y hy => e y (by simp [hy])]
    rfl
@[simp] theorem rdA_nil {s : Sto} : rdA s [] = some [] := rfl
@[simp] theorem rdA_cons {s : Sto} {a : AV} {as : List AV} : rdA s (a :: as) = (avD s a).bind fun b => (rdA s as).bind fun bs => some (b :: bs) := rfl
@[simp] theorem dpA_nil {s : Sto} : dpA s [] = some [] := rfl
@[simp] theorem dpA_cons {s : Sto} {a : AV} {as : List AV} : dpA s (a :: as) = (dp s a).bind fun b => (dpA s as).bind fun bs => some (b :: bs) := rfl
theorem rdA_data {s : Sto} {ds : List PyData} : rdA s (ds.map .d) = some ds := by
  have := mapO_map (f := avD s) (g := AV.d) (h := id) (xs := ds) (fun _ _ => rfl)
  rw [List.map_id] at this
  exact this
@[simp] theorem frz_d {s : Sto} {d : PyData} : frz s (.d d) = some s := rfl
theorem frz_ld {s : Sto} {i : Nat} {ds : List PyData} (h : s[i]? = some (.ld ds)) : frz s (.c i) = some (s.set i (.frz (.list ds))) := by unfold frz; simp only [frzN, h]
theorem frz_frz {s : Sto} {i : Nat} {d : PyData} (h : s[i]? = some (.frz d)) : frz s (.c i) = some s := by unfold frz; simp only [frzN, h]
/-- the new list of data is frozen at once -/
theorem bFz_own {f : BE} {env : Ev} {s s1 : Sto} {ds : List PyData} (h : f env s = some (.ok (.c s1.length) (s1 ++ [.ld ds]))) : bFz f env s = some (.ok (.d (.list ds)) (s1 ++ [.frz (.list ds)])) := by
  have e1 : (s1 ++ [Ce.ld ds])[s1.length]? = some (.ld ds) := by simp
  simp only [bFz, h, bB_ok, frz_ld e1, Option.bind_some]
  have e2 : (s1 ++ [Ce.ld ds]).set s1.length (.frz (.list ds)) = s1 ++ [.frz (.list ds)] := by simp
  rw [e2, avD_c]
  simp
@[simp] theorem dnS_d {s : Sto} {d : PyData} : dnS s (.v (.d d)) = .val d := rfl
@[simp] theorem dnS_un {s : Sto} : dnS s .un = .no := rfl
@[simp] theorem dnS_c {s : Sto} {i : Nat} : dnS s (.v (.c i)) = match avD s (.c i) with
    | some d => .val d
    | none => .no := rfl
@[simp] theorem pkS_d {s : Sto} {d : PyData} : pkS s (.v (.d d)) = .val d := rfl
@[simp] theorem pkS_un {s : Sto} : pkS s .un = .no := rfl
theorem pkS_c {s : Sto} {i : Nat} {d : PyData} (h : dp s (.c i) = some d) : pkS s (.v (.c i)) = .val d := by simp only [pkS, h]
def nxtB : Option OutB → Option (Ev × Sto)
  | some (.nx e s) => some (e, s)
  | some (.ct e s) => some (e, s)
  | _ => none
@[simp] theorem nxtB_nx {e : Ev} {s : Sto} : nxtB (some (.nx e s)) = some (e, s) := rfl
@[simp] theorem nxtB_ct {e : Ev} {s : Sto} : nxtB (some (.ct e s)) = some (e, s) := rfl
theorem turnB_nxt {o : Option OutB} {e : Ev} {s : Sto} {k : BF} (h : nxtB o = some (e, s)) : turnB o k = k e s := by
  cases o with
  | none => cases h
  | some x =>
    cases x with
    | nx e' s' => cases h; rfl
    | ct e' s' => cases h; rfl
    | rt r o => cases h
    | bk e' s' => cases h
    | ex x e' s' => cases h
theorem forB_wp {α : Type} {key : Option Nat} {its : List AV} {g : BG} {body : BF} (enc : α → AV) (P : List α → Ev → Sto → Prop) {all : List α} {env : Ev} {s : Sto} (h : P [] env s)
    (ok : ∀ pre post env s, all = pre ++ post → P pre env s → okK key its s)
    (turn : ∀ pre a post env s, all = pre ++ a :: post → P pre env s → ∃ e2 s2, nxtB ((g (enc a) env s).bind fun e1 => body e1 s) = some (e2, s2) ∧ P (pre ++ [a]) e2 s2) :
    ∃ e s', forB key its g body (all.map enc) env s = some (.nx e s') ∧ P all e s' := by
  suffices H : ∀ (xs pre : List α) (env : Ev) (s : Sto), all = pre ++ xs → P pre env s → ∃ e s', forB key its g body (xs.map enc) env s = some (.nx e s') ∧ P all e s' from H all [] env s rfl h
  intro xs
  induction xs with
  | nil =>
    intro pre env s e h
    have := ok pre [] env s e h
    refine ⟨env, s, ?_, by rw [e, List.append_nil]; exact h⟩
    show (if okK key its s then some (OutB.nx env s) else none) = _
    rw [if_pos this]
  | cons a xs ih =>
    intro pre env s e h
    have o := ok pre (a :: xs) env s e h
    obtain ⟨e2, s2, h1, h2⟩ := turn pre a xs env s e h
    obtain ⟨e', s', h3, h4⟩ := ih (pre ++ [a]) e2 s2 (by rw [e, List.append_cons]) h2
    refine ⟨e', s', ?_, h4⟩
    rw [List.map_cons]
    show (if okK key its s then (g (enc a) env s).bind fun e1 => turnB (body e1 s) (forB key its g body (xs.map enc)) else none) = _
    rw [if_pos o]
    cases q : g (enc a) env s with
    | none => rw [q] at h1; cases h1
    | some e1 =>
      rw [q] at h1
      have h1 : nxtB (body e1 s) = some (e2, s2) := h1
      rw [Option.bind_some, turnB_nxt h1, h3]
/-- with a way out: the first element at which stop gives an outcome -/
theorem forB_stop {α : Type} {key : Option Nat} {its : List AV} {g : BG} {body : BF} (enc : α → AV) (P : List α → Ev → Sto → Prop) (Z : OutB → Prop) {all : List α} {env : Ev} {s : Sto} (h : P [] env s)
    (ok : ∀ pre post env s, all = pre ++ post → P pre env s → okK key its s)
    (turn : ∀ pre a post env s, all = pre ++ a :: post → P pre env s → (∃ e2 s2, nxtB ((g (enc a) env s).bind fun e1 => body e1 s) = some (e2, s2) ∧ P (pre ++ [a]) e2 s2) ∨ ∃ o, ((g (enc a) env s).bind fun e1 => body e1 s) = some o ∧ turnB (some o) (fun _ _ => none) = some o ∧ Z o) :
    (∃ e s', forB key its g body (all.map enc) env s = some (.nx e s') ∧ P all e s') ∨ ∃ o, forB key its g body (all.map enc) env s = some o ∧ Z o := by
  suffices H : ∀ (xs pre : List α) (env : Ev) (s : Sto), all = pre ++ xs → P pre env s → (∃ e s', forB key its g body (xs.map enc) env s = some (.nx e s') ∧ P all e s') ∨ ∃ o, forB key its g body (xs.map enc) env s = some o ∧ Z o from H all [] env s rfl h
  intro xs
  induction xs with
  | nil =>
    intro pre env s e h
    have := ok pre [] env s e h
    refine .inl ⟨env, s, ?_, by rw [e, List.append_nil]; exact h⟩
    show (if okK key its s then some (OutB.nx env s) else none) = _
    rw [if_pos this]
  | cons a xs ih =>
    intro pre env s e h
    have o := ok pre (a :: xs) env s e h
    have e0 : forB key its g body ((a :: xs).map enc) env s = (g (enc a) env s).bind fun e1 => turnB (body e1 s) (forB key its g body (xs.map enc)) := by
      show (if okK key its s then (g (enc a) env s).bind fun e1 => turnB (body e1 s) (forB key its g body (xs.map enc)) else none) = _
      rw [if_pos o]
    rw [e0]
    rcases turn pre a xs env s e h with ⟨e2, s2, h1, h2⟩ | ⟨out, h1, h2, hz⟩
    · cases q : g (enc a) env s with
      | none => rw [q] at h1; cases h1
      | some e1 =>
        rw [q] at h1
        have h1 : nxtB (body e1 s) = some (e2, s2) := h1
        rw [Option.bind_some, turnB_nxt h1]
        exact ih (pre ++ [a]) e2 s2 (by rw [e, List.append_cons]) h2
    · refine .inr ⟨out, ?_, hz⟩
      cases q : g (enc a) env s with
      | none => rw [q] at h1; cases h1
      | some e1 =>
        rw [q, Option.bind_some] at h1
        rw [Option.bind_some, h1]
        cases out with
        | nx _ _ => cases h2
        | ct _ _ => cases h2
        | bk _ _ => cases h2
        | rt _ _ => rfl
        | ex _ _ _ => rfl
/-- one element of a comprehension -/
noncomputable def elB (vs : List Nat) (g : BG) (c : BT) (f : BE) (env : Ev) (a : AV) (s : Sto) : Option (Option AV × Sto) := (g a (wipeB env vs) s).bind fun e1 => match c e1 s with
      | some (.ok b s1) => if b = true then match f e1 s1 with
          | some (.ok r s2) => some (some r, s2)
          | _ => none
        else some (none, s1)
      | _ => none
theorem lcB_step {key : Option Nat} {all : List AV} {vs : List Nat} {g : BG} {c : BT} {f : BE} {env : Ev} {a : AV} {as : List AV} {s s1 : Sto} {r : Option AV} (ok : okK key all s) (h : elB vs g c f env a s = some (r, s1)) :
    lcB key all vs g c f env (a :: as) s = (lcB key all vs g c f env as s1).bind fun p => some (r.toList ++ p.1, p.2) := by
  show (if okK key all s then (g a (wipeB env vs) s).bind fun e1 => match c e1 s with
      | some (.ok b s1) => if b = true then match f e1 s1 with
          | some (.ok r s2) => (lcB key all vs g c f env as s2).bind fun p => some (r :: p.1, p.2)
          | _ => none
        else lcB key all vs g c f env as s1
      | _ => none
    else none) = _
  rw [if_pos ok]
  unfold elB at h
  cases hg : g a (wipeB env vs) s with
  | none => rw [hg] at h; cases h
  | some e1 =>
    rw [hg, Option.bind_some] at h
    rw [Option.bind_some]
    cases hc : c e1 s with
    | none => rw [hc] at h; cases h
    | some ca =>
      rw [hc] at h
      cases ca with
      | ex _ _ => cases h
      | ok b s2 =>
        cases b with
        | false =>
          have h : some (none, s2) = some (r, s1) := h
          cases h
          show lcB key all vs g c f env as s1 = _
          cases lcB key all vs g c f env as s1 <;> rfl
        | true =>
          have h : (match f e1 s2 with
            | some (.ok r s3) => some (some r, s3)
            | _ => none) = some (r, s1) := h
          show (match f e1 s2 with
            | some (.ok r s3) => (lcB key all vs g c f env as s3).bind fun p => some (r :: p.1, p.2)
            | _ => none) = _
          cases hf : f e1 s2 with
          | none => rw [hf] at h; cases h
          | some fa =>
            rw [hf] at h
            cases fa with
            | ex _ _ => cases h
            | ok x s3 =>
              have h : some (some x, s3) = some (r, s1) := h
              cases h
              rfl
/-- a comprehension as one equation: J tells what has been made -/
theorem lcB_wp {α : Type} {key : Option Nat} {its : List AV} {vs : List Nat} {g : BG} {c : BT} {f : BE} {env : Ev} (enc : α → AV) (J : List α → List AV → Sto → Prop) {all : List α} {s : Sto} (h : J [] [] s)
    (ok : ∀ pre post rs s, all = pre ++ post → J pre rs s → okK key its s)
    (turn : ∀ pre a post rs s, all = pre ++ a :: post → J pre rs s → ∃ r s2, elB vs g c f env (enc a) s = some (r, s2) ∧ J (pre ++ [a]) (rs ++ r.toList) s2) :
    ∃ rs s', lcB key its vs g c f env (all.map enc) s = some (rs, s') ∧ J all rs s' := by
  suffices H : ∀ (xs pre : List α) (rs : List AV) (s : Sto), all = pre ++ xs → J pre rs s → ∃ rs' s', lcB key its vs g c f env (xs.map enc) s = some (rs', s') ∧ J all (rs ++ rs') s' by
    obtain ⟨rs, s', h1, h2⟩ := H all [] [] s rfl h
    exact ⟨rs, s', h1, h2⟩
  intro xs
  induction xs with
  | nil =>
    intro pre rs s e h
    have := ok pre [] rs s e h
    refine ⟨[], s, ?_, by rw [List.append_nil, e, List.append_nil]; exact h⟩
    show (if okK key its s then some (([] : List AV), s) else none) = _
    rw [if_pos this]
  | cons a xs ih =>
    intro pre rs s e h
    have o := ok pre (a :: xs) rs s e h
    obtain ⟨r, s2, h1, h2⟩ := turn pre a xs rs s e h
    obtain ⟨rs', s', h3, h4⟩ := ih (pre ++ [a]) (rs ++ r.toList) s2 (by rw [e, List.append_cons]) h2
    refine ⟨r.toList ++ rs', s', ?_, by rw [← List.append_assoc]; exact h4⟩
    rw [List.map_cons, lcB_step o h1, h3]
    rfl
/-- each item gives data, the store stays -/
theorem lcB_data {α : Type} {key : Option Nat} {its : List AV} {vs : List Nat} {g : BG} {c : BT} {f : BE} {env : Ev} (enc : α → AV) (p : α → Bool) (h : α → PyData) {s : Sto} (ok : okK key its s) :
    ∀ {xs : List α}, (∀ a ∈ xs, elB vs g c f env (enc a) s = some (if p a = true then some (.d (h a)) else none, s)) → lcB key its vs g c f env (xs.map enc) s = some (((xs.filter p).map h).map .d, s)
  | [], _ => by
    show (if okK key its s then some (([] : List AV), s) else none) = _
    rw [if_pos ok]
    rfl
  | a :: xs, e => by
    rw [List.map_cons, lcB_step ok (e a (by simp)), lcB_data enc p h ok fun b hb => e b (by simp [hb])]
    by_cases hp : p a = true
    · rw [if_pos hp, List.filter_cons_of_pos hp]
      rfl
    · rw [if_neg hp, List.filter_cons_of_neg hp]
      rfl
/-- each item gives a new list of data -/
theorem lcB_new {α : Type} {key : Option Nat} {its : List AV} {vs : List Nat} {g : BG} {c : BT} {f : BE} {env : Ev} (enc : α → AV) (h : α → List PyData) {s0 : Sto} :
    ∀ {xs : List α} {t : Sto}, (∀ t, okK key its (s0 ++ t)) → (∀ a ∈ xs, ∀ t, elB vs g c f env (enc a) (s0 ++ t) = some (some (.c (s0 ++ t).length), (s0 ++ t) ++ [.ld (h a)])) →
      lcB key its vs g c f env (xs.map enc) (s0 ++ t) = some ((List.range xs.length).map fun i => .c ((s0 ++ t).length + i), (s0 ++ t) ++ xs.map fun a => .ld (h a))
  | [], t, ok, _ => by
    show (if okK key its (s0 ++ t) then some (([] : List AV), s0 ++ t) else none) = _
    rw [if_pos (ok t)]
    simp
  | a :: xs, t, ok, e => by
    rw [List.map_cons, lcB_step (ok t) (e a (by simp) t), List.append_assoc, lcB_new enc h ok fun b hb => e b (by simp [hb])]
    simp only [Option.bind_some, Option.toList, List.length_cons, List.range_succ_eq_map, List.map_cons, List.map_map, List.append_assoc, List.cons_append, List.nil_append, Nat.add_zero, List.length_append, List.length_nil]
    congr 2
    refine congrArg _ (List.map_congr_left fun i _ => ?_)
    show AV.c _ = AV.c _
    congr 1
    omega
theorem fseq_nx {S T : BF} {env e : Ev} {s s1 : Sto} (h : S env s = some (.nx e s1)) : fSeq S T env s = T e s1 := by
  show bindB (S env s) T = _
  rw [h]
  rfl
theorem run_nxB {S T : BF} {env e : Ev} {s s1 : Sto} {x : Option FX} (h1 : S env s = some (.nx e s1)) (h2 : resX (resB (T e s1)) = x) : resX (resB (fSeq S T env s)) = x := by
  rw [fseq_nx h1]
  exact h2
end Bn
namespace Bn
open PySem PySem.Spec PyProof.Rows L2 Dn
section
variable {f : EF} {fb : BE} {env : Ev} {s s1 : Sto} {ds : List PyData} {d : PyData} {i : Nat} {g : BF}
theorem bP_own (h : f (dn s env) = some (.own ds)) : bP f env s = some (.ok (.c s.length) (s ++ [.ld ds])) := by
  show (f (dn s env)).bind _ = _
  rw [h]
  rfl
theorem bP_val (h : f (dn s env) = some (.val d)) : bP f env s = some (.ok (.d d) s) := by
  show (f (dn s env)).bind _ = _
  rw [h]
  rfl
theorem bFzP_own (h : f (dn s env) = some (.own ds)) : bFz (bP f) env s = some (.ok (.d (.list ds)) (s ++ [.frz (.list ds)])) := bFz_own (bP_own h)
theorem set_fzP (h : f (dn s env) = some (.own ds)) : fSet i (bFz (bP f)) env s = some (.nx (env.set i (.v (.d (.list ds)))) (s ++ [.frz (.list ds)])) := by
  show bS (bFz (bP f) env s) env _ = _
  rw [bFzP_own h]
  rfl
theorem set_P (h : f (dn s env) = some (.val d)) : fSet i (bP f) env s = some (.nx (env.set i (.v (.d d))) s) := by
  show bS (bP f env s) env _ = _
  rw [bP_val h]
  rfl
theorem set_Pown (h : f (dn s env) = some (.own ds)) : fSet i (bP f) env s = some (.nx (env.set i (.v (.c s.length))) (s ++ [.ld ds])) := by
  show bS (bP f env s) env _ = _
  rw [bP_own h]
  rfl
theorem set_of {a : AV} (h : fb env s = some (.ok a s1)) : fSet i fb env s = some (.nx (env.set i (.v a)) s1) := by
  show bS (fb env s) env _ = _
  rw [h]
  rfl
theorem set_fz (h : fb env s = some (.ok (.c s1.length) (s1 ++ [.ld ds]))) : fSet i (bFz fb) env s = some (.nx (env.set i (.v (.d (.list ds)))) (s1 ++ [.frz (.list ds)])) := by
  show bS (bFz fb env s) env _ = _
  rw [bFz_own h]
  rfl
theorem fFrz_own (h : env[i]? = some (.v (.c s.length))) : fFrz i g env (s ++ [.ld ds]) = g (env.set i (.v (.d (.list ds)))) (s ++ [.frz (.list ds)]) := by
  have e1 : (s ++ [Ce.ld ds])[s.length]? = some (.ld ds) := by simp
  have e2 : (s ++ [Ce.ld ds]).set s.length (.frz (.list ds)) = s ++ [.frz (.list ds)] := by simp
  simp only [fFrz, h, frz_ld e1, Option.bind_some, e2, avD_c]
  simp
theorem fFrz_data (h : env[i]? = some (.v (.d d))) (hs : env.set i (.v (.d d)) = env) : fFrz i g env s = g env s := by
  simp only [fFrz, h, frz_d, Option.bind_some, avD_d, hs]
/-- a call of a def with a state -/
theorem callS_own {m : List PyData → List PyData → Option FR} {t : BA} {bs : List AV} {as : List PyData} {k : Nat} {st es ds : List PyData} (ht : t env s = some (.ok (.c k :: bs) s1)) (hk : s1[k]? = some (.ld st)) (hr : rdA s1 bs = some as) (hm : m st as = some (.rt (.own ds) es)) :
    bCallS m t env s = some (.ok (.c s1.length) ((s1.set k (.ld es)) ++ [.ld ds])) := by
  show bB (t env s) _ = _
  rw [ht, bB_ok]
  show opS s1 (.c k :: bs) m = _
  unfold opS
  dsimp only
  rw [hk]
  dsimp only
  rw [hr, Option.bind_some, hm]
  simp
theorem callS_val {m : List PyData → List PyData → Option FR} {t : BA} {bs : List AV} {as : List PyData} {k : Nat} {st es : List PyData} (ht : t env s = some (.ok (.c k :: bs) s1)) (hk : s1[k]? = some (.ld st)) (hr : rdA s1 bs = some as) (hm : m st as = some (.rt (.val d) es)) :
    bCallS m t env s = some (.ok (.d d) (s1.set k (.ld es))) := by
  show bB (t env s) _ = _
  rw [ht, bB_ok]
  show opS s1 (.c k :: bs) m = _
  unfold opS
  dsimp only
  rw [hk]
  dsimp only
  rw [hr, Option.bind_some, hm]
  rfl
/-- a comprehension of data -/
theorem bLc_data {α : Type} {vs : List Nat} {it : BI} {gt : BG} {c : BT} {key : Option Nat} (enc : α → AV) (p : α → Bool) (h : α → PyData) {xs : List α} (hi : it env s = some (.ok (xs.map enc, key) s1)) (hl : xs.length ≤ 100000) (ok : okK key (xs.map enc) s1)
    (he : ∀ a ∈ xs, elB vs gt c fb env (enc a) s1 = some (if p a = true then some (.d (h a)) else none, s1)) : bLc vs it gt c fb env s = some (.ok (.c s1.length) (s1 ++ [.ld ((xs.filter p).map h)])) := by
  show bB (it env s) _ = _
  rw [hi, bB_ok]
  have ft : Dn.Fits (xs.map enc).length := by rw [List.length_map]; exact hl
  dsimp only
  rw [if_pos ft, lcB_data enc p h ok he, Option.bind_some]
  show some (mkL _ s1) = _
  unfold mkL
  rw [rdA_data]
theorem fB_for {it : BI} {gt : BG} {body : BF} {its : List AV} {key : Option Nat} {o : OutB} (hi : it env s = some (.ok (its, key) s1)) (h : forB key its gt body its env s1 = some o) : fFor it gt body env s = some o := by
  show bS (it env s) env _ = _
  rw [hi]
  exact h
end
end Bn
namespace Bn
open PySem PySem.Spec PyProof.Rows L2 Dn
theorem fIf_t {c : BT} {f g : BF} {env : Ev} {s s1 : Sto} (h : c env s = some (.ok true s1)) : fIf c f g env s = f env s1 := by
  show bS (c env s) env _ = _
  rw [h]
  rfl
theorem fIf_f {c : BT} {f g : BF} {env : Ev} {s s1 : Sto} (h : c env s = some (.ok false s1)) : fIf c f g env s = g env s1 := by
  show bS (c env s) env _ = _
  rw [h]
  rfl
theorem bPT_of {c : TF} {env : Ev} {s : Sto} {b : Bool} (h : c (dn s env) = some b) : bPT c env s = some (.ok b s) := by
  show (c (dn s env)).bind _ = _
  rw [h]
  rfl
theorem bPkT_of {c : TF} {env : Ev} {s : Sto} {b : Bool} (h : c (pk s env) = some b) : bPkT c env s = some (.ok b s) := by
  show (c (pk s env)).bind _ = _
  rw [h]
  rfl
end Bn
/-! Tr0: what can be reached in a graph on 0 .. n-1; two ways to find it -/
namespace Dn
variable {tg : Nat → List Nat} {s n : Nat}
inductive Rch (tg : Nat → List Nat) (s : Nat) : Nat → Prop
  | refl : Rch tg s s
  | step {p x : Nat} : Rch tg s p → x ∈ tg p → Rch tg s x
/-- found so far -/
structure Fnd (tg : Nat → List Nat) (s n : Nat) (ks : List Nat) : Prop where
  nd : ks.Nodup
  st : s ∈ ks
  lt : ∀ k ∈ ks, k < n
  rc : ∀ k ∈ ks, Rch tg s k
def addL (ks : List Nat) (x : Nat) : List Nat := if x ∈ ks then ks else ks ++ [x]
theorem mem_addL {ks : List Nat} {x y : Nat} : y ∈ addL ks x ↔ y ∈ ks ∨ y = x := by
  unfold addL
  split
  · rename_i h
    exact ⟨.inl, fun q => q.elim id fun e => e ▸ h⟩
  · simp
theorem nodup_len : ∀ {ks ms : List Nat}, ks.Nodup → (∀ k ∈ ks, k ∈ ms) → ks.length ≤ ms.length
  | [], _, _, _ => Nat.zero_le _
  | k :: ks, ms, h, hs => by
    obtain ⟨h1, h2⟩ := List.nodup_cons.mp h
    have hk := hs k (by simp)
    have := nodup_len (ms := ms.erase k) h2 fun x hx => (List.mem_erase_of_ne (fun e => by subst e; exact h1 hx)).mpr (hs x (by simp [hx]))
    rw [List.length_erase_of_mem hk] at this
    have := List.length_pos_of_mem hk
    simp
    omega
theorem Fnd.len {ks : List Nat} (h : Fnd tg s n ks) : ks.length ≤ n := by
  have := nodup_len h.nd fun k hk => List.mem_range.mpr (h.lt k hk)
  rwa [List.length_range] at this
theorem Fnd.add {ks : List Nat} {p x : Nat} (h : Fnd tg s n ks) (hp : p ∈ ks) (hx : x ∈ tg p) (hn : x < n) : Fnd tg s n (addL ks x) := by
  refine ⟨?_, mem_addL.mpr (.inl h.st), fun k hk => ?_, fun k hk => ?_⟩
  · unfold addL
    split
    · exact h.nd
    · rename_i q
      refine List.nodup_append.mpr ⟨h.nd, by simp, fun a ha b hb => ?_⟩
      cases List.mem_singleton.mp hb
      exact fun e => q (e ▸ ha)
  · rcases mem_addL.mp hk with q | q
    · exact h.lt k q
    · exact q ▸ hn
  · rcases mem_addL.mp hk with q | q
    · exact h.rc k q
    · exact q ▸ (h.rc p hp).step hx
/-- closed: nothing more is to be found -/
theorem Fnd.all {ks : List Nat} (h : Fnd tg s n ks) (hc : ∀ p ∈ ks, ∀ x ∈ tg p, x ∈ ks) (k : Nat) : k ∈ ks ↔ Rch tg s k := by
  refine ⟨h.rc k, fun r => ?_⟩
  induction r with
  | refl => exact h.st
  | step _ hx ih => exact hc _ ih _ hx
theorem Fnd.one (hn : s < n) : Fnd tg s n [s] := ⟨by simp, by simp, fun k hk => by cases List.mem_singleton.mp hk; exact hn, fun k hk => by cases List.mem_singleton.mp hk; exact .refl⟩
/-- ascending -/
def Asc (tg : Nat → List Nat) (s : Nat) (rs : List Nat) : Prop := rs.Pairwise (· < ·) ∧ ∀ k, k ∈ rs ↔ Rch tg s k
noncomputable def srt (ks : List Nat) : List Nat := ks.mergeSort fun a b => decide (a ≤ b)
theorem srt_perm (ks : List Nat) : (srt ks).Perm ks := List.mergeSort_perm ks _
theorem srt_le (ks : List Nat) : (srt ks).Pairwise (· ≤ ·) := by
  have := List.pairwise_mergeSort (le := fun a b : Nat => decide (a ≤ b)) (fun a b c h1 h2 => by simp at *; omega) (fun a b => by simp; omega) ks
  exact this.imp fun h => by simpa using h
theorem srt_lt {ks : List Nat} (h : ks.Nodup) : (srt ks).Pairwise (· < ·) := by
  have h1 := srt_le ks
  have h2 : (srt ks).Nodup := (srt_perm ks).nodup_iff.mpr h
  exact (List.pairwise_and_iff.mpr ⟨h1, h2⟩).imp fun ⟨a, b⟩ => by omega
theorem Fnd.asc {ks : List Nat} (h : Fnd tg s n ks) (hc : ∀ p ∈ ks, ∀ x ∈ tg p, x ∈ ks) : Asc tg s (srt ks) :=
  ⟨srt_lt h.nd, fun k => ((srt_perm ks).mem_iff).trans (h.all hc k)⟩
theorem Asc.uniq {as bs : List Nat} (h1 : Asc tg s as) (h2 : Asc tg s bs) : as = bs := by
  have e := Bn.sorted_uniq (as := as.map fun a : Nat => (a : Int)) (bs := bs.map fun a : Nat => (a : Int)) (List.pairwise_map.mpr (h1.1.imp fun h => by omega)) (List.pairwise_map.mpr (h2.1.imp fun h => by omega)) fun k => by
    simp only [List.mem_map]
    exact ⟨fun ⟨a, ha, e⟩ => ⟨a, (h2.2 a).mpr ((h1.2 a).mp ha), e⟩, fun ⟨a, ha, e⟩ => ⟨a, (h1.2 a).mpr ((h2.2 a).mp ha), e⟩⟩
  exact List.map_inj_right (fun a b h => by omega) |>.mp e
/-- the program's set, in order -/
theorem sortU_srt {ks : List Nat} (h : ks.Nodup) : Bn.sortU (ks.map fun k : Nat => (k : Int)) = (srt ks).map fun k : Nat => (k : Int) := by
  refine Bn.sortU_eq ⟨List.pairwise_map.mpr ((srt_lt h).imp fun h => by omega), fun k => ?_⟩
  simp only [List.mem_map]
  exact ⟨fun ⟨a, ha, e⟩ => ⟨a, (srt_perm ks).mem_iff.mp ha, e⟩, fun ⟨a, ha, e⟩ => ⟨a, (srt_perm ks).mem_iff.mpr ha, e⟩⟩
theorem sortI_srt (ks : List Nat) : sortI (ks.map fun k : Nat => (k : Int)) = (srt ks).map fun k : Nat => (k : Int) :=
  sortI_eq ((srt_perm ks).map _) (List.pairwise_map.mpr ((srt_le ks).imp fun h => by omega))
/-! a turn of the program: the new ones go to both lists -/
def addW (kw : List Nat × List Nat) (x : Nat) : List Nat × List Nat := if x ∈ kw.1 then kw else (kw.1 ++ [x], kw.2 ++ [x])
structure Wai (tg : Nat → List Nat) (s n : Nat) (ks ws : List Nat) : Prop where
  f : Fnd tg s n ks
  wd : ws.Nodup
  sub : ∀ w ∈ ws, w ∈ ks
  done : ∀ p ∈ ks, p ∈ ws ∨ ∀ x ∈ tg p, x ∈ ks
/-- within the turn of `here`: pre of its targets are through -/
structure WaiT (tg : Nat → List Nat) (s n here : Nat) (pre ks ws : List Nat) : Prop where
  f : Fnd tg s n ks
  wd : ws.Nodup
  sub : ∀ w ∈ ws, w ∈ ks
  hm : here ∈ ks
  done : ∀ p ∈ ks, p ∈ ws ∨ (∀ x ∈ tg p, x ∈ ks) ∨ p = here
  pre : ∀ x ∈ pre, x ∈ ks
theorem Wai.start (hn : s < n) : Wai tg s n [s] [s] := ⟨.one hn, by simp, fun w h => h, fun p h => .inl h⟩
theorem Wai.pop {ks ws : List Nat} {here : Nat} (h : Wai tg s n ks (ws ++ [here])) : WaiT tg s n here [] ks ws := by
  refine ⟨h.f, (List.nodup_append.mp h.wd).1, fun w hw => h.sub w (by simp [hw]), h.sub here (by simp), fun p hp => ?_, fun x hx => by cases hx⟩
  rcases h.done p hp with q | q
  · rcases List.mem_append.mp q with q | q
    · exact .inl q
    · exact .inr (.inr (List.mem_singleton.mp q))
  · exact .inr (.inl q)
theorem WaiT.old {ks ws pre : List Nat} {here x : Nat} (h : WaiT tg s n here pre ks ws) (hx : x ∈ ks) : WaiT tg s n here (pre ++ [x]) ks ws :=
  ⟨h.f, h.wd, h.sub, h.hm, h.done, fun y hy => (List.mem_append.mp hy).elim (h.pre y) fun e => List.mem_singleton.mp e ▸ hx⟩
theorem WaiT.new {ks ws pre : List Nat} {here x : Nat} (h : WaiT tg s n here pre ks ws) (ht : x ∈ tg here) (hn : x < n) (hx : x ∉ ks) : WaiT tg s n here (pre ++ [x]) (ks ++ [x]) (ws ++ [x]) := by
  have f := h.f.add h.hm ht hn
  rw [addL, if_neg hx] at f
  refine ⟨f, List.nodup_append.mpr ⟨h.wd, by simp, fun a ha b hb => ?_⟩, fun w hw => ?_, by simp [h.hm], fun p hp => ?_, fun y hy => ?_⟩
  · cases List.mem_singleton.mp hb
    exact fun e => hx (e ▸ h.sub a ha)
  · rcases List.mem_append.mp hw with q | q
    · exact List.mem_append_left _ (h.sub w q)
    · exact List.mem_append_right _ q
  · rcases List.mem_append.mp hp with q | q
    · rcases h.done p q with r | r | r
      · exact .inl (List.mem_append_left _ r)
      · exact .inr (.inl fun y hy => List.mem_append_left _ (r y hy))
      · exact .inr (.inr r)
    · exact .inl (List.mem_append_right _ q)
  · rcases List.mem_append.mp hy with q | q
    · exact List.mem_append_left _ (h.pre y q)
    · exact List.mem_append_right _ q
theorem WaiT.len {ks ws pre : List Nat} {here : Nat} (h : WaiT tg s n here pre ks ws) : ws.length ≤ n := Nat.le_trans (nodup_len h.wd h.sub) h.f.len
theorem WaiT.fin {ks ws : List Nat} {here : Nat} (h : WaiT tg s n here (tg here) ks ws) : Wai tg s n ks ws := by
  refine ⟨h.f, h.wd, h.sub, fun p hp => ?_⟩
  rcases h.done p hp with q | q | q
  · exact .inl q
  · exact .inr q
  · exact .inr fun x hx => h.pre x (q ▸ hx)
theorem Wai.closed {ks : List Nat} (h : Wai tg s n ks []) : ∀ p ∈ ks, ∀ x ∈ tg p, x ∈ ks := fun p hp => (h.done p hp).elim (fun q => by cases q) id
/-! the law's rounds: `list(found)` is gone through, `found` grows -/
theorem addL_sub {ks : List Nat} {x y : Nat} (h : y ∈ ks) : y ∈ addL ks x := mem_addL.mpr (.inl h)
theorem addL_len {ks : List Nat} {x : Nat} : ks.length ≤ (addL ks x).length := by unfold addL; split <;> simp
/-- a round that begins with k0, gone through `thr`, has found ks -/
structure Rnd (tg : Nat → List Nat) (s n : Nat) (k0 thr ks : List Nat) : Prop where
  f : Fnd tg s n ks
  sub : ∀ k ∈ k0, k ∈ ks
  cov : ∀ p ∈ thr, ∀ x ∈ tg p, x ∈ ks
  len : k0.length ≤ ks.length
  same : ks.length = k0.length → ks = k0
theorem Rnd.start {ks : List Nat} (h : Fnd tg s n ks) : Rnd tg s n ks [] ks := ⟨h, fun _ h => h, fun p hp => by (cases hp), Nat.le_refl _, fun _ => rfl⟩
/-- rounds: after i of them, closed or at least i + 1 found -/
structure Rds (tg : Nat → List Nat) (s n i : Nat) (ks : List Nat) : Prop where
  f : Fnd tg s n ks
  d : (∀ p ∈ ks, ∀ x ∈ tg p, x ∈ ks) ∨ i + 1 ≤ ks.length
theorem Rds.next {ks ks' : List Nat} {i : Nat} (h : Rds tg s n i ks) (r : Rnd tg s n ks ks ks') : Rds tg s n (i + 1) ks' := by
  refine ⟨r.f, ?_⟩
  by_cases e : ks'.length = ks.length
  · have e := r.same e
    subst e
    exact .inl r.cov
  · have := r.len
    rcases h.d with q | q
    · refine .inl fun p hp x hx => ?_
      have h1 := (h.f.all q p)
      have : Rch tg s x := (r.f.rc p hp).step hx
      exact r.sub x ((h.f.all q x).mpr this)
    · exact .inr (by omega)
theorem Rds.closed {ks : List Nat} (h : Rds tg s n n ks) : ∀ p ∈ ks, ∀ x ∈ tg p, x ∈ ks := by
  rcases h.d with q | q
  · exact q
  · have := h.f.len
    omega
end Dn
/-! Rr0: lists of lists of numbers, compared -/
namespace Dn
open PySem PySem.Spec PyProof.Rows L2
/-- lists of lists of numbers, equal to themselves -/
theorem eqv_rows (rows : List (List Nat)) : PyData.eqv (.list (rows.map fun r => .list (il r))) (.list (rows.map fun r => .list (il r))) = true := by
  induction rows with
  | nil => rfl
  | cons r rows ih =>
    show (PyData.eqv (.list (il r)) (.list (il r)) && PyData.eqv (.list (rows.map fun r => PyData.list (il r))) (.list (rows.map fun r => PyData.list (il r)))) = true
    rw [ih, Bool.and_true]
    induction r with
    | nil => rfl
    | cons n r ih =>
      show (PyData.eqv (nI n) (nI n) && PyData.eqv (.list (il r)) (.list (il r))) = true
      rw [ih, Bool.and_true]
      show decide ((n : Int) = (n : Int)) = true
      simp
theorem shp_rows (rows : List (List Nat)) : Shp (.list (rows.map fun r => .list (il r))) := by
  have k1 : ∀ r : List Nat, PyData.canLayAll0 (il r) = true ∧ PyData.depthAll (il r) ≤ 0 := fun r => by
    induction r with
    | nil => exact ⟨rfl, by decide⟩
    | cons n r ih =>
      constructor
      · show (PyData.canLay0 (nI n) && PyData.canLayAll0 (il r)) = true
        rw [ih.1]
        rfl
      · show max (PyData.depth (nI n)) (PyData.depthAll (il r)) ≤ 0
        exact Nat.max_le.mpr ⟨Nat.le_refl 0, ih.2⟩
  have k2 : ∀ rows : List (List Nat), PyData.canLayAll0 (rows.map fun r => PyData.list (il r)) = true ∧ PyData.depthAll (rows.map fun r => PyData.list (il r)) ≤ 1 := fun rows => by
    induction rows with
    | nil => exact ⟨rfl, by decide⟩
    | cons r rows ih =>
      constructor
      · show (PyData.canLay0 (.list (il r)) && PyData.canLayAll0 (rows.map fun r => PyData.list (il r))) = true
        rw [ih.1, Bool.and_true]
        exact (k1 r).1
      · show max (PyData.depthAll (il r) + 1) (PyData.depthAll (rows.map fun r => PyData.list (il r))) ≤ 1
        have := (k1 r).2
        have := ih.2
        omega
  obtain ⟨h1, h2⟩ := k2 rows
  show (PyData.canLay0 (.list _) && decide (PyData.depth (.list _) ≤ 64)) = true
  rw [show PyData.canLay0 (.list (rows.map fun r => PyData.list (il r))) = true from h1, Bool.true_and]
  exact decide_eq_true (by show PyData.depthAll _ + 1 ≤ 64; omega)
theorem eqT_rows (rows : List (List Nat)) : gEqT (.list (rows.map fun r => .list (il r))) (.list (rows.map fun r => .list (il r))) = some (.val (.bool true)) := by
  show gEq _ _ = _
  unfold gEq
  rw [if_pos ⟨shp_rows rows, shp_rows rows⟩, eqv_rows]
theorem neT_rows (rows : List (List Nat)) : gNeT (.list (rows.map fun r => .list (il r))) (.list (rows.map fun r => .list (il r))) = some (.val (.bool false)) := by
  show gNe _ _ = _
  unfold gNe
  rw [if_pos ⟨shp_rows rows, shp_rows rows⟩, eqv_rows]
  rfl
end Dn
namespace Law
open PySem PySem.Spec PyProof.Rows L2 Dn Bn
/-! Tr1: the program's reached -/
variable {g : List Pl}
abbrev kI (ks : List Nat) : List Int := ks.map fun k : Nat => (k : Int)
theorem mem_kI {ks : List Nat} {x : Nat} : (x : Int) ∈ kI ks ↔ x ∈ ks :=
  ⟨fun h => by
    obtain ⟨a, ha, e⟩ := List.mem_map.mp h
    have : a = x := by omega
    exact this ▸ ha, fun h => List.mem_map.mpr ⟨x, h, rfl⟩⟩
theorem setFits {n : Nat} (h : n ≤ 1000) : SetFits n := by
  unfold SetFits
  have : scanBound = 4096 := rfl
  omega
abbrev tgO (g : List Pl) (p : Nat) : List Nat := (g.getD p .lose).tg
/-- what the program's targets gives -/
structure Tgt (g : List Pl) : Prop where
  t : ∀ (p : Nat) (x : Pl), g[p]? = some x → m_targets [gd g, .int (p : Int)] = some (.own (il x.tg))
  lt : ∀ x ∈ g, ∀ y ∈ x.tg, y < g.length
  few : ∀ x ∈ g, x.tg.length ≤ 1000
  len : g.length ≤ 60
theorem Tgt.lt' (T : Tgt g) {p : Nat} (hp : p < g.length) : ∀ y ∈ tgO g p, y < g.length := fun y hy => T.lt _ (Dn.getD_mem hp) y hy
theorem reached_turn (T : Tgt g) {s p : Nat} (hp : p < g.length) {ks ws : List Nat} (h : WaiT (tgO g) s g.length p [] ks ws) (a1 a5 : Sg) :
    ∃ ks' ws' a5', fFor (biP (iS (eCall m_targets (aCons (eVar 0) (aCons (eVar 4) aNil))))) (btName 5) b_reached_1 [.v (.d (gd g)), a1, .v (.c 0), .v (.c 1), .v (.d (nI p)), a5] [.set (kI ks), .ld (il ws)] =
      some (.nx [.v (.d (gd g)), a1, .v (.c 0), .v (.c 1), .v (.d (nI p)), a5'] [.set (kI ks'), .ld (il ws')]) ∧ Wai (tgO g) s g.length ks' ws' ∧ ws'.length + ks.length = ws.length + ks'.length ∧ ks.length ≤ ks'.length := by
  have hx : g[p]? = some (g.getD p .lose) := by simp [hp]
  have ht := T.t p _ hx
  have lp := forB_wp (key := none) (its := (tgO g p).map fun x => AV.d (nI x)) (g := btName 5) (body := b_reached_1) (fun x : Nat => AV.d (nI x))
    (fun pre env st => ∃ (ks' ws' : List Nat) (a5 : Sg), env = [.v (.d (gd g)), a1, .v (.c 0), .v (.c 1), .v (.d (nI p)), a5] ∧ st = [.set (kI ks'), .ld (il ws')] ∧ WaiT (tgO g) s g.length p pre ks' ws' ∧ ws'.length + ks.length = ws.length + ks'.length ∧ ks.length ≤ ks'.length)
    (all := tgO g p) (env := [.v (.d (gd g)), a1, .v (.c 0), .v (.c 1), .v (.d (nI p)), a5]) (s := [.set (kI ks), .ld (il ws)]) ⟨ks, ws, a5, rfl, rfl, h, rfl, Nat.le_refl _⟩ (fun _ _ _ _ _ _ => trivial)
    (fun pre x post env st hall ⟨ks', ws', b5, he, hs', hw, hl, hl2⟩ => by
      subst he hs'
      have hxm : x ∈ tgO g p := by rw [hall]; simp
      have hxn := T.lt' hp x hxm
      have kl := hw.f.len
      have Tl := T.len
      by_cases hm : x ∈ ks'
      · refine ⟨[.v (.d (gd g)), a1, .v (.c 0), .v (.c 1), .v (.d (nI p)), .v (.d (nI x))], [.set (kI ks'), .ld (il ws')], ?_, ks', ws', _, rfl, rfl, hw.old hm, hl, hl2⟩
        have hm2 := mem_kI.mpr hm
        generalize kI ks' = KS at *
        generalize il ws' = WS at *
        generalize gd g = G at *
        simp [b_reached_1, sInR, hm2, nxtB]
      · have wl := hw.len
        have ft : Dn.Fits (ws'.length + 1) := fits (by omega)
        have sf := setFits (n := ks'.length) (by omega)
        refine ⟨[.v (.d (gd g)), a1, .v (.c 0), .v (.c 1), .v (.d (nI p)), .v (.d (nI x))], [.set (kI (ks' ++ [x])), .ld (il (ws' ++ [x]))], ?_, ks' ++ [x], ws' ++ [x], _, rfl, rfl, hw.new hxm hxn hm, by simp; omega, by simp; omega⟩
        have hm2 : ¬ (x : Int) ∈ kI ks' := fun z => hm (mem_kI.mp z)
        have e1 : kI (ks' ++ [x]) = kI ks' ++ [(x : Int)] := List.map_append
        have e2 : il (ws' ++ [x]) = il ws' ++ [nI x] := List.map_append
        have l1 : (kI ks').length = ks'.length := List.length_map ..
        have l2 : (il ws').length = ws'.length := List.length_map ..
        rw [e1, e2]
        rw [← l1] at sf
        rw [← l2] at ft
        generalize kI ks' = KS at *
        generalize il ws' = WS at *
        generalize gd g = G at *
        simp [b_reached_1, sInR, hm2, nxtB, sf, ft, pushC, isLst])
  obtain ⟨e, st, h1, ks', ws', b5, rfl, rfl, hw, hl⟩ := lp
  refine ⟨ks', ws', b5, fB_for (its := (tgO g p).map fun x => AV.d (nI x)) (key := none) (s1 := [.set (kI ks), .ld (il ws)]) ?_ h1, hw.fin, hl⟩
  have e3 : (il (tgO g p)).map AV.d = (tgO g p).map fun x => AV.d (nI x) := List.map_map ..
  have ht : m_targets [gd g, nI p] = some (.own (il (tgO g p))) := ht
  generalize gd g = G at *
  rw [← e3]
  generalize il (tgO g p) = L at *
  simp [ht]
/-- as long as something waits -/
theorem reached_loop (T : Tgt g) {s : Nat} (a1 : Sg) : ∀ (N : Nat) (ks ws : List Nat) (a4 a5 : Sg), Wai (tgO g) s g.length ks ws → 2 * (g.length - ks.length) + ws.length ≤ N →
    ∃ ks' a4' a5', whileB (bPkT (tTru (eVar 3))) b_reached_2 (N + 1) [.v (.d (gd g)), a1, .v (.c 0), .v (.c 1), a4, a5] [.set (kI ks), .ld (il ws)] =
      some (.nx [.v (.d (gd g)), a1, .v (.c 0), .v (.c 1), a4', a5'] [.set (kI ks'), .ld []]) ∧ Wai (tgO g) s g.length ks' []
  | N, ks, ws, a4, a5, h, hN => by
    rcases List.eq_nil_or_concat ws with rfl | ⟨ws0, p, rfl⟩
    · refine ⟨ks, a4, a5, ?_, h⟩
      have q : bPkT (tTru (eVar 3)) [.v (.d (gd g)), a1, .v (.c 0), .v (.c 1), a4, a5] [.set (kI ks), .ld []] = some (.ok false [.set (kI ks), .ld []]) := bPkT_of (by
        have : (pk [.set (kI ks), .ld []] [.v (.d (gd g)), a1, .v (.c 0), .v (.c 1), a4, a5])[3]? = some (.val (.list [])) := by
          rw [pk_get]
          exact congrArg some (pkS_c (dp_ld rfl))
        show (tTru (eVar 3)) (pk [.set (kI ks), .ld []] [.v (.d (gd g)), a1, .v (.c 0), .v (.c 1), a4, a5]) = some false
        generalize pk [.set (kI ks), .ld []] [.v (.d (gd g)), a1, .v (.c 0), .v (.c 1), a4, a5] = E at *
        simp [this])
      show bS (bPkT (tTru (eVar 3)) _ _) _ _ = _
      rw [show il [] = ([] : List PyData) from rfl, q]
      rfl
    · rw [List.concat_eq_append] at h hN ⊢
      simp only [List.length_append, List.length_cons, List.length_nil] at hN
      obtain ⟨M, rfl⟩ : ∃ M, N = M + 1 := ⟨N - 1, by omega⟩
      have hp : p < g.length := h.f.lt p (h.sub p (by simp))
      have hw := h.pop
      obtain ⟨ks', ws', a5', e1, h', hl, hl2⟩ := reached_turn T hp hw a1 a5
      have k1 := h'.f.len
      have k0 := h.f.len
      obtain ⟨ks2, a42, a52, e2, h2⟩ := reached_loop T a1 M ks' ws' (.v (.d (nI p))) a5' h' (by omega)
      refine ⟨ks2, a42, a52, ?_, h2⟩
      have ei : il (ws0 ++ [p]) = il ws0 ++ [nI p] := List.map_append
      have q : bPkT (tTru (eVar 3)) [.v (.d (gd g)), a1, .v (.c 0), .v (.c 1), a4, a5] [.set (kI ks), .ld (il ws0 ++ [nI p])] = some (.ok true [.set (kI ks), .ld (il ws0 ++ [nI p])]) := bPkT_of (by
        have : (pk [.set (kI ks), .ld (il ws0 ++ [nI p])] [.v (.d (gd g)), a1, .v (.c 0), .v (.c 1), a4, a5])[3]? = some (.val (.list (il ws0 ++ [nI p]))) := by
          rw [pk_get]
          exact congrArg some (pkS_c (dp_ld rfl))
        show (tTru (eVar 3)) (pk [.set (kI ks), .ld (il ws0 ++ [nI p])] [.v (.d (gd g)), a1, .v (.c 0), .v (.c 1), a4, a5]) = some true
        generalize pk [.set (kI ks), .ld (il ws0 ++ [nI p])] [.v (.d (gd g)), a1, .v (.c 0), .v (.c 1), a4, a5] = E at *
        simp [this])
      have e3 : b_reached_2 [.v (.d (gd g)), a1, .v (.c 0), .v (.c 1), a4, a5] [.set (kI ks), .ld (il ws0 ++ [nI p])] = some (.nx [.v (.d (gd g)), a1, .v (.c 0), .v (.c 1), .v (.d (nI p)), a5'] [.set (kI ks'), .ld (il ws')]) := by
        unfold b_reached_2
        rw [fseq_nx (e := [.v (.d (gd g)), a1, .v (.c 0), .v (.c 1), .v (.d (nI p)), a5]) (s1 := [.set (kI ks), .ld (il ws0)]) (by
          generalize kI ks = KS at *
          generalize il ws0 = WS at *
          generalize gd g = G at *
          simp)]
        exact e1
      rw [ei]
      show bS (bPkT (tTru (eVar 3)) _ _) _ _ = _
      rw [q, bS_ok, if_pos rfl, e3]
      exact e2
theorem reached_eq (T : Tgt g) {s : Nat} (hs : s < g.length) : ∃ rs : List Nat, m_reached [gd g, .int (s : Int)] = some (.own (il rs)) ∧ Asc (tgO g) s rs := by
  unfold m_reached
  rw [fnDB_eq (by rfl)]
  obtain ⟨ks, a4, a5, e, h⟩ := reached_loop T (.v (.d (.int (s : Int)))) (2 * g.length + 1) [s] [s] .un .un (.start hs) (by simp; omega)
  have hk := h.f.len
  have Tl := T.len
  refine ⟨srt ks, ?_, h.f.asc h.closed⟩
  have su := sortU_srt h.f.nd
  have su : sortU (kI ks) = kI (srt ks) := su
  have ei : (kI (srt ks)).map PyData.int = il (srt ks) := List.map_map ..
  have lk : (kI ks).length < 64 := by rw [List.length_map]; omega
  show resD (resX (resB (b_reached [.v (.d (gd g)), .v (.d (.int (s : Int))), .un, .un, .un, .un] []))) = _
  have few1 : Dn.Few 1 := by simp
  have e1 : fSet 2 (bSet1 (bP (eVar 1))) [.v (.d (gd g)), .v (.d (.int (s : Int))), .un, .un, .un, .un] [] = some (.nx [.v (.d (gd g)), .v (.d (.int (s : Int))), .v (.c 0), .un, .un, .un] [.set (kI [s])]) := by
    generalize gd g = G at *
    simp [kI]
  have e2 : fSet 3 (bP (eLst (aCons (eVar 1) aNil))) [.v (.d (gd g)), .v (.d (.int (s : Int))), .v (.c 0), .un, .un, .un] [.set (kI [s])] = some (.nx [.v (.d (gd g)), .v (.d (.int (s : Int))), .v (.c 0), .v (.c 1), .un, .un] [.set (kI [s]), .ld (il [s])]) := by
    generalize gd g = G at *
    generalize kI [s] = KS at *
    simp [few1]
  have e3 := fWhile_eq e
  unfold b_reached
  rw [fseq_nx e1, fseq_nx e2, fseq_nx e3]
  rw [← ei, ← su]
  generalize kI ks = KS at *
  generalize gd g = G at *
  simp [lk, toR]
end Law
/-! Cc0: closed classes: each once, by its least place -/
namespace Dn
variable {tg : Nat → List Nat} {n : Nat} {RS : Nat → List Nat}
theorem Rch.trans {a b c : Nat} (h1 : Rch tg a b) (h2 : Rch tg b c) : Rch tg a c := by
  induction h2 with
  | refl => exact h1
  | step _ hx ih => exact ih.step hx
structure RSok (tg : Nat → List Nat) (n : Nat) (RS : Nat → List Nat) : Prop where
  asc : ∀ p, p < n → Asc tg p (RS p)
  lt : ∀ p, p < n → ∀ x ∈ RS p, x < n
theorem RSok.self (R : RSok tg n RS) {p : Nat} (h : p < n) : p ∈ RS p := ((R.asc p h).2 p).mpr .refl
theorem RSok.same (R : RSok tg n RS) {p x : Nat} (h : p < n) (hx : x ∈ RS p) (hp : p ∈ RS x) : RS x = RS p := by
  have hxn := R.lt p h x hx
  have rx := ((R.asc p h).2 x).mp hx
  have rp := ((R.asc x hxn).2 p).mp hp
  exact (R.asc x hxn).uniq ⟨(R.asc p h).1, fun k => ⟨fun hk => rp.trans (((R.asc p h).2 k).mp hk), fun hk => ((R.asc p h).2 k).mpr (rx.trans hk)⟩⟩
def cloB (RS : Nat → List Nat) (p : Nat) : Bool := (RS p).all fun x => decide (p ∈ RS x)
def allB (RS : Nat → List Nat) (p : Nat) : Bool := (RS p).all fun x => decide (RS x = RS p)
def progB (RS : Nat → List Nat) (p : Nat) : Bool := decide ((RS p).headD 0 = p) && allB RS p
theorem clo_all (R : RSok tg n RS) {p : Nat} (h : p < n) : cloB RS p = allB RS p := by
  have key : ∀ x ∈ RS p, decide (p ∈ RS x) = decide (RS x = RS p) := fun x hx => by
    refine decide_eq_decide.mpr ⟨R.same h hx, fun e => ?_⟩
    rw [e]
    exact R.self h
  unfold cloB allB
  rw [Bool.eq_iff_iff, List.all_eq_true, List.all_eq_true]
  exact ⟨fun z x hx => by rw [← key x hx]; exact z x hx, fun z x hx => by rw [key x hx]; exact z x hx⟩
theorem head_mem : ∀ {xs : List Nat} {y : Nat}, y ∈ xs → xs.headD 0 ∈ xs
  | x :: xs, _, _ => by simp
theorem head_le : ∀ {xs : List Nat}, xs.Pairwise (· < ·) → ∀ y ∈ xs, xs.headD 0 ≤ y
  | x :: xs, h, y, hy => by
    rcases List.mem_cons.mp hy with rfl | hy
    · exact Nat.le_refl _
    · exact Nat.le_of_lt ((List.pairwise_cons.mp h).1 y hy)
abbrev clsL (RS : Nat → List Nat) (k : Nat) : List (List Nat) := ((List.range k).filter (progB RS)).map RS
/-- a closed class is found already, unless by its least place -/
theorem clo_step (R : RSok tg n RS) {p : Nat} (h : p < n) : (cloB RS p && !decide (RS p ∈ clsL RS p)) = progB RS p := by
  rw [clo_all R h]
  unfold progB
  cases ha : allB RS p with
  | false => simp
  | true =>
    rw [Bool.true_and, Bool.and_true]
    have hp := R.self h
    have hm := head_mem hp
    have hle := head_le (R.asc p h).1 p hp
    have hall : ∀ x ∈ RS p, RS x = RS p := fun x hx => of_decide_eq_true (List.all_eq_true.mp ha x hx)
    have hmn := R.lt p h _ hm
    by_cases e : (RS p).headD 0 = p
    · rw [decide_eq_true e, Bool.not_eq_true', decide_eq_false_iff_not]
      intro z
      obtain ⟨q, hq, eq⟩ := List.mem_map.mp z
      obtain ⟨q1, q2⟩ := List.mem_filter.mp hq
      have q1 := List.mem_range.mp q1
      unfold progB at q2
      have q3 := of_decide_eq_true (Bool.and_eq_true_iff.mp q2).1
      rw [eq] at q3
      omega
    · rw [decide_eq_false e, Bool.not_eq_false', decide_eq_true_eq]
      refine List.mem_map.mpr ⟨(RS p).headD 0, List.mem_filter.mpr ⟨List.mem_range.mpr (by omega), ?_⟩, hall _ hm⟩
      have em := hall _ hm
      unfold progB
      rw [em, decide_eq_true rfl, Bool.true_and]
      unfold allB
      rw [em]
      exact ha
theorem clsL_succ (k : Nat) : clsL RS (k + 1) = if progB RS k = true then clsL RS k ++ [RS k] else clsL RS k := by
  show ((List.range (k + 1)).filter (progB RS)).map RS = _
  rw [List.range_succ, List.filter_append, List.map_append]
  by_cases h : progB RS k = true
  · rw [if_pos h]
    simp [h]
  · rw [if_neg h]
    simp [h]
end Dn
namespace Law
open PySem PySem.Spec PyProof.Rows L2 Dn Bn
/-! Tr2: the law's reached over the branches of a chain -/
variable {g : List Pl}
abbrev brO (g : List Pl) (p : Nat) : List (Rat × Nat) := brs (g.getD p .lose)
structure Brn (g : List Pl) : Prop where
  b : ∀ p, p < g.length → m__law_branches [gd g, nI p] = some (.own ((brO g p).map brD))
  e : ∀ p, p < g.length → (brO g p).map (·.2) = tgO g p
  lt : ∀ p, p < g.length → ∀ x ∈ tgO g p, x < g.length
  few : ∀ p, p < g.length → (brO g p).length ≤ 1000
  len : g.length ≤ 60
theorem gNotIn_il (x : Nat) (xs : List Nat) : gNotInG (.int (x : Int)) (.list (il xs)) = some (.val (.bool (!decide (x ∈ xs)))) := by
  show (if _ then _ else _) = _
  rw [if_pos ⟨rfl, shp_il xs⟩, memD_il]
theorem il_app (xs : List Nat) (x : Nat) : il (xs ++ [x]) = il xs ++ [nI x] := by simp
theorem flat_il (xs : List Nat) : flatR (.own (il xs)) = true := by
  simp [flatR, flat]
theorem rnd_in (B : Brn g) {s p : Nat} {k0 thr ks : List Nat} (hk0 : p ∈ k0) (h : Rnd (tgO g) s g.length k0 thr ks) (a1 a3 a5 a6 : Sl) :
    ∃ ks' a5' a6', b__law_reached_2 [.val (gd g), a1, .own (il ks), a3, .val (nI p), a5, a6] = some (.nx [.val (gd g), a1, .own (il ks'), a3, .val (nI p), a5', a6']) ∧ Rnd (tgO g) s g.length k0 (thr ++ [p]) ks' := by
  have hp : p < g.length := h.f.lt p (h.sub p hk0)
  have hl := B.len
  have ht := B.b p hp
  obtain ⟨e, h1, ks', b5, b6, rfl, hr, hc⟩ := forD_wp (g := gtTup2 5 6) (body := b__law_reached_1) brD
    (fun pre env => ∃ (ks' : List Nat) (a5 a6 : Sl), env = [.val (gd g), a1, .own (il ks'), a3, .val (nI p), a5, a6] ∧ Rnd (tgO g) s g.length k0 thr ks' ∧ ∀ x ∈ pre, x.2 ∈ ks')
    (all := brO g p) (env := [.val (gd g), a1, .own (il ks), a3, .val (nI p), a5, a6]) ⟨ks, a5, a6, rfl, h, fun x hx => by cases hx⟩
    (fun pre x post env hall ⟨ks', b5, b6, he, hr, hc⟩ => by
      subst he
      have hxm : x.2 ∈ tgO g p := by rw [← B.e p hp]; exact List.mem_map.mpr ⟨x, by rw [hall]; simp, rfl⟩
      have hni := gNotIn_il x.2 ks'
      have kl := hr.f.len
      by_cases hm : x.2 ∈ ks'
      · refine ⟨[.val (gd g), a1, .own (il ks'), a3, .val (nI p), .val (qd x.1), .val (nI x.2)], ?_, ks', _, _, rfl, hr, fun y hy => ?_⟩
        · generalize il ks' = L at *
          generalize gd g = G at *
          simp [b__law_reached_1, hni, hm, nxt]
        · rcases List.mem_append.mp hy with q | q
          · exact hc y q
          · exact List.mem_singleton.mp q ▸ hm
      · have f := hr.f.add (hr.sub p hk0) hxm (B.lt p hp x.2 hxm)
        rw [addL, if_neg hm] at f
        have hl2 := hr.len
        refine ⟨[.val (gd g), a1, .own (il (ks' ++ [x.2])), a3, .val (nI p), .val (qd x.1), .val (nI x.2)], ?_, ks' ++ [x.2], _, _, rfl, ⟨f, fun k hk => List.mem_append_left _ (hr.sub k hk), fun q hq y hy => List.mem_append_left _ (hr.cov q hq y hy), by simp; omega, fun e => by simp at e; omega⟩, fun y hy => ?_⟩
        · have l2 : (il ks').length = ks'.length := List.length_map ..
          have ft : Dn.Fits ((il ks').length + 1) := fits (by omega)
          rw [il_app]
          generalize il ks' = L at *
          generalize gd g = G at *
          simp [b__law_reached_1, hni, hm, nxt, ft]
        · rcases List.mem_append.mp hy with q | q
          · exact List.mem_append_left _ (hc y q)
          · rw [List.mem_singleton.mp q]
            exact List.mem_append_right _ (by simp))
  refine ⟨ks', b5, b6, ?_, hr.f, hr.sub, fun q hq y hy => ?_, hr.len, hr.same⟩
  · have h1 : Dn.forD (gtTup2 5 6) b__law_reached_1 ((brO g p).map brD) [.val (gd g), a1, .own (il ks), a3, .val (nI p), a5, a6] = _ := h1
    unfold b__law_reached_2
    generalize (brO g p).map brD = L at *
    generalize gd g = GD at *
    simp [ht, h1]
  · rcases List.mem_append.mp hq with z | z
    · exact hr.cov q z y hy
    · cases List.mem_singleton.mp z
      rw [← B.e p hp] at hy
      obtain ⟨b, hb, rfl⟩ := List.mem_map.mp hy
      exact hc b hb
theorem rnd_eq (B : Brn g) {s : Nat} {ks : List Nat} (h : Fnd (tgO g) s g.length ks) (a1 a3 a4 a5 a6 : Sl) :
    ∃ ks' a4' a5' a6', b__law_reached_3 [.val (gd g), a1, .own (il ks), a3, a4, a5, a6] = some (.nx [.val (gd g), a1, .own (il ks'), a3, a4', a5', a6']) ∧ Rnd (tgO g) s g.length ks ks ks' := by
  obtain ⟨e, h1, ks', b4, b5, b6, rfl, hr⟩ := forD_wp (g := gtName 4) (body := b__law_reached_2) nI
    (fun pre env => ∃ (ks' : List Nat) (a4 a5 a6 : Sl), env = [.val (gd g), a1, .own (il ks'), a3, a4, a5, a6] ∧ Rnd (tgO g) s g.length ks pre ks')
    (all := ks) (env := [.val (gd g), a1, .own (il ks), a3, a4, a5, a6]) ⟨ks, _, _, _, rfl, .start h⟩
    (fun pre p post env hall ⟨ks', b4, b5, b6, he, hr⟩ => by
      subst he
      obtain ⟨ks2, c5, c6, e, h2⟩ := rnd_in B (show p ∈ ks by rw [hall]; simp) hr a1 a3 b5 b6
      refine ⟨[.val (gd g), a1, .own (il ks2), a3, .val (nI p), c5, c6], ?_, ks2, _, _, _, rfl, h2⟩
      show nxt (b__law_reached_2 [.val (gd g), a1, .own (il ks'), a3, .val (nI p), b5, b6]) = _
      rw [e]
      rfl)
  refine ⟨ks', b4, b5, b6, ?_, hr⟩
  have h1 : Dn.forD (gtName 4) b__law_reached_2 (il ks) [.val (gd g), a1, .own (il ks), a3, a4, a5, a6] = _ := h1
  have fl := flat_il ks
  unfold b__law_reached_3
  generalize il ks = L at *
  generalize gd g = G at *
  simp [-flatR, fl, h1]
theorem law_reached_eq (B : Brn g) {s : Nat} (hs : s < g.length) : ∃ rs : List Nat, m__law_reached [gd g, .int (s : Int)] = some (.own (il rs)) ∧ Asc (tgO g) s rs := by
  unfold m__law_reached
  rw [fnD_eq (by rfl)]
  have hl := B.len
  have hr : Dn.InR (g.length : Int) := inR_of (by omega) (by omega)
  obtain ⟨e, h1, ks, b3, b4, b5, b6, rfl, hd⟩ := forD_wp (g := gtName 3) (body := b__law_reached_3) nI
    (fun pre env => ∃ (ks : List Nat) (a3 a4 a5 a6 : Sl), env = [.val (gd g), .val (.int (s : Int)), .own (il ks), a3, a4, a5, a6] ∧ Rds (tgO g) s g.length pre.length ks)
    (all := List.range g.length) (env := [.val (gd g), .val (.int (s : Int)), .own (il [s]), .no, .no, .no, .no]) ⟨[s], _, _, _, _, rfl, .one hs, .inr (by simp)⟩
    (fun pre p post env hall ⟨ks, b3, b4, b5, b6, he, hd⟩ => by
      subst he
      obtain ⟨ks2, c4, c5, c6, e, h2⟩ := rnd_eq B hd.f (.val (.int (s : Int))) (.val (nI p)) b4 b5 b6
      refine ⟨[.val (gd g), .val (.int (s : Int)), .own (il ks2), .val (nI p), c4, c5, c6], ?_, ks2, _, _, _, _, rfl, ?_⟩
      · show nxt (b__law_reached_3 [.val (gd g), .val (.int (s : Int)), .own (il ks), .val (nI p), b4, b5, b6]) = _
        rw [e]
        rfl
      · have := hd.next h2
        rw [List.length_append]
        exact this)
  rw [List.length_range] at hd
  refine ⟨srt ks, ?_, hd.f.asc hd.closed⟩
  have so := gSorted_ints (kI ks)
  have su : sortI (kI ks) = kI (srt ks) := sortI_srt ks
  have e1 : (kI ks).map PyData.int = il ks := List.map_map ..
  have e2 : (kI (srt ks)).map PyData.int = il (srt ks) := List.map_map ..
  rw [su, e1, e2] at so
  have few1 : Dn.Few 1 := by simp
  have hlen : (g.map Pl.d).length = g.length := List.length_map ..
  have i1 : il [s] = [nI s] := rfl
  rw [i1] at h1
  have fl := flat_il (srt ks)
  generalize il ks = L at *
  generalize il (srt ks) = R at *
  generalize g.map Pl.d = G at *
  simp [-gSorted, -flatR, fl, b__law_reached, few1, hlen, hr, ints0, h1, so]
end Law
namespace Law
open PySem PySem.Spec PyProof.Rows L2 Dn Bn
/-! Cc1: the closed classes, by the law and by the program -/
variable {g : List Pl}
abbrev rowsD (L : List (List Nat)) : List PyData := L.map fun r => .list (il r)
theorem eqv_il : ∀ (a b : List Nat), PyData.eqv (.list (il a)) (.list (il b)) = decide (a = b)
  | [], [] => rfl
  | [], b :: bs => by simp [PyData.eqv, PyData.eqvAll]
  | a :: as, [] => by simp [PyData.eqv, PyData.eqvAll]
  | a :: as, b :: bs => by
    show (PyData.eqv (nI a) (nI b) && PyData.eqv (.list (il as)) (.list (il bs))) = _
    rw [eqv_il as bs, eqv_int]
    by_cases h1 : a = b
    · subst h1
      by_cases h2 : as = bs
      · subst h2
        simp
      · simp [h2]
    · have : ¬ ((a : Int) = (b : Int)) := by omega
      simp [h1, this]
theorem gEq_il (a b : List Nat) : gEqT (.list (il a)) (.list (il b)) = some (.val (.bool (decide (a = b)))) := by
  show gEq _ _ = _
  unfold gEq
  rw [if_pos ⟨shp_il a, shp_il b⟩, eqv_il]
theorem gNotIn_rows (r : List Nat) (L : List (List Nat)) : gNotInG (.list (il r)) (.list (rowsD L)) = some (.val (.bool (!decide (r ∈ L)))) := by
  show (if _ then _ else _) = _
  rw [if_pos ⟨shp_il r, shp_rows L⟩]
  have : memD (.list (il r)) (rowsD L) = decide (r ∈ L) := by
    unfold memD
    rw [List.any_map, Bool.eq_iff_iff, List.any_eq_true, decide_eq_true_eq]
    constructor
    · rintro ⟨x, hx, e⟩
      have e : PyData.eqv (.list (il x)) (.list (il r)) = true := e
      rw [eqv_il] at e
      exact of_decide_eq_true e ▸ hx
    · intro h
      refine ⟨r, h, ?_⟩
      show PyData.eqv (.list (il r)) (.list (il r)) = true
      rw [eqv_il]
      simp
  rw [this]
noncomputable def RS (g : List Pl) (p : Nat) : List Nat := by
  classical exact if h : ∃ rs, Asc (tgO g) p rs then Classical.choose h else []
theorem RS_of {p : Nat} {rs : List Nat} (h : Asc (tgO g) p rs) : rs = RS g p := by
  have hx : ∃ rs, Asc (tgO g) p rs := ⟨rs, h⟩
  have e : RS g p = Classical.choose hx := by unfold RS; rw [dif_pos hx]
  rw [e]
  exact h.uniq (Classical.choose_spec hx)
theorem RS_prog (T : Tgt g) {p : Nat} (hp : p < g.length) : m_reached [gd g, nI p] = some (.own (il (RS g p))) := by
  obtain ⟨rs, h1, h2⟩ := reached_eq T hp
  rw [← RS_of h2]
  exact h1
theorem RS_law (B : Brn g) {p : Nat} (hp : p < g.length) : m__law_reached [gd g, nI p] = some (.own (il (RS g p))) := by
  obtain ⟨rs, h1, h2⟩ := law_reached_eq B hp
  rw [← RS_of h2]
  exact h1
theorem rs_ok (T : Tgt g) : RSok (tgO g) g.length (RS g) := by
  have asc : ∀ p, p < g.length → Asc (tgO g) p (RS g p) := fun p hp => by
    obtain ⟨rs, h1, h2⟩ := reached_eq T hp
    rw [← RS_of h2]
    exact h2
  refine ⟨asc, fun p hp x hx => ?_⟩
  have r := ((asc p hp).2 x).mp hx
  induction r with
  | refl => exact hp
  | step r0 hx0 ih => exact T.lt' (ih (((asc p hp).2 _).mpr r0)) _ hx0
theorem rs_len (T : Tgt g) {p : Nat} (hp : p < g.length) : (RS g p).length ≤ g.length := by
  have R := rs_ok T
  have nd : (RS g p).Nodup := (R.asc p hp).1.imp fun h => by omega
  have := nodup_len (ms := List.range g.length) nd fun k hk => List.mem_range.mpr (R.lt p hp k hk)
  simpa using this
theorem clsL_len (k : Nat) : (clsL (RS g) k).length ≤ k := by
  show (((List.range k).filter _).map _).length ≤ k
  rw [List.length_map]
  have := List.length_filter_le (progB (RS g)) (List.range k)
  simpa using this
theorem law_closed_eq (T : Tgt g) (B : Brn g) : m__law_closed [gd g] = some (.own (rowsD (clsL (RS g) g.length))) := by
  unfold m__law_closed
  rw [fnD_eq (by rfl)]
  have R := rs_ok T
  have hl := B.len
  have few0 : Dn.Few 0 := by simp
  have ir : Dn.InR (g.length : Int) := inR_of (by omega) (by omega)
  obtain ⟨e, h1, a2, a3, a4, rfl⟩ := forD_wp (g := gtName 2) (body := b__law_closed_2) nI
    (fun pre env => ∃ a2 a3 a4, env = [.val (gd g), .own (rowsD (clsL (RS g) pre.length)), a2, a3, a4]) (all := List.range g.length) (env := [.val (gd g), .own (rowsD (clsL (RS g) 0)), .no, .no, .no]) ⟨_, _, _, rfl⟩
    (fun pre p post env hall ⟨a2, a3, a4, he⟩ => by
      subst he
      have hpe : p = pre.length := by
        have := congrArg (fun l => l[pre.length]?) hall
        simp at this
        have hll := congrArg List.length hall
        simp at hll
        rw [List.getElem?_range (by omega)] at this
        simpa using this.symm
      have hp : p < g.length := List.mem_range.mp (by rw [hall]; simp)
      rw [← hpe]
      have hr := RS_law B hp
      have rl := rs_len T hp
      have e1 : ∀ a4 : Sl, b__law_closed_1 [.val (gd g), .own (rowsD (clsL (RS g) p)), .val (nI p), .val (.list (il (RS g p))), a4] = some (.own (((RS g p).filter fun x => !decide (p ∈ RS g x)).map nI)) := fun a4 => by
        unfold b__law_closed_1
        refine eLc_flt nI nI (fun x => !decide (p ∈ RS g x)) (xs := RS g p) (by simp) (by omega) fun x hx => ?_
        have hx2 := RS_law B (R.lt p hp x hx)
        have ni := gNotIn_il p (RS g x)
        generalize il (RS g x) = L at *
        generalize il (RS g p) = L2 at *
        generalize rowsD (clsL (RS g) p) = L3 at *
        generalize gd g = GD at *
        by_cases hb : p ∈ RS g x
        · simp [elD, hx2, ni, hb]
        · simp [elD, hx2, ni, hb]
      have hz : decide (((((RS g p).filter fun x => !decide (p ∈ RS g x)).map nI).length : Int) = 0) = cloB (RS g) p := by
        rw [List.length_map]
        unfold cloB
        rw [Bool.eq_iff_iff, decide_eq_true_eq, List.all_eq_true]
        constructor
        · intro h x hx
          have h : ((RS g p).filter fun x => !decide (p ∈ RS g x)) = [] := List.length_eq_zero_iff.mp (by omega)
          have := List.filter_eq_nil_iff.mp h x hx
          simpa using this
        · intro h
          have : ((RS g p).filter fun x => !decide (p ∈ RS g x)) = [] := List.filter_eq_nil_iff.mpr fun x hx => by
            have := h x hx
            simpa using this
          rw [this]
          rfl
      have ni := gNotIn_rows (RS g p) (clsL (RS g) p)
      have st := clo_step R hp
      have cl := clsL_len (g := g) p
      have cs := clsL_succ (RS := RS g) p
      have ft : Dn.Fits ((rowsD (clsL (RS g) p)).length + 1) := fits (by rw [List.length_map]; omega)
      refine ⟨[.val (gd g), .own (rowsD (clsL (RS g) (p + 1))), .val (nI p), .val (.list (il (RS g p))), a4], ?_, _, _, _, by rw [List.length_append]; rw [← hpe]; rfl⟩
      show nxt (b__law_closed_2 [.val (gd g), .own (rowsD (clsL (RS g) p)), .val (nI p), a3, a4]) = _
      have set3 : sSet 3 (eCall m__law_reached (aCons (eVar 0) (aCons (eVar 2) aNil))) [.val (gd g), .own (rowsD (clsL (RS g) p)), .val (nI p), a3, a4] = some (.nx [.val (gd g), .own (rowsD (clsL (RS g) p)), .val (nI p), .own (il (RS g p)), a4]) := by
        generalize il (RS g p) = L2 at *
        generalize rowsD (clsL (RS g) p) = L3 at *
        generalize gd g = GD at *
        simp [hr]
      have rest : ∀ b : Bool, progB (RS g) p = b → nxt (sIf (tAndD (tE (eBin gEqT (eCall gLen (aCons b__law_closed_1 aNil)) (eC (.int 0)))) (tPeek (tE (eBin gNotInG (eVar 3) (eVar 1))))) (sAppend 1 (eVar 3)) sNext [.val (gd g), .own (rowsD (clsL (RS g) p)), .val (nI p), .val (.list (il (RS g p))), a4]) = some [.val (gd g), .own (if b = true then rowsD (clsL (RS g) p) ++ [.list (il (RS g p))] else rowsD (clsL (RS g) p)), .val (nI p), .val (.list (il (RS g p))), a4] := fun b hb => by
        rw [hb] at st
        generalize (((RS g p).filter fun x => !decide (p ∈ RS g x)).map nI) = L4 at *
        generalize il (RS g p) = L2 at *
        generalize rowsD (clsL (RS g) p) = L3 at *
        generalize gd g = GD at *
        generalize cloB (RS g) p = c at *
        generalize decide (RS g p ∈ clsL (RS g) p) = d at *
        cases c with
        | false =>
          have hn : ¬ ((L4.length : Int) = 0) := of_decide_eq_false hz
          have hn2 : ¬ L4.length = 0 := by omega
          have : b = false := by rw [← st]; rfl
          subst this
          have hn3 : ¬ L4 = [] := fun z => hn2 (by rw [z]; rfl)
          simp [e1, hn3, nxt]
        | true =>
          have hn : (L4.length : Int) = 0 := of_decide_eq_true hz
          have hn2 : L4 = [] := List.length_eq_zero_iff.mp (by omega)
          subst hn2
          cases d with
          | false =>
            have : b = true := by rw [← st]; rfl
            subst this
            simp [e1, ni, ft, nxt]
          | true =>
            have : b = false := by rw [← st]; rfl
            subst this
            simp [e1, ni, nxt]
      have fin : nxt (b__law_closed_2 [.val (gd g), .own (rowsD (clsL (RS g) p)), .val (nI p), a3, a4]) = some [.val (gd g), .own (if progB (RS g) p = true then rowsD (clsL (RS g) p) ++ [.list (il (RS g p))] else rowsD (clsL (RS g) p)), .val (nI p), .val (.list (il (RS g p))), a4] := by
        rw [← rest _ rfl]
        unfold b__law_closed_2
        show nxt (bindO (sSet 3 _ _) _) = _
        rw [set3]
        rfl
      rw [fin, cs]
      by_cases hb : progB (RS g) p = true
      · rw [if_pos hb, if_pos hb]
        simp
      · rw [if_neg hb, if_neg hb])
  rw [List.length_range] at h1
  have hlen : (g.map Pl.d).length = g.length := List.length_map ..
  have r0 : rowsD (clsL (RS g) 0) = [] := rfl
  rw [r0] at h1
  generalize rowsD (clsL (RS g) g.length) = Z at *
  have h1 : forD (gtName 2) b__law_closed_2 (il (List.range g.length)) [.val (.list (g.map Pl.d)), .own [], .no, .no, .no] = some (.nx [.val (.list (g.map Pl.d)), .own Z, a2, a3, a4]) := h1
  show resO (b__law_closed [.val (.list (g.map Pl.d)), .no, .no, .no, .no]) = _
  generalize g.map Pl.d = G at *
  simp [b__law_closed, few0, hlen, ir, ints0, h1]
end Law
namespace Law
open PySem PySem.Spec PyProof.Rows L2 Dn Bn
/-! Cc2: closed_classes over the store -/
variable {g : List Pl}
abbrev cellsB (b m : Nat) : List AV := (List.range m).map fun i => .c (b + i)
abbrev rowsB (m : Nat) (h : Nat → List PyData) : Sto := (List.range m).map fun i => .ld (h i)
/-- the cells of what is found: those of the places in ps -/
def foundC (b : Nat) (ps : List Nat) : Ce := if ps = [] then .ld [] else .lst (ps.map fun p => .c (b + p))
noncomputable abbrev hR (g : List Pl) (i : Nat) : List PyData := il (RS g i)
theorem row_at {S : Sto} {m : Nat} {h : Nat → List PyData} {i : Nat} (hi : i < m) (T : Sto) : (S ++ rowsB m h ++ T)[S.length + i]? = some (.ld (h i)) := by
  rw [List.append_assoc, List.getElem?_append_right (by omega), List.getElem?_append_left (by simp; omega)]
  simp [hi]
theorem found_at {S : Sto} {m : Nat} {h : Nat → List PyData} {c : Ce} (T : Sto) : (S ++ rowsB m h ++ (c :: T))[S.length + m]? = some c := by
  rw [List.append_assoc, List.getElem?_append_right (by omega), List.getElem?_append_right (by simp)]
  simp
theorem found_at1 {S : Sto} {m : Nat} {h : Nat → List PyData} {c d : Ce} (T : Sto) : (S ++ rowsB m h ++ (c :: d :: T))[S.length + m + 1]? = some d := by
  rw [List.append_assoc, List.getElem?_append_right (by omega), List.getElem?_append_right (by simp; omega)]
  have : S.length + m + 1 - S.length - (rowsB m h).length = 1 := by simp; omega
  rw [this]
  rfl
theorem found_set {S : Sto} {m : Nat} {h : Nat → List PyData} {c d e : Ce} (T : Sto) : (S ++ rowsB m h ++ (c :: d :: T)).set (S.length + m + 1) e = S ++ rowsB m h ++ (c :: e :: T) := by
  rw [List.append_assoc, List.append_assoc, List.set_append_right _ _ (by omega), List.set_append_right _ _ (by simp; omega)]
  have : S.length + m + 1 - S.length - (rowsB m h).length = 1 := by simp; omega
  rw [this]
  rfl
theorem dp_rows {S : Sto} {m : Nat} {h : Nat → List PyData} (T : Sto) : dp (S ++ rowsB m h ++ (.lst (cellsB S.length m) :: T)) (.c (S.length + m)) = some (.list ((List.range m).map fun i => .list (h i))) := by
  rw [dp_lst (found_at T), mapO_map (h := fun i => PyData.list (h i)) fun i hi => dpN_ld (row_at (List.mem_range.mp hi) _)]
  rfl
theorem atI_rng {α : Type} (f : Nat → α) {m p : Nat} (h : p < m) : atI ((List.range m).map f) (p : Int) = some (f p) := by
  have e := ixN_of (n := ((List.range m).map f).length) (p := p) (by simpa using h)
  unfold atI
  rw [e]
  simp [h]
theorem closed_turn (T : Tgt g) (s : Sto) {p : Nat} (hp : p < g.length) (ps : List Nat) (hps : ps = (List.range p).filter (progB (RS g))) :
    nxtB (b_closed_classes_3 [.v (.d (gd g)), .v (.c (s.length + g.length)), .v (.c (s.length + g.length + 1)), .v (.d (nI p)), .un] (s ++ rowsB g.length (hR g) ++ [.lst (cellsB s.length g.length), foundC s.length ps])) =
    some ([.v (.d (gd g)), .v (.c (s.length + g.length)), .v (.c (s.length + g.length + 1)), .v (.d (nI p)), .un], s ++ rowsB g.length (hR g) ++ [.lst (cellsB s.length g.length), foundC s.length (if progB (RS g) p = true then ps ++ [p] else ps)]) := by
  have R := rs_ok T
  have hl := T.len
  have dpr := dp_rows (S := s) (m := g.length) (h := hR g) [foundC s.length ps]
  have hrl := rs_len T hp
  obtain ⟨E, hE⟩ : ∃ E, pk (s ++ rowsB g.length (hR g) ++ [.lst (cellsB s.length g.length), foundC s.length ps]) [.v (.d (gd g)), .v (.c (s.length + g.length)), .v (.c (s.length + g.length + 1)), .v (.d (nI p)), .un] = E := ⟨_, rfl⟩
  have E1 : E[1]? = some (.val (.list ((List.range g.length).map fun i => .list (hR g i)))) := by
    rw [← hE, pk_get]
    exact congrArg some (pkS_c dpr)
  have E3 : E[3]? = some (.val (nI p)) := by
    rw [← hE, pk_get]
    rfl
  have El : E.length = 5 := by rw [← hE]; unfold pk; simp
  have ap := atI_rng (fun i => PyData.list (hR g i)) hp
  have e1 : b_closed_classes_2 E = some (.own ((RS g p).map fun x => .bool (decide (RS g x = RS g p)))) := by
    unfold b_closed_classes_2
    refine eLc_map nI (fun x => PyData.bool (decide (RS g x = RS g p))) (xs := RS g p) (by simp [E1, E3, ap]) (by omega) fun x hx => ?_
    have ax := atI_rng (fun i => PyData.list (hR g i)) (R.lt p hp x hx)
    have q := gEq_il (RS g x) (RS g p)
    have l4 : 4 < E.length := by omega
    have n1 : (E.set 4 (Sl.val (nI x)))[1]? = E[1]? := by rw [List.getElem?_set_ne (by decide)]
    have n3 : (E.set 4 (Sl.val (nI x)))[3]? = E[3]? := by rw [List.getElem?_set_ne (by decide)]
    generalize hA : ((List.range g.length).map fun i => PyData.list (hR g i)) = A at *
    simp [elD, l4, E1, E3, ap, ax, q]
  have ga := gAll_map (fun x => decide (RS g x = RS g p)) (RS g p)
  have hh : atI (hR g p) 0 = some (nI ((RS g p).headD 0)) := by
    have hm := R.self hp
    cases hc : RS g p with
    | nil => rw [hc] at hm; cases hm
    | cons a r =>
      show atI (il (RS g p)) 0 = _
      rw [hc]
      exact atI_il (a :: r) 0 (by simp)
  have cond : (tAndD (tE (eBin gEqT (eBin gIx (eBin gIx (eVar 1) (eVar 3)) (eC (.int 0))) (eVar 3))) (tE (eCall gAll (aCons b_closed_classes_2 aNil)))) E = some (progB (RS g) p) := by
    unfold progB Dn.allB
    have q : gEqT (nI ((RS g p).headD 0)) (nI p) = some (.val (.bool (decide ((RS g p).headD 0 = p)))) := by
      generalize (RS g p).headD 0 = hd
      simp
      omega
    generalize ((RS g p).map fun x => PyData.bool (decide (RS g x = RS g p))) = BL at *
    generalize ((RS g p).all fun x => decide (RS g x = RS g p)) = ab at *
    generalize hA : ((List.range g.length).map fun i => PyData.list (hR g i)) = A at *
    generalize (RS g p).headD 0 = hd at *
    by_cases hq : hd = p
    · simp [-gEqT, -gAll, E1, E3, ap, hh, q, e1, ga, hq]
    · simp [-gEqT, -gAll, E1, E3, ap, hh, q, e1, ga, hq]
  have cond := bPkT_of (s := s ++ rowsB g.length (hR g) ++ [.lst (cellsB s.length g.length), foundC s.length ps]) (env := [.v (.d (gd g)), .v (.c (s.length + g.length)), .v (.c (s.length + g.length + 1)), .v (.d (nI p)), .un]) (by rw [hE]; exact cond)
  have pl : ps.length ≤ p := by
    rw [hps]
    have := List.length_filter_le (progB (RS g)) (List.range p)
    simpa using this
  unfold b_closed_classes_3
  by_cases hb : progB (RS g) p = true
  · rw [hb] at cond
    rw [fIf_t cond, if_pos hb]
    have f0 := found_at (S := s) (m := g.length) (h := hR g) (c := .lst (cellsB s.length g.length)) [foundC s.length ps]
    have f1 := found_at1 (S := s) (m := g.length) (h := hR g) (c := .lst (cellsB s.length g.length)) (d := foundC s.length ps) []
    have fs := found_set (S := s) (m := g.length) (h := hR g) (c := .lst (cellsB s.length g.length)) (d := foundC s.length ps) (e := foundC s.length (ps ++ [p])) []
    have rp := row_at (S := s) (m := g.length) (h := hR g) hp [.lst (cellsB s.length g.length), foundC s.length ps]
    have ac := atI_rng (fun i => AV.c (s.length + i)) hp
    have il1 : isLst (s ++ rowsB g.length (hR g) ++ [.lst (cellsB s.length g.length), foundC s.length ps]) (s.length + g.length + 1) = true := by
      unfold isLst
      rw [f1]
      by_cases h0 : ps = [] <;> simp [foundC, h0]
    have pc : pushC (s ++ rowsB g.length (hR g) ++ [.lst (cellsB s.length g.length), foundC s.length ps]) (foundC s.length ps) (.c (s.length + p)) = some (foundC s.length (ps ++ [p])) := by
      have av : avD (s ++ rowsB g.length (hR g) ++ [.lst (cellsB s.length g.length), foundC s.length ps]) (.c (s.length + p)) = none := by rw [avD_c, rp]
      have hne : ps ++ [p] ≠ [] := by simp
      unfold foundC
      rw [if_neg hne]
      by_cases h0 : ps = []
      · rw [if_pos h0]
        subst h0
        have ft : Dn.Fits (0 + 1) := fits (by omega)
        unfold foundC at av
        rw [if_pos rfl] at av
        show pushC _ (.ld []) _ = some (.lst [.c (s.length + p)])
        have ft2 : Dn.Fits (([] : List PyData).length + 1) := ft
        simp only [pushC, foundC, if_pos rfl, av, if_pos ft2, List.map_nil, List.nil_append]
      · rw [if_neg h0]
        have ft : Dn.Fits ((ps.map fun p => AV.c (s.length + p)).length + 1) := fits (by simp; omega)
        simp only [pushC, if_pos ft, List.map_append, List.map_cons, List.map_nil]
    generalize hSt : s ++ rowsB g.length (hR g) ++ [.lst (cellsB s.length g.length), foundC s.length ps] = St at *
    generalize foundC s.length (ps ++ [p]) = F2 at *
    generalize foundC s.length ps = F1 at *
    generalize gd g = GD at *
    simp [il1, ixR, f0, ac, f1, pc, fs]
  · have hb' : progB (RS g) p = false := by simpa using hb
    rw [hb'] at cond
    rw [fIf_f cond, if_neg hb]
    rfl
theorem closed_eq (T : Tgt g) (hn : g.length ≠ 0) (s : Sto) : m_closed_classes [.d (gd g)] s = some (.ok (.c (s.length + g.length + 1)) (s ++ rowsB g.length (hR g) ++ [.lst (cellsB s.length g.length), foundC s.length ((List.range g.length).filter (progB (RS g)))])) := by
  unfold m_closed_classes
  rw [fnB_eq (by rfl)]
  have hl := T.len
  have ir : Dn.InR (g.length : Int) := inR_of (by omega) (by omega)
  have few0 : Dn.Few 0 := by simp
  have hlen : (g.map Pl.d).length = g.length := List.length_map ..
  show resB (b_closed_classes [.v (.d (gd g)), .un, .un, .un, .un] s) = _
  have e1 : b_closed_classes_1 [.v (.d (gd g)), .un, .un, .un, .un] s = some (.ok (.c (s.length + g.length)) (s ++ rowsB g.length (hR g) ++ [.lst (cellsB s.length g.length)])) := by
    have l := lcB_new (key := none) (its := (List.range g.length).map fun p => AV.d (nI p)) (vs := [3]) (g := btName 3) (c := bYes) (f := bP (eCall m_reached (aCons (eVar 0) (aCons (eVar 3) aNil)))) (env := [.v (.d (gd g)), .un, .un, .un, .un])
      (fun p : Nat => AV.d (nI p)) (fun p => hR g p) (s0 := s) (xs := List.range g.length) (t := []) (fun _ => trivial) (fun p hp t => by
        have b : m_reached [gd g, nI p] = some (.own (hR g p)) := RS_prog T (List.mem_range.mp hp)
        generalize hR g p = Z at *
        generalize gd g = GD at *
        simp [elB, b])
    simp only [List.append_nil, List.length_range] at l
    have ft : Dn.Fits ((List.range g.length).map fun p => AV.d (nI p)).length := fits (by simp; omega)
    have hi : biP (iR1 (aCons (eCall gLen (aCons (eVar 0) aNil)) aNil)) [.v (.d (gd g)), .un, .un, .un, .un] s = some (.ok ((List.range g.length).map fun p => AV.d (nI p), none) s) := by
      simp [ir, ints0]
    unfold b_closed_classes_1
    show bB (biP _ _ _) _ = _
    rw [hi, bB_ok]
    dsimp only
    rw [if_pos ft, l, Option.bind_some]
    have nr : rdA (s ++ rowsB g.length (hR g)) (cellsB s.length g.length) = none := by
      obtain ⟨m, hm⟩ : ∃ m, g.length = m + 1 := ⟨g.length - 1, by omega⟩
      have r0 := row_at (S := s) (m := g.length) (h := hR g) (i := 0) (by omega) []
      rw [List.append_nil] at r0
      show rdA _ ((List.range g.length).map fun i => AV.c (s.length + i)) = none
      rw [hm] at r0 ⊢
      rw [List.range_succ_eq_map, List.map_cons, rdA_cons, avD_c, r0]
      rfl
    show some (mkL _ _) = _
    unfold mkL
    have nr : rdA (s ++ (List.range g.length).map fun a => Ce.ld (hR g a)) ((List.range g.length).map fun i => AV.c (s.length + i)) = none := nr
    rw [nr]
    simp
  obtain ⟨e, St, h1, ⟨a3, rfl⟩, hSt⟩ := forB_wp (key := none) (its := (List.range g.length).map fun p => AV.d (nI p)) (g := btName 3) (body := b_closed_classes_3) (fun p : Nat => AV.d (nI p))
    (fun pre env St => (∃ a3, env = [.v (.d (gd g)), .v (.c (s.length + g.length)), .v (.c (s.length + g.length + 1)), a3, .un]) ∧ St = s ++ rowsB g.length (hR g) ++ [.lst (cellsB s.length g.length), foundC s.length ((List.range pre.length).filter (progB (RS g)))])
    (all := List.range g.length) (env := [.v (.d (gd g)), .v (.c (s.length + g.length)), .v (.c (s.length + g.length + 1)), .un, .un]) (s := s ++ rowsB g.length (hR g) ++ [.lst (cellsB s.length g.length), .ld []]) ⟨⟨_, rfl⟩, rfl⟩ (fun _ _ _ _ _ _ => trivial)
    (fun pre p post env St hall ⟨⟨a3, he⟩, hs⟩ => by
      subst he hs
      have hpe : p = pre.length := by
        have := congrArg (fun l => l[pre.length]?) hall
        simp at this
        have hll := congrArg List.length hall
        simp at hll
        rw [List.getElem?_range (by omega)] at this
        simpa using this.symm
      have hp : p < g.length := List.mem_range.mp (by rw [hall]; simp)
      rw [← hpe]
      have q := closed_turn T s hp _ rfl
      refine ⟨_, _, q, ⟨_, rfl⟩, ?_⟩
      rw [List.length_append, ← hpe]
      show _ = _ ++ [_, foundC s.length ((List.range (p + 1)).filter (progB (RS g)))]
      rw [List.range_succ, List.filter_append]
      by_cases hb : progB (RS g) p = true
      · rw [if_pos hb]
        simp [hb]
      · rw [if_neg hb]
        simp [hb])
  rw [List.length_range] at hSt
  subst hSt
  have hi : ∀ St : Sto, biP (iR1 (aCons (eCall gLen (aCons (eVar 0) aNil)) aNil)) [.v (.d (gd g)), .v (.c (s.length + g.length)), .v (.c (s.length + g.length + 1)), .un, .un] St = some (.ok ((List.range g.length).map fun p => AV.d (nI p), none) St) := fun St => by
    simp [ir, ints0]
  have hf := fB_for (hi _) h1
  have c2 : (s ++ rowsB g.length (hR g) ++ [Ce.lst (cellsB s.length g.length)]).length = s.length + g.length + 1 := by simp; omega
  unfold b_closed_classes
  rw [fseq_nx (set_of (i := 1) e1), fseq_nx (e := [.v (.d (gd g)), .v (.c (s.length + g.length)), .v (.c (s.length + g.length + 1)), .un, .un]) (s1 := s ++ rowsB g.length (hR g) ++ [.lst (cellsB s.length g.length), .ld []]) (by
    have q := set_Pown (i := 2) (env := [.v (.d (gd g)), .v (.c (s.length + g.length)), .un, .un, .un]) (s := s ++ rowsB g.length (hR g) ++ [Ce.lst (cellsB s.length g.length)]) (f := eLst aNil) (ds := []) (by simp [few0])
    rw [c2] at q
    have ea : (s ++ rowsB g.length (hR g) ++ [Ce.lst (cellsB s.length g.length)]) ++ [Ce.ld []] = s ++ rowsB g.length (hR g) ++ [Ce.lst (cellsB s.length g.length), Ce.ld []] := by simp
    rw [ea] at q
    exact q), fseq_nx hf]
  rfl
end Law
namespace Law
open PySem PySem.Spec PyProof.Rows L2 Dn Bn
/-! Cc3: the check of a chain, and what the law is told -/
variable {g : List Pl}
def sideP (x : Pl) : Bool := match x with
  | .ours _ => true
  | .theirs _ => true
  | _ => false
theorem side_in (x : Pl) : gInG (.str x.k) (.tuple [.str "ours", .str "theirs"]) = some (.val (.bool (sideP x))) := by
  have k1 := gIn_t (x := "draw") (ds := [.str "ours", .str "theirs"]) (b := false)
  have k2 := gIn_t (x := "ours") (ds := [.str "ours", .str "theirs"]) (b := true)
  have k3 := gIn_t (x := "theirs") (ds := [.str "ours", .str "theirs"]) (b := true)
  have k4 := gIn_t (x := "reward") (ds := [.str "ours", .str "theirs"]) (b := false)
  have k5 := gIn_t (x := "finish") (ds := [.str "ours", .str "theirs"]) (b := false)
  have k6 := gIn_t (x := "lose") (ds := [.str "ours", .str "theirs"]) (b := false)
  cases x <;> first | exact k1 | exact k2 | exact k3 | exact k4 | exact k5 | exact k6
theorem check_loop (GD : PyData) : ∀ (xs : List Pl) (k : Nat) (a1 a2 : Sg) (s : Sto), k + xs.length ≤ 1000 →
    (xs.findIdx? sideP = none → ∃ e, forB none ((xs.zipIdx k).map fun p => AV.d (.tuple [nI p.2, p.1.d])) (btTup 2 (btCons (btName 1) (btCons (btName 2) btNil))) b_check_chain_1 ((xs.zipIdx k).map fun p => AV.d (.tuple [nI p.2, p.1.d])) [.v (.d GD), a1, a2] s = some (.nx e s)) ∧
    (∀ j, xs.findIdx? sideP = some j → ∃ e, forB none ((xs.zipIdx k).map fun p => AV.d (.tuple [nI p.2, p.1.d])) (btTup 2 (btCons (btName 1) (btCons (btName 2) btNil))) b_check_chain_1 ((xs.zipIdx k).map fun p => AV.d (.tuple [nI p.2, p.1.d])) [.v (.d GD), a1, a2] s = some (.ex ⟨"NotChain", [("place", nI (k + j))]⟩ e s)) := by
  suffices H : ∀ (its : List AV) (xs : List Pl) (k : Nat) (a1 a2 : Sg) (s : Sto), k + xs.length ≤ 1000 →
    (xs.findIdx? sideP = none → ∃ e, forB none its (btTup 2 (btCons (btName 1) (btCons (btName 2) btNil))) b_check_chain_1 ((xs.zipIdx k).map fun p => AV.d (.tuple [nI p.2, p.1.d])) [.v (.d GD), a1, a2] s = some (.nx e s)) ∧
    (∀ j, xs.findIdx? sideP = some j → ∃ e, forB none its (btTup 2 (btCons (btName 1) (btCons (btName 2) btNil))) b_check_chain_1 ((xs.zipIdx k).map fun p => AV.d (.tuple [nI p.2, p.1.d])) [.v (.d GD), a1, a2] s = some (.ex ⟨"NotChain", [("place", nI (k + j))]⟩ e s)) from fun xs k a1 a2 s hk => H _ xs k a1 a2 s hk
  intro its xs
  induction xs with
  | nil =>
    intro k a1 a2 s hk
    refine ⟨fun _ => ⟨[.v (.d GD), a1, a2], ?_⟩, fun j e => by cases e⟩
    show (if okK none its _ then some (OutB.nx _ _) else none) = _
    rw [if_pos (by trivial)]
  | cons x xs ih =>
    intro k a1 a2 s hk
    simp at hk
    have hstep : forB none its (btTup 2 (btCons (btName 1) (btCons (btName 2) btNil))) b_check_chain_1 (((x :: xs).zipIdx k).map fun p => AV.d (.tuple [nI p.2, p.1.d])) [.v (.d GD), a1, a2] s =
      turnB (b_check_chain_1 [.v (.d GD), .v (.d (nI k)), .v (.d x.d)] s) (forB none its (btTup 2 (btCons (btName 1) (btCons (btName 2) btNil))) b_check_chain_1 ((xs.zipIdx (k + 1)).map fun p => AV.d (.tuple [nI p.2, p.1.d]))) := by
      rw [List.zipIdx_cons, List.map_cons]
      show (if okK none its _ then (btTup 2 (btCons (btName 1) (btCons (btName 2) btNil)) _ _ _).bind fun e1 => turnB (b_check_chain_1 e1 _) (forB none its _ b_check_chain_1 _) else none) = _
      rw [if_pos (by trivial)]
      rfl
    have h0 := Pl.at0 x
    have hs := side_in x
    rw [List.findIdx?_cons]
    by_cases hb : sideP x = true
    · have hk12 : k < 1000000000000 := by omega
      have hbd : b_check_chain_1 [.v (.d GD), .v (.d (nI k)), .v (.d x.d)] s = some (.ex ⟨"NotChain", [("place", nI k)]⟩ [.v (.d GD), .v (.d (nI k)), .v (.d x.d)] s) := by
        rw [hb] at hs
        generalize x.d = X at *
        simp [-gIx, b_check_chain_1, h0, hs, Bx.fRaiseF, Bx.intsA, hk12]
      rw [hb, if_pos rfl, hstep, hbd]
      exact ⟨fun e => (by cases e), fun j e => (by cases e; exact ⟨_, rfl⟩)⟩
    · have hb : sideP x = false := by simpa using hb
      have hbd : b_check_chain_1 [.v (.d GD), .v (.d (nI k)), .v (.d x.d)] s = some (.nx [.v (.d GD), .v (.d (nI k)), .v (.d x.d)] s) := by
        rw [hb] at hs
        generalize x.d = X at *
        simp [-gIx, b_check_chain_1, h0, hs]
      obtain ⟨ih1, ih2⟩ := ih (k + 1) (.v (.d (nI k))) (.v (.d x.d)) s (by omega)
      rw [hb, if_neg (by decide), hstep, hbd]
      refine ⟨fun e => ?_, fun j e => ?_⟩
      · exact ih1 (by simpa using e)
      · obtain ⟨i, hi, rfl⟩ := Option.map_eq_some_iff.mp e
        obtain ⟨e', q⟩ := ih2 i hi
        refine ⟨e', ?_⟩
        rw [show k + (i + 1) = k + 1 + i by omega]
        exact q
theorem check_eq (hg : g.length ≤ 1000) : m_check_chain [gd g] = some (match g.findIdx? sideP with
    | none => .rt (.val .none)
    | some j => .ex ⟨"NotChain", [("place", nI j)]⟩) := by
  unfold m_check_chain
  rw [fnXB_eq (by rfl)]
  obtain ⟨h1, h2⟩ := check_loop (gd g) g 0 .un .un [] (by omega)
  have hi : ∀ env : Ev, env = [.v (.d (gd g)), .un, .un] → (biP (iEn (aCons (eVar 0) aNil))) env [] = some (.ok ((g.zipIdx 0).map fun p => AV.d (.tuple [nI p.2, p.1.d]), none) []) := fun env he => by
    subst he
    have en := enumD_map Pl.d g
    have fm : Dn.Fits (g.map Pl.d).length := fits (by simp; omega)
    rw [show gd g = PyData.list (g.map Pl.d) from rfl]
    generalize g.map Pl.d = M at *
    simp [en, fm]
  show resX (resB (b_check_chain [.v (.d (gd g)), .un, .un] [])) = _
  unfold b_check_chain
  cases hw : g.findIdx? sideP with
  | none =>
    obtain ⟨e, q⟩ := h1 hw
    exact (congrArg (fun o => resX (resB o)) (fB_for (hi _ rfl) q)).trans rfl
  | some j =>
    obtain ⟨e, q⟩ := h2 j hw
    rw [Nat.zero_add] at q
    exact (congrArg (fun o => resX (resB o)) (fB_for (hi _ rfl) q)).trans rfl
theorem refused_eq (hg : g.length ≤ 1000) : m__law_refused [gd g] = some (.rt (.own (match g.findIdx? sideP with
    | none => []
    | some j => [nI j]))) := by
  have ck := check_eq hg
  have few0 : Dn.Few 0 := by simp
  have few1 : Dn.Few 1 := by simp
  unfold m__law_refused
  rw [fnXB_eq (by rfl)]
  show resX (resB (b__law_refused [.v (.d (gd g)), .un] [])) = _
  generalize gd g = GD at *
  cases hw : g.findIdx? sideP with
  | none =>
    rw [hw] at ck
    have ck : m_check_chain [GD] = some (.rt (.val .none)) := ck
    have hb : b__law_refused_1 [.v (.d GD), .un] [] = some (.rt (.c 0) [.ld []]) := by
      simp [b__law_refused_1, opX, opR, ck, few0]
    simp [b__law_refused, fTry, hb, toR]
  | some j =>
    rw [hw] at ck
    have ck : m_check_chain [GD] = some (.ex ⟨"NotChain", [("place", nI j)]⟩) := ck
    have hb : b__law_refused_1 [.v (.d GD), .un] [] = some (.ex ⟨"NotChain", [("place", nI j)]⟩ [.v (.d GD), .un] []) := by
      simp [b__law_refused_1, opX, opR, ck]
    have hs : b__law_refused_2 [.v (.d GD), .x ⟨"NotChain", [("place", nI j)]⟩] [] = some (.rt (.c 0) [.ld [nI j]]) := by
      unfold b__law_refused_2
      simp [Bx.bIsF, Bx.bXf, few1, mkL]
    simp [b__law_refused, fTry, hb, hs, inX, toR]
end Law
namespace Law
open PySem PySem.Spec PyProof.Rows L2 Dn Bn
variable {g : List Pl}
theorem wfc_sm {n : Nat} {p : Pl} (h : WfC n p) (hn : n ≤ 1000) : SmP p := by
  refine ⟨?_, fun x hx => ?_, fun c hc => ?_⟩
  · cases p with
    | draw bs => simpa [Pl.tg] using h.2.1
    | ours xs => exact h.elim
    | theirs xs => exact h.elim
    | rew c x => simp [Pl.tg]
    | fin => simp [Pl.tg]
    | lose => simp [Pl.tg]
  · cases p with
    | draw bs =>
      obtain ⟨b, hb, rfl⟩ := List.mem_map.mp hx
      have := (h.2.2.1 b hb).2
      omega
    | ours xs => exact h.elim
    | theirs xs => exact h.elim
    | rew c y =>
      cases List.mem_singleton.mp hx
      have := h.2
      omega
    | fin => cases hx
    | lose => cases hx
  · cases p with
    | draw bs =>
      obtain ⟨b, hb, rfl⟩ := List.mem_map.mp hc
      exact wd_qd (h.2.2.1 b hb).1.bt (by decide)
    | ours xs => exact h.elim
    | theirs xs => exact h.elim
    | rew c x =>
      cases List.mem_singleton.mp hc
      exact wd_qd h.1.b (by decide)
    | fin => cases hc
    | lose => cases hc
theorem brs_tg {n : Nat} {x : Pl} (h : WfC n x) : (brs x).map (·.2) = x.tg := by
  cases x <;> first | rfl | exact h.elim
theorem gxc {p : Nat} (hp : p < g.length) : g[p]? = some (g.getD p .lose) := by simp [hp]
theorem tgt_of (G : WfCh g) (hl : g.length ≤ 60) : Tgt g := by
  refine ⟨fun p x hx => ?_, fun x hx y hy => ?_, fun x hx => ?_, hl⟩
  · have W := G x (List.mem_of_getElem? hx)
    have := targets_chain W hx
    rwa [brs_tg W] at this
  · have W := G x hx
    rw [← brs_tg W] at hy
    obtain ⟨b, hb, rfl⟩ := List.mem_map.mp hy
    exact (brs_bt W b hb).2
  · have W := G x hx
    rw [← brs_tg W, List.length_map]
    have := brs_len W
    omega
theorem brn_of (G : WfCh g) (hl : g.length ≤ 60) : Brn g := by
  have W : ∀ p, p < g.length → WfC g.length (g.getD p .lose) := fun p hp => G _ (List.mem_of_getElem? (gxc hp))
  refine ⟨fun p hp => law_branches_eq (W p hp) (gxc hp), fun p hp => brs_tg (W p hp), fun p hp x hx => (tgt_of G hl).lt' hp x hx, fun p hp => ?_, hl⟩
  have := brs_len (W p hp)
  show (brs (g.getD p .lose)).length ≤ 1000
  omega
theorem whole_eq (i : Int) : m__law_is_whole [.int i] = some (.val (.bool true)) := by
  unfold m__law_is_whole
  rw [fnD_eq (by rfl)]
  simp [b__law_is_whole]
theorem row_set {S : Sto} {m : Nat} {h : Nat → List PyData} {i : Nat} (hi : i < m) (T : Sto) (ds : List PyData) : (S ++ rowsB m h ++ T).set (S.length + i) (.ld ds) = S ++ rowsB m (fun j => if j = i then ds else h j) ++ T := by
  rw [List.append_assoc, List.append_assoc, List.set_append_right _ _ (by omega), List.set_append_left _ _ (by simp; omega)]
  congr 2
  refine List.ext_getElem? fun j => ?_
  rw [show S.length + i - S.length = i by omega, List.getElem?_set]
  by_cases hj : i = j
  · subst hj
    simp [hi]
  · rw [if_neg hj]
    by_cases hm : j < m
    · simp [hm, Ne.symm hj]
    · simp [hm]
/-- one round of asking, with the lists that came back spoilt -/
theorem turn40 (T : Tgt g) (hn : g.length ≠ 0) (s : Sto) (a0 a1 a3 a5 a6 a7 a8 a9 a10 a11 : Sg) :
    ∃ a9' a10' s', nxtB (b_law_3 [a0, a1, .v (.d (gd g)), a3, .v (.d (.list (rowsD (clsL (RS g) g.length)))), a5, a6, a7, a8, a9, a10, a11, .un] s) = some ([a0, a1, .v (.d (gd g)), a3, .v (.d (.list (rowsD (clsL (RS g) g.length)))), a5, a6, a7, a8, a9', a10', a11, .un], s') := by
  have ce := closed_eq T hn s
  have R := rs_ok T
  have hl := T.len
  obtain ⟨ps, hps⟩ : ∃ ps, ps = (List.range g.length).filter (progB (RS g)) := ⟨_, rfl⟩
  rw [← hps] at ce
  have psl : ∀ p ∈ ps, p < g.length := fun p hp => by
    rw [hps] at hp
    exact List.mem_range.mp (List.mem_filter.mp hp).1
  have psn : ps.length ≤ 60 := by
    rw [hps]
    have := List.length_filter_le (progB (RS g)) (List.range g.length)
    simp at this
    omega
  have cls : rowsD (clsL (RS g) g.length) = ps.map fun p => .list (hR g p) := by
    rw [hps]
    show ((List.map (RS g) _).map fun r => PyData.list (il r)) = _
    rw [List.map_map]
    rfl
  obtain ⟨F, hF⟩ : ∃ F, F = s.length + g.length + 1 := ⟨_, rfl⟩
  -- what stands in the store at any time
  have fA : ∀ h : Nat → List PyData, (s ++ rowsB g.length h ++ [.lst (cellsB s.length g.length), foundC s.length ps])[F]? = some (foundC s.length ps) := fun h => by rw [hF]; exact found_at1 []
  have dpF : dp (s ++ rowsB g.length (hR g) ++ [.lst (cellsB s.length g.length), foundC s.length ps]) (.c F) = some (.list (rowsD (clsL (RS g) g.length))) := by
    rw [cls]
    by_cases h0 : ps = []
    · have q := dp_ld (ds := []) (by rw [fA (hR g)]; simp [foundC, h0])
      rw [q, h0]
      rfl
    · have q := dp_lst (vs := ps.map fun p => .c (s.length + p)) (by rw [fA (hR g)]; simp [foundC, h0])
      rw [q, mapO_map (h := fun p => PyData.list (hR g p)) fun p hp => dpN_ld (row_at (psl p hp) _)]
      rfl
  have sq : ∀ h : Nat → List PyData, seqOf (s ++ rowsB g.length h ++ [.lst (cellsB s.length g.length), foundC s.length ps]) (.c F) = some (ps.map fun p => .c (s.length + p), some F) := fun h => by
    unfold seqOf
    dsimp only
    rw [fA h]
    by_cases h0 : ps = []
    · simp [foundC, h0]
    · simp [foundC, h0]
  have it : ∀ h : Nat → List PyData, itm (s ++ rowsB g.length h ++ [.lst (cellsB s.length g.length), foundC s.length ps]) F = some (ps.map fun p => .c (s.length + p)) := fun h => by
    unfold itm
    rw [fA h]
    by_cases h0 : ps = []
    · simp [foundC, h0]
    · simp [foundC, h0]
  have rne := neT_rows (clsL (RS g) g.length)
  have rne2 : gNe (.list (rowsD (clsL (RS g) g.length))) (.list (rowsD (clsL (RS g) g.length))) = some (.val (.bool false)) := rne
  have hil : isi "list" (.list (rowsD (clsL (RS g) g.length))) = true := rfl
  rw [← hF] at ce
  obtain ⟨S1, hS1⟩ : ∃ S1, S1 = s ++ rowsB g.length (hR g) ++ [.lst (cellsB s.length g.length), foundC s.length ps] := ⟨_, rfl⟩
  have e1 : fSet 9 (bCallB m_closed_classes (bCons (bP (eVar 2)) bNil)) [a0, a1, .v (.d (gd g)), a3, .v (.d (.list (rowsD (clsL (RS g) g.length)))), a5, a6, a7, a8, a9, a10, a11, .un] s = some (.nx [a0, a1, .v (.d (gd g)), a3, .v (.d (.list (rowsD (clsL (RS g) g.length)))), a5, a6, a7, a8, .v (.c F), a10, a11, .un] S1) := by
    rw [← hS1] at ce
    generalize rowsD (clsL (RS g) g.length) = RD at *
    generalize gd g = GD at *
    simp [-fnB, ce]
  have e2 : fIf (bPkT (tOrD (tNotD (tE (eIsi "list" (eVar 9)))) (tE (eBin gNeT (eVar 9) (eVar 4))))) (fRet (bP (eC (.bool false)))) fNext [a0, a1, .v (.d (gd g)), a3, .v (.d (.list (rowsD (clsL (RS g) g.length)))), a5, a6, a7, a8, .v (.c F), a10, a11, .un] S1 = some (.nx [a0, a1, .v (.d (gd g)), a3, .v (.d (.list (rowsD (clsL (RS g) g.length)))), a5, a6, a7, a8, .v (.c F), a10, a11, .un] S1) := by
    rw [← hS1] at dpF
    refine (fIf_f (bPkT_of ?_)).trans rfl
    have q9 : (pk S1 [a0, a1, .v (.d (gd g)), a3, .v (.d (.list (rowsD (clsL (RS g) g.length)))), a5, a6, a7, a8, .v (.c F), a10, a11, .un])[9]? = some (.val (.list (rowsD (clsL (RS g) g.length)))) := by
      rw [pk_get]
      exact congrArg some (pkS_c dpF)
    have q4 : (pk S1 [a0, a1, .v (.d (gd g)), a3, .v (.d (.list (rowsD (clsL (RS g) g.length)))), a5, a6, a7, a8, .v (.c F), a10, a11, .un])[4]? = some (.val (.list (rowsD (clsL (RS g) g.length)))) := by
      rw [pk_get]
      rfl
    generalize pk S1 [a0, a1, .v (.d (gd g)), a3, .v (.d (.list (rowsD (clsL (RS g) g.length)))), a5, a6, a7, a8, .v (.c F), a10, a11, .un] = E at *
    generalize rowsD (clsL (RS g) g.length) = RD at *
    simp [q9, q4, rne2, hil]
  obtain ⟨env3, S3, h3, a10', h, rfl, hS3, _⟩ := forB_wp (key := some F) (its := ps.map fun p => AV.c (s.length + p)) (g := btName 10) (body := b_law_2) (fun p : Nat => AV.c (s.length + p))
    (fun pre env St => ∃ (a10 : Sg) (h : Nat → List PyData), env = [a0, a1, .v (.d (gd g)), a3, .v (.d (.list (rowsD (clsL (RS g) g.length)))), a5, a6, a7, a8, .v (.c F), a10, a11, .un] ∧ St = s ++ rowsB g.length h ++ [.lst (cellsB s.length g.length), foundC s.length ps] ∧ ∀ i, i < g.length → ∃ z : List Int, h i = z.map .int ∧ z.length ≤ 60 + pre.length)
    (all := ps) (env := [a0, a1, .v (.d (gd g)), a3, .v (.d (.list (rowsD (clsL (RS g) g.length)))), a5, a6, a7, a8, .v (.c F), a10, a11, .un]) (s := S1) ⟨a10, hR g, rfl, hS1, fun i hi => ⟨(RS g i).map fun x : Nat => (x : Int), by rw [List.map_map]; rfl, by rw [List.length_map]; have := rs_len T hi; simp; omega⟩⟩
    (fun _ _ _ _ _ ⟨_, h, _, e, _⟩ => by rw [e]; exact it h)
    (fun pre p post env St hall ⟨a10, h, he, hs, hz⟩ => by
      subst he hs
      have hp := psl p (by rw [hall]; simp)
      have hpl : pre.length ≤ 60 := by
        have := congrArg List.length hall
        simp at this
        omega
      obtain ⟨z, ez, lz⟩ := hz p hp
      have rp := row_at (S := s) (m := g.length) (h := h) hp [.lst (cellsB s.length g.length), foundC s.length ps]
      have st := row_set (S := s) (m := g.length) (h := h) hp [.lst (cellsB s.length g.length), foundC s.length ps] (h p ++ [.int 99])
      refine ⟨[a0, a1, .v (.d (gd g)), a3, .v (.d (.list (rowsD (clsL (RS g) g.length)))), a5, a6, a7, a8, .v (.c F), .v (.c (s.length + p)), a11, .un], s ++ rowsB g.length (fun j => if j = p then h p ++ [.int 99] else h j) ++ [.lst (cellsB s.length g.length), foundC s.length ps], ?_, _, _, rfl, rfl, fun i hi => ?_⟩
      · show nxtB (b_law_2 [a0, a1, .v (.d (gd g)), a3, .v (.d (.list (rowsD (clsL (RS g) g.length)))), a5, a6, a7, a8, .v (.c F), .v (.c (s.length + p)), a11, .un] _) = _
        unfold b_law_2
        have fl : (h p).length ≤ 120 := by rw [ez, List.length_map]; omega
        have ft : Dn.Fits ((h p).length + 1) := fits (by omega)
        have dpp := dp_ld rp
        have cond := bPkT_of (b := false) (c := (tNotD (tE (eCall gAll (aCons b_law_1 aNil))))) (s := s ++ rowsB g.length h ++ [.lst (cellsB s.length g.length), foundC s.length ps]) (env := [a0, a1, .v (.d (gd g)), a3, .v (.d (.list (rowsD (clsL (RS g) g.length)))), a5, a6, a7, a8, .v (.c F), .v (.c (s.length + p)), a11, .un]) (by
          have q10 : (pk (s ++ rowsB g.length h ++ [.lst (cellsB s.length g.length), foundC s.length ps]) [a0, a1, .v (.d (gd g)), a3, .v (.d (.list (rowsD (clsL (RS g) g.length)))), a5, a6, a7, a8, .v (.c F), .v (.c (s.length + p)), a11, .un])[10]? = some (.val (.list (z.map .int))) := by
            rw [pk_get, ← ez]
            exact congrArg some (pkS_c dpp)
          have ql : (pk (s ++ rowsB g.length h ++ [.lst (cellsB s.length g.length), foundC s.length ps]) [a0, a1, .v (.d (gd g)), a3, .v (.d (.list (rowsD (clsL (RS g) g.length)))), a5, a6, a7, a8, .v (.c F), .v (.c (s.length + p)), a11, .un]).length = 13 := by unfold pk; simp
          generalize pk (s ++ rowsB g.length h ++ [.lst (cellsB s.length g.length), foundC s.length ps]) [a0, a1, .v (.d (gd g)), a3, .v (.d (.list (rowsD (clsL (RS g) g.length)))), a5, a6, a7, a8, .v (.c F), .v (.c (s.length + p)), a11, .un] = E at *
          have e : b_law_1 E = some (.own (z.map fun _ => .bool true)) := by
            unfold b_law_1
            refine eLc_map PyData.int (fun _ => PyData.bool true) (xs := z) (by simp [q10]) (by omega) fun i _ => ?_
            have w := whole_eq i
            have : 12 < E.length := by omega
            simp [elD, this, w]
          have ga := gAll_map (fun _ : Int => true) z
          have hall : (z.all fun _ => true) = true := by simp
          rw [hall] at ga
          generalize (z.map fun _ => PyData.bool true) = BL at *
          simp [-gAll, e, ga])
        rw [fseq_nx ((fIf_f cond).trans rfl)]
        generalize hSt : s ++ rowsB g.length h ++ [.lst (cellsB s.length g.length), foundC s.length ps] = St at *
        generalize rowsD (clsL (RS g) g.length) = RD at *
        generalize gd g = GD at *
        simp [isLst, rp, pushC, ft, st]
      · by_cases e : i = p
        · subst e
          exact ⟨z ++ [99], by rw [if_pos rfl, ez]; simp, by simp; omega⟩
        · obtain ⟨y, ey, ly⟩ := hz i hi
          exact ⟨y, by rw [if_neg e, ey], by simp; omega⟩)
  have hfor := fB_for (it := biE (bVar 9)) (env := [a0, a1, .v (.d (gd g)), a3, .v (.d (.list (rowsD (clsL (RS g) g.length)))), a5, a6, a7, a8, .v (.c F), a10, a11, .un]) (s := S1) (its := ps.map fun p => AV.c (s.length + p)) (key := some F) (s1 := S1) (by
    have := sq (hR g)
    rw [← hS1] at this
    simp [this]) h3
  have few0 : Dn.Few 0 := by simp
  have fS : S3[F]? = some (foundC s.length ps) := by rw [hS3]; exact fA h
  have last : ∃ s', fDrop (bAppend (bVar 9) (bP (eLst aNil))) [a0, a1, .v (.d (gd g)), a3, .v (.d (.list (rowsD (clsL (RS g) g.length)))), a5, a6, a7, a8, .v (.c F), a10', a11, .un] S3 = some (.nx [a0, a1, .v (.d (gd g)), a3, .v (.d (.list (rowsD (clsL (RS g) g.length)))), a5, a6, a7, a8, .v (.c F), a10', a11, .un] s') := by
    have Fl : F < S3.length := (List.getElem?_eq_some_iff.mp fS).1
    have il1 : isLst S3 F = true := by
      unfold isLst
      rw [fS]
      by_cases h0 : ps = [] <;> simp [foundC, h0]
    have f2 : (S3 ++ [Ce.ld []])[F]? = some (foundC s.length ps) := by rw [List.getElem?_append_left Fl]; exact fS
    have av : avD (S3 ++ [Ce.ld []]) (.c S3.length) = none := by rw [avD_c]; simp
    have pc : ∃ c, pushC (S3 ++ [Ce.ld []]) (foundC s.length ps) (.c S3.length) = some c := by
      by_cases h0 : ps = []
      · have ft : Dn.Fits (([] : List PyData).length + 1) := fits (by simp)
        exact ⟨.lst (([] : List PyData).map .d ++ [.c S3.length]), by rw [show foundC s.length ps = .ld [] from by simp [foundC, h0]]; simp only [pushC, av, if_pos ft]⟩
      · have ft : Dn.Fits ((ps.map fun p => AV.c (s.length + p)).length + 1) := fits (by simp; omega)
        exact ⟨.lst (ps.map (fun p => AV.c (s.length + p)) ++ [.c S3.length]), by rw [show foundC s.length ps = .lst (ps.map fun p => .c (s.length + p)) from by simp [foundC, h0]]; simp only [pushC, if_pos ft]⟩
    obtain ⟨c, pc⟩ := pc
    refine ⟨(S3 ++ [Ce.ld []]).set F c, ?_⟩
    generalize rowsD (clsL (RS g) g.length) = RD at *
    generalize gd g = GD at *
    generalize foundC s.length ps = FC at *
    simp [il1, few0, f2, pc]
  obtain ⟨s', last⟩ := last
  refine ⟨.v (.c F), a10', s', ?_⟩
  unfold b_law_3
  rw [fseq_nx e1, fseq_nx e2, fseq_nx hfor, last]
  rfl
/-- a place of a side is put into the game -/
structure Spo (g G : List Pl) (pl : List Nat) : Prop where
  l : G.length = g.length
  s : ∀ i, i < g.length → sideP (G.getD i .lose) = decide (i ∈ pl)
  p : ∀ i ∈ pl, i < g.length
theorem turn40b (hg : 1 ≤ g.length) (hg2 : g.length ≤ 60) {ds : List Nat} (hd : Drn ds) (hl : ds.length = 120) {G : List Pl} {pl : List Nat} (I : Spo g G pl) (hp : pl.length ≤ 5) {k : Nat} (hk : k < 2) (S T : Sto) (a0 a2 a3 a4 a5 a9 a10 a11 a12 : Sg) :
    ∃ (G' : List Pl) (x : Nat) (a11' : Sg) (T' : Sto), Spo g G' (pl ++ [x]) ∧ nxtB (b_law_4 [a0, .v (.d (.list (il ds))), a2, a3, a4, a5, .v (.c S.length), .v (.c (S.length + 1)), .v (.d (nI k)), a9, a10, a11, a12] (S ++ .ld (G.map Pl.d) :: .ld (il pl) :: T)) =
      some ([a0, .v (.d (.list (il ds))), a2, a3, a4, a5, .v (.c S.length), .v (.c (S.length + 1)), .v (.d (nI k)), a9, a10, a11', a12], S ++ .ld (G'.map Pl.d) :: .ld (il (pl ++ [x])) :: T') := by
  have hlen : (G.map Pl.d).length = g.length := by rw [List.length_map]; exact I.l
  have at1 : ∀ c : Nat, c < 6 → atI (il ds) (111 + (k : Int) + (c : Int)) = some (.int ((ds.getD (111 + k + c) 0 : Nat) : Int)) := fun c hc => by
    have := atI_d (ds := ds) (i := 111 + k + c) (by omega)
    have e : ((111 + k + c : Nat) : Int) = 111 + (k : Int) + (c : Int) := by omega
    rw [e] at this
    exact this
  have h111 := at1 0 (by decide)
  have h113 := at1 2 (by decide)
  have h115 := at1 4 (by decide)
  have e0 : 111 + (k : Int) + ((0 : Nat) : Int) = 111 + (k : Int) := by omega
  have e2 : 111 + (k : Int) + ((2 : Nat) : Int) = 113 + (k : Int) := by omega
  have e4 : 111 + (k : Int) + ((4 : Nat) : Int) = 115 + (k : Int) := by omega
  rw [e0] at h111
  rw [e2] at h113
  rw [e4] at h115
  generalize ds.getD (111 + k + 0) 0 = u at *
  generalize ds.getD (111 + k + 2) 0 = v at *
  generalize ds.getD (111 + k + 4) 0 = w at *
  have nz := nzN g.length (by omega)
  have nz2 : ∀ i, Dn.NzOk i 2 := nzN 2 (by decide)
  have mu := fmodN u g.length (by omega)
  have mw := fmodN w g.length (by omega)
  have mv : ((v : Nat) : Int).fmod 2 = ((v % 2 : Nat) : Int) := fmodN v 2 (by decide)
  have lu := Nat.mod_lt u (show 0 < g.length by omega)
  obtain ⟨x, hx⟩ : ∃ x, x = u % g.length := ⟨_, rfl⟩
  obtain ⟨y, hy⟩ : ∃ y, y = w % g.length := ⟨_, rfl⟩
  rw [← hx] at mu lu
  rw [← hy] at mw
  have v2l := Nat.mod_two_eq_zero_or_one v
  obtain ⟨v2, hv2⟩ : ∃ v2, v2 = v % 2 := ⟨_, rfl⟩
  rw [← hv2] at mv v2l
  obtain ⟨P, hP, hPd, hPe⟩ : ∃ P : Pl, sideP P = true ∧ (atI [PyData.str "ours", PyData.str "theirs"] (v2 : Int) = some (.str P.k)) ∧ P.d = .tuple [.str P.k, .list [nI y, nI x]] := by
    rcases v2l with h | h
    · exact ⟨.ours [y, x], rfl, by rw [h]; rfl, rfl⟩
    · exact ⟨.theirs [y, x], rfl, by rw [h]; rfl, rfl⟩
  have ix : ixN (G.map Pl.d).length (x : Int) = some x := ixN_of (by omega)
  have few2 : Dn.Few 2 := by simp
  have ft : Dn.Fits ((il pl).length + 1) := fits (by simp; omega)
  have esd : (G.set x P).map Pl.d = (G.map Pl.d).set x P.d := List.map_set
  have epl : il (pl ++ [x]) = il pl ++ [nI x] := by simp
  refine ⟨G.set x P, x, .v (.d (nI x)), T ++ [.frz (.list [nI y, nI x])], ⟨by rw [List.length_set]; exact I.l, fun i hi => ?_, fun i hi => ?_⟩, ?_⟩
  · have hGl := I.l
    by_cases e : i = x
    · subst e
      have : (G.set i P).getD i .lose = P := by simp [hGl, hi]
      rw [this, hP]
      simp
    · have : (G.set x P).getD i .lose = G.getD i .lose := by simp [List.getElem?_set_ne (Ne.symm e)]
      rw [this, I.s i hi]
      simp [e]
  · rcases List.mem_append.mp hi with h | h
    · exact I.p i h
    · rw [List.mem_singleton.mp h]
      exact lu
  · rw [esd, epl, hPe]
    have c6 : ∀ (A B : Ce) (T : Sto), (S ++ A :: B :: T)[S.length]? = some A := fun A B T => by simp
    have c7 : ∀ (A B : Ce) (T : Sto), (S ++ A :: B :: T)[S.length + 1]? = some B := fun A B T => by rw [List.getElem?_append_right (by omega)]; simp
    have s6 : ∀ (A B C : Ce) (T : Sto), (S ++ A :: B :: T).set S.length C = S ++ C :: B :: T := fun A B C T => by rw [List.set_append_right _ _ (by omega)]; simp
    have s7 : ∀ (A B C : Ce) (T : Sto), (S ++ A :: B :: T).set (S.length + 1) C = S ++ A :: C :: T := fun A B C T => by rw [List.set_append_right _ _ (by omega)]; simp
    have dp6 : ∀ (B : Ce) (T : Sto), dp (S ++ .ld (G.map Pl.d) :: B :: T) (.c S.length) = some (.list (G.map Pl.d)) := fun B T => dp_ld (c6 _ _ _)
    have dp7 : ∀ (A : Ce) (T : Sto), dp (S ++ A :: .ld (il pl) :: T) (.c (S.length + 1)) = some (.list (il pl)) := fun A T => dp_ld (c7 _ _ _)
    have b1 : fSet 11 (bPk (eBin gMod (eCall gInt (aCons (eBin gIx (eVar 1) (eBin gAdd (eC (.int 111)) (eVar 8))) aNil)) (eCall gLen (aCons (eVar 6) aNil)))) [a0, .v (.d (.list (il ds))), a2, a3, a4, a5, .v (.c S.length), .v (.c (S.length + 1)), .v (.d (nI k)), a9, a10, a11, a12] (S ++ .ld (G.map Pl.d) :: .ld (il pl) :: T) =
        some (.nx [a0, .v (.d (.list (il ds))), a2, a3, a4, a5, .v (.c S.length), .v (.c (S.length + 1)), .v (.d (nI k)), a9, a10, .v (.d (nI x)), a12] (S ++ .ld (G.map Pl.d) :: .ld (il pl) :: T)) := by
      have d6 := dp6 (.ld (il pl)) T
      generalize S ++ .ld (G.map Pl.d) :: .ld (il pl) :: T = St at *
      generalize G.map Pl.d = GD at *
      generalize il ds = L at *
      simp [pkS_c d6, h111, hlen, nz, mu]
    have b2 : fPut (bVar 6) (bP (eVar 11)) (bTup (bCons (bP (eBin gIx (eLst (aCons (eC (.str "ours")) (aCons (eC (.str "theirs")) aNil))) (eBin gMod (eCall gInt (aCons (eBin gIx (eVar 1) (eBin gAdd (eC (.int 113)) (eVar 8))) aNil)) (eC (.int 2))))) (bCons (bFz (bLst (bCons (bPk (eBin gMod (eCall gInt (aCons (eBin gIx (eVar 1) (eBin gAdd (eC (.int 115)) (eVar 8))) aNil)) (eCall gLen (aCons (eVar 6) aNil)))) (bCons (bP (eVar 11)) bNil)))) bNil))) [a0, .v (.d (.list (il ds))), a2, a3, a4, a5, .v (.c S.length), .v (.c (S.length + 1)), .v (.d (nI k)), a9, a10, .v (.d (nI x)), a12] (S ++ .ld (G.map Pl.d) :: .ld (il pl) :: T) =
        some (.nx [a0, .v (.d (.list (il ds))), a2, a3, a4, a5, .v (.c S.length), .v (.c (S.length + 1)), .v (.d (nI k)), a9, a10, .v (.d (nI x)), a12] (S ++ .ld ((G.map Pl.d).set x (.tuple [.str P.k, .list [nI y, nI x]])) :: .ld (il pl) :: (T ++ [.frz (.list [nI y, nI x])]))) := by
      have d6 := dp6 (.ld (il pl)) T
      have hf : bFz (bLst (bCons (bPk (eBin gMod (eCall gInt (aCons (eBin gIx (eVar 1) (eBin gAdd (eC (.int 115)) (eVar 8))) aNil)) (eCall gLen (aCons (eVar 6) aNil)))) (bCons (bP (eVar 11)) bNil))) [a0, .v (.d (.list (il ds))), a2, a3, a4, a5, .v (.c S.length), .v (.c (S.length + 1)), .v (.d (nI k)), a9, a10, .v (.d (nI x)), a12] (S ++ .ld (G.map Pl.d) :: .ld (il pl) :: T) = some (.ok (.d (.list [nI y, nI x])) ((S ++ .ld (G.map Pl.d) :: .ld (il pl) :: T) ++ [.frz (.list [nI y, nI x])])) := by
        refine bFz_own ?_
        generalize S ++ .ld (G.map Pl.d) :: .ld (il pl) :: T = St at *
        generalize G.map Pl.d = GD at *
        generalize il ds = L at *
        simp [pkS_c d6, h115, hlen, nz, mw, few2, mkL]
      have eS : (S ++ .ld (G.map Pl.d) :: .ld (il pl) :: T) ++ [.frz (.list [nI y, nI x])] = S ++ .ld (G.map Pl.d) :: .ld (il pl) :: (T ++ [.frz (.list [nI y, nI x])]) := by simp
      rw [eS] at hf
      have k6 := c6 (.ld (G.map Pl.d)) (.ld (il pl)) (T ++ [.frz (.list [nI y, nI x])])
      have t6 := s6 (.ld (G.map Pl.d)) (.ld (il pl)) (.ld ((G.map Pl.d).set x (.tuple [.str P.k, .list [nI y, nI x]]))) (T ++ [.frz (.list [nI y, nI x])])
      generalize S ++ .ld (G.map Pl.d) :: .ld (il pl) :: T = St at *
      generalize S ++ .ld (G.map Pl.d) :: .ld (il pl) :: (T ++ [.frz (.list [nI y, nI x])]) = St2 at *
      generalize (G.map Pl.d) = GD at *
      generalize il ds = L at *
      generalize P.k = K at *
      simp [-bFz, h113, mv, nz2, hPd, few2, hf, mkT, k6, putC, ix, t6]
    have b3 : ∀ (A : Ce) (T : Sto), fDrop (bAppend (bVar 7) (bP (eVar 11))) [a0, .v (.d (.list (il ds))), a2, a3, a4, a5, .v (.c S.length), .v (.c (S.length + 1)), .v (.d (nI k)), a9, a10, .v (.d (nI x)), a12] (S ++ A :: .ld (il pl) :: T) =
        some (.nx [a0, .v (.d (.list (il ds))), a2, a3, a4, a5, .v (.c S.length), .v (.c (S.length + 1)), .v (.d (nI k)), a9, a10, .v (.d (nI x)), a12] (S ++ A :: .ld (il pl ++ [nI x]) :: T)) := fun A T => by
      have k7 := c7 A (.ld (il pl)) T
      have t7 := s7 A (.ld (il pl)) (.ld (il pl ++ [nI x])) T
      generalize S ++ A :: .ld (il pl) :: T = St at *
      generalize il pl = PL at *
      generalize il ds = L at *
      simp [isLst, k7, pushC, ft, t7]
    unfold b_law_4
    rw [fseq_nx b1, fseq_nx b2, b3]
    rfl
theorem min_of : ∀ {pl : List Nat}, 1 ≤ pl.length → pl.length ≤ 2 → ∃ a ∈ pl, (∀ y ∈ pl, a ≤ y) ∧ gMin [.list (il pl)] = some (.val (nI a))
  | [a], _, _ => ⟨a, by simp, fun y hy => by simp at hy; omega, rfl⟩
  | [a, b], _, _ => by
    have e : gMin [.list (il [a, b])] = some (.val (.int (if (b : Int) < (a : Int) then (b : Int) else (a : Int)))) := rfl
    by_cases h : b < a
    · refine ⟨b, by simp, fun y hy => ?_, ?_⟩
      · simp at hy
        omega
      · rw [e, if_pos (by omega)]
    · refine ⟨a, by simp, fun y hy => ?_, ?_⟩
      · simp at hy
        omega
      · rw [e, if_neg (by omega)]
theorem first_side {G : List Pl} {pl : List Nat} (I : Spo g G pl) {a : Nat} (ha : a ∈ pl) (hm : ∀ y ∈ pl, a ≤ y) : G.findIdx? sideP = some a := by
  have hl := I.l
  have han := I.p a ha
  rw [List.findIdx?_eq_some_iff_getElem]
  refine ⟨by omega, ?_, fun j hj => ?_⟩
  · have := I.s a han
    rw [show G.getD a .lose = G[a]'(by omega) by simp [hl, han]] at this
    rw [this]
    simpa using ha
  · have := I.s j (by omega)
    rw [show G.getD j .lose = G[j]'(by omega) by simp [show j < G.length by omega]] at this
    rw [this]
    have : ¬ j ∈ pl := fun z => by have := hm j z; omega
    simpa using this
theorem no_side (G : WfCh g) : g.findIdx? sideP = none := by
  rw [List.findIdx?_eq_none_iff]
  intro x hx
  have W := G x hx
  cases x <;> first | rfl | exact W.elim
theorem hlaw (ns : List Int) (hn : ns.length ≤ 63) : m_law [.list (ns.map PyData.int)] = some (.rt (.val (.bool true))) := by
  unfold m_law
  rw [fnXB_eq (by rfl)]
  obtain ⟨ds, d1, dl, hd⟩ := draws_nat ns hn 120 (by decide)
  obtain ⟨g, c1, G, g1, g2⟩ := chain_eq hd (by omega)
  have T := tgt_of G (by omega)
  have B := brn_of G (by omega)
  have lc := law_closed_eq T B
  have wg : Wd 5 (g.length * 2501) (gd g) := wd_game fun p hp => wfc_sm (G p hp) (by omega)
  have er := gRepr_lst (wg.shw (by decide) (by have : g.length * 2501 ≤ 7 * 2501 := Nat.mul_le_mul_right _ g2; omega))
  have er : gRepr [gd g] = _ := er
  have few0 : Dn.Few 0 := by simp
  have few1 : Dn.Few 1 := by simp
  have d1 : m__law_draws [.list (ns.map .int), .int 120] = _ := d1
  show resX (resB (b_law [.v (.d (.list (ns.map .int))), .un, .un, .un, .un, .un, .un, .un, .un, .un, .un, .un, .un] [])) = _
  unfold b_law
  generalize hNS : PyData.list (ns.map PyData.int) = NS at *
  refine run_nxB (set_fzP (ds := il ds) (by generalize il ds = L at *; simp [d1])) ?_
  refine run_nxB (set_fzP (ds := g.map Pl.d) (by generalize il ds = L at *; generalize g.map Pl.d = GD at *; simp [c1])) ?_
  show resX (resB (fSeq _ _ [.v (.d NS), .v (.d (.list (il ds))), .v (.d (gd g)), .un, .un, .un, .un, .un, .un, .un, .un, .un, .un] _)) = _
  generalize hTX : PyData.shown (.list (g.map Pl.d)) = TX at *
  refine run_nxB (set_P (d := .str TX) (by generalize il ds = L at *; generalize gd g = GD at *; simp [er])) ?_
  refine run_nxB (set_fzP (ds := rowsD (clsL (RS g) g.length)) (by generalize il ds = L at *; generalize rowsD (clsL (RS g) g.length) = RD at *; generalize gd g = GD at *; simp [lc])) ?_
  generalize hS0 : (([] ++ [Ce.frz (.list (il ds))]) ++ [Ce.frz (.list (g.map Pl.d))]) ++ [Ce.frz (.list (rowsD (clsL (RS g) g.length)))] = S0
  show resX (resB (fSeq _ _ [.v (.d NS), .v (.d (.list (il ds))), .v (.d (gd g)), .v (.d (.str TX)), .v (.d (.list (rowsD (clsL (RS g) g.length)))), .un, .un, .un, .un, .un, .un, .un, .un] S0)) = _
  -- asked twice
  obtain ⟨env, S, h5, a5, a9, a10, rfl⟩ := forB_wp (key := none) (its := (List.range 2).map fun i => AV.d (nI i)) (g := btName 5) (body := b_law_3) (fun i : Nat => AV.d (nI i))
    (fun pre env _ => ∃ a5 a9 a10 : Sg, env = [.v (.d NS), .v (.d (.list (il ds))), .v (.d (gd g)), .v (.d (.str TX)), .v (.d (.list (rowsD (clsL (RS g) g.length)))), a5, .un, .un, .un, a9, a10, .un, .un])
    (all := List.range 2) (env := [.v (.d NS), .v (.d (.list (il ds))), .v (.d (gd g)), .v (.d (.str TX)), .v (.d (.list (rowsD (clsL (RS g) g.length)))), .un, .un, .un, .un, .un, .un, .un, .un]) (s := S0) ⟨_, _, _, rfl⟩ (fun _ _ _ _ _ _ => trivial)
    (fun pre i post env s hall ⟨a5, a9, a10, he⟩ => by
      subst he
      obtain ⟨b9, b10, s', q⟩ := turn40 T (by omega) s (.v (.d NS)) (.v (.d (.list (il ds)))) (.v (.d (.str TX))) (.v (.d (nI i))) .un .un .un a9 a10 .un
      exact ⟨_, s', q, _, _, _, rfl⟩)
  refine run_nxB (fB_for (its := (List.range 2).map fun i => AV.d (nI i)) (key := none) (s1 := S0) (by
    have ir : Dn.InR 2 := inR_of (by omega) (by omega)
    generalize il ds = L at *
    generalize rowsD (clsL (RS g) g.length) = RD at *
    generalize gd g = GD at *
    simp [ir]
    rfl) h5) ?_
  have h110 : atI (il ds) 110 = some (.int ((ds.getD 110 0 : Nat) : Int)) := atI_d (ds := ds) (i := 110) (by omega)
  obtain ⟨c, hc⟩ : ∃ c, c = ds.getD 110 0 % 2 := ⟨_, rfl⟩
  have c2 : c < 2 := by rw [hc]; exact Nat.mod_lt _ (by decide)
  have mc : ((ds.getD 110 0 : Nat) : Int).fmod 2 = (c : Int) := by rw [hc]; exact fmodN _ 2 (by decide)
  have nz2 : ∀ i, Dn.NzOk i 2 := nzN 2 (by decide)
  generalize ds.getD 110 0 = u at *
  refine run_nxB (e := [.v (.d NS), .v (.d (.list (il ds))), .v (.d (gd g)), .v (.d (.str TX)), .v (.d (.list (rowsD (clsL (RS g) g.length)))), a5, .v (.c S.length), .un, .un, a9, a10, .un, .un]) (s1 := S ++ [.ld (g.map Pl.d)]) (by
    rw [show gd g = PyData.list (g.map Pl.d) from rfl]
    generalize il ds = L at *
    generalize rowsD (clsL (RS g) g.length) = RD at *
    generalize g.map Pl.d = GD at *
    simp) ?_
  refine run_nxB (e := [.v (.d NS), .v (.d (.list (il ds))), .v (.d (gd g)), .v (.d (.str TX)), .v (.d (.list (rowsD (clsL (RS g) g.length)))), a5, .v (.c S.length), .v (.c (S.length + 1)), .un, a9, a10, .un, .un]) (s1 := S ++ [.ld (g.map Pl.d), .ld []]) (by
    generalize il ds = L at *
    generalize rowsD (clsL (RS g) g.length) = RD at *
    generalize gd g = GD at *
    generalize g.map Pl.d = GD2 at *
    simp [few0]) ?_
  obtain ⟨env, S2, h8, G', pl, T2, a8, a11, I, hpl, rfl, hS2⟩ := forB_wp (key := none) (its := (List.range (1 + c)).map fun i => AV.d (nI i)) (g := btName 8) (body := b_law_4) (fun i : Nat => AV.d (nI i))
    (fun pre env St => ∃ (G' : List Pl) (pl : List Nat) (T2 : Sto) (a8 a11 : Sg), Spo g G' pl ∧ pl.length = pre.length ∧ env = [.v (.d NS), .v (.d (.list (il ds))), .v (.d (gd g)), .v (.d (.str TX)), .v (.d (.list (rowsD (clsL (RS g) g.length)))), a5, .v (.c S.length), .v (.c (S.length + 1)), a8, a9, a10, a11, .un] ∧ St = S ++ .ld (G'.map Pl.d) :: .ld (il pl) :: T2)
    (all := List.range (1 + c)) (env := [.v (.d NS), .v (.d (.list (il ds))), .v (.d (gd g)), .v (.d (.str TX)), .v (.d (.list (rowsD (clsL (RS g) g.length)))), a5, .v (.c S.length), .v (.c (S.length + 1)), .un, a9, a10, .un, .un]) (s := S ++ [.ld (g.map Pl.d), .ld []])
    ⟨g, [], [], .un, .un, ⟨rfl, fun i hi => by
      have W := G _ (List.mem_of_getElem? (gxc hi))
      have : sideP (g.getD i .lose) = false := by
        generalize g.getD i .lose = x at *
        cases x <;> first | rfl | exact W.elim
      rw [this]
      simp, fun i hi => by cases hi⟩, rfl, rfl, rfl⟩ (fun _ _ _ _ _ _ => trivial)
    (fun pre i post env St hall ⟨G', pl, T2, a8, a11, I, hpl, he, hs⟩ => by
      subst he hs
      have hi : i < 1 + c := List.mem_range.mp (by rw [hall]; simp)
      have hpre : pre.length ≤ 2 := by
        have := congrArg List.length hall
        simp at this
        omega
      obtain ⟨G2, x, b11, T3, I2, q⟩ := turn40b g1 (by omega) hd dl I (by omega) (k := i) (by omega) S T2 (.v (.d NS)) (.v (.d (gd g))) (.v (.d (.str TX))) (.v (.d (.list (rowsD (clsL (RS g) g.length))))) a5 a9 a10 a11 .un
      exact ⟨_, _, q, G2, pl ++ [x], T3, _, _, I2, by simp [hpl], rfl, rfl⟩)
  refine run_nxB (fB_for (its := (List.range (1 + c)).map fun i => AV.d (nI i)) (key := none) (s1 := S ++ [.ld (g.map Pl.d), .ld []]) (by
    have ir : Dn.InR ((1 + c : Nat) : Int) := inR_of (by omega) (by omega)
    have e1 : (1 : Int) + (c : Int) = ((1 + c : Nat) : Int) := by omega
    generalize il ds = L at *
    generalize rowsD (clsL (RS g) g.length) = RD at *
    generalize gd g = GD at *
    generalize g.map Pl.d = GD2 at *
    generalize hC : 1 + c = C at *
    simp [h110, nz2, mc, e1, ir, ints0]) h8) ?_
  rw [List.length_range] at hpl
  obtain ⟨a, ha, ham, hmin⟩ := min_of (pl := pl) (by omega) (by omega)
  have rf1 := refused_eq (g := g) (by omega)
  rw [no_side G] at rf1
  have hGl := I.l
  have rf2 := refused_eq (g := G') (by omega)
  rw [first_side I ha ham] at rf2
  have rf1 : m__law_refused [gd g] = some (.rt (.own [])) := rf1
  have rf2 : m__law_refused [.list (G'.map Pl.d)] = some (.rt (.own [nI a])) := rf2
  rw [hS2]
  generalize hRD : rowsD (clsL (RS g) g.length) = RD at *
  have nn : gNeT (.list []) (.list []) = some (.val (.bool false)) := (show Wd 1 0 (PyData.list []) from wd_list (k := 0) (w := 40) (ds := []) fun d hd => by cases hd).neT (by decide)
  have ilt : (il [a]) = [nI a] := rfl
  have na : gNeT (.list [nI a]) (.list [nI a]) = some (.val (.bool false)) := by
    have w : Wd 1 _ (PyData.list (il [a])) := wd_il fun x hx => by
      have := I.p a ha
      simp at hx
      omega
    exact w.neT (by decide)
  have c1 : ∀ St : Sto, bTE (bBin gNeT (bCallX m__law_refused (bCons (bP (eVar 2)) bNil)) (bP (eLst aNil))) [.v (.d NS), .v (.d (.list (il ds))), .v (.d (gd g)), .v (.d (.str TX)), .v (.d (.list RD)), a5, .v (.c S.length), .v (.c (S.length + 1)), a8, a9, a10, a11, .un] St = some (.ok false (St ++ [.ld [], .ld []])) := fun St => by
    have v1 : avD (St ++ [.ld [], .ld []]) (.c St.length) = none := by rw [avD_c]; simp
    have p1 : dp (St ++ [.ld [], .ld []]) (.c St.length) = some (.list []) := dp_ld (by simp)
    have p2 : dp (St ++ [.ld [], .ld []]) (.c (St.length + 1)) = some (.list []) := dp_ld (by rw [List.getElem?_append_right (by omega)]; simp)
    generalize gd g = GD at *
    simp [-fnXB, rf1, opX, opR, few0, v1, p1, p2, nn]
  have c2' : ∀ (T : Sto) (GG : List PyData), m__law_refused [.list GG] = some (.rt (.own [nI a])) → ∃ St2, bTE (bBin gNeT (bCallX m__law_refused (bCons (bFz (bVar 6)) bNil)) (bLst (bCons (bPk (eCall gMin (aCons (eVar 7) aNil))) bNil))) [.v (.d NS), .v (.d (.list (il ds))), .v (.d (gd g)), .v (.d (.str TX)), .v (.d (.list RD)), a5, .v (.c S.length), .v (.c (S.length + 1)), a8, a9, a10, a11, .un] (S ++ .ld GG :: .ld (il pl) :: T) = some (.ok false St2) := fun T GG rf => by
    have z := frz_ld (s := S ++ .ld GG :: .ld (il pl) :: T) (i := S.length) (ds := GG) (by simp)
    have zs : (S ++ .ld GG :: .ld (il pl) :: T).set S.length (.frz (.list GG)) = S ++ .frz (.list GG) :: .ld (il pl) :: T := by rw [List.set_append_right _ _ (by omega)]; simp
    rw [zs] at z
    have za : avD (S ++ .frz (.list GG) :: .ld (il pl) :: T) (.c S.length) = some (.list GG) := by rw [avD_c]; simp
    obtain ⟨St, hSt⟩ : ∃ St, St = S ++ Ce.frz (.list GG) :: .ld (il pl) :: T := ⟨_, rfl⟩
    rw [← hSt] at z za
    have p7 : dp (St ++ [.ld [nI a]]) (.c (S.length + 1)) = some (.list (il pl)) := dp_ld (by
      rw [hSt, List.append_assoc, List.getElem?_append_right (by omega)]
      simp)
    refine ⟨St ++ [.ld [nI a], .ld [nI a]], ?_⟩
    have v1 : avD (St ++ [.ld [nI a], .ld [nI a]]) (.c St.length) = none := by rw [avD_c]; simp
    have p1 : dp (St ++ [.ld [nI a], .ld [nI a]]) (.c St.length) = some (.list [nI a]) := dp_ld (by simp)
    have p2 : dp (St ++ [.ld [nI a], .ld [nI a]]) (.c (St.length + 1)) = some (.list [nI a]) := dp_ld (by rw [List.getElem?_append_right (by omega)]; simp)
    generalize S ++ Ce.ld GG :: .ld (il pl) :: T = St0 at *
    generalize il pl = PL at *
    generalize il ds = L at *
    generalize gd g = GD at *
    simp [-fnXB, -gMin, z, za, rf, opX, opR, few1, pkS_c p7, hmin, mkL, v1, p1, p2, na]
  have eS : ∀ (GG : List PyData), (S ++ .ld GG :: .ld (il pl) :: T2) ++ [Ce.ld [], .ld []] = S ++ .ld GG :: .ld (il pl) :: (T2 ++ [.ld [], .ld []]) := fun GG => by simp
  obtain ⟨St2, q2⟩ := c2' (T2 ++ [.ld [], .ld []]) (G'.map Pl.d) rf2
  rw [← eS] at q2
  have cond : bOr (bTE (bBin gNeT (bCallX m__law_refused (bCons (bP (eVar 2)) bNil)) (bP (eLst aNil)))) (bTE (bBin gNeT (bCallX m__law_refused (bCons (bFz (bVar 6)) bNil)) (bLst (bCons (bPk (eCall gMin (aCons (eVar 7) aNil))) bNil)))) [.v (.d NS), .v (.d (.list (il ds))), .v (.d (gd g)), .v (.d (.str TX)), .v (.d (.list RD)), a5, .v (.c S.length), .v (.c (S.length + 1)), a8, a9, a10, a11, .un] (S ++ .ld (G'.map Pl.d) :: .ld (il pl) :: T2) = some (.ok false St2) := by
    show bB (bTE _ _ _) _ = _
    rw [c1, bB_ok]
    exact q2
  refine run_nxB ((fIf_f cond).trans rfl) ?_
  generalize il ds = L at *
  generalize gd g = GD at *
  simp [er]
end Law
namespace Law
open PySem PySem.Spec PyProof.Rows L2 Dn
theorem sc_targets : FnScope ["game", "place", "row", "branch"] ["game", "place"] (defScope s_targets) := ⟨rfl, rfl, rfl, by decide +kernel, rfl, by decide +kernel, by decide +kernel⟩
theorem sc__law_draws : FnScope ["script", "count", "rests", "draws", "k", "value", "cell", "at", "mixed"] ["script", "count"] (defScope s__law_draws) := ⟨rfl, rfl, rfl, by decide +kernel, rfl, by decide +kernel, by decide +kernel⟩
theorem sc__law_gcd : FnScope ["a", "b", "turn"] ["a", "b"] (defScope s__law_gcd) := ⟨rfl, rfl, rfl, by decide +kernel, rfl, by decide +kernel, by decide +kernel⟩
theorem sc__law_is_whole : FnScope ["value"] ["value"] (defScope s__law_is_whole) := ⟨rfl, rfl, rfl, by decide +kernel, rfl, by decide +kernel, by decide +kernel⟩
theorem sc__law_branches : FnScope ["chain", "place"] ["chain", "place"] (defScope s__law_branches) := ⟨rfl, rfl, rfl, by decide +kernel, rfl, by decide +kernel, by decide +kernel⟩
theorem sc_reached : FnScope ["game", "place", "found", "waiting", "here", "x"] ["game", "place"] (defScope s_reached) := ⟨rfl, rfl, rfl, by decide +kernel, rfl, by decide +kernel, by decide +kernel⟩
theorem sc__law_number : FnScope ["n", "d", "common"] ["n", "d"] (defScope s__law_number) := ⟨rfl, rfl, rfl, by decide +kernel, rfl, by decide +kernel, by decide +kernel⟩
theorem sc__law_reached : FnScope ["chain", "place", "found", "turn", "here", "chance", "target"] ["chain", "place"] (defScope s__law_reached) := ⟨rfl, rfl, rfl, by decide +kernel, rfl, by decide +kernel, by decide +kernel⟩
theorem sc_check_chain : FnScope ["chain", "place", "row"] ["chain"] (defScope s_check_chain) := ⟨rfl, rfl, rfl, by decide +kernel, rfl, by decide +kernel, by decide +kernel⟩
theorem sc_closed_classes : FnScope ["chain", "around", "found", "place", "x"] ["chain"] (defScope s_closed_classes) := ⟨rfl, rfl, rfl, by decide +kernel, rfl, by decide +kernel, by decide +kernel⟩
theorem sc__law_chances_of : FnScope ["draws", "many", "parts", "k", "part"] ["draws", "many"] (defScope s__law_chances_of) := ⟨rfl, rfl, rfl, by decide +kernel, rfl, by decide +kernel, by decide +kernel⟩
theorem sc__law_closed : FnScope ["chain", "found", "place", "here", "other"] ["chain"] (defScope s__law_closed) := ⟨rfl, rfl, rfl, by decide +kernel, rfl, by decide +kernel, by decide +kernel⟩
theorem sc__law_place : FnScope ["draws", "many", "kind", "count", "drawn", "k"] ["draws", "many"] (defScope s__law_place) := ⟨rfl, rfl, rfl, by decide +kernel, rfl, by decide +kernel, by decide +kernel⟩
theorem sc__law_refused : FnScope ["game", "e"] ["game"] (defScope s__law_refused) := ⟨rfl, rfl, rfl, by decide +kernel, rfl, by decide +kernel, by decide +kernel⟩
theorem sc__law_chain : FnScope ["draws", "many", "k"] ["draws"] (defScope s__law_chain) := ⟨rfl, rfl, rfl, by decide +kernel, rfl, by decide +kernel, by decide +kernel⟩
theorem sc_law : FnScope ["script", "draws", "chain", "kept", "due", "turn", "game", "places", "k", "actual", "one", "at", "place"] ["script"] (defScope s_law) := ⟨rfl, rfl, rfl, by decide +kernel, rfl, by decide +kernel, by decide +kernel⟩
def initS : Stmt → Stmt
  | .ClassDef _ _ _ body _ _ _ _ _ _ _ => body.headD (.Pass ⟨0, 0, 0, 0⟩)
  | s => s
abbrev si_NotChain : Stmt := initS (topS 3)
theorem nsI_NotChain : NdefX.NScope ["self", "place", "__class__"] ["self", "place"] ["__class__"] (defScope si_NotChain) := NdefX.nscope_by (by decide +kernel)
abbrev nf_NotChain (cc cI : Addr) : NdefX.NF := ⟨"__init__", "NotChain.__init__", defArgs si_NotChain, defBody si_NotChain, defScope si_NotChain, [("__class__", cc)], cI⟩
abbrev si_BadStrategy : Stmt := initS (topS 2)
theorem nsI_BadStrategy : NdefX.NScope ["self", "place", "__class__"] ["self", "place"] ["__class__"] (defScope si_BadStrategy) := NdefX.nscope_by (by decide +kernel)
abbrev nf_BadStrategy (cc cI : Addr) : NdefX.NF := ⟨"__init__", "BadStrategy.__init__", defArgs si_BadStrategy, defBody si_BadStrategy, defScope si_BadStrategy, [("__class__", cc)], cI⟩
structure Tx (P : Program) (K : PySem.W.Frag) (mg : Str → Option Value) where
  f_targets : Addr
  fd_targets : FuncData
  F_targets : Fun K "targets" "targets" s_targets f_targets fd_targets
  g_targets : mg "targets" = some (.ref f_targets)
  b_targets : Binds K fd_targets ["game", "place"] []
  f__law_draws : Addr
  fd__law_draws : FuncData
  F__law_draws : Fun K "_law_draws" "_law_draws" s__law_draws f__law_draws fd__law_draws
  g__law_draws : mg "_law_draws" = some (.ref f__law_draws)
  b__law_draws : Binds K fd__law_draws ["script", "count"] []
  f__law_gcd : Addr
  fd__law_gcd : FuncData
  F__law_gcd : Fun K "_law_gcd" "_law_gcd" s__law_gcd f__law_gcd fd__law_gcd
  g__law_gcd : mg "_law_gcd" = some (.ref f__law_gcd)
  b__law_gcd : Binds K fd__law_gcd ["a", "b"] []
  f__law_is_whole : Addr
  fd__law_is_whole : FuncData
  F__law_is_whole : Fun K "_law_is_whole" "_law_is_whole" s__law_is_whole f__law_is_whole fd__law_is_whole
  g__law_is_whole : mg "_law_is_whole" = some (.ref f__law_is_whole)
  b__law_is_whole : Binds K fd__law_is_whole ["value"] []
  f__law_branches : Addr
  fd__law_branches : FuncData
  F__law_branches : Fun K "_law_branches" "_law_branches" s__law_branches f__law_branches fd__law_branches
  g__law_branches : mg "_law_branches" = some (.ref f__law_branches)
  b__law_branches : Binds K fd__law_branches ["chain", "place"] []
  f_reached : Addr
  fd_reached : FuncData
  F_reached : Fun K "reached" "reached" s_reached f_reached fd_reached
  g_reached : mg "reached" = some (.ref f_reached)
  b_reached : Binds K fd_reached ["game", "place"] []
  f__law_number : Addr
  fd__law_number : FuncData
  F__law_number : Fun K "_law_number" "_law_number" s__law_number f__law_number fd__law_number
  g__law_number : mg "_law_number" = some (.ref f__law_number)
  b__law_number : Binds K fd__law_number ["n", "d"] []
  f__law_reached : Addr
  fd__law_reached : FuncData
  F__law_reached : Fun K "_law_reached" "_law_reached" s__law_reached f__law_reached fd__law_reached
  g__law_reached : mg "_law_reached" = some (.ref f__law_reached)
  b__law_reached : Binds K fd__law_reached ["chain", "place"] []
  f_check_chain : Addr
  fd_check_chain : FuncData
  F_check_chain : Fun K "check_chain" "check_chain" s_check_chain f_check_chain fd_check_chain
  g_check_chain : mg "check_chain" = some (.ref f_check_chain)
  b_check_chain : Binds K fd_check_chain ["chain"] []
  f_closed_classes : Addr
  fd_closed_classes : FuncData
  F_closed_classes : Fun K "closed_classes" "closed_classes" s_closed_classes f_closed_classes fd_closed_classes
  g_closed_classes : mg "closed_classes" = some (.ref f_closed_classes)
  b_closed_classes : Binds K fd_closed_classes ["chain"] []
  f__law_chances_of : Addr
  fd__law_chances_of : FuncData
  F__law_chances_of : Fun K "_law_chances_of" "_law_chances_of" s__law_chances_of f__law_chances_of fd__law_chances_of
  g__law_chances_of : mg "_law_chances_of" = some (.ref f__law_chances_of)
  b__law_chances_of : Binds K fd__law_chances_of ["draws", "many"] []
  f__law_closed : Addr
  fd__law_closed : FuncData
  F__law_closed : Fun K "_law_closed" "_law_closed" s__law_closed f__law_closed fd__law_closed
  g__law_closed : mg "_law_closed" = some (.ref f__law_closed)
  b__law_closed : Binds K fd__law_closed ["chain"] []
  f__law_place : Addr
  fd__law_place : FuncData
  F__law_place : Fun K "_law_place" "_law_place" s__law_place f__law_place fd__law_place
  g__law_place : mg "_law_place" = some (.ref f__law_place)
  b__law_place : Binds K fd__law_place ["draws", "many"] []
  f__law_refused : Addr
  fd__law_refused : FuncData
  F__law_refused : Fun K "_law_refused" "_law_refused" s__law_refused f__law_refused fd__law_refused
  g__law_refused : mg "_law_refused" = some (.ref f__law_refused)
  b__law_refused : Binds K fd__law_refused ["game"] []
  f__law_chain : Addr
  fd__law_chain : FuncData
  F__law_chain : Fun K "_law_chain" "_law_chain" s__law_chain f__law_chain fd__law_chain
  g__law_chain : mg "_law_chain" = some (.ref f__law_chain)
  b__law_chain : Binds K fd__law_chain ["draws"] []
  f_law : Addr
  fd_law : FuncData
  F_law : Fun K "law" "law" s_law f_law fd_law
  g_law : mg "law" = some (.ref f_law)
  b_law : Binds K fd_law ["script"] []
  C_OddsError : Addr
  x_OddsError : Bn.Exc K mg "OddsError" C_OddsError
  C_NotChain : Addr
  xn_NotChain : Bx.ExN K mg "NotChain" C_NotChain
  o_NotChain : OexC K C_NotChain
  fI_NotChain : Addr
  fdI_NotChain : FuncData
  iC_NotChain : PySem.W.findIn K (.ref C_NotChain) "__init__" = some (some (.ref fI_NotChain))
  tI_NotChain : PySem.W.typeIn K (.ref fI_NotChain) = some (.type "function")
  bI_NotChain : Binds K fdI_NotChain ["self", "place"] []
  cc_NotChain : Addr
  cI_NotChain : Addr
  sI_NotChain : Bx.SupC P K mg (nf_NotChain cc_NotChain cI_NotChain) C_NotChain cc_NotChain fI_NotChain fdI_NotChain
  C_BadStrategy : Addr
  xn_BadStrategy : Bx.ExN K mg "BadStrategy" C_BadStrategy
  o_BadStrategy : OexC K C_BadStrategy
  fI_BadStrategy : Addr
  fdI_BadStrategy : FuncData
  iC_BadStrategy : PySem.W.findIn K (.ref C_BadStrategy) "__init__" = some (some (.ref fI_BadStrategy))
  tI_BadStrategy : PySem.W.typeIn K (.ref fI_BadStrategy) = some (.type "function")
  bI_BadStrategy : Binds K fdI_BadStrategy ["self", "place"] []
  cc_BadStrategy : Addr
  cI_BadStrategy : Addr
  sI_BadStrategy : Bx.SupC P K mg (nf_BadStrategy cc_BadStrategy cI_BadStrategy) C_BadStrategy cc_BadStrategy fI_BadStrategy fdI_BadStrategy
  no_BadStrategy_place : PySem.W.findIn K (.ref C_BadStrategy) "place" = some none
  no_NotChain_place : PySem.W.findIn K (.ref C_NotChain) "place" = some none
  xf_NotChain : XfC K C_NotChain
  su_NotChain_NotChain : PySem.W.subIn K (.ref C_NotChain) (.ref C_NotChain) = some true
  xc_NotChain : ExcC K C_NotChain
  ki_NotChain_BadStrategy : PySem.W.kitOne K (.ref C_NotChain) (.ref C_BadStrategy) = some false
  ki_NotChain_ValueError : PySem.W.kitOne K (.ref C_NotChain) (.type "ValueError") = some true
  ki_NotChain_OddsError : PySem.W.kitOne K (.ref C_NotChain) (.ref C_OddsError) = some true
  n_ValueError : mg "ValueError" = none
  n_abs : mg "abs" = none
  n_all : mg "all" = none
  n_bool : mg "bool" = none
  n_enumerate : mg "enumerate" = none
  n_int : mg "int" = none
  n_isinstance : mg "isinstance" = none
  n_len : mg "len" = none
  n_list : mg "list" = none
  n_min : mg "min" = none
  n_range : mg "range" = none
  n_repr : mg "repr" = none
  n_sorted : mg "sorted" = none
  n_sum : mg "sum" = none
  a_SIDES : Addr
  c_SIDES : mg "SIDES" = some (.ref a_SIDES)
  d_SIDES : ∀ F, Dp K F (.ref a_SIDES) (.tuple [.str "ours", .str "theirs"])
section
variable {P : Program} {w : World} {K : PySem.W.Frag} {mg : Str → Option Value} {base : Heap}
theorem oki_NotChain (T : Tx P K mg) : FnOk P w K mg base CX0 1 T.fI_NotChain T.fdI_NotChain ["self", "place"] (Bx.spIni T.C_NotChain ["place"]) :=
  Bx.ini1 (F := nf_NotChain T.cc_NotChain T.cI_NotChain) (pts := [.lit "a side chooses at place ", .var 1]) nsI_NotChain T.sI_NotChain rfl rfl rfl rfl (fun _ => ⟨_, rfl⟩) (fun _ => rfl) T.no_NotChain_place (by decide) (by decide) (by decide) (by decide) (fun _ _ _ _ _ => pe_joined (.cons pe_str (.cons (pe_fmt (pe_var (i := 1) rfl (.inl (by rfl)))) .nil))) (by decide +kernel) (by intro i hi; simp at hi; omega) 0
theorem oki_BadStrategy (T : Tx P K mg) : FnOk P w K mg base CX0 1 T.fI_BadStrategy T.fdI_BadStrategy ["self", "place"] (Bx.spIni T.C_BadStrategy ["place"]) :=
  Bx.ini1 (F := nf_BadStrategy T.cc_BadStrategy T.cI_BadStrategy) (pts := [.lit "the strategy is wrong at place ", .var 1]) nsI_BadStrategy T.sI_BadStrategy rfl rfl rfl rfl (fun _ => ⟨_, rfl⟩) (fun _ => rfl) T.no_BadStrategy_place (by decide) (by decide) (by decide) (by decide) (fun _ _ _ _ _ => pe_joined (.cons pe_str (.cons (pe_fmt (pe_var (i := 1) rfl (.inl (by rfl)))) .nil))) (by decide +kernel) (by intro i hi; simp at hi; omega) 0
theorem ok_targets (T : Tx P K mg) : FnOk P w K mg base CX0 1 T.f_targets T.fd_targets ["game", "place"] (spD K 2 m_targets) := okD (N := ["game", "place", "row", "branch"]) (ps := ["game", "place"]) (k := 0) (b := b_targets) T.F_targets sc_targets fun cdv A outer s H E hr => by
  have nd := sc_targets.nd
  exact ⟨_, (ss_cons (ss_set (i := 2) nd rfl (by first | exact Or.inl rfl | exact Or.inr rfl) (se_ix (sv 0) (sv 1)))
    (ss_cons (ss_if (st_eqT hr.units (se_ix (sv 2) se_int) se_str)
      (ss_one (ss_ret (se_lc (own := [("branch", 3)]) rfl nd (si_seq (se_ix (sv 2) se_int)) (blkOk_by (N := ["game", "place", "row", "branch"]) (sc := defScope s_targets) (by decide +kernel)) (fun _ _ _ _ _ => (sg_name (i := 3) nd rfl (by first | exact Or.inl rfl | exact Or.inr rfl))) (by decide) (fun _ _ _ _ _ => sts_nil) (fun _ _ _ _ _ => (se_ix (sv 3) se_int)))))
      ss_nil)
    (ss_cons (ss_if (st_inG (hr.units65) (se_ix (sv 2) se_int) (se_glob (v := .ref T.a_SIDES) (by rfl) T.c_SIDES rfl T.d_SIDES))
      (ss_one (ss_ret (se_c_list (by rfl) T.n_list boot_list_ (sa_cons (se_ix (sv 2) se_int) sa_nil))))
      ss_nil)
    (ss_cons (ss_if (st_eqT hr.units (se_ix (sv 2) se_int) se_str)
      (ss_one (ss_ret (se_lst (sa_cons (se_ix (sv 2) se_int) sa_nil))))
      ss_nil)
    (ss_one (ss_ret (se_lst sa_nil)))))))⟩
theorem ok__law_draws (T : Tx P K mg) : FnOk P w K mg base CX0 1 T.f__law_draws T.fd__law_draws ["script", "count"] (spD K 2 m__law_draws) := okD (N := ["script", "count", "rests", "draws", "k", "value", "cell", "at", "mixed"]) (ps := ["script", "count"]) (k := 0) (b := b__law_draws) T.F__law_draws sc__law_draws fun cdv A outer s H E hr => by
  have nd := sc__law_draws.nd
  exact ⟨_, (ss_cons (ss_setLc (i := 2) (own := [("cell", 6)]) rfl nd rfl rfl (sw_true rfl rfl rfl (by decide +kernel)) (si_seq (sv 0)) (blkOk_by (N := ["script", "count", "rests", "draws", "k", "value", "cell", "at", "mixed"]) (sc := defScope s__law_draws) (by decide +kernel)) (fun _ _ _ _ _ => (sg_name (i := 6) nd rfl (by first | exact Or.inl rfl | exact Or.inr rfl))) (by decide) (fun _ _ _ _ _ => sts_nil) (fun _ _ _ _ _ => (sv 6)))
    (ss_cons (ss_set (i := 3) nd rfl (by first | exact Or.inl rfl | exact Or.inr rfl) (se_lst sa_nil))
    (ss_cons (ss_for PassesOwn.never rfl (si_r1 (by rfl) T.n_range (sa_cons (sv 1) sa_nil)) (sg_name (i := 4) nd rfl (by first | exact Or.inl rfl | exact Or.inr rfl))
      (ss_cons (ss_set (i := 5) nd rfl (by first | exact Or.inl rfl | exact Or.inr rfl) se_int)
    (ss_cons (ss_if (st_gt (se_peek (se_c_len (by rfl) T.n_len boot_len_ (sa_cons (sv 2) sa_nil))) se_int)
      (ss_cons (ss_set (i := 7) nd rfl (by first | exact Or.inl rfl | exact Or.inr rfl) (se_mod (se_c_int (by rfl) T.n_int boot_int_ (sa_cons (sv 4) sa_nil)) (se_peek (se_c_len (by rfl) T.n_len boot_len_ (sa_cons (sv 2) sa_nil)))))
    (ss_one (ss_if (st_ge (se_ixO (ov 2) (sv 7)) (se_pow se_int se_int))
      (ss_cons (ss_set (i := 5) nd rfl (by first | exact Or.inl rfl | exact Or.inr rfl) (se_mod (se_c_int (by rfl) T.n_int boot_int_ (sa_cons (se_ixO (ov 2) (sv 7)) sa_nil)) se_int))
    (ss_one (ss_put (se_fdiv (se_ixO (ov 2) (sv 7)) se_int) (ov 2) (sv 7))))
      (ss_cons (ss_set (i := 8) nd rfl (by first | exact Or.inl rfl | exact Or.inr rfl) (se_mod (se_c_int (by rfl) T.n_int boot_int_ (sa_cons (se_add (se_add (se_mul (se_ixO (ov 2) (sv 7)) se_int) (se_mul (sv 4) se_int)) se_int) sa_nil)) se_int))
    (ss_cons (ss_set (i := 8) nd rfl (by first | exact Or.inl rfl | exact Or.inr rfl) (se_mod (se_c_int (by rfl) T.n_int boot_int_ (sa_cons (se_add (se_mul (sv 8) se_int) (sv 7)) sa_nil)) se_int))
    (ss_one (ss_set (i := 5) nd rfl (by first | exact Or.inl rfl | exact Or.inr rfl) (se_mod (se_c_int (by rfl) T.n_int boot_int_ (sa_cons (se_fdiv (sv 8) se_int) sa_nil)) se_int))))))))
      ss_nil)
    (ss_one (ss_append (ov 3) (sv 5))))))
    (ss_one (ss_retO (ov 3))))))⟩
theorem ok__law_gcd (T : Tx P K mg) : FnOk P w K mg base CX0 1 T.f__law_gcd T.fd__law_gcd ["a", "b"] (spD K 2 m__law_gcd) := okD (N := ["a", "b", "turn"]) (ps := ["a", "b"]) (k := 0) (b := b__law_gcd) T.F__law_gcd sc__law_gcd fun cdv A outer s H E hr => by
  have nd := sc__law_gcd.nd
  exact ⟨_, (ss_cons (ss_par (i := 0) (j := 1) nd (sa_cons (se_c_abs (by rfl) T.n_abs boot_abs_ (sa_cons (sv 0) sa_nil)) (sa_cons (se_c_abs (by rfl) T.n_abs boot_abs_ (sa_cons (sv 1) sa_nil)) sa_nil)))
    (ss_cons (ss_for PassesOwn.never rfl (si_r1 (by rfl) T.n_range (sa_cons se_int sa_nil)) (sg_name (i := 2) nd rfl (by first | exact Or.inl rfl | exact Or.inr rfl))
      (ss_cons (ss_if (st_eqT hr.units (sv 1) se_int)
      (ss_one ss_break)
      ss_nil)
    (ss_one (ss_par (i := 0) (j := 1) nd (sa_cons (sv 1) (sa_cons (se_mod (se_c_int (by rfl) T.n_int boot_int_ (sa_cons (sv 0) sa_nil)) (sv 1)) sa_nil))))))
    (ss_one (ss_ret (sv 0)))))⟩
theorem ok__law_is_whole (T : Tx P K mg) : FnOk P w K mg base CX0 1 T.f__law_is_whole T.fd__law_is_whole ["value"] (spD K 1 m__law_is_whole) := okD (N := ["value"]) (ps := ["value"]) (k := 0) (b := b__law_is_whole) T.F__law_is_whole sc__law_is_whole fun cdv A outer s H E hr => by
  have nd := sc__law_is_whole.nd
  exact ⟨_, (ss_one (ss_ret (se_and (se_isi (T := "int") (by decide) (by rfl) T.n_isinstance boot_isi (by rfl) T.n_int boot_int_ (sv 0)) (se_one (se_not (se_isi (T := "bool") (by decide) (by rfl) T.n_isinstance boot_isi (by rfl) T.n_bool boot_bool_ (sv 0)))))))⟩
theorem ok__law_branches (T : Tx P K mg) : FnOk P w K mg base CX0 1 T.f__law_branches T.fd__law_branches ["chain", "place"] (spD K 2 m__law_branches) := okD (N := ["chain", "place"]) (ps := ["chain", "place"]) (k := 0) (b := b__law_branches) T.F__law_branches sc__law_branches fun cdv A outer s H E hr => by
  have nd := sc__law_branches.nd
  exact ⟨_, (ss_cons (ss_if (st_eqT hr.units (se_ix (se_ix (sv 0) (sv 1)) se_int) se_str)
      (ss_one (ss_ret (se_c_list (by rfl) T.n_list boot_list_ (sa_cons (se_ix (se_ix (sv 0) (sv 1)) se_int) sa_nil))))
      ss_nil)
    (ss_cons (ss_if (st_eqT hr.units (se_ix (se_ix (sv 0) (sv 1)) se_int) se_str)
      (ss_one (ss_ret (se_lst (sa_cons (se_tup (sa_cons (se_tup (sa_cons se_int (sa_cons se_int sa_nil))) (sa_cons (se_ix (se_ix (sv 0) (sv 1)) se_int) sa_nil))) sa_nil))))
      ss_nil)
    (ss_one (ss_ret (se_lst sa_nil)))))⟩
theorem ok_reached (T : Tx P K mg) : FnOk P w K mg base CX0 2 T.f_reached T.fd_reached ["game", "place"] (spD K 2 m_reached) := Bn.okDB (N := ["game", "place", "found", "waiting", "here", "x"]) (ps := ["game", "place"]) (k := 1) (b := b_reached) T.F_reached sc_reached fun cdv A outer s H E hr hcd => by
  have nd := sc_reached.nd
  exact ⟨_, (Bn.sb_cons (Bn.sb_set (i := 2) nd rfl (by first | exact Or.inl rfl | exact Or.inr rfl) (Bn.eb_set1 (kdsCode_of hcd) (Bn.eb_p (sv 1))))
    (Bn.sb_cons (Bn.sb_set (i := 3) nd rfl (by first | exact Or.inl rfl | exact Or.inr rfl) (Bn.eb_p (se_lst (sa_cons (sv 1) sa_nil))))
    (Bn.sb_cons (Bn.sb_while (Bn.tb_pk (st_tru (sv 3)))
      (Bn.sb_cons (Bn.sb_set (i := 4) nd rfl (by first | exact Or.inl rfl | exact Or.inr rfl) (Bn.eb_pop (Bn.eb_var (ov 3))))
    (Bn.sb_one (Bn.sb_for rfl (Bn.ib_p (si_seq (se_call (ok_targets T) (hr.mono (by decide)) (by rfl) T.g_targets T.F_targets.kp T.b_targets (sa_cons (sv 0) (sa_cons (sv 4) sa_nil))))) (Bn.gb_name (i := 5) nd rfl (by first | exact Or.inl rfl | exact Or.inr rfl))
      (Bn.sb_one (Bn.sb_if (Bn.tb_snotin (Bn.eb_p (sv 5)) (Bn.eb_var (ov 2)))
      (Bn.sb_cons (Bn.sb_drop (Bn.eb_sadd (Bn.eb_var (ov 2)) (Bn.eb_p (sv 5))))
    (Bn.sb_one (Bn.sb_drop (Bn.eb_append (Bn.eb_var (ov 3)) (Bn.eb_p (sv 5))))))
      Bn.sb_nil))))))
    (Bn.sb_one (Bn.sb_ret (Bn.eb_sortedSet rfl (by rfl) T.n_sorted boot_sorted_ (Bn.eb_var (ov 2))))))))⟩
theorem ok__law_number (T : Tx P K mg) : FnOk P w K mg base CX0 2 T.f__law_number T.fd__law_number ["n", "d"] (spD K 2 m__law_number) := okD (N := ["n", "d", "common"]) (ps := ["n", "d"]) (k := 1) (b := b__law_number) T.F__law_number sc__law_number fun cdv A outer s H E hr => by
  have nd := sc__law_number.nd
  exact ⟨_, (ss_cons (ss_if (st_lt (sv 1) se_int)
      (ss_one (ss_par (i := 0) (j := 1) nd (sa_cons (se_neg (sv 0)) (sa_cons (se_neg (sv 1)) sa_nil))))
      ss_nil)
    (ss_cons (ss_set (i := 2) nd rfl (by first | exact Or.inl rfl | exact Or.inr rfl) (se_call (ok__law_gcd T) (hr.mono (by decide)) (by rfl) T.g__law_gcd T.F__law_gcd.kp T.b__law_gcd (sa_cons (sv 0) (sa_cons (sv 1) sa_nil))))
    (ss_one (ss_ret (se_tup (sa_cons (se_fdiv (sv 0) (sv 2)) (sa_cons (se_fdiv (sv 1) (sv 2)) sa_nil)))))))⟩
theorem ok__law_reached (T : Tx P K mg) : FnOk P w K mg base CX0 2 T.f__law_reached T.fd__law_reached ["chain", "place"] (spD K 2 m__law_reached) := okD (N := ["chain", "place", "found", "turn", "here", "chance", "target"]) (ps := ["chain", "place"]) (k := 1) (b := b__law_reached) T.F__law_reached sc__law_reached fun cdv A outer s H E hr => by
  have nd := sc__law_reached.nd
  exact ⟨_, (ss_cons (ss_set (i := 2) nd rfl (by first | exact Or.inl rfl | exact Or.inr rfl) (se_lst (sa_cons (sv 1) sa_nil)))
    (ss_cons (ss_for PassesOwn.never rfl (si_r1 (by rfl) T.n_range (sa_cons (se_c_len (by rfl) T.n_len boot_len_ (sa_cons (sv 0) sa_nil)) sa_nil)) (sg_name (i := 3) nd rfl (by first | exact Or.inl rfl | exact Or.inr rfl))
      (ss_one (ss_for PassesOwn.never rfl (si_seq (se_peek (se_c_list (by rfl) T.n_list boot_list_ (sa_cons (sv 2) sa_nil)))) (sg_name (i := 4) nd rfl (by first | exact Or.inl rfl | exact Or.inr rfl))
      (ss_one (ss_for PassesOwn.never rfl (si_seq (se_call (ok__law_branches T) (hr.mono (by decide)) (by rfl) T.g__law_branches T.F__law_branches.kp T.b__law_branches (sa_cons (sv 0) (sa_cons (sv 4) sa_nil)))) (sg_tup2 rfl (pgs_cons (pg_name (i := 5) nd rfl (by first | exact Or.inl rfl | exact Or.inr rfl)) (pgs_cons (pg_name (i := 6) nd rfl (by first | exact Or.inl rfl | exact Or.inr rfl)) pgs_nil)))
      (ss_one (ss_if (st_peek (st_notInG (hr.units65) (sv 6) (sv 2)))
      (ss_one (ss_append (ov 2) (sv 6)))
      ss_nil)))))))
    (ss_one (ss_ret (se_peek (se_c_sorted (by rfl) T.n_sorted boot_sorted_ (sa_cons (sv 2) sa_nil)))))))⟩
theorem ok_check_chain (T : Tx P K mg) : FnOk P w K mg base (L2.CX P w) 3 T.f_check_chain T.fd_check_chain ["chain"] (spX mg K 1 m_check_chain) := Bn.okXB (N := ["chain", "place", "row"]) (ps := ["chain"]) (k := 2) (b := b_check_chain) T.F_check_chain sc_check_chain fun cdv A outer s H E hr hcd => by
  have nd := sc_check_chain.nd
  exact ⟨_, (Bn.sb_one (Bn.sb_for rfl (Bn.ib_p (si_enum (by rfl) T.n_enumerate (sa_cons (sv 0) sa_nil))) (Bn.gb_tup rfl (Bn.gbs_cons (Bn.gb_name (i := 1) nd rfl (by first | exact Or.inl rfl | exact Or.inr rfl)) (Bn.gbs_cons (Bn.gb_name (i := 2) nd rfl (by first | exact Or.inl rfl | exact Or.inr rfl)) Bn.gbs_nil)))
      (Bn.sb_one (Bn.sb_if (Bn.tb_p (st_inG (hr.units65) (se_ix (sv 2) se_int) (se_glob (v := .ref T.a_SIDES) (by rfl) T.c_SIDES rfl T.d_SIDES)))
      (Bn.sb_one (Bx.sb_raiseF rfl T.o_NotChain T.xn_NotChain.g T.iC_NotChain T.tI_NotChain (oki_NotChain T) (hr.mono (by decide)) T.bI_NotChain (by rfl) (by decide) (by decide) (Bn.ab_cons (Bn.eb_p (sv 1)) Bn.ab_nil)))
      Bn.sb_nil))))⟩
theorem ok_closed_classes (T : Tx P K mg) : FnOk P w K mg base (L2.CX P w) 3 T.f_closed_classes T.fd_closed_classes ["chain"] (Bn.spB mg K w 1 m_closed_classes) := Bn.okB (N := ["chain", "around", "found", "place", "x"]) (ps := ["chain"]) (k := 2) (b := b_closed_classes) T.F_closed_classes sc_closed_classes fun cdv A outer s H E hr hcd => by
  have nd := sc_closed_classes.nd
  exact ⟨_, (Bn.sb_cons (Bn.sb_set (i := 1) nd rfl (by first | exact Or.inl rfl | exact Or.inr rfl) (Bn.eb_lc (own := [("place", 3)]) rfl nd (Bn.ib_p (si_r1 (by rfl) T.n_range (sa_cons (se_c_len (by rfl) T.n_len boot_len_ (sa_cons (sv 0) sa_nil)) sa_nil))) (blkOk_by (N := ["chain", "around", "found", "place", "x"]) (sc := defScope s_closed_classes) (by decide +kernel)) (fun _ _ _ _ _ => (Bn.gb_name (i := 3) nd rfl (by first | exact Or.inl rfl | exact Or.inr rfl))) (by decide) (fun _ _ _ _ _ => Bn.tsb_nil) (fun _ _ _ _ _ => (Bn.eb_p (Bn.se_callG (fun _ _ => Bn.fnDB_len) (ok_reached T) (hr.mono (by decide)) (by rfl) T.g_reached T.F_reached.kp T.b_reached (sa_cons (sv 0) (sa_cons (sv 3) sa_nil)))))))
    (Bn.sb_cons (Bn.sb_set (i := 2) nd rfl (by first | exact Or.inl rfl | exact Or.inr rfl) (Bn.eb_p (se_lst sa_nil)))
    (Bn.sb_cons (Bn.sb_for rfl (Bn.ib_p (si_r1 (by rfl) T.n_range (sa_cons (se_c_len (by rfl) T.n_len boot_len_ (sa_cons (sv 0) sa_nil)) sa_nil))) (Bn.gb_name (i := 3) nd rfl (by first | exact Or.inl rfl | exact Or.inr rfl))
      (Bn.sb_one (Bn.sb_if (Bn.tb_pk (SW.st (sw_and (st_eqT hr.units (se_ix (se_ix (sv 1) (sv 3)) se_int) (sv 3)) (sw_and1 (st_val (se_c_all (by rfl) T.n_all boot_all_ (sa_cons (se_lc (own := [("x", 4)]) rfl nd (si_seq (se_ix (sv 1) (sv 3))) (blkOk_by (N := ["chain", "around", "found", "place", "x"]) (sc := defScope s_closed_classes) (by decide +kernel)) (fun _ _ _ _ _ => (sg_name (i := 4) nd rfl (by first | exact Or.inl rfl | exact Or.inr rfl))) (by decide) (fun _ _ _ _ _ => sts_nil) (fun _ _ _ _ _ => (se_eqT hr.units (se_ix (sv 1) (sv 4)) (se_ix (sv 1) (sv 3))))) sa_nil)))))))
      (Bn.sb_one (Bn.sb_drop (Bn.eb_append (Bn.eb_var (ov 2)) (Bn.eb_ix (Bn.eb_var (ov 1)) (Bn.eb_p (sv 3))))))
      Bn.sb_nil)))
    (Bn.sb_one (Bn.sb_ret (Bn.eb_var (ov 2)))))))⟩
theorem ok__law_chances_of (T : Tx P K mg) : FnOk P w K mg base CX0 3 T.f__law_chances_of T.fd__law_chances_of ["draws", "many"] (spD K 2 m__law_chances_of) := okD (N := ["draws", "many", "parts", "k", "part"]) (ps := ["draws", "many"]) (k := 2) (b := b__law_chances_of) T.F__law_chances_of sc__law_chances_of fun cdv A outer s H E hr => by
  have nd := sc__law_chances_of.nd
  exact ⟨_, (ss_cons (ss_set (i := 2) nd rfl (by first | exact Or.inl rfl | exact Or.inr rfl) (se_lc (own := [("k", 3)]) rfl nd (si_r1 (by rfl) T.n_range (sa_cons (sv 1) sa_nil)) (blkOk_by (N := ["draws", "many", "parts", "k", "part"]) (sc := defScope s__law_chances_of) (by decide +kernel)) (fun _ _ _ _ _ => (sg_name (i := 3) nd rfl (by first | exact Or.inl rfl | exact Or.inr rfl))) (by decide) (fun _ _ _ _ _ => sts_nil) (fun _ _ _ _ _ => (se_add se_int (se_mod (se_c_int (by rfl) T.n_int boot_int_ (sa_cons (se_ix (sv 0) (sv 3)) sa_nil)) se_int)))))
    (ss_one (ss_frz 2 (ss_ret (se_lc (own := [("part", 4)]) rfl nd (si_seq (sv 2)) (blkOk_by (N := ["draws", "many", "parts", "k", "part"]) (sc := defScope s__law_chances_of) (by decide +kernel)) (fun _ _ _ _ _ => (sg_name (i := 4) nd rfl (by first | exact Or.inl rfl | exact Or.inr rfl))) (by decide) (fun _ _ _ _ _ => sts_nil) (fun _ _ _ _ _ => (se_call (ok__law_number T) (hr.mono (by decide)) (by rfl) T.g__law_number T.F__law_number.kp T.b__law_number (sa_cons (sv 4) (sa_cons (se_c_sum (by rfl) T.n_sum boot_sum_ (sa_cons (sv 2) sa_nil)) sa_nil)))))))))⟩
theorem ok__law_closed (T : Tx P K mg) : FnOk P w K mg base CX0 3 T.f__law_closed T.fd__law_closed ["chain"] (spD K 1 m__law_closed) := okD (N := ["chain", "found", "place", "here", "other"]) (ps := ["chain"]) (k := 2) (b := b__law_closed) T.F__law_closed sc__law_closed fun cdv A outer s H E hr => by
  have nd := sc__law_closed.nd
  exact ⟨_, (ss_cons (ss_set (i := 1) nd rfl (by first | exact Or.inl rfl | exact Or.inr rfl) (se_lst sa_nil))
    (ss_cons (ss_for PassesOwn.never rfl (si_r1 (by rfl) T.n_range (sa_cons (se_c_len (by rfl) T.n_len boot_len_ (sa_cons (sv 0) sa_nil)) sa_nil)) (sg_name (i := 2) nd rfl (by first | exact Or.inl rfl | exact Or.inr rfl))
      (ss_cons (ss_set (i := 3) nd rfl (by first | exact Or.inl rfl | exact Or.inr rfl) (se_call (ok__law_reached T) (hr.mono (by decide)) (by rfl) T.g__law_reached T.F__law_reached.kp T.b__law_reached (sa_cons (sv 0) (sa_cons (sv 2) sa_nil))))
    (ss_one (ss_frz 3 (ss_if (SW.st (sw_and (st_eqT hr.units (se_c_len (by rfl) T.n_len boot_len_ (sa_cons (se_lc (own := [("other", 4)]) rfl nd (si_seq (sv 3)) (blkOk_by (N := ["chain", "found", "place", "here", "other"]) (sc := defScope s__law_closed) (by decide +kernel)) (fun _ _ _ _ _ => (sg_name (i := 4) nd rfl (by first | exact Or.inl rfl | exact Or.inr rfl))) (by decide) (fun _ _ _ _ _ => (sts_one (st_notInG (hr.units65) (sv 2) (se_call (ok__law_reached T) (hr.mono (by decide)) (by rfl) T.g__law_reached T.F__law_reached.kp T.b__law_reached (sa_cons (sv 0) (sa_cons (sv 4) sa_nil)))))) (fun _ _ _ _ _ => (sv 4))) sa_nil)) se_int) (sw_and1 (st_peek (st_notInG (hr.units65) (sv 3) (sv 1))))))
      (ss_one (ss_append (ov 1) (sv 3)))
      ss_nil)))))
    (ss_one (ss_retO (ov 1)))))⟩
theorem ok__law_place (T : Tx P K mg) : FnOk P w K mg base CX0 4 T.f__law_place T.fd__law_place ["draws", "many"] (spD K 2 m__law_place) := okD (N := ["draws", "many", "kind", "count", "drawn", "k"]) (ps := ["draws", "many"]) (k := 3) (b := b__law_place) T.F__law_place sc__law_place fun cdv A outer s H E hr => by
  have nd := sc__law_place.nd
  exact ⟨_, (ss_cons (ss_set (i := 2) nd rfl (by first | exact Or.inl rfl | exact Or.inr rfl) (se_mod (se_c_int (by rfl) T.n_int boot_int_ (sa_cons (se_ix (sv 0) se_int) sa_nil)) se_int))
    (ss_cons (ss_if (st_eqT hr.units (sv 2) se_int)
      (ss_one (ss_ret (se_tup (sa_cons se_str sa_nil))))
      ss_nil)
    (ss_cons (ss_if (st_eqT hr.units (sv 2) se_int)
      (ss_one (ss_ret (se_tup (sa_cons se_str sa_nil))))
      ss_nil)
    (ss_cons (ss_if (st_eqT hr.units (sv 2) se_int)
      (ss_one (ss_ret (se_tup (sa_cons se_str (sa_cons (se_call (ok__law_number T) (hr.mono (by decide)) (by rfl) T.g__law_number T.F__law_number.kp T.b__law_number (sa_cons (se_mod (se_c_int (by rfl) T.n_int boot_int_ (sa_cons (se_ix (sv 0) se_int) sa_nil)) se_int) (sa_cons (se_add se_int (se_mod (se_c_int (by rfl) T.n_int boot_int_ (sa_cons (se_fdiv (se_ix (sv 0) se_int) se_int) sa_nil)) se_int)) sa_nil))) (sa_cons (se_mod (se_c_int (by rfl) T.n_int boot_int_ (sa_cons (se_ix (sv 0) se_int) sa_nil)) (sv 1)) sa_nil))))))
      ss_nil)
    (ss_cons (ss_set (i := 3) nd rfl (by first | exact Or.inl rfl | exact Or.inr rfl) (se_ix (se_lst (sa_cons se_int (sa_cons se_int (sa_cons se_int (sa_cons se_int (sa_cons se_int (sa_cons se_int sa_nil))))))) (se_mod (se_c_int (by rfl) T.n_int boot_int_ (sa_cons (se_ix (sv 0) se_int) sa_nil)) se_int)))
    (ss_cons (ss_set (i := 4) nd rfl (by first | exact Or.inl rfl | exact Or.inr rfl) (se_call (ok__law_chances_of T) (hr.mono (by decide)) (by rfl) T.g__law_chances_of T.F__law_chances_of.kp T.b__law_chances_of (sa_cons (se_sl (sv 0) (so_some se_int) (so_some se_int)) (sa_cons (sv 3) sa_nil))))
    (ss_one (ss_ret (se_tup (sa_cons se_str (sa_cons (se_lc (own := [("k", 5)]) rfl nd (si_r1 (by rfl) T.n_range (sa_cons (sv 3) sa_nil)) (blkOk_by (N := ["draws", "many", "kind", "count", "drawn", "k"]) (sc := defScope s__law_place) (by decide +kernel)) (fun _ _ _ _ _ => (sg_name (i := 5) nd rfl (by first | exact Or.inl rfl | exact Or.inr rfl))) (by decide) (fun _ _ _ _ _ => sts_nil) (fun _ _ _ _ _ => (se_tup (sa_cons (se_ixO (ov 4) (sv 5)) (sa_cons (se_mod (se_c_int (by rfl) T.n_int boot_int_ (sa_cons (se_ix (sv 0) (se_add se_int (sv 5))) sa_nil)) (sv 1)) sa_nil))))) sa_nil)))))))))))⟩
theorem ok__law_refused (T : Tx P K mg) : FnOk P w K mg base (L2.CX P w) 4 T.f__law_refused T.fd__law_refused ["game"] (spX mg K 1 m__law_refused) := Bn.okXB (N := ["game", "e"]) (ps := ["game"]) (k := 3) (b := b__law_refused) T.F__law_refused sc__law_refused fun cdv A outer s H E hr hcd => by
  have nd := sc__law_refused.nd
  exact ⟨_, (Bn.sb_cons (Bx.sb_tryAsN (i := 1) nd rfl (by rfl) rfl rfl (by rfl) T.xn_NotChain (Bx.tst_consN T.xn_NotChain T.xn_NotChain T.su_NotChain_NotChain Bn.tst_nil) (fun W pn xe => (Bn.sb_one (Bn.sb_if (Bn.tb_isN (Bn.eb_callX (fun _ _ => Bn.fnXB_len) (ok_check_chain T) (hr.mono (by decide)) (by rfl) T.g_check_chain T.F_check_chain.kp T.b_check_chain (Bn.ab_cons (Bn.eb_p (sv 0)) Bn.ab_nil)))
      (Bn.sb_one (Bn.sb_ret (Bn.eb_p (se_lst sa_nil))))
      Bn.sb_nil))) (fun a oe cls d pn hz hv => (Bn.sb_one (Bn.sb_if (Bn.SWB.st (Bn.wb_and (Bn.tb_val (Bx.eb_isF hz hv (by rfl) T.n_isinstance boot_isi (ov 1) (pe_glob (v := .ref T.C_OddsError) (by rfl) T.x_OddsError.g rfl) (Bn.is_consR T.xn_NotChain.g T.xc_NotChain T.ki_NotChain_OddsError Bn.is_nil))) (Bn.wb_and (Bn.tb_val (Bx.eb_isF hz hv (by rfl) T.n_isinstance boot_isi (ov 1) (pe_bltn (v := .ty "ValueError") (u := .type "ValueError") (by rfl) T.n_ValueError (by decide +kernel) rfl (by decide)) (Bn.is_consT T.xn_NotChain.g T.xc_NotChain T.ki_NotChain_ValueError Bn.is_nil))) (Bn.wb_and1 (Bn.tb_not (Bn.tb_val (Bx.eb_isF hz hv (by rfl) T.n_isinstance boot_isi (ov 1) (pe_glob (v := .ref T.C_BadStrategy) (by rfl) T.xn_BadStrategy.g rfl) (Bn.is_consR T.xn_NotChain.g T.xc_NotChain T.ki_NotChain_BadStrategy Bn.is_nil))))))))
      (Bn.sb_one (Bn.sb_ret (Bn.eb_lst (Bn.ab_cons (Bx.eb_xf hz hv (ov 1) (Bx.xf_cons T.xn_NotChain.g T.xf_NotChain T.no_NotChain_place Bx.xf_nil)) Bn.ab_nil))))
      Bn.sb_nil))))
    (Bn.sb_one (Bn.sb_ret (Bn.eb_p (se_lst (sa_cons se_str sa_nil))))))⟩
theorem ok__law_chain (T : Tx P K mg) : FnOk P w K mg base CX0 5 T.f__law_chain T.fd__law_chain ["draws"] (spD K 1 m__law_chain) := okD (N := ["draws", "many", "k"]) (ps := ["draws"]) (k := 4) (b := b__law_chain) T.F__law_chain sc__law_chain fun cdv A outer s H E hr => by
  have nd := sc__law_chain.nd
  exact ⟨_, (ss_cons (ss_set (i := 1) nd rfl (by first | exact Or.inl rfl | exact Or.inr rfl) (se_add se_int (se_mod (se_c_int (by rfl) T.n_int boot_int_ (sa_cons (se_ix (sv 0) se_int) sa_nil)) se_int)))
    (ss_one (ss_ret (se_lc (own := [("k", 2)]) rfl nd (si_r1 (by rfl) T.n_range (sa_cons (sv 1) sa_nil)) (blkOk_by (N := ["draws", "many", "k"]) (sc := defScope s__law_chain) (by decide +kernel)) (fun _ _ _ _ _ => (sg_name (i := 2) nd rfl (by first | exact Or.inl rfl | exact Or.inr rfl))) (by decide) (fun _ _ _ _ _ => sts_nil) (fun _ _ _ _ _ => (se_call (ok__law_place T) (hr.mono (by decide)) (by rfl) T.g__law_place T.F__law_place.kp T.b__law_place (sa_cons (se_sl (sv 0) (so_some (se_add se_int (se_mul se_int (sv 2)))) (so_some (se_add se_int (se_mul se_int (sv 2))))) (sa_cons (sv 1) sa_nil))))))))⟩
theorem ok_law (T : Tx P K mg) (cdv : Value) (s : Shared) (H : Hp) (hr : Room 5 (callerA.deeper (envOfC "law" (defScope s_law) s.heap.objs.size T.f_law cdv))) : ∃ t, Bn.SSsB (cxOf CX0 P w K mg base ["script", "draws", "chain", "kept", "due", "turn", "game", "places", "k", "actual", "one", "at", "place"] "law" (defScope s_law) T.f_law cdv callerA [] s H E0).nox WF none (defBody s_law) t b_law := by
  have nd := sc_law.nd
  exact ⟨_, (Bn.sb_cons (Bn.sb_set (i := 1) nd rfl (by first | exact Or.inl rfl | exact Or.inr rfl) (Bn.eb_fz (Bn.eb_p (se_call (ok__law_draws T) (hr.mono (by decide)) (by rfl) T.g__law_draws T.F__law_draws.kp T.b__law_draws (sa_cons (sv 0) (sa_cons se_int sa_nil))))))
    (Bn.sb_cons (Bn.sb_set (i := 2) nd rfl (by first | exact Or.inl rfl | exact Or.inr rfl) (Bn.eb_fz (Bn.eb_p (se_call (ok__law_chain T) (hr.mono (by decide)) (by rfl) T.g__law_chain T.F__law_chain.kp T.b__law_chain (sa_cons (sv 1) sa_nil)))))
    (Bn.sb_cons (Bn.sb_set (i := 3) nd rfl (by first | exact Or.inl rfl | exact Or.inr rfl) (Bn.eb_p (se_c_repr rfl hr.units66 (by rfl) T.n_repr boot_repr_ (sa_cons (sv 2) sa_nil))))
    (Bn.sb_cons (Bn.sb_set (i := 4) nd rfl (by first | exact Or.inl rfl | exact Or.inr rfl) (Bn.eb_fz (Bn.eb_p (se_call (ok__law_closed T) (hr.mono (by decide)) (by rfl) T.g__law_closed T.F__law_closed.kp T.b__law_closed (sa_cons (sv 2) sa_nil)))))
    (Bn.sb_cons (Bn.sb_for rfl (Bn.ib_p (si_r1 (by rfl) T.n_range (sa_cons se_int sa_nil))) (Bn.gb_name (i := 5) nd rfl (by first | exact Or.inl rfl | exact Or.inr rfl))
      (Bn.sb_cons (Bn.sb_set (i := 9) nd rfl (by first | exact Or.inl rfl | exact Or.inr rfl) (Bn.eb_callB (fun _ _ _ => Bn.fnB_len) (ok_closed_classes T) (hr.mono (by decide)) (by rfl) T.g_closed_classes T.F_closed_classes.kp T.b_closed_classes (Bn.ab_cons (Bn.eb_p (sv 2)) Bn.ab_nil)))
    (Bn.sb_cons (Bn.sb_if (Bn.tb_pk (SW.st (sw_or (st_not (st_val (se_isi (T := "list") (by decide) (by rfl) T.n_isinstance boot_isi (by rfl) T.n_list boot_list_ (sv 9)))) (sw_or1 (st_neT hr.units (sv 9) (sv 4))))))
      (Bn.sb_one (Bn.sb_ret (Bn.eb_p se_bl)))
      Bn.sb_nil)
    (Bn.sb_cons (Bn.sb_for rfl (Bn.ib_e (Bn.eb_var (ov 9))) (Bn.gb_name (i := 10) nd rfl (by first | exact Or.inl rfl | exact Or.inr rfl))
      (Bn.sb_cons (Bn.sb_if (Bn.tb_pk (st_not (st_val (se_c_all (by rfl) T.n_all boot_all_ (sa_cons (se_lc (own := [("place", 12)]) rfl nd (si_seq (sv 10)) (blkOk_by (N := ["script", "draws", "chain", "kept", "due", "turn", "game", "places", "k", "actual", "one", "at", "place"]) (sc := defScope s_law) (by decide +kernel)) (fun _ _ _ _ _ => (sg_name (i := 12) nd rfl (by first | exact Or.inl rfl | exact Or.inr rfl))) (by decide) (fun _ _ _ _ _ => sts_nil) (fun _ _ _ _ _ => (se_call (ok__law_is_whole T) (hr.mono (by decide)) (by rfl) T.g__law_is_whole T.F__law_is_whole.kp T.b__law_is_whole (sa_cons (sv 12) sa_nil)))) sa_nil)))))
      (Bn.sb_one (Bn.sb_ret (Bn.eb_p se_bl)))
      Bn.sb_nil)
    (Bn.sb_one (Bn.sb_drop (Bn.eb_append (Bn.eb_var (ov 10)) (Bn.eb_p se_int))))))
    (Bn.sb_one (Bn.sb_drop (Bn.eb_append (Bn.eb_var (ov 9)) (Bn.eb_p (se_lst sa_nil)))))))))
    (Bn.sb_cons (Bn.sb_set (i := 6) nd rfl (by first | exact Or.inl rfl | exact Or.inr rfl) (Bn.eb_p (se_c_list (by rfl) T.n_list boot_list_ (sa_cons (sv 2) sa_nil))))
    (Bn.sb_cons (Bn.sb_set (i := 7) nd rfl (by first | exact Or.inl rfl | exact Or.inr rfl) (Bn.eb_p (se_lst sa_nil)))
    (Bn.sb_cons (Bn.sb_for rfl (Bn.ib_p (si_r1 (by rfl) T.n_range (sa_cons (se_add se_int (se_mod (se_c_int (by rfl) T.n_int boot_int_ (sa_cons (se_ix (sv 1) se_int) sa_nil)) se_int)) sa_nil))) (Bn.gb_name (i := 8) nd rfl (by first | exact Or.inl rfl | exact Or.inr rfl))
      (Bn.sb_cons (Bn.sb_set (i := 11) nd rfl (by first | exact Or.inl rfl | exact Or.inr rfl) (Bn.eb_pk (se_mod (se_c_int (by rfl) T.n_int boot_int_ (sa_cons (se_ix (sv 1) (se_add se_int (sv 8))) sa_nil)) (se_c_len (by rfl) T.n_len boot_len_ (sa_cons (sv 6) sa_nil)))))
    (Bn.sb_cons (Bn.sb_put (Bn.eb_tup (Bn.ab_cons (Bn.eb_p (se_ix (se_lst (sa_cons se_str (sa_cons se_str sa_nil))) (se_mod (se_c_int (by rfl) T.n_int boot_int_ (sa_cons (se_ix (sv 1) (se_add se_int (sv 8))) sa_nil)) se_int))) (Bn.ab_cons (Bn.eb_fz (Bn.eb_lst (Bn.ab_cons (Bn.eb_pk (se_mod (se_c_int (by rfl) T.n_int boot_int_ (sa_cons (se_ix (sv 1) (se_add se_int (sv 8))) sa_nil)) (se_c_len (by rfl) T.n_len boot_len_ (sa_cons (sv 6) sa_nil)))) (Bn.ab_cons (Bn.eb_p (sv 11)) Bn.ab_nil)))) Bn.ab_nil))) (Bn.eb_var (ov 6)) (Bn.eb_p (sv 11)))
    (Bn.sb_one (Bn.sb_drop (Bn.eb_append (Bn.eb_var (ov 7)) (Bn.eb_p (sv 11))))))))
    (Bn.sb_cons (Bn.sb_if (Bn.SWB.st (Bn.wb_or (Bn.tb_neT hr.units (Bn.eb_callX (fun _ _ => Bn.fnXB_len) (ok__law_refused T) (hr.mono (by decide)) (by rfl) T.g__law_refused T.F__law_refused.kp T.b__law_refused (Bn.ab_cons (Bn.eb_p (sv 2)) Bn.ab_nil)) (Bn.eb_p (se_lst sa_nil))) (Bn.wb_or1 (Bn.tb_neT hr.units (Bn.eb_callX (fun _ _ => Bn.fnXB_len) (ok__law_refused T) (hr.mono (by decide)) (by rfl) T.g__law_refused T.F__law_refused.kp T.b__law_refused (Bn.ab_cons (Bn.eb_fz (Bn.eb_var (ov 6))) Bn.ab_nil)) (Bn.eb_lst (Bn.ab_cons (Bn.eb_pk (se_c_min (by rfl) T.n_min boot_min_ (sa_cons (sv 7) sa_nil))) Bn.ab_nil))))))
      (Bn.sb_one (Bn.sb_ret (Bn.eb_p se_bl)))
      Bn.sb_nil)
    (Bn.sb_one (Bn.sb_ret (Bn.eb_p (se_eqT hr.units (se_c_repr rfl hr.units66 (by rfl) T.n_repr boot_repr_ (sa_cons (sv 2) sa_nil)) (sv 3))))))))))))))⟩
end
theorem all_mk (hlaw : ∀ ns : List Int, ns.length ≤ 63 → m_law [.list (ns.map PyData.int)] = some (.rt (.val (.bool true)))) {l : PySem.W.OpenLaw} {w : World} {K : PySem.W.Frag} {h : Heap} {mg : Str → Option Value} {fa : Addr} (X : K.In h) (G : h.Ns mainGlobals mg) (hfa : mg "law" = some (.ref fa))
    {od_targets an_targets : Option Addr} {sl_targets : Array (Option Value)} {oc_targets kV_targets dc_targets pm_targets cd_targets ct_targets : Value} {f_targets : Addr}
    (a_targets : PySem.W.nsIn K mainGlobals "targets" = some (some (.ref f_targets))) (l_targets : K.lookup f_targets = some ⟨oc_targets, od_targets, .func (PySem.W.fnOf "targets" "targets" (defArgs s_targets) (defBody s_targets) (defScope s_targets) .none kV_targets dc_targets pm_targets an_targets cd_targets ct_targets), sl_targets⟩) (c_targets : PySem.W.codeIn K cd_targets "targets" = true) (k_targets : PySem.W.keepIn K (.ref f_targets) = true)
    {od__law_draws an__law_draws : Option Addr} {sl__law_draws : Array (Option Value)} {oc__law_draws kV__law_draws dc__law_draws pm__law_draws cd__law_draws ct__law_draws : Value} {f__law_draws : Addr}
    (a__law_draws : PySem.W.nsIn K mainGlobals "_law_draws" = some (some (.ref f__law_draws))) (l__law_draws : K.lookup f__law_draws = some ⟨oc__law_draws, od__law_draws, .func (PySem.W.fnOf "_law_draws" "_law_draws" (defArgs s__law_draws) (defBody s__law_draws) (defScope s__law_draws) .none kV__law_draws dc__law_draws pm__law_draws an__law_draws cd__law_draws ct__law_draws), sl__law_draws⟩) (c__law_draws : PySem.W.codeIn K cd__law_draws "_law_draws" = true) (k__law_draws : PySem.W.keepIn K (.ref f__law_draws) = true)
    {od__law_gcd an__law_gcd : Option Addr} {sl__law_gcd : Array (Option Value)} {oc__law_gcd kV__law_gcd dc__law_gcd pm__law_gcd cd__law_gcd ct__law_gcd : Value} {f__law_gcd : Addr}
    (a__law_gcd : PySem.W.nsIn K mainGlobals "_law_gcd" = some (some (.ref f__law_gcd))) (l__law_gcd : K.lookup f__law_gcd = some ⟨oc__law_gcd, od__law_gcd, .func (PySem.W.fnOf "_law_gcd" "_law_gcd" (defArgs s__law_gcd) (defBody s__law_gcd) (defScope s__law_gcd) .none kV__law_gcd dc__law_gcd pm__law_gcd an__law_gcd cd__law_gcd ct__law_gcd), sl__law_gcd⟩) (c__law_gcd : PySem.W.codeIn K cd__law_gcd "_law_gcd" = true) (k__law_gcd : PySem.W.keepIn K (.ref f__law_gcd) = true)
    {od__law_is_whole an__law_is_whole : Option Addr} {sl__law_is_whole : Array (Option Value)} {oc__law_is_whole kV__law_is_whole dc__law_is_whole pm__law_is_whole cd__law_is_whole ct__law_is_whole : Value} {f__law_is_whole : Addr}
    (a__law_is_whole : PySem.W.nsIn K mainGlobals "_law_is_whole" = some (some (.ref f__law_is_whole))) (l__law_is_whole : K.lookup f__law_is_whole = some ⟨oc__law_is_whole, od__law_is_whole, .func (PySem.W.fnOf "_law_is_whole" "_law_is_whole" (defArgs s__law_is_whole) (defBody s__law_is_whole) (defScope s__law_is_whole) .none kV__law_is_whole dc__law_is_whole pm__law_is_whole an__law_is_whole cd__law_is_whole ct__law_is_whole), sl__law_is_whole⟩) (c__law_is_whole : PySem.W.codeIn K cd__law_is_whole "_law_is_whole" = true) (k__law_is_whole : PySem.W.keepIn K (.ref f__law_is_whole) = true)
    {od__law_branches an__law_branches : Option Addr} {sl__law_branches : Array (Option Value)} {oc__law_branches kV__law_branches dc__law_branches pm__law_branches cd__law_branches ct__law_branches : Value} {f__law_branches : Addr}
    (a__law_branches : PySem.W.nsIn K mainGlobals "_law_branches" = some (some (.ref f__law_branches))) (l__law_branches : K.lookup f__law_branches = some ⟨oc__law_branches, od__law_branches, .func (PySem.W.fnOf "_law_branches" "_law_branches" (defArgs s__law_branches) (defBody s__law_branches) (defScope s__law_branches) .none kV__law_branches dc__law_branches pm__law_branches an__law_branches cd__law_branches ct__law_branches), sl__law_branches⟩) (c__law_branches : PySem.W.codeIn K cd__law_branches "_law_branches" = true) (k__law_branches : PySem.W.keepIn K (.ref f__law_branches) = true)
    {od_reached an_reached : Option Addr} {sl_reached : Array (Option Value)} {oc_reached kV_reached dc_reached pm_reached cd_reached ct_reached : Value} {f_reached : Addr}
    (a_reached : PySem.W.nsIn K mainGlobals "reached" = some (some (.ref f_reached))) (l_reached : K.lookup f_reached = some ⟨oc_reached, od_reached, .func (PySem.W.fnOf "reached" "reached" (defArgs s_reached) (defBody s_reached) (defScope s_reached) .none kV_reached dc_reached pm_reached an_reached cd_reached ct_reached), sl_reached⟩) (c_reached : PySem.W.codeIn K cd_reached "reached" = true) (k_reached : PySem.W.keepIn K (.ref f_reached) = true)
    {od__law_number an__law_number : Option Addr} {sl__law_number : Array (Option Value)} {oc__law_number kV__law_number dc__law_number pm__law_number cd__law_number ct__law_number : Value} {f__law_number : Addr}
    (a__law_number : PySem.W.nsIn K mainGlobals "_law_number" = some (some (.ref f__law_number))) (l__law_number : K.lookup f__law_number = some ⟨oc__law_number, od__law_number, .func (PySem.W.fnOf "_law_number" "_law_number" (defArgs s__law_number) (defBody s__law_number) (defScope s__law_number) .none kV__law_number dc__law_number pm__law_number an__law_number cd__law_number ct__law_number), sl__law_number⟩) (c__law_number : PySem.W.codeIn K cd__law_number "_law_number" = true) (k__law_number : PySem.W.keepIn K (.ref f__law_number) = true)
    {od__law_reached an__law_reached : Option Addr} {sl__law_reached : Array (Option Value)} {oc__law_reached kV__law_reached dc__law_reached pm__law_reached cd__law_reached ct__law_reached : Value} {f__law_reached : Addr}
    (a__law_reached : PySem.W.nsIn K mainGlobals "_law_reached" = some (some (.ref f__law_reached))) (l__law_reached : K.lookup f__law_reached = some ⟨oc__law_reached, od__law_reached, .func (PySem.W.fnOf "_law_reached" "_law_reached" (defArgs s__law_reached) (defBody s__law_reached) (defScope s__law_reached) .none kV__law_reached dc__law_reached pm__law_reached an__law_reached cd__law_reached ct__law_reached), sl__law_reached⟩) (c__law_reached : PySem.W.codeIn K cd__law_reached "_law_reached" = true) (k__law_reached : PySem.W.keepIn K (.ref f__law_reached) = true)
    {od_check_chain an_check_chain : Option Addr} {sl_check_chain : Array (Option Value)} {oc_check_chain kV_check_chain dc_check_chain pm_check_chain cd_check_chain ct_check_chain : Value} {f_check_chain : Addr}
    (a_check_chain : PySem.W.nsIn K mainGlobals "check_chain" = some (some (.ref f_check_chain))) (l_check_chain : K.lookup f_check_chain = some ⟨oc_check_chain, od_check_chain, .func (PySem.W.fnOf "check_chain" "check_chain" (defArgs s_check_chain) (defBody s_check_chain) (defScope s_check_chain) .none kV_check_chain dc_check_chain pm_check_chain an_check_chain cd_check_chain ct_check_chain), sl_check_chain⟩) (c_check_chain : PySem.W.codeIn K cd_check_chain "check_chain" = true) (k_check_chain : PySem.W.keepIn K (.ref f_check_chain) = true)
    {od_closed_classes an_closed_classes : Option Addr} {sl_closed_classes : Array (Option Value)} {oc_closed_classes kV_closed_classes dc_closed_classes pm_closed_classes cd_closed_classes ct_closed_classes : Value} {f_closed_classes : Addr}
    (a_closed_classes : PySem.W.nsIn K mainGlobals "closed_classes" = some (some (.ref f_closed_classes))) (l_closed_classes : K.lookup f_closed_classes = some ⟨oc_closed_classes, od_closed_classes, .func (PySem.W.fnOf "closed_classes" "closed_classes" (defArgs s_closed_classes) (defBody s_closed_classes) (defScope s_closed_classes) .none kV_closed_classes dc_closed_classes pm_closed_classes an_closed_classes cd_closed_classes ct_closed_classes), sl_closed_classes⟩) (c_closed_classes : PySem.W.codeIn K cd_closed_classes "closed_classes" = true) (k_closed_classes : PySem.W.keepIn K (.ref f_closed_classes) = true)
    {od__law_chances_of an__law_chances_of : Option Addr} {sl__law_chances_of : Array (Option Value)} {oc__law_chances_of kV__law_chances_of dc__law_chances_of pm__law_chances_of cd__law_chances_of ct__law_chances_of : Value} {f__law_chances_of : Addr}
    (a__law_chances_of : PySem.W.nsIn K mainGlobals "_law_chances_of" = some (some (.ref f__law_chances_of))) (l__law_chances_of : K.lookup f__law_chances_of = some ⟨oc__law_chances_of, od__law_chances_of, .func (PySem.W.fnOf "_law_chances_of" "_law_chances_of" (defArgs s__law_chances_of) (defBody s__law_chances_of) (defScope s__law_chances_of) .none kV__law_chances_of dc__law_chances_of pm__law_chances_of an__law_chances_of cd__law_chances_of ct__law_chances_of), sl__law_chances_of⟩) (c__law_chances_of : PySem.W.codeIn K cd__law_chances_of "_law_chances_of" = true) (k__law_chances_of : PySem.W.keepIn K (.ref f__law_chances_of) = true)
    {od__law_closed an__law_closed : Option Addr} {sl__law_closed : Array (Option Value)} {oc__law_closed kV__law_closed dc__law_closed pm__law_closed cd__law_closed ct__law_closed : Value} {f__law_closed : Addr}
    (a__law_closed : PySem.W.nsIn K mainGlobals "_law_closed" = some (some (.ref f__law_closed))) (l__law_closed : K.lookup f__law_closed = some ⟨oc__law_closed, od__law_closed, .func (PySem.W.fnOf "_law_closed" "_law_closed" (defArgs s__law_closed) (defBody s__law_closed) (defScope s__law_closed) .none kV__law_closed dc__law_closed pm__law_closed an__law_closed cd__law_closed ct__law_closed), sl__law_closed⟩) (c__law_closed : PySem.W.codeIn K cd__law_closed "_law_closed" = true) (k__law_closed : PySem.W.keepIn K (.ref f__law_closed) = true)
    {od__law_place an__law_place : Option Addr} {sl__law_place : Array (Option Value)} {oc__law_place kV__law_place dc__law_place pm__law_place cd__law_place ct__law_place : Value} {f__law_place : Addr}
    (a__law_place : PySem.W.nsIn K mainGlobals "_law_place" = some (some (.ref f__law_place))) (l__law_place : K.lookup f__law_place = some ⟨oc__law_place, od__law_place, .func (PySem.W.fnOf "_law_place" "_law_place" (defArgs s__law_place) (defBody s__law_place) (defScope s__law_place) .none kV__law_place dc__law_place pm__law_place an__law_place cd__law_place ct__law_place), sl__law_place⟩) (c__law_place : PySem.W.codeIn K cd__law_place "_law_place" = true) (k__law_place : PySem.W.keepIn K (.ref f__law_place) = true)
    {od__law_refused an__law_refused : Option Addr} {sl__law_refused : Array (Option Value)} {oc__law_refused kV__law_refused dc__law_refused pm__law_refused cd__law_refused ct__law_refused : Value} {f__law_refused : Addr}
    (a__law_refused : PySem.W.nsIn K mainGlobals "_law_refused" = some (some (.ref f__law_refused))) (l__law_refused : K.lookup f__law_refused = some ⟨oc__law_refused, od__law_refused, .func (PySem.W.fnOf "_law_refused" "_law_refused" (defArgs s__law_refused) (defBody s__law_refused) (defScope s__law_refused) .none kV__law_refused dc__law_refused pm__law_refused an__law_refused cd__law_refused ct__law_refused), sl__law_refused⟩) (c__law_refused : PySem.W.codeIn K cd__law_refused "_law_refused" = true) (k__law_refused : PySem.W.keepIn K (.ref f__law_refused) = true)
    {od__law_chain an__law_chain : Option Addr} {sl__law_chain : Array (Option Value)} {oc__law_chain kV__law_chain dc__law_chain pm__law_chain cd__law_chain ct__law_chain : Value} {f__law_chain : Addr}
    (a__law_chain : PySem.W.nsIn K mainGlobals "_law_chain" = some (some (.ref f__law_chain))) (l__law_chain : K.lookup f__law_chain = some ⟨oc__law_chain, od__law_chain, .func (PySem.W.fnOf "_law_chain" "_law_chain" (defArgs s__law_chain) (defBody s__law_chain) (defScope s__law_chain) .none kV__law_chain dc__law_chain pm__law_chain an__law_chain cd__law_chain ct__law_chain), sl__law_chain⟩) (c__law_chain : PySem.W.codeIn K cd__law_chain "_law_chain" = true) (k__law_chain : PySem.W.keepIn K (.ref f__law_chain) = true)
    {od_law an_law : Option Addr} {sl_law : Array (Option Value)} {oc_law kV_law dc_law pm_law cd_law ct_law : Value} {f_law : Addr}
    (a_law : PySem.W.nsIn K mainGlobals "law" = some (some (.ref f_law))) (l_law : K.lookup f_law = some ⟨oc_law, od_law, .func (PySem.W.fnOf "law" "law" (defArgs s_law) (defBody s_law) (defScope s_law) .none kV_law dc_law pm_law an_law cd_law ct_law), sl_law⟩) (c_law : PySem.W.codeIn K cd_law "law" = true) (k_law : PySem.W.keepIn K (.ref f_law) = true)
    {C_OddsError : Addr}
    (a_OddsError : PySem.W.nsIn K mainGlobals "OddsError" = some (some (.ref C_OddsError)))
    (e_OddsError : PySem.W.excIn K C_OddsError [.type "ValueError", .type "Exception", .type "BaseException", .type "object"] "ValueError.__new__" = true)
    (k_OddsError : PySem.W.keepIn K (.ref C_OddsError) = true)
    (s_OddsError : PySem.W.subIn K (.ref C_OddsError) (.type "BaseException") = some true)
    (t_OddsError : PySem.W.typeIn K (.ref C_OddsError) = some (.type "type"))
    (d_OddsError : PySem.W.hasDictIn K C_OddsError = true)
    (z_super : PySem.W.nsIn K mainGlobals "super" = some none)
    (z_opq : PySem.W.nsIn K cStatics "thirdparty.any" = some none)
    (z_top : (l.prog.main.scope.names.lookup ("super" : Str)).isSome = false)
    {C_NotChain fI_NotChain cc_NotChain cI_NotChain : Addr} {nmI_NotChain qI_NotChain fileI_NotChain : Str} {NI_NotChain : Addr} {bsI_NotChain bmI_NotChain subI_NotChain : List Value} {snI_NotChain : List Str} {abI_NotChain : Bool} {colI_NotChain : Option Bool} {ddI_NotChain odI_NotChain ccdI_NotChain ocdI_NotChain : Option Addr} {k0I_NotChain k1I_NotChain k2I_NotChain k3I_NotChain k5I_NotChain : Option Value} {ocI_NotChain docI_NotChain pmI_NotChain ctI_NotChain cclI_NotChain oclI_NotChain kVI_NotChain : Value} {anI_NotChain : Option Addr} {oslI_NotChain ccsI_NotChain ocsI_NotChain : Array (Option Value)} {vsI_NotChain : Array Value} {tfI_NotChain : Tok}
    (a_NotChain : PySem.W.nsIn K mainGlobals "NotChain" = some (some (.ref C_NotChain)))
    (iC_NotChain : PySem.W.findIn K (.ref C_NotChain) "__init__" = some (some (.ref fI_NotChain)))
    (lC_NotChain : K.lookup C_NotChain = some (excClassObj nmI_NotChain qI_NotChain C_NotChain NI_NotChain bsI_NotChain bmI_NotChain true snI_NotChain subI_NotChain abI_NotChain colI_NotChain ddI_NotChain k0I_NotChain k1I_NotChain k2I_NotChain k3I_NotChain k5I_NotChain "ValueError.__new__"))
    (rv_NotChain : PySem.HandSPX.refsVE bmI_NotChain = true)
    (sa_NotChain : PySem.W.findIn K (.ref C_NotChain) "__setattr__" = some (some (.builtin "object.__setattr__")))
    (k_NotChain : PySem.W.keepIn K (.ref C_NotChain) = true)
    (s_NotChain : PySem.W.subIn K (.ref C_NotChain) (.type "BaseException") = some true)
    (t_NotChain : PySem.W.typeIn K (.ref C_NotChain) = some (.type "type"))
    (d_NotChain : PySem.W.hasDictIn K C_NotChain = true)
    (tI_NotChain : PySem.W.typeIn K (.ref fI_NotChain) = some (.type "function"))
    (lI_NotChain : K.lookup fI_NotChain = some ⟨ocI_NotChain, odI_NotChain, .func (PySem.W.fnX "__init__" "NotChain.__init__" (defArgs si_NotChain) (defBody si_NotChain) (defScope si_NotChain) [(("__class__" : Str), cc_NotChain)] .none kVI_NotChain docI_NotChain pmI_NotChain anI_NotChain (.ref cI_NotChain) ctI_NotChain), oslI_NotChain⟩)
    (lc_NotChain : K.lookup cc_NotChain = some ⟨cclI_NotChain, ccdI_NotChain, .cell (some (.ref C_NotChain)), ccsI_NotChain⟩)
    (lo_NotChain : K.lookup cI_NotChain = some ⟨oclI_NotChain, ocdI_NotChain, .fields vsI_NotChain, ocsI_NotChain⟩)
    (vs_NotChain : vsI_NotChain[2]? = some (.str fileI_NotChain tfI_NotChain))
    (fl_NotChain : ((l.prog.main.file : Str) == fileI_NotChain) = true)
    (cd_NotChain : PySem.W.codeIn K (.ref cI_NotChain) "NotChain.__init__" = true)
    (mr_NotChain : PySem.W.mroIn K C_NotChain (.ref C_NotChain) = some true)
    (al_NotChain : PySem.W.ks_superIn K C_NotChain C_NotChain "__init__" = some (some (.builtin "ValueError.__init__")))
    (sv_NotChain : PySem.W.subIn K (.ref C_NotChain) (.type "ValueError") = some true)
    {C_BadStrategy fI_BadStrategy cc_BadStrategy cI_BadStrategy : Addr} {nmI_BadStrategy qI_BadStrategy fileI_BadStrategy : Str} {NI_BadStrategy : Addr} {bsI_BadStrategy bmI_BadStrategy subI_BadStrategy : List Value} {snI_BadStrategy : List Str} {abI_BadStrategy : Bool} {colI_BadStrategy : Option Bool} {ddI_BadStrategy odI_BadStrategy ccdI_BadStrategy ocdI_BadStrategy : Option Addr} {k0I_BadStrategy k1I_BadStrategy k2I_BadStrategy k3I_BadStrategy k5I_BadStrategy : Option Value} {ocI_BadStrategy docI_BadStrategy pmI_BadStrategy ctI_BadStrategy cclI_BadStrategy oclI_BadStrategy kVI_BadStrategy : Value} {anI_BadStrategy : Option Addr} {oslI_BadStrategy ccsI_BadStrategy ocsI_BadStrategy : Array (Option Value)} {vsI_BadStrategy : Array Value} {tfI_BadStrategy : Tok}
    (a_BadStrategy : PySem.W.nsIn K mainGlobals "BadStrategy" = some (some (.ref C_BadStrategy)))
    (iC_BadStrategy : PySem.W.findIn K (.ref C_BadStrategy) "__init__" = some (some (.ref fI_BadStrategy)))
    (lC_BadStrategy : K.lookup C_BadStrategy = some (excClassObj nmI_BadStrategy qI_BadStrategy C_BadStrategy NI_BadStrategy bsI_BadStrategy bmI_BadStrategy true snI_BadStrategy subI_BadStrategy abI_BadStrategy colI_BadStrategy ddI_BadStrategy k0I_BadStrategy k1I_BadStrategy k2I_BadStrategy k3I_BadStrategy k5I_BadStrategy "ValueError.__new__"))
    (rv_BadStrategy : PySem.HandSPX.refsVE bmI_BadStrategy = true)
    (sa_BadStrategy : PySem.W.findIn K (.ref C_BadStrategy) "__setattr__" = some (some (.builtin "object.__setattr__")))
    (k_BadStrategy : PySem.W.keepIn K (.ref C_BadStrategy) = true)
    (s_BadStrategy : PySem.W.subIn K (.ref C_BadStrategy) (.type "BaseException") = some true)
    (t_BadStrategy : PySem.W.typeIn K (.ref C_BadStrategy) = some (.type "type"))
    (d_BadStrategy : PySem.W.hasDictIn K C_BadStrategy = true)
    (tI_BadStrategy : PySem.W.typeIn K (.ref fI_BadStrategy) = some (.type "function"))
    (lI_BadStrategy : K.lookup fI_BadStrategy = some ⟨ocI_BadStrategy, odI_BadStrategy, .func (PySem.W.fnX "__init__" "BadStrategy.__init__" (defArgs si_BadStrategy) (defBody si_BadStrategy) (defScope si_BadStrategy) [(("__class__" : Str), cc_BadStrategy)] .none kVI_BadStrategy docI_BadStrategy pmI_BadStrategy anI_BadStrategy (.ref cI_BadStrategy) ctI_BadStrategy), oslI_BadStrategy⟩)
    (lc_BadStrategy : K.lookup cc_BadStrategy = some ⟨cclI_BadStrategy, ccdI_BadStrategy, .cell (some (.ref C_BadStrategy)), ccsI_BadStrategy⟩)
    (lo_BadStrategy : K.lookup cI_BadStrategy = some ⟨oclI_BadStrategy, ocdI_BadStrategy, .fields vsI_BadStrategy, ocsI_BadStrategy⟩)
    (vs_BadStrategy : vsI_BadStrategy[2]? = some (.str fileI_BadStrategy tfI_BadStrategy))
    (fl_BadStrategy : ((l.prog.main.file : Str) == fileI_BadStrategy) = true)
    (cd_BadStrategy : PySem.W.codeIn K (.ref cI_BadStrategy) "BadStrategy.__init__" = true)
    (mr_BadStrategy : PySem.W.mroIn K C_BadStrategy (.ref C_BadStrategy) = some true)
    (al_BadStrategy : PySem.W.ks_superIn K C_BadStrategy C_BadStrategy "__init__" = some (some (.builtin "ValueError.__init__")))
    (sv_BadStrategy : PySem.W.subIn K (.ref C_BadStrategy) (.type "ValueError") = some true)
    (no_BadStrategy_place : PySem.W.findIn K (.ref C_BadStrategy) "place" = some none)
    (no_NotChain_place : PySem.W.findIn K (.ref C_NotChain) "place" = some none)
    (xfa_NotChain : PySem.W.findIn K (.ref C_NotChain) "__getattribute__" = some (some (.builtin "BaseException.__getattribute__")))
    (xfb_NotChain : PySem.W.findIn K (.ref C_NotChain) "__getattr__" = some none)
    (su_NotChain_NotChain : PySem.W.subIn K (.ref C_NotChain) (.ref C_NotChain) = some true)
    (xc_NotChain : ExcC K C_NotChain)
    (ki_NotChain_BadStrategy : PySem.W.kitOne K (.ref C_NotChain) (.ref C_BadStrategy) = some false)
    (ki_NotChain_ValueError : PySem.W.kitOne K (.ref C_NotChain) (.type "ValueError") = some true)
    (ki_NotChain_OddsError : PySem.W.kitOne K (.ref C_NotChain) (.ref C_OddsError) = some true)
    (z_ValueError : PySem.W.nsIn K mainGlobals "ValueError" = some none)
    (z_abs : PySem.W.nsIn K mainGlobals "abs" = some none)
    (z_all : PySem.W.nsIn K mainGlobals "all" = some none)
    (z_bool : PySem.W.nsIn K mainGlobals "bool" = some none)
    (z_enumerate : PySem.W.nsIn K mainGlobals "enumerate" = some none)
    (z_int : PySem.W.nsIn K mainGlobals "int" = some none)
    (z_isinstance : PySem.W.nsIn K mainGlobals "isinstance" = some none)
    (z_len : PySem.W.nsIn K mainGlobals "len" = some none)
    (z_list : PySem.W.nsIn K mainGlobals "list" = some none)
    (z_min : PySem.W.nsIn K mainGlobals "min" = some none)
    (z_range : PySem.W.nsIn K mainGlobals "range" = some none)
    (z_repr : PySem.W.nsIn K mainGlobals "repr" = some none)
    (z_sorted : PySem.W.nsIn K mainGlobals "sorted" = some none)
    (z_sum : PySem.W.nsIn K mainGlobals "sum" = some none)
    {ad_SIDES : Addr} (x_SIDES : PySem.W.nsIn K mainGlobals "SIDES" = some (some (.ref ad_SIDES))) (w_SIDES : ∀ F, Dp K F (.ref ad_SIDES) (.tuple [.str "ours", .str "theirs"]))
    : Bn.LawB l.prog w K mg 5 fa := by
  have e := hfa.symm.trans (PySem.W.mg_of X G a_law)
  have e : fa = f_law := by cases e; rfl
  subst e
  let T : Tx l.prog K mg := {
      f_targets := f_targets,
      fd_targets := _,
      F_targets := fun_mk (st := s_targets) l_targets c_targets k_targets,
      g_targets := PySem.W.mg_of X G a_targets,
      b_targets := (fun_mk (st := s_targets) l_targets c_targets k_targets).binds (ps := ["game", "place"]) fun _ _ _ _ _ _ us hl => match us, hl with | [_, _], _ => rfl,
      f__law_draws := f__law_draws,
      fd__law_draws := _,
      F__law_draws := fun_mk (st := s__law_draws) l__law_draws c__law_draws k__law_draws,
      g__law_draws := PySem.W.mg_of X G a__law_draws,
      b__law_draws := (fun_mk (st := s__law_draws) l__law_draws c__law_draws k__law_draws).binds (ps := ["script", "count"]) fun _ _ _ _ _ _ us hl => match us, hl with | [_, _], _ => rfl,
      f__law_gcd := f__law_gcd,
      fd__law_gcd := _,
      F__law_gcd := fun_mk (st := s__law_gcd) l__law_gcd c__law_gcd k__law_gcd,
      g__law_gcd := PySem.W.mg_of X G a__law_gcd,
      b__law_gcd := (fun_mk (st := s__law_gcd) l__law_gcd c__law_gcd k__law_gcd).binds (ps := ["a", "b"]) fun _ _ _ _ _ _ us hl => match us, hl with | [_, _], _ => rfl,
      f__law_is_whole := f__law_is_whole,
      fd__law_is_whole := _,
      F__law_is_whole := fun_mk (st := s__law_is_whole) l__law_is_whole c__law_is_whole k__law_is_whole,
      g__law_is_whole := PySem.W.mg_of X G a__law_is_whole,
      b__law_is_whole := (fun_mk (st := s__law_is_whole) l__law_is_whole c__law_is_whole k__law_is_whole).binds (ps := ["value"]) fun _ _ _ _ _ _ us hl => match us, hl with | [_], _ => rfl,
      f__law_branches := f__law_branches,
      fd__law_branches := _,
      F__law_branches := fun_mk (st := s__law_branches) l__law_branches c__law_branches k__law_branches,
      g__law_branches := PySem.W.mg_of X G a__law_branches,
      b__law_branches := (fun_mk (st := s__law_branches) l__law_branches c__law_branches k__law_branches).binds (ps := ["chain", "place"]) fun _ _ _ _ _ _ us hl => match us, hl with | [_, _], _ => rfl,
      f_reached := f_reached,
      fd_reached := _,
      F_reached := fun_mk (st := s_reached) l_reached c_reached k_reached,
      g_reached := PySem.W.mg_of X G a_reached,
      b_reached := (fun_mk (st := s_reached) l_reached c_reached k_reached).binds (ps := ["game", "place"]) fun _ _ _ _ _ _ us hl => match us, hl with | [_, _], _ => rfl,
      f__law_number := f__law_number,
      fd__law_number := _,
      F__law_number := fun_mk (st := s__law_number) l__law_number c__law_number k__law_number,
      g__law_number := PySem.W.mg_of X G a__law_number,
      b__law_number := (fun_mk (st := s__law_number) l__law_number c__law_number k__law_number).binds (ps := ["n", "d"]) fun _ _ _ _ _ _ us hl => match us, hl with | [_, _], _ => rfl,
      f__law_reached := f__law_reached,
      fd__law_reached := _,
      F__law_reached := fun_mk (st := s__law_reached) l__law_reached c__law_reached k__law_reached,
      g__law_reached := PySem.W.mg_of X G a__law_reached,
      b__law_reached := (fun_mk (st := s__law_reached) l__law_reached c__law_reached k__law_reached).binds (ps := ["chain", "place"]) fun _ _ _ _ _ _ us hl => match us, hl with | [_, _], _ => rfl,
      f_check_chain := f_check_chain,
      fd_check_chain := _,
      F_check_chain := fun_mk (st := s_check_chain) l_check_chain c_check_chain k_check_chain,
      g_check_chain := PySem.W.mg_of X G a_check_chain,
      b_check_chain := (fun_mk (st := s_check_chain) l_check_chain c_check_chain k_check_chain).binds (ps := ["chain"]) fun _ _ _ _ _ _ us hl => match us, hl with | [_], _ => rfl,
      f_closed_classes := f_closed_classes,
      fd_closed_classes := _,
      F_closed_classes := fun_mk (st := s_closed_classes) l_closed_classes c_closed_classes k_closed_classes,
      g_closed_classes := PySem.W.mg_of X G a_closed_classes,
      b_closed_classes := (fun_mk (st := s_closed_classes) l_closed_classes c_closed_classes k_closed_classes).binds (ps := ["chain"]) fun _ _ _ _ _ _ us hl => match us, hl with | [_], _ => rfl,
      f__law_chances_of := f__law_chances_of,
      fd__law_chances_of := _,
      F__law_chances_of := fun_mk (st := s__law_chances_of) l__law_chances_of c__law_chances_of k__law_chances_of,
      g__law_chances_of := PySem.W.mg_of X G a__law_chances_of,
      b__law_chances_of := (fun_mk (st := s__law_chances_of) l__law_chances_of c__law_chances_of k__law_chances_of).binds (ps := ["draws", "many"]) fun _ _ _ _ _ _ us hl => match us, hl with | [_, _], _ => rfl,
      f__law_closed := f__law_closed,
      fd__law_closed := _,
      F__law_closed := fun_mk (st := s__law_closed) l__law_closed c__law_closed k__law_closed,
      g__law_closed := PySem.W.mg_of X G a__law_closed,
      b__law_closed := (fun_mk (st := s__law_closed) l__law_closed c__law_closed k__law_closed).binds (ps := ["chain"]) fun _ _ _ _ _ _ us hl => match us, hl with | [_], _ => rfl,
      f__law_place := f__law_place,
      fd__law_place := _,
      F__law_place := fun_mk (st := s__law_place) l__law_place c__law_place k__law_place,
      g__law_place := PySem.W.mg_of X G a__law_place,
      b__law_place := (fun_mk (st := s__law_place) l__law_place c__law_place k__law_place).binds (ps := ["draws", "many"]) fun _ _ _ _ _ _ us hl => match us, hl with | [_, _], _ => rfl,
      f__law_refused := f__law_refused,
      fd__law_refused := _,
      F__law_refused := fun_mk (st := s__law_refused) l__law_refused c__law_refused k__law_refused,
      g__law_refused := PySem.W.mg_of X G a__law_refused,
      b__law_refused := (fun_mk (st := s__law_refused) l__law_refused c__law_refused k__law_refused).binds (ps := ["game"]) fun _ _ _ _ _ _ us hl => match us, hl with | [_], _ => rfl,
      f__law_chain := f__law_chain,
      fd__law_chain := _,
      F__law_chain := fun_mk (st := s__law_chain) l__law_chain c__law_chain k__law_chain,
      g__law_chain := PySem.W.mg_of X G a__law_chain,
      b__law_chain := (fun_mk (st := s__law_chain) l__law_chain c__law_chain k__law_chain).binds (ps := ["draws"]) fun _ _ _ _ _ _ us hl => match us, hl with | [_], _ => rfl,
      f_law := fa,
      fd_law := _,
      F_law := fun_mk (st := s_law) l_law c_law k_law,
      g_law := PySem.W.mg_of X G a_law,
      b_law := (fun_mk (st := s_law) l_law c_law k_law).binds (ps := ["script"]) fun _ _ _ _ _ _ us hl => match us, hl with | [_], _ => rfl,
      C_OddsError := C_OddsError,
      x_OddsError := ⟨PySem.W.mg_of X G a_OddsError, e_OddsError, k_OddsError, s_OddsError, t_OddsError, d_OddsError⟩,
      C_NotChain := C_NotChain,
      xn_NotChain := ⟨PySem.W.mg_of X G a_NotChain, s_NotChain, t_NotChain, d_NotChain⟩,
      o_NotChain := ⟨⟨nmI_NotChain, qI_NotChain, NI_NotChain, bsI_NotChain, bmI_NotChain, snI_NotChain, subI_NotChain, abI_NotChain, colI_NotChain, ddI_NotChain, k0I_NotChain, k1I_NotChain, k2I_NotChain, k3I_NotChain, k5I_NotChain, lC_NotChain, rv_NotChain⟩, sa_NotChain, s_NotChain, t_NotChain, k_NotChain⟩,
      fI_NotChain := fI_NotChain,
      fdI_NotChain := _,
      iC_NotChain := iC_NotChain,
      tI_NotChain := tI_NotChain,
      bI_NotChain := Binds.all fun us hl => match us, hl with | [_, _], _ => rfl,
      cc_NotChain := cc_NotChain,
      cI_NotChain := cI_NotChain,
      sI_NotChain := { fn := ⟨_, _, _, lI_NotChain⟩, fd := ⟨_, _, _, _, _, _, rfl⟩, cl := rfl, cell := ⟨_, _, _, lc_NotChain⟩, code := ⟨_, _, _, _, _, _, lo_NotChain, vs_NotChain, fl_NotChain⟩, cd := cd_NotChain, sub := mr_NotChain, along := al_NotChain, subV := sv_NotChain, opq := z_opq, mgS := PySem.W.mg_none_of X G z_super, top := z_top, oex := ⟨⟨nmI_NotChain, qI_NotChain, NI_NotChain, bsI_NotChain, bmI_NotChain, snI_NotChain, subI_NotChain, abI_NotChain, colI_NotChain, ddI_NotChain, k0I_NotChain, k1I_NotChain, k2I_NotChain, k3I_NotChain, k5I_NotChain, lC_NotChain, rv_NotChain⟩, sa_NotChain, s_NotChain, t_NotChain, k_NotChain⟩ },
      C_BadStrategy := C_BadStrategy,
      xn_BadStrategy := ⟨PySem.W.mg_of X G a_BadStrategy, s_BadStrategy, t_BadStrategy, d_BadStrategy⟩,
      o_BadStrategy := ⟨⟨nmI_BadStrategy, qI_BadStrategy, NI_BadStrategy, bsI_BadStrategy, bmI_BadStrategy, snI_BadStrategy, subI_BadStrategy, abI_BadStrategy, colI_BadStrategy, ddI_BadStrategy, k0I_BadStrategy, k1I_BadStrategy, k2I_BadStrategy, k3I_BadStrategy, k5I_BadStrategy, lC_BadStrategy, rv_BadStrategy⟩, sa_BadStrategy, s_BadStrategy, t_BadStrategy, k_BadStrategy⟩,
      fI_BadStrategy := fI_BadStrategy,
      fdI_BadStrategy := _,
      iC_BadStrategy := iC_BadStrategy,
      tI_BadStrategy := tI_BadStrategy,
      bI_BadStrategy := Binds.all fun us hl => match us, hl with | [_, _], _ => rfl,
      cc_BadStrategy := cc_BadStrategy,
      cI_BadStrategy := cI_BadStrategy,
      sI_BadStrategy := { fn := ⟨_, _, _, lI_BadStrategy⟩, fd := ⟨_, _, _, _, _, _, rfl⟩, cl := rfl, cell := ⟨_, _, _, lc_BadStrategy⟩, code := ⟨_, _, _, _, _, _, lo_BadStrategy, vs_BadStrategy, fl_BadStrategy⟩, cd := cd_BadStrategy, sub := mr_BadStrategy, along := al_BadStrategy, subV := sv_BadStrategy, opq := z_opq, mgS := PySem.W.mg_none_of X G z_super, top := z_top, oex := ⟨⟨nmI_BadStrategy, qI_BadStrategy, NI_BadStrategy, bsI_BadStrategy, bmI_BadStrategy, snI_BadStrategy, subI_BadStrategy, abI_BadStrategy, colI_BadStrategy, ddI_BadStrategy, k0I_BadStrategy, k1I_BadStrategy, k2I_BadStrategy, k3I_BadStrategy, k5I_BadStrategy, lC_BadStrategy, rv_BadStrategy⟩, sa_BadStrategy, s_BadStrategy, t_BadStrategy, k_BadStrategy⟩ },
      no_BadStrategy_place := no_BadStrategy_place,
      no_NotChain_place := no_NotChain_place,
      xf_NotChain := ⟨xfa_NotChain, xfb_NotChain, s_NotChain, d_NotChain⟩,
      su_NotChain_NotChain := su_NotChain_NotChain,
      xc_NotChain := xc_NotChain,
      ki_NotChain_BadStrategy := ki_NotChain_BadStrategy,
      ki_NotChain_ValueError := ki_NotChain_ValueError,
      ki_NotChain_OddsError := ki_NotChain_OddsError,
      n_ValueError := PySem.W.mg_none_of X G z_ValueError,
      n_abs := PySem.W.mg_none_of X G z_abs,
      n_all := PySem.W.mg_none_of X G z_all,
      n_bool := PySem.W.mg_none_of X G z_bool,
      n_enumerate := PySem.W.mg_none_of X G z_enumerate,
      n_int := PySem.W.mg_none_of X G z_int,
      n_isinstance := PySem.W.mg_none_of X G z_isinstance,
      n_len := PySem.W.mg_none_of X G z_len,
      n_list := PySem.W.mg_none_of X G z_list,
      n_min := PySem.W.mg_none_of X G z_min,
      n_range := PySem.W.mg_none_of X G z_range,
      n_repr := PySem.W.mg_none_of X G z_repr,
      n_sorted := PySem.W.mg_none_of X G z_sorted,
      n_sum := PySem.W.mg_none_of X G z_sum,
      a_SIDES := ad_SIDES,
      d_SIDES := w_SIDES,
      c_SIDES := PySem.W.mg_of X G x_SIDES }
  exact ⟨T.fd_law, ["script", "draws", "chain", "kept", "due", "turn", "game", "places", "k", "actual", "one", "at", "place"], s_law, "law", "law", b_law, T.F_law, sc_law, fun s v => .of_eq rfl, hlaw, fun base _ _ cdv s H hr => ok_law T cdv s H hr⟩
end Law
open PySem PySem.W PyProof.Rows
set_option maxHeartbeats 0 in
theorem PySem.Challenge.cw_oddkeep_k40_closed_classes_holds : PySem.Challenge.rw_oddkeep_k40_closed_classes.Holds := by
  w_on; o_law; k_head; (case hw => w_witness2)
  k_fill
  refine Bn.walkB (l := PySem.Challenge.rw_oddkeep_k40_closed_classes) (k := 5) rfl rfl ⟨rfl, by decide, by decide⟩ (fun w h Y => PySem.W.kIn_of Y) ?F
  case F =>
    intro w mg fa h KX G hmg
    refine' Law.all_mk Law.hlaw KX G hmg ?a_targets ?l_targets ?c_targets ?k_targets ?a__law_draws ?l__law_draws ?c__law_draws ?k__law_draws ?a__law_gcd ?l__law_gcd ?c__law_gcd ?k__law_gcd ?a__law_is_whole ?l__law_is_whole ?c__law_is_whole ?k__law_is_whole ?a__law_branches ?l__law_branches ?c__law_branches ?k__law_branches ?a_reached ?l_reached ?c_reached ?k_reached ?a__law_number ?l__law_number ?c__law_number ?k__law_number ?a__law_reached ?l__law_reached ?c__law_reached ?k__law_reached ?a_check_chain ?l_check_chain ?c_check_chain ?k_check_chain ?a_closed_classes ?l_closed_classes ?c_closed_classes ?k_closed_classes ?a__law_chances_of ?l__law_chances_of ?c__law_chances_of ?k__law_chances_of ?a__law_closed ?l__law_closed ?c__law_closed ?k__law_closed ?a__law_place ?l__law_place ?c__law_place ?k__law_place ?a__law_refused ?l__law_refused ?c__law_refused ?k__law_refused ?a__law_chain ?l__law_chain ?c__law_chain ?k__law_chain ?a_law ?l_law ?c_law ?k_law ?a_OddsError ?e_OddsError ?k_OddsError ?s_OddsError ?t_OddsError ?d_OddsError ?z_super ?z_opq ?z_top ?a_NotChain ?iC_NotChain ?lC_NotChain ?rv_NotChain ?sa_NotChain ?k_NotChain ?s_NotChain ?t_NotChain ?d_NotChain ?tI_NotChain ?lI_NotChain ?lc_NotChain ?lo_NotChain ?vs_NotChain ?fl_NotChain ?cd_NotChain ?mr_NotChain ?al_NotChain ?sv_NotChain ?a_BadStrategy ?iC_BadStrategy ?lC_BadStrategy ?rv_BadStrategy ?sa_BadStrategy ?k_BadStrategy ?s_BadStrategy ?t_BadStrategy ?d_BadStrategy ?tI_BadStrategy ?lI_BadStrategy ?lc_BadStrategy ?lo_BadStrategy ?vs_BadStrategy ?fl_BadStrategy ?cd_BadStrategy ?mr_BadStrategy ?al_BadStrategy ?sv_BadStrategy ?no_BadStrategy_place ?no_NotChain_place ?xfa_NotChain ?xfb_NotChain ?su_NotChain_NotChain ?xc_NotChain ?ki_NotChain_BadStrategy ?ki_NotChain_ValueError ?ki_NotChain_OddsError ?z_ValueError ?z_abs ?z_all ?z_bool ?z_enumerate ?z_int ?z_isinstance ?z_len ?z_list ?z_min ?z_range ?z_repr ?z_sorted ?z_sum ?x_SIDES ?w_SIDES
    (case a_targets => k_is); (case l_targets => k_is); (case c_targets => k_is); (case k_targets => k_is)
    (case a__law_draws => k_is); (case l__law_draws => k_is); (case c__law_draws => k_is); (case k__law_draws => k_is)
    (case a__law_gcd => k_is); (case l__law_gcd => k_is); (case c__law_gcd => k_is); (case k__law_gcd => k_is)
    (case a__law_is_whole => k_is); (case l__law_is_whole => k_is); (case c__law_is_whole => k_is); (case k__law_is_whole => k_is)
    (case a__law_branches => k_is); (case l__law_branches => k_is); (case c__law_branches => k_is); (case k__law_branches => k_is)
    (case a_reached => k_is); (case l_reached => k_is); (case c_reached => k_is); (case k_reached => k_is)
    (case a__law_number => k_is); (case l__law_number => k_is); (case c__law_number => k_is); (case k__law_number => k_is)
    (case a__law_reached => k_is); (case l__law_reached => k_is); (case c__law_reached => k_is); (case k__law_reached => k_is)
    (case a_check_chain => k_is); (case l_check_chain => k_is); (case c_check_chain => k_is); (case k_check_chain => k_is)
    (case a_closed_classes => k_is); (case l_closed_classes => k_is); (case c_closed_classes => k_is); (case k_closed_classes => k_is)
    (case a__law_chances_of => k_is); (case l__law_chances_of => k_is); (case c__law_chances_of => k_is); (case k__law_chances_of => k_is)
    (case a__law_closed => k_is); (case l__law_closed => k_is); (case c__law_closed => k_is); (case k__law_closed => k_is)
    (case a__law_place => k_is); (case l__law_place => k_is); (case c__law_place => k_is); (case k__law_place => k_is)
    (case a__law_refused => k_is); (case l__law_refused => k_is); (case c__law_refused => k_is); (case k__law_refused => k_is)
    (case a__law_chain => k_is); (case l__law_chain => k_is); (case c__law_chain => k_is); (case k__law_chain => k_is)
    (case a_law => k_is); (case l_law => k_is); (case c_law => k_is); (case k_law => k_is)
    (case a_OddsError => k_is); (case e_OddsError => k_exc); (case k_OddsError => k_is); (case s_OddsError => k_is)
    (case t_OddsError => k_is); (case d_OddsError => k_is); (case z_super => k_is); (case z_opq => k_is)
    (case z_top => rfl); (case a_NotChain => k_is); (case iC_NotChain => k_is); (case lC_NotChain => k_is)
    (case rv_NotChain => rfl); (case sa_NotChain => k_is); (case k_NotChain => k_is); (case s_NotChain => k_is)
    (case t_NotChain => k_is); (case d_NotChain => k_is); (case tI_NotChain => k_is); (case lI_NotChain => k_is)
    (case lc_NotChain => k_is); (case lo_NotChain => k_is); (case vs_NotChain => rfl); (case fl_NotChain => first | rfl | decide +kernel)
    (case cd_NotChain => k_is); (case mr_NotChain => k_is); (case al_NotChain => kernel_rfl); (case sv_NotChain => k_is)
    (case a_BadStrategy => k_is); (case iC_BadStrategy => k_is); (case lC_BadStrategy => k_is); (case rv_BadStrategy => rfl)
    (case sa_BadStrategy => k_is); (case k_BadStrategy => k_is); (case s_BadStrategy => k_is); (case t_BadStrategy => k_is)
    (case d_BadStrategy => k_is); (case tI_BadStrategy => k_is); (case lI_BadStrategy => k_is); (case lc_BadStrategy => k_is)
    (case lo_BadStrategy => k_is); (case vs_BadStrategy => rfl); (case fl_BadStrategy => first | rfl | decide +kernel); (case cd_BadStrategy => k_is)
    (case mr_BadStrategy => k_is); (case al_BadStrategy => kernel_rfl); (case sv_BadStrategy => k_is); (case no_BadStrategy_place => k_is)
    (case no_NotChain_place => k_is); (case xfa_NotChain => k_is); (case xfb_NotChain => k_is); (case su_NotChain_NotChain => k_is)
    (case xc_NotChain => exact ⟨by k_is, by k_is, by k_is, by k_is, by k_is, by k_is, by k_is, by k_is⟩); (case ki_NotChain_BadStrategy => exact Bn.kit_R (by rfl) (by kernel_rfl) (by k_is) (by k_is)); (case ki_NotChain_ValueError => exact Bn.kit_T (by decide +kernel) (by k_is)); (case ki_NotChain_OddsError => exact Bn.kit_R (by rfl) (by kernel_rfl) (by k_is) (by k_is))
    (case z_ValueError => k_is); (case z_abs => k_is); (case z_all => k_is); (case z_bool => k_is)
    (case z_enumerate => k_is); (case z_int => k_is); (case z_isinstance => k_is); (case z_len => k_is)
    (case z_list => k_is); (case z_min => k_is); (case z_range => k_is); (case z_repr => k_is)
    (case z_sorted => k_is); (case z_sum => k_is); (case x_SIDES => k_is); (case w_SIDES => exact Dn.tup_c (by k_is) (by rfl))

