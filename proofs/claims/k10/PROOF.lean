import PyProof.Rows.All
import Wide.All
import OpenK.AllK
import Wide.FinOn
import HandS.ForMost
import HandS.Gcd
import HandS.IsInst
import HandS.Wide
import HandS.Deep
import HandS.Style
import PyProof.Rows.RegFStrParts
import PyProof.ListRange
import HandS.FStr
import HandS.Text
import HandS.StrMore
import PySem.Challenge.RW_oddkeep_k10_numbers_read_back
set_option Elab.async false
set_option linter.all false
set_option maxRecDepth 100000
set_option maxHeartbeats 4000000
/-! Dn: what a def computes, as a function over plain data (PyData). Each rule pairs a derivation (PE, PS ..) with a function. -/
namespace Dn
open PySem PySem.Spec PyProof.Rows L2

/-! ### data in a heap that only grows -/
theorem sqL_mono {K : PySem.W.Frag} {H H' : Hp} {a : Addr} {xs : List V} (e : Same H H') (h : SqL K H a xs) : SqL K H' a xs := e.seq h
theorem sqT_mono {K : PySem.W.Frag} {H H' : Hp} {a : Addr} {xs : List V} (e : Same H H') (h : SqT K H a xs) : SqT K H' a xs := by
  rcases h with (h | ⟨o, h⟩) | h
  · exact .inl (.inl (e _ _ h))
  · exact .inl (.inr ⟨o, e _ _ h⟩)
  · exact .inr h
mutual
theorem dp_mono {K : PySem.W.Frag} {H H' : Hp} (e : Same H H') : ∀ {v : V} {d : PyData}, Dp K H v d → Dp K H' v d
  | _, _, .non => .non
  | _, _, .bl b => .bl b
  | _, _, .int i => .int i
  | _, _, .str x => .str x
  | _, _, .lst hs ha => .lst (sqL_mono e hs) (dpa_mono e ha)
  | _, _, .tup hs ha => .tup (sqT_mono e hs) (dpa_mono e ha)
theorem dpa_mono {K : PySem.W.Frag} {H H' : Hp} (e : Same H H') : ∀ {vs : List V} {ds : List PyData}, DpAll K H vs ds → DpAll K H' vs ds
  | _, _, .nil => .nil
  | _, _, .cons h t => .cons (dp_mono e h) (dpa_mono e t)
end
section
variable {K : PySem.W.Frag} {H : Hp}
theorem DpAll.len : ∀ {vs : List V} {ds : List PyData}, DpAll K H vs ds → vs.length = ds.length
  | _, _, .nil => rfl
  | _, _, .cons _ t => by simp only [List.length_cons, DpAll.len t]
theorem DpAll.get : ∀ {vs : List V} {ds : List PyData} {i : Nat} {d : PyData}, DpAll K H vs ds → ds[i]? = some d → ∃ v, vs[i]? = some v ∧ Dp K H v d
  | _, _, i, _, .nil, e => by simp at e
  | _, _, 0, _, .cons h _, e => by simp at e; subst e; exact ⟨_, rfl, h⟩
  | _, _, i + 1, _, .cons _ t, e => by
    obtain ⟨v, h1, h2⟩ := DpAll.get (i := i) t (by simpa using e)
    exact ⟨v, by simpa using h1, h2⟩
theorem DpAll.app : ∀ {vs ws : List V} {ds es : List PyData}, DpAll K H vs ds → DpAll K H ws es → DpAll K H (vs ++ ws) (ds ++ es)
  | _, _, _, _, .nil, s => s
  | _, _, _, _, .cons h t, s => .cons h (DpAll.app t s)
theorem DpAll.take : ∀ (n : Nat) {vs : List V} {ds : List PyData}, DpAll K H vs ds → DpAll K H (vs.take n) (ds.take n)
  | 0, _, _, _ => .nil
  | _ + 1, _, _, .nil => .nil
  | n + 1, _, _, .cons h t => .cons h (DpAll.take n t)
theorem DpAll.drop : ∀ (n : Nat) {vs : List V} {ds : List PyData}, DpAll K H vs ds → DpAll K H (vs.drop n) (ds.drop n)
  | 0, _, _, h => h
  | _ + 1, _, _, .nil => .nil
  | n + 1, _, _, .cons _ t => DpAll.drop n t
theorem DpAll.set : ∀ (i : Nat) {vs : List V} {ds : List PyData} {v : V} {d : PyData}, DpAll K H vs ds → Dp K H v d → DpAll K H (vs.set i v) (ds.set i d)
  | _, _, _, _, _, .nil, _ => .nil
  | 0, _, _, _, _, .cons _ t, h => .cons h t
  | i + 1, _, _, _, _, .cons h t, g => .cons h (DpAll.set i t g)
theorem DpAll.ints : ∀ (ns : List Int), DpAll K H (ns.map V.int) (ns.map PyData.int)
  | [] => .nil
  | n :: r => .cons (.int n) (DpAll.ints r)
theorem DpAll.dropLast {vs : List V} {ds : List PyData} (h : DpAll K H vs ds) : DpAll K H vs.dropLast ds.dropLast := by
  rw [List.dropLast_eq_take, List.dropLast_eq_take, DpAll.len h]
  exact DpAll.take _ h
end

/-! ### frozen and owned -/
inductive R where
  | val (d : PyData)
  | own (ds : List PyData)
  /-- a new tuple of three new lists -/
  | own3 (as bs cs : List PyData)
def R.frz : R → PyData
  | .val d => d
  | .own ds => .list ds
  | .own3 as bs cs => .tuple [.list as, .list bs, .list cs]
@[simp] theorem frz_own3 {as bs cs : List PyData} : (R.own3 as bs cs).frz = .tuple [.list as, .list bs, .list cs] := rfl
@[simp] theorem frz_val {d : PyData} : (R.val d).frz = d := rfl
@[simp] theorem frz_own {ds : List PyData} : (R.own ds).frz = .list ds := rfl
inductive Sl where
  | no
  | val (d : PyData)
  | own (ds : List PyData)
def R.sl : R → Sl
  | .val d => .val d
  | .own ds => .own ds
  | .own3 _ _ _ => .no
@[simp] theorem sl_val {d : PyData} : (R.val d).sl = .val d := rfl
@[simp] theorem sl_own {ds : List PyData} : (R.own ds).sl = .own ds := rfl
abbrev En := List Sl

/-- F: what is frozen of the heap H -/
structure Grow (F H F' H' : Hp) : Prop where
  f : Same F F'
  h : Same H H'
  i : Same F' H'
  n : ∀ a, H a ≠ none → F a = none → F' a = none
theorem same_ne {H H' : Hp} (e : Same H H') {a : Addr} (h : H a ≠ none) : H' a ≠ none := by
  cases q : H a with
  | none => exact absurd q h
  | some o => rw [e _ _ q]; exact Option.some_ne_none o
theorem Grow.refl {F H : Hp} (e : Same F H) : Grow F H F H := ⟨Same.refl F, Same.refl H, e, fun _ _ h => h⟩
theorem Grow.trans {F H F1 H1 F2 H2 : Hp} (a : Grow F H F1 H1) (b : Grow F1 H1 F2 H2) : Grow F H F2 H2 :=
  ⟨a.f.trans b.f, a.h.trans b.h, b.i, fun x hx hf => b.n x (same_ne a.h hx) (a.n x hx hf)⟩
theorem same_upd {H : Hp} {p : Addr} {o : HO} (h : H p = none) : Same H (upd H p o) := fun b x e => by
  rw [upd_ne (ne_of_none e h)]
  exact e
theorem same_updF {F H : Hp} {p : Addr} {o : HO} (e : Same F H) (h : F p = none) : Same F (upd H p o) := fun b x g => by
  rw [upd_ne (ne_of_none g h)]
  exact e _ _ g
/-- a new object, not frozen -/
theorem Grow.new {F H : Hp} {p : Addr} {o : HO} (e : Same F H) (h : H p = none) : Grow F H F (upd H p o) :=
  ⟨Same.refl F, same_upd h, e.trans (same_upd h), fun _ _ g => g⟩
/-- a new object is frozen -/
theorem Grow.frz {F H F' H' : Hp} {p : Addr} {o : HO} (g : Grow F H F' H') (hp : H p = none) (hf : F' p = none) (hh : H' p = some o) : Grow F H (upd F' p o) H' := by
  refine ⟨g.f.trans (same_upd hf), g.h, fun b x e => ?_, fun a ha hfa => ?_⟩
  · by_cases hb : b = p
    · subst hb
      rw [upd_same] at e
      rw [hh]
      exact e
    · rw [upd_ne hb] at e
      exact g.i _ _ e
  · rw [upd_ne (fun (z : a = p) => ha (by rw [z]; exact hp))]
    exact g.n a ha hfa

def RepR (K : PySem.W.Frag) (F' H H' : Hp) (v : V) : R → Prop
  | .val d => Dp K F' v d
  | .own ds => ∃ p xs, v = .ref p ∧ F' p = none ∧ H p = none ∧ H' p = some (.lst xs) ∧ DpAll K F' xs ds
  | .own3 as bs cs => ∃ p a b c xs ys zs, v = .ref p ∧ F' p = none ∧ H p = none ∧ H' p = some (.tup [.ref a, .ref b, .ref c]) ∧ (F' a = none ∧ H a = none ∧ H' a = some (.lst xs) ∧ DpAll K F' xs as) ∧
      (F' b = none ∧ H b = none ∧ H' b = some (.lst ys) ∧ DpAll K F' ys bs) ∧ (F' c = none ∧ H c = none ∧ H' c = some (.lst zs) ∧ DpAll K F' zs cs) ∧ a ≠ b ∧ a ≠ c ∧ b ≠ c
theorem free_back {F H : Hp} (e : Same F H) {p : Addr} (h : H p = none) : F p = none := e.free h
/-- whatever it is, it may be frozen -/
theorem RepR.frz {K : PySem.W.Frag} {F H F' H' : Hp} {v : V} {r : R} (g : Grow F H F' H') (h : RepR K F' H H' v r) : ∃ F2, Grow F H F2 H' ∧ Same F' F2 ∧ Dp K F2 v r.frz := by
  cases r with
  | val d => exact ⟨F', g, Same.refl _, h⟩
  | own ds =>
    obtain ⟨p, xs, rfl, h1, h2, h3, h4⟩ := h
    have s1 : Same F' (upd F' p (.lst xs)) := same_upd h1
    exact ⟨upd F' p (.lst xs), g.frz h2 h1 h3, s1, .lst (.inl (.inl upd_same)) (dpa_mono s1 h4)⟩
  | own3 as bs cs =>
    obtain ⟨p, a, b, c, xs, ys, zs, rfl, p1, p2, p3, ⟨a1, a2, a3, a4⟩, ⟨b1, b2, b3, b4⟩, ⟨c1, c2, c3, c4⟩, ab, ac, bc⟩ := h
    have pa : p ≠ a := fun z => by rw [z, a3] at p3; cases p3
    have pb : p ≠ b := fun z => by rw [z, b3] at p3; cases p3
    have pc : p ≠ c := fun z => by rw [z, c3] at p3; cases p3
    have b1' : upd F' a (.lst xs) b = none := by rw [upd_ne (Ne.symm ab)]; exact b1
    have c1' : upd (upd F' a (.lst xs)) b (.lst ys) c = none := by rw [upd_ne (Ne.symm bc), upd_ne (Ne.symm ac)]; exact c1
    have p1' : upd (upd (upd F' a (.lst xs)) b (.lst ys)) c (.lst zs) p = none := by rw [upd_ne pc, upd_ne pb, upd_ne pa]; exact p1
    have s1 : Same F' (upd F' a (.lst xs)) := same_upd a1
    have s2 : Same (upd F' a (.lst xs)) (upd (upd F' a (.lst xs)) b (.lst ys)) := same_upd b1'
    have s3 : Same (upd (upd F' a (.lst xs)) b (.lst ys)) (upd (upd (upd F' a (.lst xs)) b (.lst ys)) c (.lst zs)) := same_upd c1'
    have s4 : Same (upd (upd (upd F' a (.lst xs)) b (.lst ys)) c (.lst zs)) (upd (upd (upd (upd F' a (.lst xs)) b (.lst ys)) c (.lst zs)) p (.tup [.ref a, .ref b, .ref c])) := same_upd p1'
    have s : Same F' (upd (upd (upd (upd F' a (.lst xs)) b (.lst ys)) c (.lst zs)) p (.tup [.ref a, .ref b, .ref c])) := ((s1.trans s2).trans s3).trans s4
    refine ⟨_, (((g.frz a2 a1 a3).frz b2 b1' b3).frz c2 c1' c3).frz p2 p1' p3, s, .tup (.inl (.inl upd_same)) (.cons ?_ (.cons ?_ (.cons ?_ .nil)))⟩
    · exact .lst (.inl (.inl (((s2.trans s3).trans s4) _ _ upd_same))) (dpa_mono s a4)
    · exact .lst (.inl (.inl ((s3.trans s4) _ _ upd_same))) (dpa_mono s b4)
    · exact .lst (.inl (.inl (s4 _ _ upd_same))) (dpa_mono s c4)

/-! ### slots -/
def SlOk (K : PySem.W.Frag) (B F H : Hp) (v : Option V) (ad : Addr) : Sl → Prop
  | .no => True
  | .val d => ∃ x, v = some x ∧ Dp K F x d
  | .own ds => ∃ xs, v = some (.ref ad) ∧ B ad = none ∧ F ad = none ∧ H ad = some (.lst xs) ∧ DpAll K F xs ds
structure Slots (K : PySem.W.Frag) (B F H : Hp) (σ : L2.St) (env : En) : Prop where
  len : σ.length = env.length
  ex : ∃ ad : Nat → Addr, (∀ i v s, σ[i]? = some v → env[i]? = some s → SlOk K B F H v (ad i) s) ∧ ∀ i j ds es, i ≠ j → env[i]? = some (.own ds) → env[j]? = some (.own es) → ad i ≠ ad j
theorem SlOk.grow {K : PySem.W.Frag} {B F H F' H' : Hp} {v : Option V} {ad : Addr} {s : Sl} (g : Grow F H F' H') (h : SlOk K B F H v ad s) : SlOk K B F' H' v ad s := by
  cases s with
  | no => trivial
  | val d =>
    obtain ⟨x, e, h⟩ := h
    exact ⟨x, e, dp_mono g.f h⟩
  | own ds =>
    obtain ⟨xs, e, h0, h1, h2, h3⟩ := h
    exact ⟨xs, e, h0, g.n _ (by rw [h2]; exact Option.some_ne_none _) h1, g.h _ _ h2, dpa_mono g.f h3⟩
theorem Slots.grow {K : PySem.W.Frag} {B F H F' H' : Hp} {σ : L2.St} {env : En} (g : Grow F H F' H') (S : Slots K B F H σ env) : Slots K B F' H' σ env := by
  obtain ⟨l, ad, h1, h2⟩ := S
  exact ⟨l, ad, fun i v s e1 e2 => (h1 i v s e1 e2).grow g, h2⟩
theorem Slots.val {K : PySem.W.Frag} {B F H : Hp} {σ : L2.St} {env : En} (S : Slots K B F H σ env) {i : Nat} {d : PyData} (e : env[i]? = some (.val d)) : ∃ v, σ[i]? = some (some v) ∧ Dp K F v d := by
  obtain ⟨l, ad, h1, h2⟩ := S
  have hi : i < env.length := (List.getElem?_eq_some_iff.mp e).1
  have hs : σ[i]? = some σ[i] := List.getElem?_eq_getElem (by omega)
  obtain ⟨x, e1, h⟩ := h1 i _ _ hs e
  exact ⟨x, by rw [hs, e1], h⟩
theorem Slots.own {K : PySem.W.Frag} {B F H : Hp} {σ : L2.St} {env : En} (S : Slots K B F H σ env) {i : Nat} {ds : List PyData} (e : env[i]? = some (.own ds)) : ∃ p xs, σ[i]? = some (some (.ref p)) ∧ B p = none ∧ F p = none ∧ H p = some (.lst xs) ∧ DpAll K F xs ds := by
  obtain ⟨l, ad, h1, h2⟩ := S
  have hi : i < env.length := (List.getElem?_eq_some_iff.mp e).1
  have hs : σ[i]? = some σ[i] := List.getElem?_eq_getElem (by omega)
  obtain ⟨xs, e1, h⟩ := h1 i _ _ hs e
  exact ⟨ad i, xs, by rw [hs, e1], h⟩
/-- a slot gets what has come -/
theorem Slots.put {K : PySem.W.Frag} {B F H F' H' : Hp} {σ : L2.St} {env : En} {i : Nat} {v : V} {r : R} (S : Slots K B F H σ env) (bh : Same B H) (g : Grow F H F' H') (h : RepR K F' H H' v r) : Slots K B F' H' (σ.set i (some v)) (env.set i r.sl) := by
  obtain ⟨l, ad, h1, h2⟩ := S
  have S' := Slots.grow g ⟨l, ad, h1, h2⟩
  cases r with
  | val d =>
    refine ⟨by simp [l], ad, fun j w s e1 e2 => ?_, fun j k ds es hjk e1 e2 => ?_⟩
    · by_cases hj : i = j
      · subst hj
        rw [List.getElem?_set] at e1 e2
        simp at e1 e2
        obtain ⟨_, rfl⟩ := e1
        obtain ⟨_, rfl⟩ := e2
        exact ⟨v, rfl, h⟩
      · rw [List.getElem?_set_ne hj] at e1 e2
        exact (h1 j w s e1 e2).grow g
    · have q : ∀ m zs, (env.set i (R.val d).sl)[m]? = some (Sl.own zs) → env[m]? = some (Sl.own zs) := fun m zs e => by
        by_cases hm : i = m
        · subst hm
          rw [List.getElem?_set] at e
          simp at e
        · rw [List.getElem?_set_ne hm] at e
          exact e
      exact h2 j k ds es hjk (q _ _ e1) (q _ _ e2)
  | own3 as bs cs =>
    refine ⟨by simp [l], ad, fun j w s e1 e2 => ?_, fun j k ds es hjk e1 e2 => ?_⟩
    · by_cases hj : i = j
      · subst hj
        rw [List.getElem?_set] at e1 e2
        simp at e1 e2
        obtain ⟨_, rfl⟩ := e2
        trivial
      · rw [List.getElem?_set_ne hj] at e1 e2
        exact (h1 j w s e1 e2).grow g
    · have q : ∀ m zs, (env.set i (R.own3 as bs cs).sl)[m]? = some (Sl.own zs) → env[m]? = some (Sl.own zs) := fun m zs e => by
        by_cases hm : i = m
        · subst hm
          rw [List.getElem?_set] at e
          simp [R.sl] at e
        · rw [List.getElem?_set_ne hm] at e
          exact e
      exact h2 j k ds es hjk (q _ _ e1) (q _ _ e2)
  | own ds =>
    obtain ⟨p, xs, rfl, f1, f2, f3, f4⟩ := h
    have old : ∀ m zs, env[m]? = some (Sl.own zs) → ad m ≠ p := fun m zs e z => by
      have hi : m < env.length := (List.getElem?_eq_some_iff.mp e).1
      have hs : σ[m]? = some σ[m] := List.getElem?_eq_getElem (by omega)
      obtain ⟨ys, _, _, _, e3, _⟩ := h1 m _ _ hs e
      rw [z, f2] at e3
      cases e3
    refine ⟨by simp [l], fun m => if m = i then p else ad m, fun j w s e1 e2 => ?_, fun j k es fs hjk e1 e2 => ?_⟩
    · by_cases hj : i = j
      · subst hj
        rw [List.getElem?_set] at e1 e2
        simp at e1 e2
        obtain ⟨_, rfl⟩ := e1
        obtain ⟨_, rfl⟩ := e2
        show SlOk K B F' H' _ (if i = i then p else ad i) _
        rw [if_pos rfl]
        exact ⟨xs, rfl, bh.free f2, f1, f3, f4⟩
      · rw [List.getElem?_set_ne hj] at e1 e2
        show SlOk K B F' H' _ (if j = i then p else ad j) _
        rw [if_neg (fun z => hj z.symm)]
        exact (h1 j w s e1 e2).grow g
    · show (if j = i then p else ad j) ≠ (if k = i then p else ad k)
      by_cases hj : j = i
      · have hk : k ≠ i := fun z => hjk (hj.trans z.symm)
        rw [if_pos hj, if_neg hk]
        rw [List.getElem?_set_ne (fun z => hk z.symm)] at e2
        exact (old k _ e2).symm
      · rw [if_neg hj]
        rw [List.getElem?_set_ne (fun z => hj z.symm)] at e1
        by_cases hk : k = i
        · rw [if_pos hk]
          exact old j _ e1
        · rw [if_neg hk]
          rw [List.getElem?_set_ne (fun z => hk z.symm)] at e2
          exact h2 j k _ _ hjk e1 e2
/-- an owned list is turned -/
theorem Slots.turn {K : PySem.W.Frag} {B F H : Hp} {σ : L2.St} {env : En} {i : Nat} {p : Addr} {ds es : List PyData} {ys : List V} (S : Slots K B F H σ env) (e : env[i]? = some (.own ds)) (hp : σ[i]? = some (some (.ref p))) (hy : DpAll K F ys es) : Slots K B F (upd H p (.lst ys)) σ (env.set i (.own es)) := by
  obtain ⟨l, ad, h1, h2⟩ := S
  have q0 := h1 i _ _ hp e
  obtain ⟨xs, e1, b0, b1, b2, b3⟩ := q0
  have ep : p = ad i := by
    have := Option.some.inj e1
    cases this
    rfl
  have q : ∀ m zs, (env.set i (.own es))[m]? = some (Sl.own zs) → ∃ ws, env[m]? = some (Sl.own ws) := fun m zs g => by
    by_cases hm : i = m
    · subst hm
      exact ⟨ds, e⟩
    · rw [List.getElem?_set_ne hm] at g
      exact ⟨zs, g⟩
  refine ⟨by simp [l], ad, fun j w s g1 g2 => ?_, fun j k fs gs hjk g1 g2 => ?_⟩
  · by_cases hj : i = j
    · subst hj
      rw [hp] at g1
      cases g1
      rw [List.getElem?_set] at g2
      simp at g2
      obtain ⟨_, rfl⟩ := g2
      exact ⟨ys, e1, b0, b1, by rw [ep, upd_same], hy⟩
    · rw [List.getElem?_set_ne hj] at g2
      have o := h1 j w s g1 g2
      cases s with
      | no => trivial
      | val d => exact o
      | own zs =>
        obtain ⟨xs', c1, c0, c2, c3, c4⟩ := o
        exact ⟨xs', c1, c0, c2, by rw [ep, upd_ne (h2 j i _ _ (fun z => hj z.symm) g2 e)]; exact c3, c4⟩
  · obtain ⟨w1, r1⟩ := q _ _ g1
    obtain ⟨w2, r2⟩ := q _ _ g2
    exact h2 j k _ _ hjk r1 r2
/-- an owned list is frozen -/
theorem Slots.freeze {K : PySem.W.Frag} {B F H : Hp} {σ : L2.St} {env : En} {i : Nat} {ds : List PyData} (fh : Same F H) (S : Slots K B F H σ env) (e : env[i]? = some (.own ds)) : ∃ F', Same F F' ∧ Same F' H ∧ (∀ a, B a ≠ none → F a = none → F' a = none) ∧ Slots K B F' H σ (env.set i (.val (.list ds))) := by
  obtain ⟨l, ad, h1, h2⟩ := S
  have hi : i < env.length := (List.getElem?_eq_some_iff.mp e).1
  have hs : σ[i]? = some σ[i] := List.getElem?_eq_getElem (by omega)
  obtain ⟨xs, e1, b0, b1, b2, b3⟩ := h1 i _ _ hs e
  have s1 : Same F (upd F (ad i) (.lst xs)) := same_upd b1
  refine ⟨upd F (ad i) (.lst xs), s1, fun b x g => ?_, fun a ha hf => ?_, by simp [l], ad, fun j w s g1 g2 => ?_, fun j k fs gs hjk g1 g2 => ?_⟩
  · by_cases hb : b = ad i
    · rw [hb, upd_same] at g
      rw [hb, b2]
      exact g
    · rw [upd_ne hb] at g
      exact fh _ _ g
  · rw [upd_ne (fun (z : a = ad i) => ha (by rw [z]; exact b0))]
    exact hf
  · by_cases hj : i = j
    · subst hj
      rw [hs, e1] at g1
      cases g1
      rw [List.getElem?_set] at g2
      simp at g2
      obtain ⟨_, rfl⟩ := g2
      exact ⟨_, rfl, .lst (.inl (.inl upd_same)) (dpa_mono s1 b3)⟩
    · rw [List.getElem?_set_ne hj] at g2
      have o := h1 j w s g1 g2
      cases s with
      | no => trivial
      | val d =>
        obtain ⟨x, c1, c2⟩ := o
        exact ⟨x, c1, dp_mono s1 c2⟩
      | own zs =>
        obtain ⟨xs', c1, c0, c2, c3, c4⟩ := o
        exact ⟨xs', c1, c0, by rw [upd_ne (h2 j i _ _ (fun z => hj z.symm) g2 e)]; exact c2, c3, dpa_mono s1 c4⟩
  · have q : ∀ m zs, (env.set i (.val (.list ds)))[m]? = some (Sl.own zs) → env[m]? = some (Sl.own zs) := fun m zs g => by
      by_cases hm : i = m
      · subst hm
        rw [List.getElem?_set] at g
        simp at g
      · rw [List.getElem?_set_ne hm] at g
        exact g
    exact h2 j k _ _ hjk (q _ _ g1) (q _ _ g2)
end Dn
namespace Dn
open PySem PySem.Spec PyProof.Rows L2

abbrev EF := En → Option R
abbrev TF := En → Option Bool
abbrev AF := En → Option (List PyData)

/-! ### what a reading computes -/
def DE (K : PySem.W.Frag) (te : TE) (f : EF) : Prop := ∀ (B F H : Hp) (σ : L2.St) (env : En) (r : R), Slots K B F H σ env → Same F H → Same B H → f env = some r →
  ∀ Q : VK, (∀ F' H' v, Grow F H F' H' → RepR K F' H H' v r → Q v H') → te σ H Q
def DT (K : PySem.W.Frag) (tt : TT) (f : TF) : Prop := ∀ (B F H : Hp) (σ : L2.St) (env : En) (b : Bool), Slots K B F H σ env → Same F H → Same B H → f env = some b →
  ∀ Q : Bool → Hp → Prop, (∀ F' H', Grow F H F' H' → Q b H') → tt σ H Q
def DA (K : PySem.W.Frag) (ta : TA) (f : AF) : Prop := ∀ (B F H : Hp) (σ : L2.St) (env : En) (ds : List PyData), Slots K B F H σ env → Same F H → Same B H → f env = some ds →
  ∀ Q : List V → Hp → Prop, (∀ F' H' vs, Grow F H F' H' → DpAll K F' vs ds → Q vs H') → ta σ H Q
structure SE (X : Cx) (e : Expr) (te : TE) (f : EF) : Prop where
  pe : PE X e te
  de : DE X.K te f
structure ST (X : Cx) (e : Expr) (tt : TT) (f : TF) : Prop where
  pt : PT X e tt
  dt : DT X.K tt f
structure SW (X : Cx) (e : Expr) (tt : TT) (f : TF) : Prop where
  pw : PW X e tt
  dt : DT X.K tt f
structure SA (X : Cx) (es : List Expr) (ta : TA) (f : AF) : Prop where
  pa : PA X es ta
  da : DA X.K ta f
theorem SW.st {X : Cx} {e : Expr} {tt : TT} {f : TF} (h : SW X e tt f) : ST X e tt f := ⟨h.pw.pt, h.dt⟩

/-! ### combinators -/
@[simp] def eVar (i : Nat) : EF := fun env => match env[i]? with
  | some (.val d) => some (.val d)
  | _ => none
@[simp] def eC (d : PyData) : EF := fun _ => some (.val d)
@[simp] def eBin (g : PyData → PyData → Option R) (f1 f2 : EF) : EF := fun env => (f1 env).bind fun a => (f2 env).bind fun b => g a.frz b.frz
@[simp] def eUn (g : PyData → Option R) (f : EF) : EF := fun env => (f env).bind fun a => g a.frz
@[simp] def aNil : AF := fun _ => some []
@[simp] def aCons (f : EF) (t : AF) : AF := fun env => (f env).bind fun a => (t env).bind fun ds => some (a.frz :: ds)
/-- a display's length; conditions are opaque to computation -/
def Few (n : Nat) : Prop := n ≤ 1000
noncomputable instance (n : Nat) : Decidable (Few n) := Classical.propDecidable _
@[simp] theorem few_iff {n : Nat} : Few n ↔ n ≤ 1000 := Iff.rfl
@[simp] noncomputable def eTup (t : AF) : EF := fun env => (t env).bind fun ds => if Few ds.length then some (.val (.tuple ds)) else none
@[simp] noncomputable def eLst (t : AF) : EF := fun env => (t env).bind fun ds => if Few ds.length then some (.own ds) else none
@[simp] def eCall (g : List PyData → Option R) (t : AF) : EF := fun env => (t env).bind g
@[simp] def toB : PyData → Option Bool
  | .bool b => some b
  | _ => none
@[simp] def tE (f : EF) : TF := fun env => (f env).bind fun a => toB a.frz
@[simp] def tAndD (f g : TF) : TF := fun env => (f env).bind fun a => if a = true then g env else some false
@[simp] def tOrD (f g : TF) : TF := fun env => (f env).bind fun a => if a = true then some true else g env
@[simp] def tNotD (f : TF) : TF := fun env => (f env).bind fun a => some (!a)
@[simp] def eT (f : TF) : EF := fun env => (f env).bind fun b => some (.val (.bool b))
@[simp] def eIf (c : TF) (f g : EF) : EF := fun env => (c env).bind fun b => if b = true then f env else g env

section
variable {K : PySem.W.Frag}
theorem bnd {α β : Type} {o : Option α} {f : α → Option β} {b : β} (h : o.bind f = some b) : ∃ a, o = some a ∧ f a = some b := by
  cases o with
  | none => cases h
  | some a => exact ⟨a, rfl, h⟩
/-- an expression, frozen -/
theorem DE.z {te : TE} {f : EF} (h : DE K te f) {B F H : Hp} {σ : L2.St} {env : En} {r : R} (S : Slots K B F H σ env) (fh : Same F H) (bh : Same B H) (e : f env = some r) {Q : VK} (q : ∀ F' H' v, Grow F H F' H' → Dp K F' v r.frz → Q v H') : te σ H Q :=
  h B F H σ env r S fh bh e Q fun F' H' v g rr => by
    obtain ⟨F2, g2, _, d⟩ := rr.frz g
    exact q F2 H' v g2 d
theorem de_var {i : Nat} : DE K (tVar i) (eVar i) := fun B F H σ env r S fh bh e Q q => by
  unfold eVar at e
  split at e
  · rename_i d hd
    cases e
    obtain ⟨v, h1, h2⟩ := S.val hd
    exact ⟨v, h1, q F H v (Grow.refl fh) h2⟩
  · cases e
theorem de_c {v : V} {d : PyData} (h : ∀ F, Dp K F v d) : DE K (tC v) (eC d) := fun B F H σ env r S fh bh e Q q => by
  cases e
  exact q F H v (Grow.refl fh) (h F)
def RVD (K : PySem.W.Frag) (r : R2) (g : PyData → PyData → Option R) : Prop := ∀ (F H : Hp) (x y : V) (dx dy : PyData) (r' : R), Same F H → Dp K F x dx → Dp K F y dy → g dx dy = some r' →
  ∀ Q : VK, (∀ F' H' v, Grow F H F' H' → RepR K F' H H' v r' → Q v H') → r x y H Q
def RUD (K : PySem.W.Frag) (r : V → Hp → VK → Prop) (g : PyData → Option R) : Prop := ∀ (F H : Hp) (x : V) (dx : PyData) (r' : R), Same F H → Dp K F x dx → g dx = some r' →
  ∀ Q : VK, (∀ F' H' v, Grow F H F' H' → RepR K F' H H' v r' → Q v H') → r x H Q
def RCD (K : PySem.W.Frag) (r : List V → Hp → VK → Prop) (g : List PyData → Option R) : Prop := ∀ (F H : Hp) (vs : List V) (ds : List PyData) (r' : R), Same F H → DpAll K F vs ds → g ds = some r' →
  ∀ Q : VK, (∀ F' H' v, Grow F H F' H' → RepR K F' H H' v r' → Q v H') → r vs H Q
/-- a result is seen from further back -/
theorem RepR.back {F H F1 H1 F2 H2 : Hp} {v : V} {r : R} (g1 : Grow F H F1 H1) (h : RepR K F2 H1 H2 v r) : RepR K F2 H H2 v r := by
  cases r with
  | val d => exact h
  | own ds =>
    obtain ⟨p, xs, e, a, b, c, d⟩ := h
    exact ⟨p, xs, e, a, g1.h.free b, c, d⟩
  | own3 as bs cs =>
    obtain ⟨p, a, b, c, xs, ys, zs, rfl, p1, p2, p3, ⟨a1, a2, a3, a4⟩, ⟨b1, b2, b3, b4⟩, ⟨c1, c2, c3, c4⟩, n⟩ := h
    exact ⟨p, a, b, c, xs, ys, zs, rfl, p1, g1.h.free p2, p3, ⟨a1, g1.h.free a2, a3, a4⟩, ⟨b1, g1.h.free b2, b3, b4⟩, ⟨c1, g1.h.free c2, c3, c4⟩, n⟩
theorem de_bin {r : R2} {g : PyData → PyData → Option R} {ta tb : TE} {f1 f2 : EF} (hr : RVD K r g) (h1 : DE K ta f1) (h2 : DE K tb f2) : DE K (tOp r ta tb) (eBin g f1 f2) := fun B F H σ env r' S fh bh e Q q => by
  obtain ⟨a, ea, e⟩ := bnd e
  obtain ⟨b, eb, e⟩ := bnd e
  refine h1.z S fh bh ea fun F1 H1 x g1 d1 => ?_
  refine h2.z (S.grow g1) g1.i (bh.trans g1.h) eb fun F2 H2 y g2 d2 => ?_
  refine hr F2 H2 x y _ _ r' g2.i (dp_mono g2.f d1) d2 e Q fun F3 H3 v g3 rr => ?_
  exact q F3 H3 v ((g1.trans g2).trans g3) (rr.back (g1.trans g2))
theorem de_un {r : V → Hp → VK → Prop} {g : PyData → Option R} {ta : TE} {f : EF} (hr : RUD K r g) (h1 : DE K ta f) : DE K (tUn r ta) (eUn g f) := fun B F H σ env r' S fh bh e Q q => by
  obtain ⟨a, ea, e⟩ := bnd e
  refine h1.z S fh bh ea fun F1 H1 x g1 d1 => ?_
  refine hr F1 H1 x _ r' g1.i d1 e Q fun F3 H3 v g3 rr => ?_
  exact q F3 H3 v (g1.trans g3) (rr.back g1)
theorem da_nil : DA K tNil aNil := fun B F H σ env ds S fh bh e Q q => by
  cases e
  exact q F H [] (Grow.refl fh) .nil
theorem da_cons {te : TE} {t : TA} {f : EF} {g : AF} (h1 : DE K te f) (h2 : DA K t g) : DA K (tCons te t) (aCons f g) := fun B F H σ env ds S fh bh e Q q => by
  obtain ⟨a, ea, e⟩ := bnd e
  obtain ⟨b, eb, e⟩ := bnd e
  cases e
  refine h1.z S fh bh ea fun F1 H1 x g1 d1 => ?_
  refine h2 B F1 H1 σ env b (S.grow g1) g1.i (bh.trans g1.h) eb _ fun F2 H2 vs g2 d2 => ?_
  exact q F2 H2 (x :: vs) (g1.trans g2) (.cons (dp_mono g2.f d1) d2)
theorem sz1000 {n : Nat} (h : n ≤ 1000) : n ≤ sizeLine := Nat.le_of_lt (small1000 h)
theorem de_tup {t : TA} {g : AF} (h : DA K t g) : DE K (tTup t) (eTup g) := fun B F H σ env r S fh bh e Q q => by
  obtain ⟨ds, ea, e⟩ := bnd e
  split at e
  · rename_i hl
    cases e
    refine h B F H σ env ds S fh bh ea _ fun F1 H1 vs g1 d1 => ⟨by rw [DpAll.len d1]; exact sz1000 hl, fun p hp => ?_⟩
    have g2 : Grow F H F1 (upd H1 p (.tup vs)) := g1.trans (Grow.new g1.i hp)
    have hf : F1 p = none := g1.i.free hp
    exact q _ _ _ (g2.frz (g1.h.free hp) hf upd_same) (.tup (.inl (.inl upd_same)) (dpa_mono (same_upd hf) d1))
  · cases e
theorem de_lst {t : TA} {g : AF} (h : DA K t g) : DE K (tLst t) (eLst g) := fun B F H σ env r S fh bh e Q q => by
  obtain ⟨ds, ea, e⟩ := bnd e
  split at e
  · rename_i hl
    cases e
    refine h B F H σ env ds S fh bh ea _ fun F1 H1 vs g1 d1 => ⟨by rw [DpAll.len d1]; exact sz1000 hl, fun p hp => ?_⟩
    have g2 : Grow F H F1 (upd H1 p (.lst vs)) := g1.trans (Grow.new g1.i hp)
    exact q _ _ _ g2 ⟨p, vs, rfl, g1.i.free hp, g1.h.free hp, upd_same, d1⟩
  · cases e
theorem de_cb {r : List V → Hp → VK → Prop} {g : List PyData → Option R} {t : TA} {a : AF} (hr : RCD K r g) (h : DA K t a) : DE K (tCB r t) (eCall g a) := fun B F H σ env r' S fh bh e Q q => by
  obtain ⟨ds, ea, e⟩ := bnd e
  refine h B F H σ env ds S fh bh ea _ fun F1 H1 vs g1 d1 => ?_
  refine hr F1 H1 vs ds r' g1.i d1 e Q fun F3 H3 v g3 rr => ?_
  exact q F3 H3 v (g1.trans g3) (rr.back g1)
theorem toB_some {d : PyData} {b : Bool} (h : toB d = some b) : d = .bool b := by
  cases d <;> cases h
  rfl
theorem dt_test {te : TE} {f : EF} (h : DE K te f) : DT K (tTest te) (tE f) := fun B F H σ env b S fh bh e Q q => by
  obtain ⟨a, ea, e⟩ := bnd e
  refine h.z S fh bh ea fun F1 H1 x g1 d1 => ?_
  rw [toB_some e] at d1
  cases d1
  exact ⟨b, rfl, q F1 H1 g1⟩
theorem dt_B {te : TE} {f : EF} (h : DE K te f) : DT K (tB te) (tE f) := dt_test h
theorem dt_and {t u : TT} {f g : TF} (h1 : DT K t f) (h2 : DT K u g) : DT K (tAnd t u) (tAndD f g) := fun B F H σ env b S fh bh e Q q => by
  obtain ⟨a, ea, e⟩ := bnd e
  refine h1 B F H σ env a S fh bh ea _ fun F1 H1 g1 => ?_
  cases a with
  | true => exact iteT (h2 B F1 H1 σ env b (S.grow g1) g1.i (bh.trans g1.h) e Q fun F2 H2 g2 => q F2 H2 (g1.trans g2))
  | false =>
    cases e
    exact iteF (q F1 H1 g1)
theorem dt_or {t u : TT} {f g : TF} (h1 : DT K t f) (h2 : DT K u g) : DT K (tOr t u) (tOrD f g) := fun B F H σ env b S fh bh e Q q => by
  obtain ⟨a, ea, e⟩ := bnd e
  refine h1 B F H σ env a S fh bh ea _ fun F1 H1 g1 => ?_
  cases a with
  | false => exact iteF (h2 B F1 H1 σ env b (S.grow g1) g1.i (bh.trans g1.h) e Q fun F2 H2 g2 => q F2 H2 (g1.trans g2))
  | true =>
    cases e
    exact iteT (q F1 H1 g1)
theorem dt_not {t : TT} {f : TF} (h1 : DT K t f) : DT K (tNot t) (tNotD f) := fun B F H σ env b S fh bh e Q q => by
  obtain ⟨a, ea, e⟩ := bnd e
  cases e
  exact h1 B F H σ env a S fh bh ea _ fun F1 H1 g1 => q F1 H1 g1
/-- and, or, not as values -/
theorem de_andV {ta tb : TE} {f g : EF} (h1 : DE K ta f) (h2 : DE K tb g) : DE K (tAndV ta tb) (eIf (tE f) g (eC (.bool false))) := fun B F H σ env r S fh bh e Q q => by
  obtain ⟨a, ea, e⟩ := bnd e
  obtain ⟨w, ew, ea⟩ := bnd ea
  refine h1.z S fh bh ew fun F1 H1 x g1 d1 => ?_
  rw [toB_some ea] at d1
  cases d1
  refine ⟨a, rfl, ?_⟩
  cases a with
  | true => exact iteT (h2 B F1 H1 σ env r (S.grow g1) g1.i (bh.trans g1.h) e Q fun F2 H2 v g2 rr => q F2 H2 v (g1.trans g2) (rr.back g1))
  | false =>
    cases e
    exact iteF (q F1 H1 _ g1 (.bl false))
theorem de_orV {ta tb : TE} {f g : EF} (h1 : DE K ta f) (h2 : DE K tb g) : DE K (tOrV ta tb) (eIf (tE f) (eC (.bool true)) g) := fun B F H σ env r S fh bh e Q q => by
  obtain ⟨a, ea, e⟩ := bnd e
  obtain ⟨w, ew, ea⟩ := bnd ea
  refine h1.z S fh bh ew fun F1 H1 x g1 d1 => ?_
  rw [toB_some ea] at d1
  cases d1
  refine ⟨a, rfl, ?_⟩
  cases a with
  | false => exact iteF (h2 B F1 H1 σ env r (S.grow g1) g1.i (bh.trans g1.h) e Q fun F2 H2 v g2 rr => q F2 H2 v (g1.trans g2) (rr.back g1))
  | true =>
    cases e
    exact iteT (q F1 H1 _ g1 (.bl true))
theorem de_notV {ta : TE} {f : EF} (h1 : DE K ta f) : DE K (tNotV ta) (eT (tNotD (tE f))) := fun B F H σ env r S fh bh e Q q => by
  obtain ⟨a, ea, e⟩ := bnd e
  obtain ⟨c, ec, ea⟩ := bnd ea
  obtain ⟨w, ew, ec⟩ := bnd ec
  cases e
  cases ea
  refine h1.z S fh bh ew fun F1 H1 x g1 d1 => ?_
  rw [toB_some ec] at d1
  cases d1
  exact ⟨c, rfl, q F1 H1 _ g1 (.bl _)⟩
theorem de_ifE {c : TT} {ta tb : TE} {t : TF} {f g : EF} (hc : DT K c t) (h1 : DE K ta f) (h2 : DE K tb g) : DE K (tIf c ta tb) (eIf t f g) := fun B F H σ env r S fh bh e Q q => by
  obtain ⟨a, ea, e⟩ := bnd e
  refine hc B F H σ env a S fh bh ea _ fun F1 H1 g1 => ?_
  cases a with
  | true => exact iteT (h1 B F1 H1 σ env r (S.grow g1) g1.i (bh.trans g1.h) e Q fun F2 H2 v g2 rr => q F2 H2 v (g1.trans g2) (rr.back g1))
  | false => exact iteF (h2 B F1 H1 σ env r (S.grow g1) g1.i (bh.trans g1.h) e Q fun F2 H2 v g2 rr => q F2 H2 v (g1.trans g2) (rr.back g1))

/-! ### peeking at owned lists -/
end
@[simp] def unown : Sl → Sl
  | .own ds => .val (.list ds)
  | s => s
@[simp] def flat : PyData → Bool
  | .list _ => false
  | .tuple _ => false
  | .dict _ => false
  | _ => true
@[simp] def flatR : R → Bool
  | .val d => flat d
  | .own ds => ds.all flat
  | .own3 _ _ _ => false
/-- the expression reads owned lists and gives no object, or a new list without objects -/
@[simp] def ePeek (f : EF) : EF := fun env => (f (env.map unown)).bind fun r => if flatR r = true then some r else none
@[simp] def tPeek (f : TF) : TF := fun env => f (env.map unown)
section
variable {K : PySem.W.Frag}
theorem dp_flat {F F' : Hp} {v : V} {d : PyData} (h : Dp K F v d) (hf : flat d = true) : Dp K F' v d := by
  cases h with
  | non => exact .non
  | bl b => exact .bl b
  | int i => exact .int i
  | str x => exact .str x
  | lst _ _ => cases hf
  | tup _ _ => cases hf
theorem dpa_flat {F F' : Hp} : ∀ {vs : List V} {ds : List PyData}, DpAll K F vs ds → ds.all flat = true → DpAll K F' vs ds
  | _, _, .nil, _ => .nil
  | _, _, .cons h t, e => by
    rw [List.all_cons, Bool.and_eq_true] at e
    exact .cons (dp_flat h e.1) (dpa_flat t e.2)
/-- the first n slots are frozen -/
theorem Slots.unownN {B F H : Hp} {σ : L2.St} {env : En} (S : Slots K B F H σ env) (fh : Same F H) : ∀ n : Nat, ∃ (F2 : Hp) (e2 : En), Same F F2 ∧ Same F2 H ∧ Slots K B F2 H σ e2 ∧ e2.length = env.length ∧ ∀ i, e2[i]? = if i < n then (env[i]?).map unown else env[i]?
  | 0 => ⟨F, env, Same.refl F, fh, S, rfl, fun i => by rw [if_neg (Nat.not_lt_zero i)]⟩
  | n + 1 => by
    obtain ⟨F2, e2, a, b, c, d, g⟩ := Slots.unownN S fh n
    have same : (∀ ds, env[n]? ≠ some (.own ds)) → ∀ i, e2[i]? = if i < n + 1 then (env[i]?).map unown else env[i]? := fun hn i => by
      rw [g i]
      by_cases h1 : i < n
      · rw [if_pos h1, if_pos (by omega)]
      · rw [if_neg h1]
        by_cases h2 : i = n
        · subst h2
          rw [if_pos (by omega)]
          cases q : env[i]? with
          | none => rfl
          | some s =>
            cases s with
            | no => rfl
            | val d => rfl
            | own ds => exact absurd q (hn ds)
        · rw [if_neg (by omega)]
    cases q : env[n]? with
    | none => exact ⟨F2, e2, a, b, c, d, same (fun ds z => by rw [q] at z; cases z)⟩
    | some s =>
      cases s with
      | no => exact ⟨F2, e2, a, b, c, d, same (fun ds z => by rw [q] at z; cases z)⟩
      | val x => exact ⟨F2, e2, a, b, c, d, same (fun ds z => by rw [q] at z; cases z)⟩
      | own ds =>
        have q2 : e2[n]? = some (.own ds) := by rw [g n, if_neg (Nat.lt_irrefl n), q]
        obtain ⟨F3, a3, b3, _, c3⟩ := c.freeze b q2
        refine ⟨F3, e2.set n (.val (.list ds)), a.trans a3, b3, c3, by rw [List.length_set, d], fun i => ?_⟩
        by_cases h2 : n = i
        · subst h2
          rw [if_pos (by omega), q, List.getElem?_set_self (List.getElem?_eq_some_iff.mp q2).1]
          rfl
        · rw [List.getElem?_set_ne h2, g i]
          by_cases h1 : i < n
          · rw [if_pos h1, if_pos (by omega)]
          · rw [if_neg h1, if_neg (by omega)]
theorem Slots.unown {B F H : Hp} {σ : L2.St} {env : En} (S : Slots K B F H σ env) (fh : Same F H) : ∃ F2 : Hp, Same F F2 ∧ Same F2 H ∧ Slots K B F2 H σ (env.map Dn.unown) := by
  obtain ⟨F2, e2, a, b, c, d, g⟩ := Slots.unownN S fh env.length
  have e : e2 = env.map Dn.unown := by
    refine List.ext_getElem? fun i => ?_
    rw [g i, List.getElem?_map]
    split
    · rfl
    · rename_i h
      rw [List.getElem?_eq_none (by omega)]
      rfl
  exact ⟨F2, a, b, e ▸ c⟩
theorem de_peek {te : TE} {f : EF} (h : DE K te f) : DE K te (ePeek f) := fun B F H σ env r S fh bh e Q q => by
  obtain ⟨r0, ea, e⟩ := bnd e
  split at e
  · rename_i hf
    cases e
    obtain ⟨F2, a, b, S2⟩ := S.unown fh
    refine h B F2 H σ _ r S2 b bh ea Q fun F3 H3 v g rr => q F H3 v ⟨Same.refl F, g.h, fh.trans g.h, fun _ _ z => z⟩ ?_
    cases r with
    | val d => exact dp_flat (show Dp K F3 v d from rr) hf
    | own ds =>
      obtain ⟨p, xs, e, h1, h2, h3, h4⟩ := rr
      exact ⟨p, xs, e, fh.free h2, h2, h3, dpa_flat h4 hf⟩
    | own3 as bs cs => cases hf
  · cases e
theorem dt_peek {tt : TT} {f : TF} (h : DT K tt f) : DT K tt (tPeek f) := fun B F H σ env b S fh bh e Q q => by
  obtain ⟨F2, x, y, S2⟩ := S.unown fh
  exact h B F2 H σ _ b S2 y bh e Q fun F3 H3 g => q F H3 ⟨Same.refl F, g.h, fh.trans g.h, fun _ _ z => z⟩
end
end Dn
namespace Dn
open PySem PySem.Spec PyProof.Rows L2

inductive Out where
  | nx (env : En)
  | rt (r : R)
  | bk (env : En)
  | ct (env : En)
abbrev SF := En → Option Out
/-- the longest list that is made here (not written out: a literal would be unfolded) -/
def Fits (n : Nat) : Prop := n ≤ 100000
noncomputable instance (n : Nat) : Decidable (Fits n) := Classical.propDecidable _
/-- the state within a def: F0, H0 at its entry -/
structure Sta (K : PySem.W.Frag) (F0 H0 F H : Hp) (σ : L2.St) (env : En) : Prop where
  g : Grow F0 H0 F H
  s : Slots K H0 F H σ env
def EndOk (K : PySem.W.Frag) (F0 H0 G : Hp) (D : Ends) : Out → Prop
  | .nx env => ∀ F H σ, Same G F → Sta K F0 H0 F H σ env → D.nx σ H
  | .rt r => ∀ F H v, Grow F0 H0 F H → RepR K F H0 H v r → D.rt v H
  | .bk env => ∀ F H σ, Same G F → Sta K F0 H0 F H σ env → D.bk σ H
  | .ct env => ∀ F H σ, Same G F → Sta K F0 H0 F H σ env → D.ct σ H
theorem EndOk.mono {K : PySem.W.Frag} {F0 H0 G G' : Hp} {D : Ends} {o : Out} (s : Same G G') (h : EndOk K F0 H0 G D o) : EndOk K F0 H0 G' D o := by
  cases o with
  | nx env => exact fun F H σ a b => h F H σ (s.trans a) b
  | rt r => exact h
  | bk env => exact fun F H σ a b => h F H σ (s.trans a) b
  | ct env => exact fun F H σ a b => h F H σ (s.trans a) b
def DS (K : PySem.W.Frag) (ts : TS) (f : SF) : Prop := ∀ (F0 H0 F H : Hp) (σ : L2.St) (env : En) (o : Out), Sta K F0 H0 F H σ env → f env = some o → ∀ D : Ends, EndOk K F0 H0 F D o → ts D σ H
structure SS (X : Cx) (st : Stmt) (ts : TS) (f : SF) : Prop where
  ps : PS X st ts
  ds : DS X.K ts f
structure SSs (X : Cx) (st : List Stmt) (ts : TS) (f : SF) : Prop where
  ps : PSs X st ts
  ds : DS X.K ts f

@[simp] def sNext : SF := fun env => some (.nx env)
def bindO (o : Option Out) (g : SF) : Option Out := match o with
  | some (.nx e) => g e
  | o => o
section
variable {g k : SF} {e : En} {r : R}
@[simp] theorem bindO_nx : bindO (some (.nx e)) g = g e := rfl
@[simp] theorem bindO_rt : bindO (some (.rt r)) g = some (.rt r) := rfl
@[simp] theorem bindO_bk : bindO (some (.bk e)) g = some (.bk e) := rfl
@[simp] theorem bindO_ct : bindO (some (.ct e)) g = some (.ct e) := rfl
@[simp] theorem bindO_no : bindO none g = none := rfl
theorem bindO_ite {c : Prop} [Decidable c] {x y : Option Out} : bindO (if c then x else y) g = if c then bindO x g else bindO y g := by split <;> rfl
/-- behind a loop's turn -/
def turnO (o : Option Out) (k : SF) : Option Out := match o with
  | some (.nx e) => k e
  | some (.ct e) => k e
  | some (.bk e) => some (.nx e)
  | some (.rt r) => some (.rt r)
  | none => none
@[simp] theorem turnO_nx : turnO (some (.nx e)) k = k e := rfl
@[simp] theorem turnO_ct : turnO (some (.ct e)) k = k e := rfl
@[simp] theorem turnO_bk : turnO (some (.bk e)) k = some (.nx e) := rfl
@[simp] theorem turnO_rt : turnO (some (.rt r)) k = some (.rt r) := rfl
@[simp] theorem turnO_no : turnO none k = none := rfl
theorem turnO_ite {c : Prop} [Decidable c] {x y : Option Out} : turnO (if c then x else y) k = if c then turnO x k else turnO y k := by split <;> rfl
end
@[simp] def sSeq (f g : SF) : SF := fun env => bindO (f env) g
@[simp] def sRet (f : EF) : SF := fun env => (f env).bind fun r => some (.rt r)
@[simp] def sRetN : SF := fun _ => some (.rt (.val .none))
@[simp] def sRetOwn (i : Nat) : SF := fun env => match env[i]? with
  | some (.own ds) => some (.rt (.own ds))
  | _ => none
@[simp] def sBreak : SF := fun env => some (.bk env)
@[simp] def sCont : SF := fun env => some (.ct env)
@[simp] def sIf (c : TF) (f g : SF) : SF := fun env => (c env).bind fun b => if b = true then f env else g env
@[simp] def sSet (i : Nat) (f : EF) : SF := fun env => (f env).bind fun r => some (.nx (env.set i r.sl))
@[simp] def sDrop (f : EF) : SF := fun env => (f env).bind fun _ => some (.nx env)
@[simp] noncomputable def sAppend (i : Nat) (f : EF) : SF := fun env => match env[i]? with
  | some (.own ds) => (f env).bind fun r => if Fits (ds.length + 1) then some (.nx (env.set i (.own (ds ++ [r.frz])))) else none
  | _ => none
def ixD (ds : List PyData) (k : Int) : Option Nat := ixN ds.length k
@[simp] def sPut (i : Nat) (fi fv : EF) : SF := fun env => match env[i]? with
  | some (.own ds) => (fv env).bind fun r => (fi env).bind fun k => match k.frz with
    | .int k => (ixN ds.length k).bind fun j => some (.nx (env.set i (.own (ds.set j r.frz))))
    | _ => none
  | _ => none
/-- a ghost's step: an owned list is frozen -/
@[simp] def frzAt (i : Nat) (env : En) : En := match env[i]? with
  | some (.own ds) => env.set i (.val (.list ds))
  | _ => env
@[simp] def sFrz (i : Nat) (f : SF) : SF := fun env => f (frzAt i env)

section
variable {K : PySem.W.Frag} {F0 H0 F H F' H' : Hp} {σ : L2.St} {env : En}
theorem Sta.fh (S : Sta K F0 H0 F H σ env) : Same F H := S.g.i
theorem Sta.bh (S : Sta K F0 H0 F H σ env) : Same H0 H := S.g.h
theorem Sta.grow (S : Sta K F0 H0 F H σ env) (g : Grow F H F' H') : Sta K F0 H0 F' H' σ env := ⟨S.g.trans g, S.s.grow g⟩
theorem DE.at {te : TE} {f : EF} (h : DE K te f) (S : Sta K F0 H0 F H σ env) {r : R} (e : f env = some r) {Q : VK} (q : ∀ F' H' v, Grow F H F' H' → RepR K F' H H' v r → Q v H') : te σ H Q := h H0 F H σ env r S.s S.fh S.bh e Q q
theorem DE.atZ {te : TE} {f : EF} (h : DE K te f) (S : Sta K F0 H0 F H σ env) {r : R} (e : f env = some r) {Q : VK} (q : ∀ F' H' v, Grow F H F' H' → Dp K F' v r.frz → Q v H') : te σ H Q := h.z S.s S.fh S.bh e q
theorem ds_next : DS K tNext sNext := fun F0 H0 F H σ env o S e D q => by
  cases e
  exact q F H σ (Same.refl F) S
theorem ds_seq {t u : TS} {f g : SF} (h1 : DS K t f) (h2 : DS K u g) : DS K (tSeq t u) (sSeq f g) := fun F0 H0 F H σ env o S e D q => by
  unfold sSeq at e
  cases e1 : f env with
  | none =>
    rw [e1, bindO_no] at e
    cases e
  | some o1 =>
    rw [e1] at e
    refine h1 F0 H0 F H σ env o1 S e1 _ ?_
    cases o1 with
    | nx env1 => exact fun F1 H1 σ1 s1 S1 => h2 F0 H0 F1 H1 σ1 env1 o S1 e D (q.mono s1)
    | rt r =>
      rw [bindO_rt] at e
      cases e
      exact q
    | bk env1 =>
      rw [bindO_bk] at e
      cases e
      exact q
    | ct env1 =>
      rw [bindO_ct] at e
      cases e
      exact q
theorem ds_ret {te : TE} {f : EF} (h : DE K te f) : DS K (tRet te) (sRet f) := fun F0 H0 F H σ env o S e D q => by
  obtain ⟨r, er, e⟩ := bnd e
  cases e
  exact h.at S er fun F' H' v g rr => q F' H' v (S.g.trans g) (rr.back S.g)
theorem ds_retN : DS K tRetN sRetN := fun F0 H0 F H σ env o S e D q => by
  cases e
  exact q F H _ S.g .non
theorem ds_retOwn {i : Nat} : DS K (tRet (tVar i)) (sRetOwn i) := fun F0 H0 F H σ env o S e D q => by
  unfold sRetOwn at e
  split at e
  · rename_i ds hd
    cases e
    obtain ⟨p, xs, h1, h0, h2, h3, h4⟩ := S.s.own hd
    exact ⟨_, h1, q F H _ S.g ⟨p, xs, rfl, h2, h0, h3, h4⟩⟩
  · cases e
theorem ds_break : DS K tBreak sBreak := fun F0 H0 F H σ env o S e D q => by
  cases e
  exact q F H σ (Same.refl F) S
theorem ds_cont : DS K tCont sCont := fun F0 H0 F H σ env o S e D q => by
  cases e
  exact q F H σ (Same.refl F) S
theorem ds_if {c : TT} {t u : TS} {b : TF} {f g : SF} (hc : DT K c b) (h1 : DS K t f) (h2 : DS K u g) : DS K (tIfS c t u) (sIf b f g) := fun F0 H0 F H σ env o S e D q => by
  obtain ⟨a, ea, e⟩ := bnd e
  refine hc H0 F H σ env a S.s S.fh S.bh ea _ fun F1 H1 g1 => ?_
  cases a with
  | true => exact iteT (h1 F0 H0 F1 H1 σ env o (S.grow g1) e D (q.mono g1.f))
  | false => exact iteF (h2 F0 H0 F1 H1 σ env o (S.grow g1) e D (q.mono g1.f))
theorem ds_set {te : TE} {f : EF} {i : Nat} (h : DE K te f) : DS K (tAsg te (gName i)) (sSet i f) := fun F0 H0 F H σ env o S e D q => by
  obtain ⟨r, er, e⟩ := bnd e
  cases e
  exact h.at S er fun F' H' v g rr => q F' H' _ g.f ⟨S.g.trans g, S.s.put S.bh g rr⟩
theorem ds_drop {te : TE} {f : EF} (h : DE K te f) : DS K (tDrop te) (sDrop f) := fun F0 H0 F H σ env o S e D q => by
  obtain ⟨r, er, e⟩ := bnd e
  cases e
  exact h.at S er fun F' H' v g rr => q F' H' _ g.f (S.grow g)
/-- an owned list is turned within the def -/
theorem Sta.turn (S : Sta K F0 H0 F H σ env) {i : Nat} {p : Addr} {ds es : List PyData} {ys : List V} (e : env[i]? = some (.own ds)) (hp : σ[i]? = some (some (.ref p))) (hy : DpAll K F ys es) : Sta K F0 H0 F (upd H p (.lst ys)) σ (env.set i (.own es)) := by
  obtain ⟨p', xs, h1, h0, h2, h3, h4⟩ := S.s.own e
  rw [hp] at h1
  cases h1
  exact ⟨⟨S.g.f, same_updF S.bh h0, same_updF S.fh h2, S.g.n⟩, S.s.turn e hp hy⟩
theorem ds_append {te : TE} {f : EF} {i : Nat} (h : DE K te f) : DS K (tDrop (tBM K "list" rAppend (tVar i) (tCons te tNil))) (sAppend i f) := fun F0 H0 F H σ env o S e D q => by
  unfold sAppend at e
  split at e
  · rename_i ds hd
    obtain ⟨r, er, e⟩ := bnd e
    split at e
    · rename_i hl
      cases e
      obtain ⟨p, xs, h1, h0, h2, h3, h4⟩ := S.s.own hd
      refine ⟨_, h1, Or.inl ⟨rfl, _, .inl (.inl h3)⟩, h.atZ S er fun F' H' v g dv => ?_⟩
      have S' := S.grow g
      refine ⟨p, xs, v, rfl, rfl, g.h _ _ h3, by rw [DpAll.len h4]; exact Nat.lt_of_lt_of_le hl (by decide), ?_⟩
      exact q F' _ _ g.f (S'.turn hd h1 (DpAll.app (dpa_mono g.f h4) (.cons dv .nil)))
    · cases e
  · cases e
theorem ds_put {te ti : TE} {fi fv : EF} {i : Nat} (hv : DE K te fv) (hi : DE K ti fi) : DS K (tAsg te (gSub (tVar i) ti rSetL)) (sPut i fi fv) := fun F0 H0 F H σ env o S e D q => by
  unfold sPut at e
  split at e
  · rename_i ds hd
    obtain ⟨r, er, e⟩ := bnd e
    obtain ⟨k, ek, e⟩ := bnd e
    split at e
    · rename_i k' hk
      obtain ⟨j, ej, e⟩ := bnd e
      cases e
      obtain ⟨p, xs, h1, h0, h2, h3, h4⟩ := S.s.own hd
      refine hv.atZ S er fun F1 H1 v g1 dv => ⟨_, h1, ?_⟩
      have S1 := S.grow g1
      refine hi.atZ S1 ek fun F2 H2 kv g2 dk => ?_
      have S2 := S1.grow g2
      rw [hk] at dk
      cases dk
      have ln := DpAll.len h4
      refine ⟨p, xs, _, j, rfl, rfl, g2.h _ _ (g1.h _ _ h3), by rw [ln]; exact ej, ?_⟩
      exact q F2 _ _ (g1.f.trans g2.f) (S2.turn hd h1 (DpAll.set j (dpa_mono (g1.f.trans g2.f) h4) (dp_mono g2.f dv)))
    · cases e
  · cases e
theorem ds_frz {t : TS} {f : SF} {i : Nat} (h : DS K t f) : DS K t (sFrz i f) := fun F0 H0 F H σ env o S e D q => by
  unfold sFrz frzAt at e
  split at e
  · rename_i ds hd
    obtain ⟨F', a, b, c, d⟩ := S.s.freeze S.fh hd
    exact h F0 H0 F' H σ _ o ⟨⟨S.g.f.trans a, S.g.h, b, fun x hx hf => c x hx (S.g.n x hx hf)⟩, d⟩ e D (q.mono a)
  · exact h F0 H0 F H σ _ o S e D q
end

/-! ### targets -/
theorem wipe_set {σ : L2.St} {i : Nat} {x : Option V} : ∀ {vs : List Nat}, wipe (σ.set i x) vs = if i ∈ vs then wipe σ vs else (wipe σ vs).set i x
  | [] => by simp [wipe]
  | w :: vs => by
    unfold wipe
    rw [wipe_set (vs := vs)]
    by_cases h : i ∈ vs
    · rw [if_pos h, if_pos (List.mem_cons_of_mem _ h)]
    · rw [if_neg h]
      by_cases hw : i = w
      · subst hw
        rw [if_pos List.mem_cons_self, List.set_set]
      · rw [if_neg (by simp [hw, h]), List.set_comm _ _ hw]
theorem wipe_set_in {σ : L2.St} {i : Nat} {x : Option V} {vs : List Nat} (h : i ∈ vs) : wipe (σ.set i x) vs = wipe σ vs := by rw [wipe_set, if_pos h]
abbrev GF := PyData → En → Option En
/-- ws: the slots that it stores into -/
def DG (K : PySem.W.Frag) (ws : List Nat) (t : TG) (g : GF) : Prop := ∀ (B F H : Hp) (σ : L2.St) (env env' : En) (v : V) (d : PyData), Slots K B F H σ env → Same F H → Same B H → Dp K F v d → g d env = some env' →
  ∀ Q : L2.St → Hp → Prop, (∀ F' H' σ', Grow F H F' H' → Slots K B F' H' σ' env' → (∀ vs, (∀ i ∈ ws, i ∈ vs) → wipe σ' vs = wipe σ vs) → Q σ' H') → t v σ H Q
@[simp] def gtName (i : Nat) : GF := fun d env => some (env.set i (.val d))
@[simp] def gtTup2 (i j : Nat) : GF := fun d env => match d with
  | .tuple [a, b] => some ((env.set i (.val a)).set j (.val b))
  | _ => none
@[simp] def gtTup3 (i j k : Nat) : GF := fun d env => match d with
  | .tuple [a, b, c] => some (((env.set i (.val a)).set j (.val b)).set k (.val c))
  | _ => none
section
variable {K : PySem.W.Frag}
theorem Slots.putV {B F H : Hp} {σ : L2.St} {env : En} {v : V} {d : PyData} {i : Nat} (S : Slots K B F H σ env) (fh : Same F H) (bh : Same B H) (h : Dp K F v d) : Slots K B F H (σ.set i (some v)) (env.set i (.val d)) := S.put bh (Grow.refl fh) (r := .val d) h
theorem dg_name {i : Nat} : DG K [i] (gName i) (gtName i) := fun B F H σ env env' v d S fh bh h e Q q => by
  cases e
  exact q F H _ (Grow.refl fh) (S.putV fh bh h) fun vs hv => wipe_set_in (hv i (by simp))
theorem dg_tup2 {i j : Nat} : DG K [i, j] (gTup K 2 (gCons (gName i) (gCons (gName j) gNil))) (gtTup2 i j) := fun B F H σ env env' v d S fh bh h e Q q => by
  unfold gtTup2 at e
  split at e
  · cases e
    cases h with
    | tup hs ha =>
      cases ha with
      | cons a1 ha =>
        cases ha with
        | cons a2 ha =>
          cases ha
          refine ⟨_, _, rfl, sqT_mono fh hs, rfl, _, _, rfl, _, _, rfl, rfl, q F H _ (Grow.refl fh) ((S.putV fh bh a1).putV fh bh a2) fun vs hv => ?_⟩
          rw [wipe_set_in (hv j (by simp)), wipe_set_in (hv i (by simp))]
  · cases e
theorem dg_tup3 {i j k : Nat} : DG K [i, j, k] (gTup K 3 (gCons (gName i) (gCons (gName j) (gCons (gName k) gNil)))) (gtTup3 i j k) := fun B F H σ env env' v d S fh bh h e Q q => by
  unfold gtTup3 at e
  split at e
  · cases e
    cases h with
    | tup hs ha =>
      cases ha with
      | cons a1 ha =>
        cases ha with
        | cons a2 ha =>
          cases ha with
          | cons a3 ha =>
            cases ha
            refine ⟨_, _, rfl, sqT_mono fh hs, rfl, _, _, rfl, _, _, rfl, _, _, rfl, rfl, q F H _ (Grow.refl fh) (((S.putV fh bh a1).putV fh bh a2).putV fh bh a3) fun vs hv => ?_⟩
            rw [wipe_set_in (hv k (by simp)), wipe_set_in (hv j (by simp)), wipe_set_in (hv i (by simp))]
  · cases e
@[simp] def sAsg (g : GF) (f : EF) : SF := fun env => (f env).bind fun r => (g r.frz env).bind fun e => some (.nx e)
theorem ds_asg {te : TE} {f : EF} {t : TG} {g : GF} {ws : List Nat} (h : DE K te f) (hg : DG K ws t g) : DS K (tAsg te t) (sAsg g f) := fun F0 H0 F H σ env o S e D q => by
  obtain ⟨r, er, e⟩ := bnd e
  obtain ⟨e1, ee, e⟩ := bnd e
  cases e
  exact h.atZ S er fun F' H' v g1 dv => hg H0 F' H' σ env e1 v _ (S.grow g1).s g1.i (S.grow g1).bh dv ee _ fun F2 H2 σ2 g2 S2 _ => q F2 H2 σ2 (g1.f.trans g2.f) ⟨(S.g.trans g1).trans g2, S2⟩
end

/-! ### what is walked -/
abbrev IF := En → Option (List PyData)
/-- an iterator that gives ds in order, whatever has grown meanwhile -/
def Walks (K : PySem.W.Frag) (F : Hp) (J : It) (ds : List PyData) : Prop := ∀ (i : Nat) (F1 H1 : Hp), Same F F1 → Same F1 H1 →
  (ds[i]? = none → i = ds.length → J.stop i H1) ∧ ∀ d, ds[i]? = some d → J.go i H1 ∧ ∀ x H2, J.yld i H1 x H2 → ∃ F2, Grow F1 H1 F2 H2 ∧ Dp K F2 x d
def DI (K : PySem.W.Frag) (wi : TI) (f : IF) : Prop := ∀ (B F H : Hp) (σ : L2.St) (env : En) (ds : List PyData), Slots K B F H σ env → Same F H → Same B H → f env = some ds →
  ∀ R : It → Hp → Prop, (∀ F' H' J, Grow F H F' H' → Walks K F' J ds → R J H') → wi σ H R
@[simp] def iL (f : EF) : IF := fun env => (f env).bind fun r => match r.frz with
  | .list ds => some ds
  | _ => none
@[simp] def iT (f : EF) : IF := fun env => (f env).bind fun r => match r.frz with
  | .tuple ds => some ds
  | _ => none
def intsFrom (lo : Int) : Nat → List PyData
  | 0 => []
  | n + 1 => .int lo :: intsFrom (lo + 1) n
/-- a range's bounds -/
def InR (n : Int) : Prop := -(2 ^ 62) ≤ n ∧ n < 2 ^ 62
noncomputable instance (n : Int) : Decidable (InR n) := Classical.propDecidable _
@[simp] noncomputable def iR1 (t : AF) : IF := fun env => (t env).bind fun ds => match ds with
  | [.int n] => if InR n then some (intsFrom 0 n.toNat) else none
  | _ => none
@[simp] noncomputable def iR2 (t : AF) : IF := fun env => (t env).bind fun ds => match ds with
  | [.int a, .int b] => if InR a ∧ InR b then some (intsFrom a (b - a).toNat) else none
  | _ => none
theorem intsFrom_len : ∀ (n : Nat) (lo : Int), (intsFrom lo n).length = n
  | 0, _ => rfl
  | n + 1, lo => by
    show (intsFrom (lo + 1) n).length + 1 = n + 1
    rw [intsFrom_len n]
theorem intsFrom_get : ∀ (n : Nat) (lo : Int) (i : Nat), i < n → (intsFrom lo n)[i]? = some (.int (lo + i))
  | 0, _, _, h => absurd h (Nat.not_lt_zero _)
  | n + 1, lo, 0, _ => by
    show some (PyData.int lo) = _
    simp
  | n + 1, lo, i + 1, h => by
    show (intsFrom (lo + 1) n)[i]? = _
    rw [intsFrom_get n (lo + 1) i (by omega)]
    congr 2
    omega
section
variable {K : PySem.W.Frag}
theorem walks_list {F : Hp} {a : Addr} {xs : List V} {ds : List PyData} (h : SqL K F a xs) (hd : DpAll K F xs ds) (uq : ∀ H1, Same F H1 → ∀ ys, SqL K H1 a ys → ys = xs) : Walks K F (Itl K a) ds := fun i F1 H1 s1 s2 => by
  have hl := DpAll.len hd
  refine ⟨fun _ e => ⟨xs, sqL_mono (s1.trans s2) h, by omega⟩, fun d e => ?_⟩
  obtain ⟨v, e1, h1⟩ := DpAll.get hd e
  refine ⟨⟨xs, v, sqL_mono (s1.trans s2) h, e1⟩, fun x H2 y => ?_⟩
  obtain ⟨rfl, y⟩ := y
  have e2 := y xs (sqL_mono (s1.trans s2) h)
  rw [e1] at e2
  cases e2
  exact ⟨F1, Grow.refl s2, dp_mono s1 h1⟩
theorem di_list {tl : TE} {f : EF} (h : DE K tl f) : DI K (iList K tl) (iL f) := fun B F H σ env ds S fh bh e R q => by
  obtain ⟨r, er, e⟩ := bnd e
  refine h.z S fh bh er fun F1 H1 v g d => ?_
  split at e
  · rename_i es he
    cases e
    rw [he] at d
    cases d with
    | lst hs ha =>
      refine ⟨_, rfl, ⟨_, sqL_mono g.i hs⟩, q F1 H1 _ g fun i F2 H2 s1 s2 => ?_⟩
      have hl := DpAll.len ha
      refine ⟨fun _ e => ⟨_, sqL_mono (s1.trans s2) hs, by omega⟩, fun d e => ?_⟩
      obtain ⟨w, e1, h1⟩ := DpAll.get ha e
      refine ⟨⟨_, w, sqL_mono (s1.trans s2) hs, e1⟩, fun x H3 y => ?_⟩
      obtain ⟨rfl, y⟩ := y
      have e2 := y _ (sqL_mono (s1.trans s2) hs)
      rw [e1] at e2
      cases e2
      exact ⟨F2, Grow.refl s2, dp_mono s1 h1⟩
  · cases e
theorem di_tup {tl : TE} {f : EF} (h : DE K tl f) : DI K (iTup K tl) (iT f) := fun B F H σ env ds S fh bh e R q => by
  obtain ⟨r, er, e⟩ := bnd e
  refine h.z S fh bh er fun F1 H1 v g d => ?_
  split at e
  · rename_i es he
    cases e
    rw [he] at d
    cases d with
    | tup hs ha =>
      refine ⟨_, rfl, ⟨_, sqT_mono g.i hs⟩, q F1 H1 _ g fun i F2 H2 s1 s2 => ?_⟩
      have hl := DpAll.len ha
      refine ⟨fun _ e => ⟨_, sqT_mono (s1.trans s2) hs, by omega⟩, fun d e => ?_⟩
      obtain ⟨w, e1, h1⟩ := DpAll.get ha e
      refine ⟨⟨_, w, sqT_mono (s1.trans s2) hs, e1⟩, fun x H3 y => ?_⟩
      obtain ⟨rfl, y⟩ := y
      have e2 := y _ (sqT_mono (s1.trans s2) hs)
      rw [e1] at e2
      cases e2
      exact ⟨F2, Grow.refl s2, dp_mono s1 h1⟩
  · cases e
theorem walks_rng {F : Hp} (lo : Int) (n : Nat) : Walks K F (Itr lo n) (intsFrom lo n) := fun i F1 H1 s1 s2 => by
  refine ⟨fun _ e => by rw [intsFrom_len] at e; exact Nat.le_of_eq e.symm, fun d e => ?_⟩
  have hi : i < n := by
    have := (List.getElem?_eq_some_iff.mp e).1
    rw [intsFrom_len] at this
    exact this
  rw [intsFrom_get n lo i hi] at e
  cases e
  refine ⟨hi, fun x H2 y => ?_⟩
  obtain ⟨rfl, rfl⟩ := y
  exact ⟨F1, Grow.refl s2, .int _⟩
theorem di_r1 {ta : TA} {t : AF} (h : DA K ta t) : DI K (iRng1 ta) (iR1 t) := fun B F H σ env ds S fh bh e R q => by
  obtain ⟨as, ea, e⟩ := bnd e
  split at e
  · split at e
    · rename_i n hn
      cases e
      refine h B F H σ env _ S fh bh ea _ fun F1 H1 vs g d => ?_
      cases d with
      | cons d1 d2 =>
        cases d1
        cases d2
        exact ⟨n, rfl, hn.1, hn.2, q F1 H1 _ g (walks_rng 0 n.toNat)⟩
    · cases e
  · cases e
theorem di_r2 {ta : TA} {t : AF} (h : DA K ta t) : DI K (iRng2 ta) (iR2 t) := fun B F H σ env ds S fh bh e R q => by
  obtain ⟨as, ea, e⟩ := bnd e
  split at e
  · split at e
    · rename_i a b hn
      cases e
      refine h B F H σ env _ S fh bh ea _ fun F1 H1 vs g d => ?_
      cases d with
      | cons d1 d2 =>
        cases d1
        cases d2 with
        | cons d1 d2 =>
          cases d1
          cases d2
          exact ⟨a, b, rfl, ⟨hn.1.1, hn.1.2, hn.2.1, hn.2.2⟩, q F1 H1 _ g (walks_rng a (b - a).toNat)⟩
    · cases e
  · cases e

/-! ### for, while, comprehensions -/
@[simp] def forD (g : GF) (body : SF) : List PyData → SF
  | [], env => some (.nx env)
  | d :: ds, env => (g d env).bind fun e1 => turnO (body e1) (forD g body ds)
@[simp] def sFor (it : IF) (g : GF) (body : SF) : SF := fun env => (it env).bind fun ds => forD g body ds env
theorem ds_for {wi : TI} {it : IF} {t : TG} {g : GF} {ws : List Nat} {tb : TS} {body : SF} (hi : DI K wi it) (hg : DG K ws t g) (hb : DS K tb body) : DS K (tFor wi t tb) (sFor it g body) := fun F0 H0 F H σ env o S e D q => by
  obtain ⟨ds, ed, e⟩ := bnd e
  refine hi H0 F H σ env ds S.s S.fh S.bh ed _ fun F1 H1 J g1 wk => ?_
  refine ⟨fun i m σ2 H2 => ∃ F2 e2, Same F1 F2 ∧ Sta K F0 H0 F2 H2 σ2 e2 ∧ forD g body (ds.drop i) e2 = some o ∧ i + m = ds.length, ⟨ds.length, F1, env, Same.refl F1, S.grow g1, e, by omega⟩, ?_⟩
  rintro i m σ2 H2 ⟨F2, e2, s2, S2, eq, em⟩
  obtain ⟨wn, wg⟩ := wk i F2 H2 s2 S2.fh
  cases hd : ds[i]? with
  | none =>
    have hl : ds.length ≤ i := List.getElem?_eq_none_iff.mp hd
    rw [List.drop_eq_nil_of_le hl] at eq
    cases eq
    exact .inl ⟨wn hd (by omega), q F2 H2 σ2 (g1.f.trans s2) S2⟩
  | some d =>
    obtain ⟨go, yl⟩ := wg d hd
    have hi : i < ds.length := (List.getElem?_eq_some_iff.mp hd).1
    have hdr : ds.drop i = d :: ds.drop (i + 1) := by
      rw [List.drop_eq_getElem_cons hi]
      rw [List.getElem?_eq_getElem hi] at hd
      cases hd
      rfl
    rw [hdr] at eq
    obtain ⟨e3, ee, eq⟩ := bnd eq
    refine .inr ⟨go, fun σ' H' => ∃ F' e', Same F1 F' ∧ Sta K F0 H0 F' H' σ' e' ∧ forD g body (ds.drop (i + 1)) e' = some o, fun σ' H' ⟨F', e', a, b, c⟩ => ⟨m - 1, by omega, F', e', a, b, c, by omega⟩, fun x H' hy => ?_⟩
    obtain ⟨F3, g3, dx⟩ := yl x H' hy
    have S3 := S2.grow g3
    refine hg H0 F3 H' σ2 e2 e3 x d S3.s g3.i S3.bh dx ee _ fun F4 H4 σ4 g4 S4 _ => ?_
    have S5 : Sta K F0 H0 F4 H4 σ4 e3 := ⟨S3.g.trans g4, S4⟩
    have s4 : Same F1 F4 := (s2.trans g3.f).trans g4.f
    cases eb : body e3 with
    | none =>
      rw [eb, turnO_no] at eq
      cases eq
    | some ob =>
      rw [eb] at eq
      refine hb F0 H0 F4 H4 σ4 e3 ob S5 eb _ ?_
      cases ob with
      | nx e4 => exact fun F5 H5 σ5 s5 S5 => ⟨F5, e4, s4.trans s5, S5, eq⟩
      | ct e4 => exact fun F5 H5 σ5 s5 S5 => ⟨F5, e4, s4.trans s5, S5, eq⟩
      | bk e4 =>
        rw [turnO_bk] at eq
        cases eq
        exact fun F5 H5 σ5 s5 S5 => q F5 H5 σ5 (g1.f.trans (s4.trans s5)) S5
      | rt r =>
        rw [turnO_rt] at eq
        cases eq
        exact q
def whileD (c : TF) (body : SF) : Nat → SF
  | 0, _ => none
  | n + 1, env => (c env).bind fun b => if b = true then turnO (body env) (whileD c body n) else some (.nx env)
theorem ds_while {c : TT} {cf : TF} {tb : TS} {body : SF} (n : Nat) (hc : DT K c cf) (hb : DS K tb body) : DS K (tWhile c tb) (whileD cf body n) := fun F0 H0 F H σ env o S e D q => by
  refine ⟨fun m σ2 H2 => ∃ F2 e2, Same F F2 ∧ Sta K F0 H0 F2 H2 σ2 e2 ∧ whileD cf body m e2 = some o, ⟨n, F, env, Same.refl F, S, e⟩, ?_⟩
  rintro m σ2 H2 ⟨F2, e2, s2, S2, eq⟩
  cases m with
  | zero => cases eq
  | succ m =>
    obtain ⟨b, eb, eq⟩ := bnd eq
    refine hc H0 F2 H2 σ2 e2 b S2.s S2.fh S2.bh eb _ fun F3 H3 g3 => ?_
    have S3 := S2.grow g3
    cases b with
    | false =>
      cases eq
      exact iteF (q F3 H3 σ2 (s2.trans g3.f) S3)
    | true =>
      rw [if_pos rfl] at eq
      refine iteT ⟨fun σ' H' => ∃ F' e', Same F F' ∧ Sta K F0 H0 F' H' σ' e' ∧ whileD cf body m e' = some o, fun σ' H' w => ⟨m, Nat.lt_succ_self m, w⟩, ?_⟩
      cases ebd : body e2 with
      | none =>
        rw [ebd, turnO_no] at eq
        cases eq
      | some ob =>
        rw [ebd] at eq
        refine hb F0 H0 F3 H3 σ2 e2 ob S3 ebd _ ?_
        have s4 := s2.trans g3.f
        cases ob with
        | nx e4 => exact fun F5 H5 σ5 s5 S5 => ⟨F5, e4, s4.trans s5, S5, eq⟩
        | ct e4 => exact fun F5 H5 σ5 s5 S5 => ⟨F5, e4, s4.trans s5, S5, eq⟩
        | bk e4 =>
          rw [turnO_bk] at eq
          cases eq
          exact fun F5 H5 σ5 s5 S5 => q F5 H5 σ5 (s4.trans s5) S5
        | rt r =>
          rw [turnO_rt] at eq
          cases eq
          exact q
@[simp] def wipeD (env : En) : List Nat → En
  | [] => env
  | v :: vs => (wipeD env vs).set v .no
theorem Slots.wipe {B F H : Hp} {σ : L2.St} {env : En} (S : Slots K B F H σ env) : ∀ vs : List Nat, Slots K B F H (wipe σ vs) (wipeD env vs)
  | [] => S
  | v :: vs => by
    obtain ⟨l, ad, h1, h2⟩ := Slots.wipe S vs
    refine ⟨?_, ad, fun i w s e1 e2 => ?_, fun i j ds es hij e1 e2 => ?_⟩
    · show ((L2.wipe σ vs).set v none).length = ((wipeD env vs).set v .no).length
      rw [List.length_set, List.length_set, l]
    · have e1 : ((L2.wipe σ vs).set v none)[i]? = some w := e1
      have e2 : ((wipeD env vs).set v .no)[i]? = some s := e2
      by_cases hv : v = i
      · subst hv
        rw [List.getElem?_set] at e2
        simp at e2
        obtain ⟨_, rfl⟩ := e2
        trivial
      · rw [List.getElem?_set_ne hv] at e1 e2
        exact h1 i w s e1 e2
    · have q : ∀ (m : Nat) (zs : List PyData), (wipeD env (v :: vs))[m]? = some (Sl.own zs) → (wipeD env vs)[m]? = some (Sl.own zs) := fun m zs g => by
        have g : ((wipeD env vs).set v .no)[m]? = some (Sl.own zs) := g
        by_cases hm : v = m
        · subst hm
          rw [List.getElem?_set] at g
          simp at g
        · rw [List.getElem?_set_ne hm] at g
          exact g
      exact h2 i j ds es hij (q _ _ e1) (q _ _ e2)
def lcD (vs : List Nat) (g : GF) (c : TF) (f : EF) (env : En) : List PyData → Option (List PyData)
  | [] => some []
  | d :: ds => (g d (wipeD env vs)).bind fun e1 => (c e1).bind fun b => if b = true then (f e1).bind fun r => (lcD vs g c f env ds).bind fun rs => some (r.frz :: rs) else lcD vs g c f env ds
@[simp] noncomputable def eLc (vs : List Nat) (it : IF) (g : GF) (c : TF) (f : EF) : EF := fun env => (it env).bind fun ds => if Fits ds.length then (lcD vs g c f env ds).bind fun rs => some (.own rs) else none
@[simp] def tYesD : TF := fun _ => some true
theorem dt_yes : DT K tYes tYesD := fun B F H σ env b S fh bh e Q q => by
  cases e
  exact q F H (Grow.refl fh)
theorem de_lc {wi : TI} {it : IF} {t : TG} {g : GF} {ws vs : List Nat} {tt : TT} {c : TF} {te : TE} {f : EF} (hi : DI K wi it) (hg : DG K ws t g) (hw : ∀ i ∈ ws, i ∈ vs) (hc : DT K tt c) (he : DE K te f) : DE K (tLc wi t tt te vs) (eLc vs it g c f) := fun B F H σ env r S fh bh e Q q => by
  obtain ⟨ds, ed, e⟩ := bnd e
  split at e
  case isFalse => cases e
  rename_i hlen
  obtain ⟨rs, er, e⟩ := bnd e
  cases e
  refine hi B F H σ env ds S fh bh ed _ fun F1 H1 J g1 wk => ?_
  intro D hD
  have S1 := S.grow g1
  have hFD : F1 D = none := g1.i.free hD
  have gD : Grow F1 H1 F1 (upd H1 D (.lst [])) := Grow.new g1.i hD
  refine ⟨fun i m H2 => ∃ F2 acc bs as rs', Grow F1 H1 F2 H2 ∧ H2 D = some (.lst acc) ∧ F2 D = none ∧ DpAll K F2 acc bs ∧ as.length ≤ i ∧ as.length = bs.length ∧ lcD vs g c f env (ds.drop i) = some rs' ∧ bs ++ rs' = rs ∧ i + m = ds.length ∧ (as : List Nat).length = bs.length, ⟨ds.length, F1, [], [], [], rs, gD, upd_same, hFD, .nil, Nat.le_refl _, rfl, er, rfl, by omega, rfl⟩, ?_⟩
  rintro i m H2 ⟨F2, acc, bs, as, rs', G2, hA, hF2, dA, hal, hab, el, eb, em, _⟩
  have la := DpAll.len dA
  obtain ⟨wn, wg⟩ := wk i F2 H2 G2.f G2.i
  cases hd : ds[i]? with
  | none =>
    have hl : ds.length ≤ i := List.getElem?_eq_none_iff.mp hd
    rw [List.drop_eq_nil_of_le hl] at el
    cases el
    rw [List.append_nil] at eb
    subst eb
    exact .inl ⟨wn hd (by omega), q F2 H2 _ (g1.trans G2) ⟨D, acc, rfl, hF2, g1.h.free hD, hA, dA⟩⟩
  | some d =>
    obtain ⟨go, yl⟩ := wg d hd
    have hi2 : i < ds.length := (List.getElem?_eq_some_iff.mp hd).1
    have hdr : ds.drop i = d :: ds.drop (i + 1) := by
      rw [List.drop_eq_getElem_cons hi2]
      rw [List.getElem?_eq_getElem hi2] at hd
      cases hd
      rfl
    rw [hdr] at el
    obtain ⟨e3, ee, el⟩ := bnd el
    obtain ⟨b, ebt, el⟩ := bnd el
    refine .inr ⟨go, fun H' => ∃ F' acc bs as rs', Grow F1 H1 F' H' ∧ H' D = some (.lst acc) ∧ F' D = none ∧ DpAll K F' acc bs ∧ as.length ≤ i + 1 ∧ as.length = bs.length ∧ lcD vs g c f env (ds.drop (i + 1)) = some rs' ∧ bs ++ rs' = rs ∧ (as : List Nat).length = bs.length,
      fun H' ⟨F', acc, bs, as, rs', a1, a2, a3, a4, a5, a6, a7, a8, a9⟩ => ⟨m - 1, by omega, F', acc, bs, as, rs', a1, a2, a3, a4, a5, a6, a7, a8, by omega, a9⟩, fun x H' hy => ?_⟩
    obtain ⟨F3, g3, dx⟩ := yl x H' hy
    have G3 := G2.trans g3
    have S3 : Slots K B F3 H' (L2.wipe σ vs) (wipeD env vs) := (S1.grow G3).wipe vs
    have bh3 : Same B H' := (bh.trans g1.h).trans G3.h
    refine hg B F3 H' _ _ e3 x d S3 g3.i bh3 dx ee _ fun F4 H4 σ4 g4 S4 hw4 => ⟨?_, ?_⟩
    · rw [hw4 vs hw]
      have w2 : ∀ (us : List Nat) (τ : L2.St), (∀ i ∈ us, ∀ y, τ[i]? = some y → y = none) → L2.wipe τ us = τ := fun us => by
        induction us with
        | nil => exact fun τ _ => rfl
        | cons u us ih =>
          intro τ h
          unfold L2.wipe
          rw [ih τ (fun i hi => h i (List.mem_cons_of_mem _ hi))]
          refine List.ext_getElem? fun j => ?_
          by_cases hj : u = j
          · subst hj
            cases hy : τ[u]? with
            | none => rw [List.getElem?_eq_none (by rw [List.length_set]; exact List.getElem?_eq_none_iff.mp hy)]
            | some y =>
              rw [h u List.mem_cons_self y hy, List.getElem?_set_self (List.getElem?_eq_some_iff.mp hy).1]
          · rw [List.getElem?_set_ne hj]
      refine w2 vs _ fun i hi y hy => ?_
      have w3 : ∀ (us : List Nat), i ∈ us → ∀ y, (L2.wipe σ us)[i]? = some y → y = none := fun us => by
        induction us with
        | nil => intro h; cases h
        | cons u us ih =>
          intro h y hy
          unfold L2.wipe at hy
          by_cases hj : u = i
          · subst hj
            rw [List.getElem?_set] at hy
            simp at hy
            exact hy.2.symm
          · rw [List.getElem?_set_ne hj] at hy
            exact ih (by cases h with
              | head => exact absurd rfl hj
              | tail _ h => exact h) y hy
      exact w3 vs hi y hy
    · have bh4 : Same B H4 := bh3.trans g4.h
      refine hc B F4 H4 σ4 e3 b S4 g4.i bh4 ebt _ fun F5 H5 g5 => ?_
      have G5 := (G3.trans g4).trans g5
      have h25 : Grow F2 H2 F5 H5 := (g3.trans g4).trans g5
      have hD2 : H2 D ≠ none := by rw [hA]; exact Option.some_ne_none _
      cases b with
      | false =>
        rw [if_neg Bool.false_ne_true] at el ⊢
        exact ⟨F5, acc, bs, as, rs', G5, h25.h _ _ hA, h25.n _ hD2 hF2, dpa_mono h25.f dA, by omega, hab, el, eb, hab⟩
      | true =>
        rw [if_pos rfl] at el ⊢
        obtain ⟨r1, er1, el⟩ := bnd el
        obtain ⟨rs1, er2, el⟩ := bnd el
        cases el
        refine he.z (S4.grow g5) g5.i (bh4.trans g5.h) er1 fun F6 H6 y g6 dy => ?_
        have h26 := h25.trans g6
        have G6 := G5.trans g6
        refine ⟨acc, h26.h _ _ hA, by
          rw [la, ← hab]
          exact Nat.lt_of_le_of_lt (Nat.le_trans hal (Nat.le_trans (Nat.le_of_lt hi2) hlen)) (by decide), F6, acc ++ [y], bs ++ [r1.frz], as ++ [0], rs1, ?_, upd_same, h26.n _ hD2 hF2, DpAll.app (dpa_mono h26.f dA) (.cons dy .nil), by rw [List.length_append]; exact Nat.succ_le_succ hal, by rw [List.length_append, List.length_append, hab]; rfl, er2, by rw [List.append_assoc]; exact eb, by rw [List.length_append, List.length_append, hab]; rfl⟩
        have hFD6 : F6 D = none := h26.n _ hD2 hF2
        exact ⟨G6.f, same_updF G6.h hD, same_updF G6.i hFD6, G6.n⟩
end
end Dn
namespace Dn
open PySem PySem.Spec PyProof.Rows L2

/-! ### operators by values -/
def divLim : Nat := 2 ^ 8000
def mulLim : Nat := 2 ^ 400000
theorem OpR.or {X : Cx} {f : Value → Value → Sem Value} {r r' : R2} (h : OpR X f r) (h' : OpR X f r') : OpR X f (fun x y H Q => r x y H Q ∨ r' x y H Q) := by
  intro pins s σ H x y v u Q I rx ry q
  rcases q with q | q
  · exact h pins s σ H x y v u Q I rx ry q
  · exact h' pins s σ H x y v u Q I rx ry q
theorem op_fdivG {X : Cx} : OpR X (binaryOp .FloorDiv) (rI (fun _ j => j ≠ 0 ∧ j.natAbs < divLim) fun i j => .int (i.fdiv j)) := opI fun i j _ _ _ _ _ hc q =>
  floordiv_int hc.1 q (.inl (PyProof.noPylong_of_log2 (Nat.lt_of_lt_of_le (PySem.Flt.log2_lt_of (by decide : 0 < 8000) (show j.natAbs < 2 ^ 8000 from hc.2)) (by decide))))
def MulOk (i j : Int) : Prop := i.natAbs < 2 ^ 64 ∨ j.natAbs < 2 ^ 64 ∨ (i.natAbs < mulLim ∧ j.natAbs < mulLim)
noncomputable instance (i j : Int) : Decidable (MulOk i j) := Classical.propDecidable _
theorem MulOk.ok {i j : Int} (h : MulOk i j) : IntMulOk i j := by
  rcases h with h | h | ⟨h1, h2⟩
  · exact CMul.ok (.inl ⟨by omega, by omega⟩)
  · exact CMul.ok (.inr ⟨by omega, by omega⟩)
  · exact CMulW.ok (wide_mul (show i.natAbs < 2 ^ 400000 from h1) (show j.natAbs < 2 ^ 400000 from h2) (by decide) (by decide) (by decide))
theorem op_mulG {X : Cx} : OpR X (binaryOp .Mult) (rI MulOk fun i j => .int (i * j)) := opI fun _ _ _ _ _ _ _ hc q => mul_int q hc.ok
/-- list + list, both only read -/
def rCatL (K : PySem.W.Frag) : R2 := fun x y H Q => ∃ l b xs zs, x = .ref l ∧ y = .ref b ∧ SqL K H l xs ∧ SqL K H b zs ∧ xs.length + zs.length ≤ sizeLine ∧ ∀ p, H p = none → Q (.ref p) (upd H p (.lst (xs ++ zs)))
theorem op_catL {X : Cx} : OpR X (binaryOp .Add) (rCatL X.K) := by
  intro pins s σ H x y v u Q I rx ry h
  obtain ⟨l, b, xs, zs, rfl, rfl, hH, hB, hz, q⟩ := h
  cases rx
  cases ry
  obtain ⟨its, r, pl, _⟩ := I.list hH
  obtain ⟨its2, r2, pl2, _⟩ := I.list hB
  obtain ⟨⟨cls, dd, data, sl⟩, ho, hc, n, hd⟩ := pl.isList
  obtain ⟨⟨cls2, dd2, data2, sl2⟩, ho2, hc2, n2, hd2⟩ := pl2.isList
  simp only at hc hd hc2 hd2
  subst hc hd hc2 hd2
  have e : its.toArray ++ its2.toArray = (its ++ its2).toArray := by simp
  refine concat_meets ⟨_, ho, rfl⟩ ⟨_, ho2, rfl⟩ noFill_list_add seq_list_add PySem.F.slot_list_add PySem.F.entry_list_add (PySem.F.args_list_add_2 _ _) (list_addW l b its.toArray its2.toArray n n2 dd dd2 sl sl2 (by rw [List.size_toArray, List.size_toArray, ← r.length, ← r2.length]; exact hz)) ⟨ho, ho2, ?_⟩
  rw [e]
  exact ⟨.ref _, _, I.lnew (t' := s.toks) (r.append r2) (by rw [List.length_append]; omega), rfl, q _ I.fresh⟩

section
variable {K : PySem.W.Frag}
theorem szL {n : Nat} (h : Fits n) : n ≤ sizeLine := Nat.le_trans h (by decide)
theorem dp_int {F : Hp} {v : V} {i : Int} (h : Dp K F v (.int i)) : v = .int i := by cases h; rfl
theorem dp_bool {F : Hp} {v : V} {i : Bool} (h : Dp K F v (.bool i)) : v = .bl i := by cases h; rfl
theorem dp_str {F : Hp} {v : V} {x : Str} (h : Dp K F v (.str x)) : v = .str x := by cases h; rfl
theorem dp_list {F : Hp} {v : V} {ds : List PyData} (h : Dp K F v (.list ds)) : ∃ a xs, v = .ref a ∧ SqL K F a xs ∧ DpAll K F xs ds := by cases h with | lst hs ha => exact ⟨_, _, rfl, hs, ha⟩
theorem dp_tuple {F : Hp} {v : V} {ds : List PyData} (h : Dp K F v (.tuple ds)) : ∃ a xs, v = .ref a ∧ SqT K F a xs ∧ DpAll K F xs ds := by cases h with | tup hs ha => exact ⟨_, _, rfl, hs, ha⟩
theorem newL {F H : Hp} {p : Addr} {xs : List V} {ds : List PyData} (fh : Same F H) (hp : H p = none) (h : DpAll K F xs ds) : RepR K F H (upd H p (.lst xs)) (.ref p) (.own ds) := ⟨p, xs, rfl, fh.free hp, hp, upd_same, h⟩
theorem newT {F H : Hp} {p : Addr} {xs : List V} {ds : List PyData} (fh : Same F H) (hp : H p = none) (h : DpAll K F xs ds) : Grow F H (upd F p (.tup xs)) (upd H p (.tup xs)) ∧ RepR K (upd F p (.tup xs)) H (upd H p (.tup xs)) (.ref p) (.val (.tuple ds)) :=
  ⟨(Grow.new fh hp).frz hp (fh.free hp) upd_same, .tup (.inl (.inl upd_same)) (dpa_mono (same_upd (fh.free hp)) h)⟩

@[simp] noncomputable def gAdd : PyData → PyData → Option R
  | .int i, .int j => some (.val (.int (i + j)))
  | .str x, .str y => if Fits (x.length + y.length) then some (.val (.str (x ++ y))) else none
  | .list xs, .list ys => if Fits (xs.length + ys.length) then some (.own (xs ++ ys)) else none
  | .tuple (x :: xs), .tuple (y :: ys) => if Fits (xs.length + ys.length + 2) then some (.val (.tuple (x :: xs ++ y :: ys))) else none
  | .tuple (x :: xs), .tuple [] => if Fits (xs.length + 2) then some (.val (.tuple (x :: xs))) else none
  | _, _ => none
def rAddG (K : PySem.W.Frag) : R2 := fun x y H Q => (rI0 (fun i j => .int (i + j)) x y H Q ∨ (∃ i j, x = .str i ∧ y = .str j ∧ i.length + j.length ≤ sizeLine ∧ Q (.str (i ++ j)) H)) ∨ (rCatL K x y H Q ∨ rCatT K x y H Q)
theorem op_addG {X : Cx} : OpR X (binaryOp .Add) (rAddG X.K) := OpR.or (OpR.or op_add op_add_str) (OpR.or op_catL op_catT)
theorem rv_add : RVD K (rAddG K) gAdd := fun F H x y dx dy r fh d1 d2 e Q q => by
  unfold gAdd at e
  split at e
  · cases e
    rw [dp_int d1, dp_int d2]
    exact .inl (.inl ⟨_, _, rfl, rfl, q F H _ (Grow.refl fh) (.int _)⟩)
  · split at e
    · cases e
      rename_i hl
      rw [dp_str d1, dp_str d2]
      exact .inl (.inr ⟨_, _, rfl, rfl, szL hl, q F H _ (Grow.refl fh) (.str _)⟩)
    · cases e
  · split at e
    · cases e
      rename_i hl
      obtain ⟨a, xs, rfl, s1, a1⟩ := dp_list d1
      obtain ⟨b, ys, rfl, s2, a2⟩ := dp_list d2
      refine .inr (.inl ⟨a, b, xs, ys, rfl, rfl, sqL_mono fh s1, sqL_mono fh s2, by rw [DpAll.len a1, DpAll.len a2]; exact szL hl, fun p hp => ?_⟩)
      exact q F _ _ (Grow.new fh hp) (newL fh hp (DpAll.app a1 a2))
    · cases e
  · split at e
    · cases e
      rename_i hl
      obtain ⟨a, xs, rfl, s1, a1⟩ := dp_tuple d1
      obtain ⟨b, ys, rfl, s2, a2⟩ := dp_tuple d2
      have l1 := DpAll.len a1
      have l2 := DpAll.len a2
      rw [List.length_cons] at l1 l2
      refine .inr (.inr ⟨a, b, xs, ys, rfl, rfl, sqT_mono fh s1, sqT_mono fh s2, (fun z => by subst z; cases l1), by rw [l1, l2]; exact szL (show Fits _ from (by have h : _ ≤ 100000 := hl; show _ ≤ 100000; omega)), (fun z => by subst z; cases l2), fun _ p hp => ?_⟩)
      obtain ⟨g, rr⟩ := newT fh hp (DpAll.app a1 a2)
      exact q _ _ _ g rr
    · cases e
  · split at e
    · cases e
      rename_i hl
      obtain ⟨a, xs, rfl, s1, a1⟩ := dp_tuple d1
      obtain ⟨b, ys, rfl, s2, a2⟩ := dp_tuple d2
      have l1 := DpAll.len a1
      rw [List.length_cons] at l1
      cases a2
      refine .inr (.inr ⟨a, b, xs, [], rfl, rfl, sqT_mono fh s1, sqT_mono fh s2, (fun z => by subst z; cases l1), by rw [l1]; exact szL (show Fits _ from (by have h : _ ≤ 100000 := hl; show _ ≤ 100000; simp; omega)), fun _ => q F H _ (Grow.refl fh) (.tup s1 a1), fun z => absurd rfl z⟩)
    · cases e
  · cases e
@[simp] def gI (C : Int → Int → Prop) [∀ i j, Decidable (C i j)] (g : Int → Int → PyData) : PyData → PyData → Option R
  | .int i, .int j => if C i j then some (.val (g i j)) else none
  | _, _ => none
@[simp] def gI0 (g : Int → Int → PyData) : PyData → PyData → Option R
  | .int i, .int j => some (.val (g i j))
  | _, _ => none
theorem rv_I {C : Int → Int → Prop} [∀ i j, Decidable (C i j)] {g : Int → Int → PyData} {gv : Int → Int → V} (h : ∀ F i j, C i j → Dp K F (gv i j) (g i j)) : RVD K (rI C gv) (gI C g) := fun F H x y dx dy r fh d1 d2 e Q q => by
  unfold gI at e
  split at e
  · split at e
    · cases e
      rename_i hc
      rw [dp_int d1, dp_int d2]
      exact ⟨_, _, rfl, rfl, hc, q F H _ (Grow.refl fh) (h F _ _ hc)⟩
    · cases e
  · cases e
theorem rv_I0 {g : Int → Int → PyData} {gv : Int → Int → V} (h : ∀ F i j, Dp K F (gv i j) (g i j)) : RVD K (rI0 gv) (gI0 g) := fun F H x y dx dy r fh d1 d2 e Q q => by
  unfold gI0 at e
  split at e
  · cases e
    rw [dp_int d1, dp_int d2]
    exact ⟨_, _, rfl, rfl, q F H _ (Grow.refl fh) (h F _ _)⟩
  · cases e
def gSub := gI0 fun i j => .int (i - j)
noncomputable def gMul := gI MulOk fun i j => .int (i * j)
def FdOk (_ j : Int) : Prop := j ≠ 0 ∧ j.natAbs < divLim
noncomputable instance (i j : Int) : Decidable (FdOk i j) := Classical.propDecidable _
def NzOk (_ j : Int) : Prop := j ≠ 0
noncomputable instance (i j : Int) : Decidable (NzOk i j) := Classical.propDecidable _
noncomputable def gFdiv := gI FdOk fun i j => .int (i.fdiv j)
noncomputable def gMod := gI NzOk fun i j => .int (i.fmod j)
def PowOk (i j : Int) : Prop := 0 ≤ j ∧ j ≤ 1000000 ∧ i.natAbs < 2 ^ 64
noncomputable instance (i j : Int) : Decidable (PowOk i j) := Classical.propDecidable _
noncomputable def gPow := gI PowOk fun i j => .int (i ^ j.toNat)
def gLt := gI0 fun i j => .bool (decide (i < j))
def gLe := gI0 fun i j => .bool (decide (i ≤ j))
def gGt := gI0 fun i j => .bool (decide (j < i))
def gGe := gI0 fun i j => .bool (decide (j ≤ i))
section
variable {i j : Int}
@[simp] theorem gSub_int : gSub (.int i) (.int j) = some (.val (.int (i - j))) := rfl
@[simp] theorem gMul_int : gMul (.int i) (.int j) = if MulOk i j then some (.val (.int (i * j))) else none := rfl
@[simp] theorem gFdiv_int : gFdiv (.int i) (.int j) = if FdOk i j then some (.val (.int (i.fdiv j))) else none := rfl
@[simp] theorem gMod_int : gMod (.int i) (.int j) = if NzOk i j then some (.val (.int (i.fmod j))) else none := rfl
@[simp] theorem gPow_int : gPow (.int i) (.int j) = if PowOk i j then some (.val (.int (i ^ j.toNat))) else none := rfl
@[simp] theorem gLt_int : gLt (.int i) (.int j) = some (.val (.bool (decide (i < j)))) := rfl
@[simp] theorem gLe_int : gLe (.int i) (.int j) = some (.val (.bool (decide (i ≤ j)))) := rfl
@[simp] theorem gGt_int : gGt (.int i) (.int j) = some (.val (.bool (decide (j < i)))) := rfl
@[simp] theorem gGe_int : gGe (.int i) (.int j) = some (.val (.bool (decide (j ≤ i)))) := rfl
end
theorem rv_sub : RVD K (rI0 fun i j => .int (i - j)) gSub := rv_I0 fun _ _ _ => .int _
theorem rv_mul : RVD K (rI MulOk fun i j => .int (i * j)) gMul := rv_I fun _ _ _ _ => .int _
theorem rv_fdiv : RVD K (rI (fun _ j => j ≠ 0 ∧ j.natAbs < divLim) fun i j => .int (i.fdiv j)) gFdiv := rv_I (C := FdOk) fun _ _ _ _ => .int _
theorem rv_mod : RVD K (rI (fun _ j => j ≠ 0) fun i j => .int (i.fmod j)) gMod := rv_I (C := NzOk) fun _ _ _ _ => .int _
theorem rv_pow : RVD K (rI CPow fun i j => .int (i ^ j.toNat)) gPow := rv_I (C := PowOk) fun _ _ _ _ => .int _
theorem rv_lt : RVD K (rI0 fun i j => .bl (decide (i < j))) gLt := rv_I0 fun _ _ _ => .bl _
theorem rv_le : RVD K (rI0 fun i j => .bl (decide (i ≤ j))) gLe := rv_I0 fun _ _ _ => .bl _
theorem rv_gt : RVD K (rI0 fun i j => .bl (decide (j < i))) gGt := rv_I0 fun _ _ _ => .bl _
theorem rv_ge : RVD K (rI0 fun i j => .bl (decide (j ≤ i))) gGe := rv_I0 fun _ _ _ => .bl _
@[simp] def gNeg : PyData → Option R
  | .int i => some (.val (.int (-i)))
  | _ => none
theorem ru_neg : RUD K (rU fun i => .int (-i)) gNeg := fun F H x dx r fh d1 e Q q => by
  unfold gNeg at e
  split at e
  · cases e
    rw [dp_int d1]
    exact ⟨_, rfl, q F H _ (Grow.refl fh) (.int _)⟩
  · cases e
/-- == and != of data -/
def Shp (d : PyData) : Prop := SeqAt.shaped d = true
noncomputable instance (d : PyData) : Decidable (Shp d) := Classical.propDecidable _
noncomputable def gEq : PyData → PyData → Option R := fun d e => if Shp d ∧ Shp e then some (.val (.bool (PyData.eqv d e))) else none
noncomputable def gNe : PyData → PyData → Option R := fun d e => if Shp d ∧ Shp e then some (.val (.bool (!PyData.eqv d e))) else none
theorem rv_eq : RVD K (rEqD K) gEq := fun F H x y dx dy r fh d1 d2 e Q q => by
  unfold gEq at e
  split at e
  · cases e
    rename_i h
    exact ⟨dx, dy, dp_mono fh d1, dp_mono fh d2, h.1, h.2, q F H _ (Grow.refl fh) (.bl _)⟩
  · cases e
theorem rv_ne : RVD K (rNeD K) gNe := fun F H x y dx dy r fh d1 d2 e Q q => by
  unfold gNe at e
  split at e
  · cases e
    rename_i h
    exact ⟨dx, dy, dp_mono fh d1, dp_mono fh d2, h.1, h.2, q F H _ (Grow.refl fh) (.bl _)⟩
  · cases e
/-- in, not in -/
def memD (d : PyData) (ds : List PyData) : Bool := ds.any fun z => PyData.eqv z d
/-- subscripts -/
@[simp] noncomputable def gIx : PyData → PyData → Option R
  | .list ds, .int k => (atI ds k).bind fun d => some (.val d)
  | .tuple ds, .int k => (atI ds k).bind fun d => some (.val d)
  | .str z, .int k => if Fits (z.length) then (atI z.cps.toList k).bind fun c => some (.val (.str ⟨#[c]⟩)) else none
  | _, _ => none
theorem DpAll.at {F : Hp} {xs : List V} {ds : List PyData} {k : Int} {d : PyData} (h : DpAll K F xs ds) (e : atI ds k = some d) : ∃ v, atI xs k = some v ∧ Dp K F v d := by
  unfold atI at e ⊢
  rw [DpAll.len h]
  cases q : ixN ds.length k with
  | none => rw [q] at e; cases e
  | some j =>
    rw [q] at e
    exact DpAll.get h e
theorem rv_ix : RVD K (rIx K) gIx := fun F H x y dx dy r fh d1 d2 e Q q => by
  unfold gIx at e
  split at e
  · obtain ⟨d, ed, e⟩ := bnd e
    cases e
    obtain ⟨a, xs, rfl, s1, a1⟩ := dp_list d1
    rw [dp_int d2]
    obtain ⟨v, ev, dv⟩ := DpAll.at a1 ed
    exact .inl ⟨a, xs, _, v, rfl, rfl, sqL_mono fh s1, ev, q F H _ (Grow.refl fh) dv⟩
  · obtain ⟨d, ed, e⟩ := bnd e
    cases e
    obtain ⟨a, xs, rfl, s1, a1⟩ := dp_tuple d1
    rw [dp_int d2]
    obtain ⟨v, ev, dv⟩ := DpAll.at a1 ed
    exact .inr (.inl ⟨a, xs, _, v, rfl, rfl, sqT_mono fh s1, ev, q F H _ (Grow.refl fh) dv⟩)
  · split at e
    · rename_i hl
      obtain ⟨c, ec, e⟩ := bnd e
      cases e
      rw [dp_str d1, dp_int d2]
      exact .inr (.inr ⟨_, _, c, rfl, rfl, szL hl, ec, q F H _ (Grow.refl fh) (.str _)⟩)
    · cases e
  · cases e
/-- an item of an owned list -/
@[simp] def eIxO (i : Nat) (fk : EF) : EF := fun env => match env[i]? with
  | some (.own ds) => (fk env).bind fun k => match k.frz with
    | .int k => (atI ds k).bind fun d => some (.val d)
    | _ => none
  | _ => none
theorem de_ixO {i : Nat} {tk : TE} {fk : EF} (hk : DE K tk fk) : DE K (tOp (rIx K) (tVar i) tk) (eIxO i fk) := fun B F H σ env r S fh bh e Q q => by
  unfold eIxO at e
  split at e
  · rename_i ds hd
    obtain ⟨k, ek, e⟩ := bnd e
    split at e
    · rename_i k' hk'
      obtain ⟨d, ed, e⟩ := bnd e
      cases e
      obtain ⟨p, xs, h1, h0, h2, h3, h4⟩ := S.own hd
      refine ⟨_, h1, hk.z S fh bh ek fun F1 H1 y g1 dy => ?_⟩
      rw [hk'] at dy
      rw [dp_int dy]
      obtain ⟨v, ev, dv⟩ := DpAll.at h4 ed
      exact .inl ⟨p, xs, _, v, rfl, rfl, .inl (.inl (g1.h _ _ h3)), ev, q F1 H1 _ g1 (dp_mono g1.f dv)⟩
    · cases e
  · cases e

/-! ### calls of built-ins by values -/
@[simp] noncomputable def gLen : List PyData → Option R
  | [.list ds] => some (.val (.int ds.length))
  | [.tuple ds] => some (.val (.int ds.length))
  | [.str z] => if Fits (z.length) then some (.val (.int z.length)) else none
  | _ => none
theorem dpa1 {F : Hp} {vs : List V} {d : PyData} (h : DpAll K F vs [d]) : ∃ v, vs = [v] ∧ Dp K F v d := by
  cases h with
  | cons h t => cases t; exact ⟨_, rfl, h⟩
theorem dpa2 {F : Hp} {vs : List V} {d e : PyData} (h : DpAll K F vs [d, e]) : ∃ v w, vs = [v, w] ∧ Dp K F v d ∧ Dp K F w e := by
  cases h with
  | cons h t =>
    obtain ⟨w, rfl, h2⟩ := dpa1 t
    exact ⟨_, w, rfl, h, h2⟩
theorem rc_len : RCD K (fun xs H Q => ∃ x n, xs = [x] ∧ LenV K x H n ∧ Q (.int n) H) gLen := fun F H vs ds r fh h e Q q => by
  unfold gLen at e
  split at e
  · cases e
    obtain ⟨v, rfl, d⟩ := dpa1 h
    obtain ⟨a, xs, rfl, s1, a1⟩ := dp_list d
    exact ⟨_, xs.length, rfl, .inl ⟨xs, sqL_mono fh s1, rfl⟩, by rw [DpAll.len a1]; exact q F H _ (Grow.refl fh) (.int _)⟩
  · cases e
    obtain ⟨v, rfl, d⟩ := dpa1 h
    obtain ⟨a, xs, rfl, s1, a1⟩ := dp_tuple d
    exact ⟨_, xs.length, rfl, .inr ⟨xs, sqT_mono fh s1, rfl⟩, by rw [DpAll.len a1]; exact q F H _ (Grow.refl fh) (.int _)⟩
  · split at e
    · cases e
      rename_i hl
      obtain ⟨v, rfl, d⟩ := dpa1 h
      rw [dp_str d]
      exact ⟨_, _, rfl, ⟨szL hl, rfl⟩, q F H _ (Grow.refl fh) (.int _)⟩
    · cases e
  · cases e
@[simp] def gAbs : List PyData → Option R
  | [.int i] => some (.val (.int (if i < 0 then -i else i)))
  | _ => none
theorem rc_abs : RCD K (fun xs H Q => ∃ i, xs = [.int i] ∧ Q (.int (if i < 0 then -i else i)) H) gAbs := fun F H vs ds r fh h e Q q => by
  unfold gAbs at e
  split at e
  · cases e
    obtain ⟨v, rfl, d⟩ := dpa1 h
    rw [dp_int d]
    exact ⟨_, rfl, q F H _ (Grow.refl fh) (.int _)⟩
  · cases e
@[simp] def gInt : List PyData → Option R
  | [.int i] => some (.val (.int i))
  | [.bool b] => some (.val (.int (if b then 1 else 0)))
  | _ => none
theorem rc_int : RCD K (fun xs H Q => (∃ i, xs = [.int i] ∧ Q (.int i) H) ∨ ∃ k, xs = [.bl k] ∧ Q (.int (if k then 1 else 0)) H) gInt := fun F H vs ds r fh h e Q q => by
  unfold gInt at e
  split at e
  · cases e
    obtain ⟨v, rfl, d⟩ := dpa1 h
    rw [dp_int d]
    exact .inl ⟨_, rfl, q F H _ (Grow.refl fh) (.int _)⟩
  · cases e
    obtain ⟨v, rfl, d⟩ := dpa1 h
    rw [dp_bool d]
    exact .inr ⟨_, rfl, q F H _ (Grow.refl fh) (.int _)⟩
  · cases e
def StrOk (i : Int) : Prop := i.natAbs < 2 ^ 1000
noncomputable instance (i : Int) : Decidable (StrOk i) := Classical.propDecidable _
noncomputable def gStr : List PyData → Option R
  | [.int i] => if StrOk i then some (.val (.str (toString i))) else none
  | _ => none
theorem rc_str : RCD K (fun xs H Q => ∃ i, xs = [.int i] ∧ i.natAbs.log2 < 1920 ∧ Q (.str (toString i)) H) gStr := fun F H vs ds r fh h e Q q => by
  unfold gStr at e
  split at e
  · split at e
    · cases e
      rename_i i hl
      obtain ⟨v, rfl, d⟩ := dpa1 h
      rw [dp_int d]
      exact ⟨_, rfl, Nat.lt_of_lt_of_le (PySem.Flt.log2_lt_of (by decide : 0 < 1000) (show i.natAbs < 2 ^ 1000 from hl)) (by decide), q F H _ (Grow.refl fh) (.str _)⟩
    · cases e
  · cases e
@[simp] def gGcd : List PyData → Option R
  | [.int a, .int b] => some (.val (.int (Nat.gcd a.natAbs b.natAbs : Nat)))
  | _ => none
theorem rc_gcd : RCD K rGcd gGcd := fun F H vs ds r fh h e Q q => by
  unfold gGcd at e
  split at e
  · cases e
    obtain ⟨v, w, rfl, d1, d2⟩ := dpa2 h
    rw [dp_int d1, dp_int d2]
    exact ⟨_, _, rfl, q F H _ (Grow.refl fh) (.int _)⟩
  · cases e
def boolsD : List PyData → Option (List Bool)
  | [] => some []
  | .bool b :: r => (boolsD r).bind fun bs => some (b :: bs)
  | _ :: _ => none
def intsD : List PyData → Option (List Int)
  | [] => some []
  | .int b :: r => (intsD r).bind fun bs => some (b :: bs)
  | _ :: _ => none
theorem boolsD_ok {F : Hp} : ∀ {ds : List PyData} {xs : List V} {bs : List Bool}, DpAll K F xs ds → boolsD ds = some bs → xs = bs.map V.bl
  | [], _, _, .nil, e => by cases e; rfl
  | d :: ds, _, _, .cons h t, e => by
    cases d with
    | bool b =>
      obtain ⟨cs, ec, e⟩ := bnd (show (boolsD ds).bind _ = _ from e)
      cases e
      rw [dp_bool h, boolsD_ok t ec]
      rfl
    | none => cases e
    | int _ => cases e
    | str _ => cases e
    | list _ => cases e
    | tuple _ => cases e
    | dict _ => cases e
theorem intsD_ok {F : Hp} : ∀ {ds : List PyData} {xs : List V} {bs : List Int}, DpAll K F xs ds → intsD ds = some bs → xs = bs.map V.int
  | [], _, _, .nil, e => by cases e; rfl
  | d :: ds, _, _, .cons h t, e => by
    cases d with
    | int b =>
      obtain ⟨cs, ec, e⟩ := bnd (show (intsD ds).bind _ = _ from e)
      cases e
      rw [dp_int h, intsD_ok t ec]
      rfl
    | none => cases e
    | bool _ => cases e
    | str _ => cases e
    | list _ => cases e
    | tuple _ => cases e
    | dict _ => cases e
theorem boolsD_map (bs : List Bool) : boolsD (bs.map PyData.bool) = some bs := by
  induction bs with
  | nil => rfl
  | cons b r ih => show (boolsD (r.map PyData.bool)).bind _ = _; rw [ih]; rfl
theorem intsD_map (bs : List Int) : intsD (bs.map PyData.int) = some bs := by
  induction bs with
  | nil => rfl
  | cons b r ih => show (intsD (r.map PyData.int)).bind _ = _; rw [ih]; rfl
@[simp] def gAll : List PyData → Option R
  | [.list ds] => (boolsD ds).bind fun bs => some (.val (.bool (bs.all id)))
  | _ => none
@[simp] def gAny : List PyData → Option R
  | [.list ds] => (boolsD ds).bind fun bs => some (.val (.bool (bs.any id)))
  | _ => none
@[simp] def gSum : List PyData → Option R
  | [.list ds] => (intsD ds).bind fun bs => some (.val (.int bs.sum))
  | _ => none
theorem rc_all : RCD K (rAll K) gAll := fun F H vs ds r fh h e Q q => by
  unfold gAll at e
  split at e
  · obtain ⟨bs, eb, e⟩ := bnd e
    cases e
    obtain ⟨v, rfl, d⟩ := dpa1 h
    obtain ⟨a, xs, rfl, s1, a1⟩ := dp_list d
    rw [boolsD_ok a1 eb] at s1
    exact ⟨a, bs, rfl, sqL_mono fh s1, q F H _ (Grow.refl fh) (.bl _)⟩
  · cases e
theorem rc_any : RCD K (rAny K) gAny := fun F H vs ds r fh h e Q q => by
  unfold gAny at e
  split at e
  · obtain ⟨bs, eb, e⟩ := bnd e
    cases e
    obtain ⟨v, rfl, d⟩ := dpa1 h
    obtain ⟨a, xs, rfl, s1, a1⟩ := dp_list d
    rw [boolsD_ok a1 eb] at s1
    exact ⟨a, bs, rfl, sqL_mono fh s1, q F H _ (Grow.refl fh) (.bl _)⟩
  · cases e
theorem rc_sum : RCD K (rSum K) gSum := fun F H vs ds r fh h e Q q => by
  unfold gSum at e
  split at e
  · obtain ⟨bs, eb, e⟩ := bnd e
    cases e
    obtain ⟨v, rfl, d⟩ := dpa1 h
    obtain ⟨a, xs, rfl, s1, a1⟩ := dp_list d
    rw [intsD_ok a1 eb] at s1
    exact ⟨a, bs, rfl, sqL_mono fh s1, q F H _ (Grow.refl fh) (.int _)⟩
  · cases e
@[simp] def gList : List PyData → Option R
  | [.list ds] => some (.own ds)
  | [.tuple ds] => some (.own ds)
  | _ => none
theorem rc_list : RCD K (fun xs H Q => ∃ p ys, xs = [.ref p] ∧ (SqL K H p ys ∨ SqT K H p ys) ∧ ∀ l, H l = none → Q (.ref l) (upd H l (.lst ys))) gList := fun F H vs ds r fh h e Q q => by
  unfold gList at e
  split at e
  · cases e
    obtain ⟨v, rfl, d⟩ := dpa1 h
    obtain ⟨a, xs, rfl, s1, a1⟩ := dp_list d
    exact ⟨a, xs, rfl, .inl (sqL_mono fh s1), fun l hl => q F _ _ (Grow.new fh hl) (newL fh hl a1)⟩
  · cases e
    obtain ⟨v, rfl, d⟩ := dpa1 h
    obtain ⟨a, xs, rfl, s1, a1⟩ := dp_tuple d
    exact ⟨a, xs, rfl, .inr (sqT_mono fh s1), fun l hl => q F _ _ (Grow.new fh hl) (newL fh hl a1)⟩
  · cases e
/-! isinstance -/
@[simp] def tyD : PyData → String
  | .none => "NoneType"
  | .bool _ => "bool"
  | .int _ => "int"
  | .str _ => "str"
  | .list _ => "list"
  | .tuple _ => "tuple"
  | .dict _ => "dict"
theorem dp_ty {F : Hp} {v : V} {d : PyData} (h : Dp K F v d) : TyX K F v (.type (tyD d)) := by
  cases h with
  | non => exact .base .non
  | bl b => exact .base (.bl b)
  | int i => exact .base (.int i)
  | str x => exact .base (.str x)
  | lst hs _ =>
    rcases hs with (h | ⟨o, h⟩) | ⟨o, its, n, h, c, _⟩
    · exact .base (.lst h)
    · exact .base (.frz h)
    · exact .kList h c
  | tup hs _ =>
    rcases hs with (h | ⟨o, h⟩) | ⟨o, its, n, h, c, _⟩
    · exact .base (.tup h)
    · exact .fTuple h
    · exact .kTuple h c
@[simp] def isiS (T t : String) : Bool := t == T || (T == "int" && t == "bool")
@[simp] def isi (T : String) : PyData → Bool := fun d => isiS T (tyD d)
theorem kit_all : (["int", "bool", "str", "tuple", "list"].all fun T => ["NoneType", "bool", "int", "str", "list", "tuple", "dict"].all fun t => kitB t T == some (isiS T t)) = true := by decide +kernel
theorem tyD_mem (d : PyData) : tyD d ∈ ["NoneType", "bool", "int", "str", "list", "tuple", "dict"] := by cases d <;> simp [tyD]
theorem kit_isi {d : PyData} {T : String} (hT : T ∈ ["int", "bool", "str", "tuple", "list"]) : PySem.W.kitOne K (.type (tyD d)) (.type T) = some (isi T d) := by
  have h := List.all_eq_true.mp (List.all_eq_true.mp kit_all T hT) (tyD d) (tyD_mem d)
  exact kit_ty (by simpa [isi] using h)
/-- slices -/
def sxD (ds : List PyData) (lo hi : Option Int) : List PyData := (ds.drop (HT.sIx ds.length 0 lo)).take (HT.sIx ds.length ds.length hi - HT.sIx ds.length 0 lo)
theorem DpAll.cut {F : Hp} {xs : List V} {ds : List PyData} (lo hi : Option Int) (h : DpAll K F xs ds) : DpAll K F (cutV xs lo hi) (sxD ds lo hi) := by
  unfold cutV sxD
  rw [DpAll.len h]
  exact DpAll.take _ (DpAll.drop _ h)
abbrev OF := En → Option (Option Int)
def DO (K : PySem.W.Frag) (to : TO) (f : OF) : Prop := ∀ (B F H : Hp) (σ : L2.St) (env : En) (o : Option Int), Slots K B F H σ env → Same F H → Same B H → f env = some o →
  ∀ Q : Option Int → Hp → Prop, (∀ F' H', Grow F H F' H' → Q o H') → to σ H Q
@[simp] def oNone : OF := fun _ => some none
@[simp] def oSome (f : EF) : OF := fun env => (f env).bind fun r => match r.frz with
  | .int i => some (some i)
  | _ => none
theorem do_none : DO K tNoPart oNone := fun B F H σ env o S fh bh e Q q => by
  cases e
  exact q F H (Grow.refl fh)
theorem do_some {te : TE} {f : EF} (h : DE K te f) : DO K (tPart te) (oSome f) := fun B F H σ env o S fh bh e Q q => by
  obtain ⟨r, er, e⟩ := bnd e
  split at e
  · rename_i i hi
    cases e
    refine h.z S fh bh er fun F1 H1 v g d => ?_
    rw [hi] at d
    rw [dp_int d]
    exact ⟨i, rfl, q F1 H1 g⟩
  · cases e
/-- a slice of a list; of a tuple -/
@[simp] def eSl (f : EF) (lo hi : OF) : EF := fun env => (f env).bind fun r => (lo env).bind fun a => (hi env).bind fun b => match r.frz with
  | .list ds => some (.own (sxD ds a b))
  | _ => none
@[simp] def eSlO (i : Nat) (lo hi : OF) : EF := fun env => match env[i]? with
  | some (.own ds) => (lo env).bind fun a => (hi env).bind fun b => some (.own (sxD ds a b))
  | _ => none
theorem de_sl {te : TE} {f : EF} {tl th : TO} {lo hi : OF} (h : DE K te f) (hl : DO K tl lo) (hh : DO K th hi) : DE K (tSl (rSlL K) te tl th) (eSl f lo hi) := fun B F H σ env r S fh bh e Q q => by
  obtain ⟨r0, er, e⟩ := bnd e
  obtain ⟨a, ea, e⟩ := bnd e
  obtain ⟨b, eb, e⟩ := bnd e
  split at e
  · rename_i ds hd
    cases e
    refine h.z S fh bh er fun F1 H1 v g1 d => ?_
    rw [hd] at d
    obtain ⟨p, xs, rfl, s1, a1⟩ := dp_list d
    refine hl B F1 H1 σ env a (S.grow g1) g1.i (bh.trans g1.h) ea _ fun F2 H2 g2 => ?_
    have g12 := g1.trans g2
    refine hh B F2 H2 σ env b (S.grow g12) g12.i (bh.trans g12.h) eb _ fun F3 H3 g3 => ?_
    have g13 := g12.trans g3
    have s3 : SqL K F3 p xs := sqL_mono (g2.f.trans g3.f) s1
    refine ⟨p, xs, rfl, sqL_mono g3.i s3, fun c hc => q F3 _ _ (g13.trans (Grow.new g3.i hc)) ?_⟩
    exact (newL g3.i hc (DpAll.cut a b (dpa_mono (g2.f.trans g3.f) a1))).back g13
  · cases e
theorem de_slO {i : Nat} {tl th : TO} {lo hi : OF} (hl : DO K tl lo) (hh : DO K th hi) : DE K (tSl (rSlL K) (tVar i) tl th) (eSlO i lo hi) := fun B F H σ env r S fh bh e Q q => by
  unfold eSlO at e
  split at e
  · rename_i ds hd
    obtain ⟨a, ea, e⟩ := bnd e
    obtain ⟨b, eb, e⟩ := bnd e
    cases e
    obtain ⟨p, xs, h1, h0, h2, h3, h4⟩ := S.own hd
    refine ⟨_, h1, ?_⟩
    refine hl B F H σ env a S fh bh ea _ fun F2 H2 g2 => ?_
    refine hh B F2 H2 σ env b (S.grow g2) g2.i (bh.trans g2.h) eb _ fun F3 H3 g3 => ?_
    have g13 := g2.trans g3
    refine ⟨p, xs, rfl, .inl (.inl (g13.h _ _ h3)), fun c hc => q F3 _ _ (g13.trans (Grow.new g3.i hc)) ?_⟩
    exact (newL g3.i hc (DpAll.cut a b (dpa_mono g13.f h4))).back g13
  · cases e
/-- in, not in a list -/
@[simp] noncomputable def gIn : PyData → PyData → Option R := fun d y => match y with
  | .list ds => if Shp d ∧ Shp (.list ds) then some (.val (.bool (memD d ds))) else none
  | _ => none
@[simp] noncomputable def gNotIn : PyData → PyData → Option R := fun d y => match y with
  | .list ds => if Shp d ∧ Shp (.list ds) then some (.val (.bool (!memD d ds))) else none
  | _ => none
theorem rv_in : RVD K (rInD K) gIn := fun F H x y dx dy r fh d1 d2 e Q q => by
  unfold gIn at e
  split at e
  · split at e
    · rename_i hh
      cases e
      exact ⟨dx, _, dp_mono fh d1, dp_mono fh d2, hh.1, hh.2, q F H _ (Grow.refl fh) (.bl _)⟩
    · cases e
  · cases e
theorem rv_notIn : RVD K (rNotInD K) gNotIn := fun F H x y dx dy r fh d1 d2 e Q q => by
  unfold gNotIn at e
  split at e
  · split at e
    · rename_i hh
      cases e
      exact ⟨dx, _, dp_mono fh d1, dp_mono fh d2, hh.1, hh.2, q F H _ (Grow.refl fh) (.bl _)⟩
    · cases e
  · cases e
end
end Dn
namespace Dn
open PySem PySem.Spec PyProof.Rows L2
section
variable {X : Cx} {e a b c o i : Expr} {es : List Expr} {pos p apos : Pos} {te ta tb tc : TE} {t : TA} {tt tu : TT} {f g h : EF} {af : AF} {u v : TF} {x y : Str}

theorem sv (i : Nat) {x : Str} {pos : Pos} (hN : X.N[i]? = some x := by rfl) (hv : Vis X.env.scope x := by first | exact Or.inl rfl | exact Or.inr (Or.inl rfl) | exact Or.inr (Or.inr rfl)) (hd : (x == ("__debug__" : Str)) = false := by decide)
    (hcd : (x == ("__classdict__" : Str)) = false := by decide) : SE X (.Name x pos) (tVar i) (eVar i) := ⟨pe_var hN hv hd hcd, de_var⟩
/-- x is True -/
@[simp] def gIsB : PyData → PyData → Option R
  | .bool a, .bool b => some (.val (.bool (decide (a = b))))
  | _, _ => none
theorem rv_isB {K : PySem.W.Frag} : RVD K rIsB gIsB := fun F H x y dx dy r fh d1 d2 e Q q => by
  unfold gIsB at e
  split at e
  · cases e
    rw [dp_bool d1, dp_bool d2]
    exact ⟨_, _, rfl, rfl, q F H _ (Grow.refl fh) (.bl _)⟩
  · cases e
theorem se_isB (h1 : SE X a ta f) (h2 : SE X b tb g) : SE X (.Compare a [.Is] [b] pos) (tOp rIsB ta tb) (eBin gIsB f g) := ⟨pe_cmpR op_isBl h1.pe h2.pe (nomark _), de_bin rv_isB h1.de h2.de⟩
/-- a name whose slot holds an owned list: PE alone -/
theorem ov (i : Nat) {x : Str} {pos : Pos} (hN : X.N[i]? = some x := by rfl) (hv : Vis X.env.scope x := by first | exact Or.inl rfl | exact Or.inr (Or.inl rfl) | exact Or.inr (Or.inr rfl)) (hd : (x == ("__debug__" : Str)) = false := by decide)
    (hcd : (x == ("__classdict__" : Str)) = false := by decide) : PE X (.Name x pos) (tVar i) := pe_var hN hv hd hcd
theorem se_int {i j pos} : SE X (.Constant (.int i) j pos) (tC (.int i)) (eC (.int i)) := ⟨pe_int, de_c fun _ => .int _⟩
theorem se_bl {b j pos} : SE X (.Constant (.bool b) j pos) (tC (.bl b)) (eC (.bool b)) := ⟨pe_bl, de_c fun _ => .bl _⟩
theorem se_non {j pos} : SE X (.Constant .none j pos) (tC .non) (eC .none) := ⟨pe_non, de_c fun _ => .non⟩
theorem se_str {x j pos} : SE X (.Constant (.str x) j pos) (tC (.str x)) (eC (.str x)) := ⟨pe_str, de_c fun _ => .str _⟩
/-- a constant of the module -/
theorem se_glob {v : V} {w : Value} {d : PyData} (hg : Gl X x) (hm : X.mg x = some w) (r : RelV v w) (hd : ∀ F, Dp X.K F v d) (hdb : (x == ("__debug__" : Str)) = false := by decide) : SE X (.Name x pos) (tC v) (eC d) := ⟨pe_glob hg hm r hdb, de_c hd⟩
theorem se_add {K : PySem.W.Frag} (h1 : SE X a ta f) (h2 : SE X b tb g) (hK : X.K = K := by rfl) : SE X (.BinOp a .Add b pos) (tOp (rAddG K) ta tb) (eBin gAdd f g) := by
  subst hK
  exact ⟨pe_op op_addG h1.pe h2.pe, de_bin rv_add h1.de h2.de⟩
theorem se_sub (h1 : SE X a ta f) (h2 : SE X b tb g) : SE X (.BinOp a .Sub b pos) (tOp (rI0 fun i j => .int (i - j)) ta tb) (eBin gSub f g) := ⟨pe_op op_sub h1.pe h2.pe, de_bin rv_sub h1.de h2.de⟩
theorem se_mul (h1 : SE X a ta f) (h2 : SE X b tb g) : SE X (.BinOp a .Mult b pos) (tOp (rI MulOk fun i j => .int (i * j)) ta tb) (eBin gMul f g) := ⟨pe_op op_mulG h1.pe h2.pe, de_bin rv_mul h1.de h2.de⟩
theorem se_fdiv (h1 : SE X a ta f) (h2 : SE X b tb g) : SE X (.BinOp a .FloorDiv b pos) (tOp (rI (fun _ j => j ≠ 0 ∧ j.natAbs < divLim) fun i j => .int (i.fdiv j)) ta tb) (eBin gFdiv f g) := ⟨pe_op op_fdivG h1.pe h2.pe, de_bin rv_fdiv h1.de h2.de⟩
theorem se_mod (h1 : SE X a ta f) (h2 : SE X b tb g) : SE X (.BinOp a .Mod b pos) (tOp (rI (fun _ j => j ≠ 0) fun i j => .int (i.fmod j)) ta tb) (eBin gMod f g) := ⟨pe_op op_modN h1.pe h2.pe, de_bin rv_mod h1.de h2.de⟩
theorem se_pow (h1 : SE X a ta f) (h2 : SE X b tb g) : SE X (.BinOp a .Pow b pos) (tOp (rI CPow fun i j => .int (i ^ j.toNat)) ta tb) (eBin gPow f g) := ⟨pe_op op_pow h1.pe h2.pe, de_bin rv_pow h1.de h2.de⟩
theorem se_neg (h1 : SE X a ta f) : SE X (.UnaryOp .USub a pos) (tUn (rU fun i => .int (-i)) ta) (eUn gNeg f) := ⟨pe_un un_neg h1.pe, de_un ru_neg h1.de⟩
theorem se_lt (h1 : SE X a ta f) (h2 : SE X b tb g) : SE X (.Compare a [.Lt] [b] pos) (tOp (rI0 fun i j => .bl (decide (i < j))) ta tb) (eBin gLt f g) := ⟨pe_cmpR op_lt h1.pe h2.pe (nomark _), de_bin rv_lt h1.de h2.de⟩
theorem se_le (h1 : SE X a ta f) (h2 : SE X b tb g) : SE X (.Compare a [.LtE] [b] pos) (tOp (rI0 fun i j => .bl (decide (i ≤ j))) ta tb) (eBin gLe f g) := ⟨pe_cmpR op_le h1.pe h2.pe (nomark _), de_bin rv_le h1.de h2.de⟩
theorem se_gt (h1 : SE X a ta f) (h2 : SE X b tb g) : SE X (.Compare a [.Gt] [b] pos) (tOp (rI0 fun i j => .bl (decide (j < i))) ta tb) (eBin gGt f g) := ⟨pe_cmpR op_gt h1.pe h2.pe (nomark _), de_bin rv_gt h1.de h2.de⟩
theorem se_ge (h1 : SE X a ta f) (h2 : SE X b tb g) : SE X (.Compare a [.GtE] [b] pos) (tOp (rI0 fun i j => .bl (decide (j ≤ i))) ta tb) (eBin gGe f g) := ⟨pe_cmpR op_ge h1.pe h2.pe (nomark _), de_bin rv_ge h1.de h2.de⟩
theorem se_eq {K : PySem.W.Frag} (hu : X.A.units + 64 < cLine) (h1 : SE X a ta f) (h2 : SE X b tb g) (hK : X.K = K := by rfl) : SE X (.Compare a [.Eq] [b] pos) (tOp (rEqD K) ta tb) (eBin gEq f g) := by
  subst hK
  exact ⟨pe_cmpR (op_eqD hu) h1.pe h2.pe (nomark _), de_bin rv_eq h1.de h2.de⟩
theorem se_ne {K : PySem.W.Frag} (hu : X.A.units + 64 < cLine) (h1 : SE X a ta f) (h2 : SE X b tb g) (hK : X.K = K := by rfl) : SE X (.Compare a [.NotEq] [b] pos) (tOp (rNeD K) ta tb) (eBin gNe f g) := by
  subst hK
  exact ⟨pe_cmpR (op_neD hu) h1.pe h2.pe (nomark _), de_bin rv_ne h1.de h2.de⟩
theorem se_in {K : PySem.W.Frag} (hu : X.A.units + 65 < cLine) (h1 : SE X a ta f) (h2 : SE X b tb g) (hm : behindInMarks .In b = false := by rfl) (hK : X.K = K := by rfl) : SE X (.Compare a [.In] [b] pos) (tOp (rInD K) ta tb) (eBin gIn f g) := by
  subst hK
  exact ⟨pe_cmpR (op_inD hu) h1.pe h2.pe hm, de_bin rv_in h1.de h2.de⟩
theorem se_notIn {K : PySem.W.Frag} (hu : X.A.units + 65 < cLine) (h1 : SE X a ta f) (h2 : SE X b tb g) (hm : behindInMarks .NotIn b = false := by rfl) (hK : X.K = K := by rfl) : SE X (.Compare a [.NotIn] [b] pos) (tOp (rNotInD K) ta tb) (eBin gNotIn f g) := by
  subst hK
  exact ⟨pe_cmpR (op_notInD hu) h1.pe h2.pe hm, de_bin rv_notIn h1.de h2.de⟩
/-- x is None -/
@[simp] def isNone : PyData → Bool
  | .none => true
  | _ => false
@[simp] def gIsN : PyData → PyData → Option R := fun d e => match e with
  | .none => some (.val (.bool (isNone d)))
  | _ => none
@[simp] def gNotN : PyData → PyData → Option R := fun d e => match e with
  | .none => some (.val (.bool (!isNone d)))
  | _ => none
theorem dp_isN {K : PySem.W.Frag} {F : Hp} {v : V} {d : PyData} (h : Dp K F v d) : decide (v = .non) = isNone d := by cases h <;> rfl
theorem rv_isN {K : PySem.W.Frag} : RVD K (fun x y H Q => y = .non ∧ Q (.bl (decide (x = .non))) H) gIsN := fun F H x y dx dy r fh d1 d2 e Q q => by
  unfold gIsN at e
  split at e
  · cases e
    cases d2
    refine ⟨rfl, q F H _ (Grow.refl fh) ?_⟩
    rw [dp_isN d1]
    cases dx <;> exact .bl _
  · cases e
theorem rv_notN {K : PySem.W.Frag} : RVD K (fun x y H Q => y = .non ∧ Q (.bl (!decide (x = .non))) H) gNotN := fun F H x y dx dy r fh d1 d2 e Q q => by
  unfold gNotN at e
  split at e
  · cases e
    cases d2
    refine ⟨rfl, q F H _ (Grow.refl fh) ?_⟩
    rw [dp_isN d1]
    cases dx <;> exact .bl _
  · cases e
theorem se_isN (h1 : SE X a ta f) {j pos'} : SE X (.Compare a [.Is] [.Constant .none j pos'] pos) (tOp (fun x y H Q => y = .non ∧ Q (.bl (decide (x = .non))) H) ta (tC .non)) (eBin gIsN f (eC .none)) := ⟨pe_cmpR op_isN h1.pe pe_non (nomark _), de_bin rv_isN h1.de (de_c fun _ => .non)⟩
theorem se_notN (h1 : SE X a ta f) {j pos'} : SE X (.Compare a [.IsNot] [.Constant .none j pos'] pos) (tOp (fun x y H Q => y = .non ∧ Q (.bl (!decide (x = .non))) H) ta (tC .non)) (eBin gNotN f (eC .none)) := ⟨pe_cmpR op_notN h1.pe pe_non (nomark _), de_bin rv_notN h1.de (de_c fun _ => .non)⟩
theorem se_ix {K : PySem.W.Frag} (h1 : SE X a ta f) (h2 : SE X b tb g) (hs : PlainIx b := by exact fun _ _ => rfl) (hK : X.K = K := by rfl) : SE X (.Subscript a b pos) (tOp (rIx K) ta tb) (eBin gIx f g) := by
  subst hK
  exact ⟨pe_ix ix_seq h1.pe h2.pe hs, de_bin rv_ix h1.de h2.de⟩
theorem se_ixO {K : PySem.W.Frag} {j : Nat} (h1 : PE X a (tVar j)) (h2 : SE X b tb g) (hs : PlainIx b := by exact fun _ _ => rfl) (hK : X.K = K := by rfl) : SE X (.Subscript a b pos) (tOp (rIx K) (tVar j) tb) (eIxO j g) := by
  subst hK
  exact ⟨pe_ix ix_seq h1 h2.pe hs, de_ixO h2.de⟩
structure SO (X : Cx) (e : Option Expr) (to : TO) (f : OF) : Prop where
  po : PO X e to
  d : DO X.K to f
theorem so_none : SO X none tNoPart oNone := ⟨po_none, do_none⟩
theorem so_some (h1 : SE X a ta f) : SO X (some a) (tPart ta) (oSome f) := ⟨po_some h1.pe, do_some h1.de⟩
theorem se_sl {K : PySem.W.Frag} {lo hi : Option Expr} {tl th : TO} {ol oh : OF} {p2 : Pos} (h1 : SE X a ta f) (hl : SO X lo tl ol) (hh : SO X hi th oh) (hK : X.K = K := by rfl) : SE X (.Subscript a (.Slice lo hi none p2) pos) (tSl (rSlL K) ta tl th) (eSl f ol oh) := by
  subst hK
  exact ⟨pe_slice sl_list h1.pe hl.po hh.po, de_sl h1.de hl.d hh.d⟩
theorem se_slO {K : PySem.W.Frag} {j : Nat} {lo hi : Option Expr} {tl th : TO} {ol oh : OF} {p2 : Pos} (h1 : PE X a (tVar j)) (hl : SO X lo tl ol) (hh : SO X hi th oh) (hK : X.K = K := by rfl) : SE X (.Subscript a (.Slice lo hi none p2) pos) (tSl (rSlL K) (tVar j) tl th) (eSlO j ol oh) := by
  subst hK
  exact ⟨pe_slice sl_list h1 hl.po hh.po, de_slO hl.d hh.d⟩
theorem sa_nil : SA X [] tNil aNil := ⟨pa_nil, da_nil⟩
theorem sa_cons (h1 : SE X e te f) (h2 : SA X es t af) (hs : starEach (e :: es) X.env = (false, eval e X.env) :: starEach es X.env := by rfl) : SA X (e :: es) (tCons te t) (aCons f af) := ⟨pa_cons h1.pe h2.pa hs, da_cons h1.de h2.da⟩
theorem se_tup {x1} (h1 : SA X es t af) : SE X (.Tuple es x1 pos) (tTup t) (eTup af) := ⟨pe_tup h1.pa, de_tup h1.da⟩
theorem se_lst (h1 : SA X es t af) : SE X (.List es pos) (tLst t) (eLst af) := ⟨pe_lst h1.pa, de_lst h1.da⟩
theorem se_peek (h1 : SE X e te f) : SE X e te (ePeek f) := ⟨h1.pe, de_peek h1.de⟩
theorem st_peek (h1 : ST X e tt u) : ST X e tt (tPeek u) := ⟨h1.pt, dt_peek h1.dt⟩
/-- calls of built-ins -/
theorem se_cb {id : String} {r : List V → Hp → VK → Prop} {g : List PyData → Option R} (hc : CallR X (.builtin id) r) (hr : RCD X.K r g) (hg : Gl X x) (hm : X.mg x = none) (hv : bootBuiltins x = some (.builtin id)) (ha : SA X (e :: es) t af) (hn : x ≠ "__name__" := by decide) (hdb : (x == ("__debug__" : Str)) = false := by decide)
    (he : starEach (e :: es) X.env = (false, eval e X.env) :: starEach es X.env := by rfl) (hpl : (backTo pos (starEach es X.env)).any (·.1) = false := by rfl) : SE X (.Call (.Name x p) (e :: es) [] pos) (tCB r t) (eCall g af) :=
  ⟨pe_callB hc hg hm hv ha.pa hn hdb he hpl, de_cb hr ha.da⟩
theorem se_cty {T : String} {r : List V → Hp → VK → Prop} {g : List PyData → Option R} (hc : CallR X (.type T) r) (hr : RCD X.K r g) (hg : Gl X x) (hm : X.mg x = none) (hv : bootBuiltins x = some (.type T)) (ha : SA X (e :: es) t af) (hn : x ≠ "__name__" := by decide) (hdb : (x == ("__debug__" : Str)) = false := by decide)
    (he : starEach (e :: es) X.env = (false, eval e X.env) :: starEach es X.env := by rfl) (hpl : (backTo pos (starEach es X.env)).any (·.1) = false := by rfl) : SE X (.Call (.Name x p) (e :: es) [] pos) (tCB r t) (eCall g af) :=
  ⟨pe_callTy hc hg hm hv ha.pa hn hdb he hpl, de_cb hr ha.da⟩
/-- a function of a library's module, imported by its name -/
theorem se_cfun {id : String} {r : List V → Hp → VK → Prop} {g : List PyData → Option R} (hc : CallR X (.builtin id) r) (hr : RCD X.K r g) (hg : Gl X x) (hm : X.mg x = some (.builtin id)) (ha : SA X (e :: es) t af) (hdb : (x == ("__debug__" : Str)) = false := by decide)
    (he : starEach (e :: es) X.env = (false, eval e X.env) :: starEach es X.env := by rfl) (hpl : (backTo pos (starEach es X.env)).any (·.1) = false := by rfl) : SE X (.Call (.Name x p) (e :: es) [] pos) (tCB r t) (eCall g af) :=
  ⟨pe_callBfun hc hg hm ha.pa hdb he hpl, de_cb hr ha.da⟩
theorem se_c_len {K : PySem.W.Frag} (hg : Gl X x) (hm : X.mg x = none) (hv : bootBuiltins x = some (.builtin "len")) (ha : SA X (e :: es) t af) (hn : x ≠ "__name__" := by decide) (hdb : (x == ("__debug__" : Str)) = false := by decide)
    (he : starEach (e :: es) X.env = (false, eval e X.env) :: starEach es X.env := by rfl) (hpl : (backTo pos (starEach es X.env)).any (·.1) = false := by rfl) (hK : X.K = K := by rfl) : SE X (.Call (.Name x p) (e :: es) [] pos) (tCB (fun xs H Q => ∃ x n, xs = [x] ∧ LenV K x H n ∧ Q (.int n) H) t) (eCall gLen af) := by
  subst hK
  exact se_cb call_len rc_len hg hm hv ha hn hdb he hpl
theorem se_c_abs (hg : Gl X x) (hm : X.mg x = none) (hv : bootBuiltins x = some (.builtin "abs")) (ha : SA X (e :: es) t af) (hn : x ≠ "__name__" := by decide) (hdb : (x == ("__debug__" : Str)) = false := by decide)
    (he : starEach (e :: es) X.env = (false, eval e X.env) :: starEach es X.env := by rfl) (hpl : (backTo pos (starEach es X.env)).any (·.1) = false := by rfl) : SE X (.Call (.Name x p) (e :: es) [] pos) (tCB (fun xs H Q => ∃ i, xs = [.int i] ∧ Q (.int (if i < 0 then -i else i)) H) t) (eCall gAbs af) := se_cb call_abs rc_abs hg hm hv ha hn hdb he hpl
theorem se_c_all {K : PySem.W.Frag} (hg : Gl X x) (hm : X.mg x = none) (hv : bootBuiltins x = some (.builtin "all")) (ha : SA X (e :: es) t af) (hn : x ≠ "__name__" := by decide) (hdb : (x == ("__debug__" : Str)) = false := by decide)
    (he : starEach (e :: es) X.env = (false, eval e X.env) :: starEach es X.env := by rfl) (hpl : (backTo pos (starEach es X.env)).any (·.1) = false := by rfl) (hc : X.calm = true := by rfl) (hK : X.K = K := by rfl) : SE X (.Call (.Name x p) (e :: es) [] pos) (tCB (rAll K) t) (eCall gAll af) := by
  subst hK
  exact se_cb (cr_all hc) rc_all hg hm hv ha hn hdb he hpl
theorem se_c_any {K : PySem.W.Frag} (hg : Gl X x) (hm : X.mg x = none) (hv : bootBuiltins x = some (.builtin "any")) (ha : SA X (e :: es) t af) (hn : x ≠ "__name__" := by decide) (hdb : (x == ("__debug__" : Str)) = false := by decide)
    (he : starEach (e :: es) X.env = (false, eval e X.env) :: starEach es X.env := by rfl) (hpl : (backTo pos (starEach es X.env)).any (·.1) = false := by rfl) (hc : X.calm = true := by rfl) (hK : X.K = K := by rfl) : SE X (.Call (.Name x p) (e :: es) [] pos) (tCB (rAny K) t) (eCall gAny af) := by
  subst hK
  exact se_cb (cr_any hc) rc_any hg hm hv ha hn hdb he hpl
theorem se_c_sum {K : PySem.W.Frag} (hg : Gl X x) (hm : X.mg x = none) (hv : bootBuiltins x = some (.builtin "sum")) (ha : SA X (e :: es) t af) (hn : x ≠ "__name__" := by decide) (hdb : (x == ("__debug__" : Str)) = false := by decide)
    (he : starEach (e :: es) X.env = (false, eval e X.env) :: starEach es X.env := by rfl) (hpl : (backTo pos (starEach es X.env)).any (·.1) = false := by rfl) (hc : X.calm = true := by rfl) (hK : X.K = K := by rfl) : SE X (.Call (.Name x p) (e :: es) [] pos) (tCB (rSum K) t) (eCall gSum af) := by
  subst hK
  exact se_cb (cr_sum hc) rc_sum hg hm hv ha hn hdb he hpl
theorem se_c_int (hg : Gl X x) (hm : X.mg x = none) (hv : bootBuiltins x = some (.type "int")) (ha : SA X (e :: es) t af) (hn : x ≠ "__name__" := by decide) (hdb : (x == ("__debug__" : Str)) = false := by decide)
    (he : starEach (e :: es) X.env = (false, eval e X.env) :: starEach es X.env := by rfl) (hpl : (backTo pos (starEach es X.env)).any (·.1) = false := by rfl) : SE X (.Call (.Name x p) (e :: es) [] pos) (tCB (fun xs H Q => (∃ i, xs = [.int i] ∧ Q (.int i) H) ∨ ∃ k, xs = [.bl k] ∧ Q (.int (if k then 1 else 0)) H) t) (eCall gInt af) := se_cty call_int1 rc_int hg hm hv ha hn hdb he hpl
theorem se_c_str (hg : Gl X x) (hm : X.mg x = none) (hv : bootBuiltins x = some (.type "str")) (ha : SA X (e :: es) t af) (hn : x ≠ "__name__" := by decide) (hdb : (x == ("__debug__" : Str)) = false := by decide)
    (he : starEach (e :: es) X.env = (false, eval e X.env) :: starEach es X.env := by rfl) (hpl : (backTo pos (starEach es X.env)).any (·.1) = false := by rfl) : SE X (.Call (.Name x p) (e :: es) [] pos) (tCB (fun xs H Q => ∃ i, xs = [.int i] ∧ i.natAbs.log2 < 1920 ∧ Q (.str (toString i)) H) t) (eCall gStr af) := se_cty call_str_int rc_str hg hm hv ha hn hdb he hpl
theorem se_c_list {K : PySem.W.Frag} (hg : Gl X x) (hm : X.mg x = none) (hv : bootBuiltins x = some (.type "list")) (ha : SA X (e :: es) t af) (hn : x ≠ "__name__" := by decide) (hdb : (x == ("__debug__" : Str)) = false := by decide)
    (he : starEach (e :: es) X.env = (false, eval e X.env) :: starEach es X.env := by rfl) (hpl : (backTo pos (starEach es X.env)).any (·.1) = false := by rfl) (hK : X.K = K := by rfl) : SE X (.Call (.Name x p) (e :: es) [] pos) (tCB (fun xs H Q => ∃ p ys, xs = [.ref p] ∧ (SqL K H p ys ∨ SqT K H p ys) ∧ ∀ l, H l = none → Q (.ref l) (upd H l (.lst ys))) t) (eCall gList af) := by
  subst hK
  exact se_cty call_list_of rc_list hg hm hv ha hn hdb he hpl
/-- isinstance with a built-in class -/
@[simp] def eIsi (T : String) (f : EF) : EF := fun env => (f env).bind fun r => some (.val (.bool (isi T r.frz)))
theorem de_isi {K : PySem.W.Frag} {T : String} (hT : T ∈ ["int", "bool", "str", "tuple", "list"]) (h1 : DE K ta f) : DE K (tCB (rIsi K) (tCons ta (tCons (tC (.ty T)) tNil))) (eIsi T f) := fun B F H σ env r S fh bh e Q q => by
  obtain ⟨a, ea, e⟩ := bnd e
  cases e
  refine h1.z S fh bh ea fun F1 H1 x g1 d1 => ?_
  exact ⟨x, .ty T, _, _, _, rfl, .ty T, dp_ty (dp_mono g1.i d1), kit_isi hT, q F1 H1 _ g1 (.bl _)⟩
theorem se_isi {K : PySem.W.Frag} {T : String} {pT : Pos} {xT : Str} (hT : T ∈ ["int", "bool", "str", "tuple", "list"]) (hg : Gl X x) (hm : X.mg x = none) (hv : bootBuiltins x = some (.builtin "isinstance")) (hgT : Gl X xT) (hmT : X.mg xT = none) (hvT : bootBuiltins xT = some (.type T)) (h1 : SE X a ta f) (hn : x ≠ "__name__" := by decide) (hdb : (x == ("__debug__" : Str)) = false := by decide)
    (hnT : xT ≠ "__name__" := by decide) (hdT : (xT == ("__debug__" : Str)) = false := by decide)
    (he1 : starEach [.Name xT pT] X.env = (false, eval (.Name xT pT) X.env) :: starEach [] X.env := by rfl)
    (he : starEach [a, .Name xT pT] X.env = (false, eval a X.env) :: starEach [.Name xT pT] X.env := by rfl) (hpl : (backTo pos (starEach [.Name xT pT] X.env)).any (·.1) = false := by rfl) (hK : X.K = K := by rfl) : SE X (.Call (.Name x p) [a, .Name xT pT] [] pos) (tCB (rIsi K) (tCons ta (tCons (tC (.ty T)) tNil))) (eIsi T f) := by
  subst hK
  exact ⟨pe_callB call_isi hg hm hv (pa_cons h1.pe (pa_cons (pe_bltn (v := .ty T) hgT hmT hvT rfl hnT hdT) pa_nil he1) he) hn hdb he hpl, de_isi hT h1.de⟩

/-! tests -/
theorem st_lt (h1 : SE X a ta f) (h2 : SE X b tb g) : ST X (.Compare a [.Lt] [b] pos) (tTest (tOp (rI0 fun i j => .bl (decide (i < j))) ta tb)) (tE (eBin gLt f g)) := ⟨pt_cmpR op_lt h1.pe h2.pe (nomark _), dt_test (de_bin rv_lt h1.de h2.de)⟩
theorem st_le (h1 : SE X a ta f) (h2 : SE X b tb g) : ST X (.Compare a [.LtE] [b] pos) (tTest (tOp (rI0 fun i j => .bl (decide (i ≤ j))) ta tb)) (tE (eBin gLe f g)) := ⟨pt_cmpR op_le h1.pe h2.pe (nomark _), dt_test (de_bin rv_le h1.de h2.de)⟩
theorem st_gt (h1 : SE X a ta f) (h2 : SE X b tb g) : ST X (.Compare a [.Gt] [b] pos) (tTest (tOp (rI0 fun i j => .bl (decide (j < i))) ta tb)) (tE (eBin gGt f g)) := ⟨pt_cmpR op_gt h1.pe h2.pe (nomark _), dt_test (de_bin rv_gt h1.de h2.de)⟩
theorem st_ge (h1 : SE X a ta f) (h2 : SE X b tb g) : ST X (.Compare a [.GtE] [b] pos) (tTest (tOp (rI0 fun i j => .bl (decide (j ≤ i))) ta tb)) (tE (eBin gGe f g)) := ⟨pt_cmpR op_ge h1.pe h2.pe (nomark _), dt_test (de_bin rv_ge h1.de h2.de)⟩
theorem st_eq {K : PySem.W.Frag} (hu : X.A.units + 64 < cLine) (h1 : SE X a ta f) (h2 : SE X b tb g) (hK : X.K = K := by rfl) : ST X (.Compare a [.Eq] [b] pos) (tTest (tOp (rEqD K) ta tb)) (tE (eBin gEq f g)) := by
  subst hK
  exact ⟨pt_cmpR (op_eqD hu) h1.pe h2.pe (nomark _), dt_test (de_bin rv_eq h1.de h2.de)⟩
theorem st_ne {K : PySem.W.Frag} (hu : X.A.units + 64 < cLine) (h1 : SE X a ta f) (h2 : SE X b tb g) (hK : X.K = K := by rfl) : ST X (.Compare a [.NotEq] [b] pos) (tTest (tOp (rNeD K) ta tb)) (tE (eBin gNe f g)) := by
  subst hK
  exact ⟨pt_cmpR (op_neD hu) h1.pe h2.pe (nomark _), dt_test (de_bin rv_ne h1.de h2.de)⟩
theorem st_in {K : PySem.W.Frag} (hu : X.A.units + 65 < cLine) (h1 : SE X a ta f) (h2 : SE X b tb g) (hm : behindInMarks .In b = false := by rfl) (hK : X.K = K := by rfl) : ST X (.Compare a [.In] [b] pos) (tTest (tOp (rInD K) ta tb)) (tE (eBin gIn f g)) := by
  subst hK
  exact ⟨pt_cmpR (op_inD hu) h1.pe h2.pe hm, dt_test (de_bin rv_in h1.de h2.de)⟩
theorem st_notIn {K : PySem.W.Frag} (hu : X.A.units + 65 < cLine) (h1 : SE X a ta f) (h2 : SE X b tb g) (hm : behindInMarks .NotIn b = false := by rfl) (hK : X.K = K := by rfl) : ST X (.Compare a [.NotIn] [b] pos) (tTest (tOp (rNotInD K) ta tb)) (tE (eBin gNotIn f g)) := by
  subst hK
  exact ⟨pt_cmpR (op_notInD hu) h1.pe h2.pe hm, dt_test (de_bin rv_notIn h1.de h2.de)⟩
theorem st_isN (h1 : SE X a ta f) {j pos'} : ST X (.Compare a [.Is] [.Constant .none j pos'] pos) (tTest (tOp (fun x y H Q => y = .non ∧ Q (.bl (decide (x = .non))) H) ta (tC .non))) (tE (eBin gIsN f (eC .none))) := ⟨pt_cmpR op_isN h1.pe pe_non (nomark _), dt_test (de_bin rv_isN h1.de (de_c fun _ => .non))⟩
theorem st_notN (h1 : SE X a ta f) {j pos'} : ST X (.Compare a [.IsNot] [.Constant .none j pos'] pos) (tTest (tOp (fun x y H Q => y = .non ∧ Q (.bl (!decide (x = .non))) H) ta (tC .non))) (tE (eBin gNotN f (eC .none))) := ⟨pt_cmpR op_notN h1.pe pe_non (nomark _), dt_test (de_bin rv_notN h1.de (de_c fun _ => .non))⟩
/-- a call, a name, a constant that is True or False -/
theorem st_val (h1 : SE X e te f) (he : ∀ whole, isTrue e X.env whole = (do let v ← whole; standAt e.pos; holding [v] (truthy v)) := by intro _; rfl) : ST X e (tB te) (tE f) := ⟨pt_val h1.pe he, dt_B h1.de⟩
theorem sw_and1 (h1 : ST X a tt u) : SW X (.BoolOp .And [a] pos) tt u := ⟨pw_and1 h1.pt, h1.dt⟩
theorem sw_or1 (h1 : ST X a tt u) : SW X (.BoolOp .Or [a] pos) tt u := ⟨pw_or1 h1.pt, h1.dt⟩
theorem sw_and {rest : List Expr} (h1 : ST X a tt u) (h2 : SW X (.BoolOp .And (b :: rest) pos) tu v) : SW X (.BoolOp .And (a :: b :: rest) pos) (tAnd tt tu) (tAndD u v) := ⟨pw_and h1.pt h2.pw, dt_and h1.dt h2.dt⟩
theorem sw_or {rest : List Expr} (h1 : ST X a tt u) (h2 : SW X (.BoolOp .Or (b :: rest) pos) tu v) : SW X (.BoolOp .Or (a :: b :: rest) pos) (tOr tt tu) (tOrD u v) := ⟨pw_or h1.pt h2.pw, dt_or h1.dt h2.dt⟩
theorem st_not (h1 : ST X a tt u) : ST X (.UnaryOp .Not a pos) (tNot tt) (tNotD u) := ⟨pt_not h1.pt, dt_not h1.dt⟩
theorem se_one {op} (h1 : SE X a ta f) : SE X (.BoolOp op [a] pos) ta f := ⟨pe_one h1.pe, h1.de⟩
theorem se_and {rest : List Expr} (h1 : SE X a ta f) (h2 : SE X (.BoolOp .And (b :: rest) pos) tb g) : SE X (.BoolOp .And (a :: b :: rest) pos) (tAndV ta tb) (eIf (tE f) g (eC (.bool false))) := ⟨pe_and h1.pe h2.pe, de_andV h1.de h2.de⟩
theorem se_or {rest : List Expr} (h1 : SE X a ta f) (h2 : SE X (.BoolOp .Or (b :: rest) pos) tb g) : SE X (.BoolOp .Or (a :: b :: rest) pos) (tOrV ta tb) (eIf (tE f) (eC (.bool true)) g) := ⟨pe_or h1.pe h2.pe, de_orV h1.de h2.de⟩
theorem se_not (h1 : SE X a ta f) : SE X (.UnaryOp .Not a pos) (tNotV ta) (eT (tNotD (tE f))) := ⟨pe_not h1.pe, de_notV h1.de⟩
theorem se_if (hc : ST X c tt u) (h1 : SE X a ta f) (h2 : SE X b tb g) : SE X (.IfExp c a b pos) (tIf tt ta tb) (eIf u f g) := ⟨pe_ifExp hc.pt h1.pe h2.pe, de_ifE hc.dt h1.de h2.de⟩
/-! a chain of two comparisons -/
@[simp] def eChain (g1 g2 : PyData → PyData → Option R) (f g h : EF) : EF := fun env => (f env).bind fun a => (g env).bind fun b => (g1 a.frz b.frz).bind fun r => (toB r.frz).bind fun k => if k = true then (h env).bind fun c => g2 b.frz c.frz else some (.val (.bool false))
theorem de_chain {K : PySem.W.Frag} {r1 r2 : R2} {g1 g2 : PyData → PyData → Option R} (k1 : RVD K r1 g1) (k2 : RVD K r2 g2) (h1 : DE K ta f) (h2 : DE K tb g) (h3 : DE K tc h) : DE K (tChain r1 r2 ta tb tc) (eChain g1 g2 f g h) := fun B F H σ env r S fh bh e Q q => by
  obtain ⟨a, ea, e⟩ := bnd e
  obtain ⟨b, eb, e⟩ := bnd e
  obtain ⟨r0, er, e⟩ := bnd e
  obtain ⟨k, ek, e⟩ := bnd e
  refine h1.z S fh bh ea fun F1 H1 x G1 d1 => ?_
  refine h2.z (S.grow G1) G1.i (bh.trans G1.h) eb fun F2 H2 y G2 d2 => ?_
  refine k1 F2 H2 x y _ _ r0 G2.i (dp_mono G2.f d1) d2 er _ fun F3 H3 v G3 rr => ?_
  obtain ⟨F4, G4, s4, d4⟩ := rr.frz G3
  rw [toB_some ek] at d4
  rw [dp_bool d4]
  have g4 := (G1.trans G2).trans G4
  refine ⟨k, rfl, ?_⟩
  cases k with
  | true =>
    refine iteT ?_
    obtain ⟨c, ec, e⟩ := bnd e
    refine h3.z (S.grow g4) g4.i (bh.trans g4.h) ec fun F5 H5 z G5 d5 => ?_
    refine k2 F5 H5 y z _ _ r G5.i (dp_mono (G4.f.trans G5.f) d2) d5 e Q fun F6 H6 w G6 rr6 => ?_
    exact q F6 H6 w ((g4.trans G5).trans G6) (rr6.back (g4.trans G5))
  | false =>
    cases e
    exact iteF (q F4 H3 _ g4 (.bl false))
theorem se_chain {op op' : CmpOp} {r1 r2 : R2} {g1 g2 : PyData → PyData → Option R} (ho : OpR X (compareOp op) r1) (k1 : RVD X.K r1 g1) (ho' : OpR X (compareOp op') r2) (k2 : RVD X.K r2 g2) (h1 : SE X a ta f) (h2 : SE X b tb g) (h3 : SE X c tc h) (hm : lastMarks [op, op'] [b, c] = false := by with_unfolding_all rfl) :
    SE X (.Compare a [op, op'] [b, c] pos) (tChain r1 r2 ta tb tc) (eChain g1 g2 f g h) := ⟨pe_chain ho ho' h1.pe h2.pe h3.pe hm, de_chain k1 k2 h1.de h2.de h3.de⟩
theorem st_chain {op op' : CmpOp} {r1 r2 : R2} {g1 g2 : PyData → PyData → Option R} (ho : OpR X (compareOp op) r1) (k1 : RVD X.K r1 g1) (ho' : OpR X (compareOp op') r2) (k2 : RVD X.K r2 g2) (h1 : SE X a ta f) (h2 : SE X b tb g) (h3 : SE X c tc h) (hm : lastMarks [op, op'] [b, c] = false := by with_unfolding_all rfl) :
    ST X (.Compare a [op, op'] [b, c] pos) (tTest (tChain r1 r2 ta tb tc)) (tE (eChain g1 g2 f g h)) := ⟨pt_chain ho ho' h1.pe h2.pe h3.pe hm, dt_test (de_chain k1 k2 h1.de h2.de h3.de)⟩

/-! ### walks and comprehensions -/
structure SG (X : Cx) (tg : Expr) (ws : List Nat) (t : TG) (g : GF) : Prop where
  pg : PG X tg t
  d : DG X.K ws t g
structure SI (X : Cx) (tg iter : Expr) (wi : TI) (f : IF) : Prop where
  pi : PI X tg iter wi
  d : DI X.K wi f
theorem sg_name {i : Nat} (hN : X.N.Nodup) (hi : X.N[i]? = some x) (hx : Loc X.env.scope x) (hf : X.fn x = true ∨ X.env.scope.names.lookup x = some .local := by first | exact .inl rfl | exact .inr rfl | assumption) : SG X (.Name x pos) [i] (gName i) (gtName i) := ⟨pg_name hN hi hx hf, dg_name⟩
theorem sg_tup2 {K : PySem.W.Frag} {i j : Nat} {e1 e2 : Expr} {k : Nat} (hc : X.calm = true) (h : PGs X [e1, e2] (gCons (gName i) (gCons (gName j) gNil)))
    (hn : (assignEach [e1, e2] X.env).length = 2 := by rfl) (hst : (assignEach [e1, e2] X.env).findIdx? (·.1) = none := by rfl) (hK : X.K = K := by rfl) : SG X (.Tuple [e1, e2] k pos) [i, j] (gTup K 2 (gCons (gName i) (gCons (gName j) gNil))) (gtTup2 i j) := by
  subst hK
  exact ⟨pg_tup hc h hn hst, dg_tup2⟩
theorem sg_tup3 {K : PySem.W.Frag} {i j l : Nat} {e1 e2 e3 : Expr} {k : Nat} (hc : X.calm = true) (h : PGs X [e1, e2, e3] (gCons (gName i) (gCons (gName j) (gCons (gName l) gNil))))
    (hn : (assignEach [e1, e2, e3] X.env).length = 3 := by rfl) (hst : (assignEach [e1, e2, e3] X.env).findIdx? (·.1) = none := by rfl) (hK : X.K = K := by rfl) : SG X (.Tuple [e1, e2, e3] k pos) [i, j, l] (gTup K 3 (gCons (gName i) (gCons (gName j) (gCons (gName l) gNil)))) (gtTup3 i j l) := by
  subst hK
  exact ⟨pg_tup hc h hn hst, dg_tup3⟩
variable {tg iter elt : Expr} {wi : TI} {it : IF} {tG : TG} {gf : GF} {ws : List Nat} {body : List Stmt} {tS tS' : TS} {sf sg : SF} {st : Stmt}
theorem si_list {K : PySem.W.Frag} (h1 : SE X a ta f) (hK : X.K = K := by rfl) : SI X tg a (iList K ta) (iL f) := by
  subst hK
  exact ⟨pi_list h1.pe, di_list h1.de⟩
theorem si_tup {K : PySem.W.Frag} (h1 : SE X a ta f) (hK : X.K = K := by rfl) : SI X tg a (iTup K ta) (iT f) := by
  subst hK
  exact ⟨pi_tup h1.pe, di_tup h1.de⟩
theorem si_r1 {p pos : Pos} (hg : Gl X "range") (hm : X.mg "range" = none) (ha : SA X [a] t af) (hs : starEach [a] X.env = [(false, eval a X.env)] := by rfl) : SI X tg (.Call (.Name "range" p) [a] [] pos) (iRng1 t) (iR1 af) := ⟨pi_range1 hg hm ha.pa hs, di_r1 ha.da⟩
theorem si_r2 {p pos : Pos} (hg : Gl X "range") (hm : X.mg "range" = none) (ha : SA X [a, b] t af) (hs : starEach [a, b] X.env = [(false, eval a X.env), (false, eval b X.env)] := by rfl) (hs2 : starEach [b] X.env = [(false, eval b X.env)] := by rfl) : SI X tg (.Call (.Name "range" p) [a, b] [] pos) (iRng2 t) (iR2 af) := ⟨pi_range2 hg hm ha.pa hs hs2, di_r2 ha.da⟩
def iPeek (f : IF) : IF := fun env => (f (env.map unown)).bind fun ds => if ds.all flat = true then some ds else none
structure STs (X : Cx) (ifs : List Expr) (tt : TT) (f : TF) : Prop where
  pts : PTs X ifs tt
  dt : DT X.K tt f
theorem sts_nil : STs X [] tYes tYesD := ⟨pts_nil, dt_yes⟩
theorem sts_one (h1 : ST X c tt u) : STs X [c] tt u := ⟨pts_one h1.pt, h1.dt⟩
theorem se_lc {ifs : List Expr} {scope : Scope} {own : List (Str × Nat)} (hc : X.calm = true) (hN : X.N.Nodup) (hi : SI X tg iter wi it) (ok : BlkOk X.N X.env.scope scope own)
    (hg : ∀ (s : Shared) (H : Hp) (C : Addr) (cl : List (Str × Addr)) (fp : List Addr), SG (X.blk s H scope (compEnvC scope cl C X.env) fp) tg ws tG gf) (hw : ∀ i ∈ ws, i ∈ own.map (·.2))
    (ht : ∀ (s : Shared) (H : Hp) (C : Addr) (cl : List (Str × Addr)) (fp : List Addr), STs (X.blk s H scope (compEnvC scope cl C X.env) fp) ifs tt u)
    (he : ∀ (s : Shared) (H : Hp) (C : Addr) (cl : List (Str × Addr)) (fp : List Addr), SE (X.blk s H scope (compEnvC scope cl C X.env) fp) elt te f) (hs : ∀ x, foldedSetIterable iter X.env x = pure x := by intro _; rfl) :
    SE X (.ListComp elt [⟨tg, iter, ifs, 0⟩] scope pos) (tLc wi tG tt te (own.map (·.2))) (eLc (own.map (·.2)) it gf u f) :=
  ⟨pe_lc hc hN hi.pi ok (fun s H C cl fp => (hg s H C cl fp).pg) (fun s H C cl fp => (ht s H C cl fp).pts) (fun s H C cl fp => (he s H C cl fp).pe) hs,
   de_lc hi.d (hg X.s_0 X.H_0 0 [] []).d hw (ht X.s_0 X.H_0 0 [] []).dt (he X.s_0 X.H_0 0 [] []).de⟩
theorem ss_setLc {i : Nat} {y : Str} {py spos : Pos} {ifs : List Expr} {scope : Scope} {own : List (Str × Nat)} (hc : X.calm = true) (hN : X.N.Nodup) (hy : X.N[i]? = some y) (hyl : X.env.scope.names.lookup y = some .local)
    (hsw : swapsWith (.ListComp elt [⟨tg, iter, ifs, 0⟩] scope pos) (some (.Name y py)) spos.line X.env = pure true) (hi : SI X tg iter wi it) (ok : BlkOk X.N X.env.scope scope own)
    (hg : ∀ (s : Shared) (H : Hp) (C : Addr) (cl : List (Str × Addr)) (fp : List Addr), SG (X.blk s H scope (compEnvC scope cl C X.env) fp) tg ws tG gf) (hw : ∀ i ∈ ws, i ∈ own.map (·.2))
    (ht : ∀ (s : Shared) (H : Hp) (C : Addr) (cl : List (Str × Addr)) (fp : List Addr), STs (X.blk s H scope (compEnvC scope cl C X.env) fp) ifs tt u)
    (he : ∀ (s : Shared) (H : Hp) (C : Addr) (cl : List (Str × Addr)) (fp : List Addr), SE (X.blk s H scope (compEnvC scope cl C X.env) fp) elt te f) (hs : ∀ x, foldedSetIterable iter X.env x = pure x := by intro _; rfl) :
    SS X (.Assign [.Name y py] (.ListComp elt [⟨tg, iter, ifs, 0⟩] scope pos) spos) (tAsg (tLc wi tG tt te (own.map (·.2))) (gName i)) (sSet i (eLc (own.map (·.2)) it gf u f)) :=
  ⟨ps_setLc hc hN hy hyl hsw hi.pi ok (fun s H C cl fp => (hg s H C cl fp).pg) (fun s H C cl fp => (ht s H C cl fp).pts) (fun s H C cl fp => (he s H C cl fp).pe) hs,
   ds_set (de_lc hi.d (hg X.s_0 X.H_0 0 [] []).d hw (ht X.s_0 X.H_0 0 [] []).dt (he X.s_0 X.H_0 0 [] []).de)⟩

/-! ### statements -/
variable {rest : List Stmt}
theorem ss_nil : SSs X [] tNext sNext := ⟨pss_nil, ds_next⟩
theorem ss_one (h1 : SS X st tS sf) : SSs X [st] tS sf := ⟨pss_one h1.ps, h1.ds⟩
theorem ss_cons (h1 : SS X st tS sf) (h2 : SSs X rest tS' sg) : SSs X (st :: rest) (tSeq tS tS') (sSeq sf sg) := ⟨pss_cons h1.ps h2.ps, ds_seq h1.ds h2.ds⟩
/-- an owned list is frozen ahead of a statement -/
theorem ss_frz (i : Nat) (h1 : SS X st tS sf) : SS X st tS (sFrz i sf) := ⟨h1.ps, ds_frz h1.ds⟩
theorem ss_ret (h1 : SE X e te f) : SS X (.Return (some e) pos) (tRet te) (sRet f) := ⟨ps_ret h1.pe, ds_ret h1.de⟩
theorem ss_retN : SS X (.Return none pos) tRetN sRetN := ⟨ps_retN, ds_retN⟩
theorem ss_retO {i : Nat} (h1 : PE X e (tVar i)) : SS X (.Return (some e) pos) (tRet (tVar i)) (sRetOwn i) := ⟨ps_ret h1, ds_retOwn⟩
theorem ss_break : SS X (.Break pos) tBreak sBreak := ⟨ps_break, ds_break⟩
theorem ss_cont : SS X (.Continue pos) tCont sCont := ⟨ps_continue, ds_cont⟩
theorem ss_pass : SS X (.Pass pos) tNext sNext := ⟨ps_pass, ds_next⟩
theorem ss_if {b1 b2 : List Stmt} (hc : ST X c tt u) (h1 : SSs X b1 tS sf) (h2 : SSs X b2 tS' sg) : SS X (.If c b1 b2 pos) (tIfS tt tS tS') (sIf u sf sg) := ⟨ps_if hc.pt h1.ps h2.ps, ds_if hc.dt h1.ds h2.ds⟩
theorem ss_set {i : Nat} {pos' : Pos} (hN : X.N.Nodup) (hi : X.N[i]? = some x) (hx : Loc X.env.scope x) (h1 : SE X e te f) (hs : swapsWith e (some (.Name x pos')) pos.line X.env = pure false := by rfl) (hf : X.fn x = true ∨ X.env.scope.names.lookup x = some .local := by first | exact .inl rfl | exact .inr rfl | assumption) :
    SS X (.Assign [.Name x pos'] e pos) (tAsg te (gName i)) (sSet i f) := ⟨ps_set hN hi hx h1.pe hs hf, ds_set h1.de⟩
theorem ss_asg (h1 : SE X e te f) (hg : SG X tg ws tG gf) (hs : swapsWithSole [tg] e pos.line X.env = pure false := by rfl) (hw : swappedStores [tg] e X.env = pure none := by rfl)
    (h2 : (assignEach [tg] X.env).map (·.2) = [assign tg X.env] := by rfl) : SS X (.Assign [tg] e pos) (tAsg te tG) (sAsg gf f) := ⟨ps_asg h1.pe hg.pg hs hw h2, ds_asg h1.de hg.d⟩
theorem ss_put {j : Nat} {pk : Pos} (h1 : SE X e te f) (h0 : PE X o (tVar j)) (h2 : SE X i ta g)
    (ha : ∀ v, assign (.Subscript o i pk) X.env v = (do
      let ov ← holding [v] (eval o X.env)
      let iv ← holding [v, ov] (eval i X.env)
      standAt pk
      holding [v, ov, iv] (setItem ov iv v)
      release [v, ov, iv] []) := by intro _; rfl)
    (hs : swapsWithSole [.Subscript o i pk] e pos.line X.env = pure false := by rfl) (hw : swappedStores [.Subscript o i pk] e X.env = pure none := by rfl)
    (h3 : (assignEach [.Subscript o i pk] X.env).map (·.2) = [assign (.Subscript o i pk) X.env] := by rfl) : SS X (.Assign [.Subscript o i pk] e pos) (tAsg te (L2.gSub (tVar j) ta rSetL)) (sPut j g f) :=
  ⟨ps_asg h1.pe (pg_sub h0 h2.pe set_list ha) hs hw h3, ds_put h1.de h2.de⟩
theorem ss_drop (h1 : SE X e te f) (hs : swapsWith e none pos.line X.env = pure false := by rfl) : SS X (.Expr e pos) (tDrop te) (sDrop f) := ⟨ps_expr h1.pe hs, ds_drop h1.de⟩
theorem ss_append {j : Nat} {cpos : Pos} (h0 : PE X o (tVar j)) (h1 : SE X e te f) (hs : swapsWith (.Call (.Attribute o "append" apos) [e] [] cpos) none pos.line X.env = pure false := by rfl)
    (hbase : attributeBase o "append" X.env (eval o X.env) = eval o X.env := by rfl)
    (hfew : ((backTo cpos (starEach [e] X.env)).all (fun x => !x.1) && (backToKw cpos (keywordEach [] X.env)).all (fun x => x.1.isSome)
      && decide ([e].length + ([] : List Keyword).length + (if ([] : List Keyword).isEmpty then 0 else 1) < 30)) = true := by rfl)
    (hline : (apos.endLine == cpos.line) = true := by rfl) (hst : starEach [e] X.env = (false, eval e X.env) :: starEach [] X.env := by rfl) (hplain : (backTo cpos (starEach [] X.env)).any (·.1) = false := by rfl) :
    SS X (.Expr (.Call (.Attribute o "append" apos) [e] [] cpos) pos) (tDrop (tBM X.K "list" rAppend (tVar j) (tCons te tNil))) (sAppend j f) :=
  ⟨ps_expr (pe_bm PySem.F.plainAttrs_list PySem.F.slot_list_append PySem.F.type_list_append mt_append h0 (pa_cons h1.pe pa_nil hst) hbase hfew hline hst hplain) hs, ds_append h1.de⟩
theorem ss_for (hp : PassesOwn (model X.prog X.w) X.A X.env X.xe) (hc : X.calm = true) (hi : SI X tg iter wi it) (hg : SG X tg ws tG gf) (hb : SSs X body tS sf) (hs : ∀ x, foldedSetIterable iter X.env x = pure x := by intro _; rfl) :
    SS X (.For tg iter body [] pos) (tFor wi tG tS) (sFor it gf sf) := ⟨ps_for hp hc hi.pi hg.pg hb.ps hs, ds_for hi.d hg.d hb.ds⟩
theorem ss_while (n : Nat) (hp : PassesOwn (model X.prog X.w) X.A X.env X.xe) (hc : ST X c tt u) (hb : SSs X body tS sf) : SS X (.While c body [] pos) (tWhile tt tS) (whileD u sf n) := ⟨ps_while hp hc.pt hb.ps, ds_while n hc.dt hb.ds⟩
end

/-! ### defs -/
@[simp] def startD (N n : Nat) (ds : List PyData) : En := ds.map Sl.val ++ List.replicate (N - n) .no
def resO (o : Option Out) : Option R := match o with
  | some (.rt r) => some r
  | some (.nx _) => some (.val .none)
  | _ => none
@[simp] theorem resO_rt {r : R} : resO (some (.rt r)) = some r := rfl
@[simp] theorem resO_nx {e : En} : resO (some (.nx e)) = some (.val .none) := rfl
theorem resO_ite {c : Prop} [Decidable c] {x y : Option Out} : resO (if c then x else y) = if c then resO x else resO y := by split <;> rfl
@[irreducible] def fnD (N n : Nat) (f : SF) (ds : List PyData) : Option R := if ds.length = n then resO (f (startD N n ds)) else none
def spD (K : PySem.W.Frag) (n : Nat) (g : List PyData → Option R) : Sp := fun vs H Q _ => vs.length = n ∧ ∃ F ds r, Same F H ∧ DpAll K F vs ds ∧ g ds = some r ∧ ∀ F' H' v, Grow F H F' H' → RepR K F' H H' v r → Q v H'
section
variable {P : Program} {w : World} {K : PySem.W.Frag} {mg : Str → Option Value} {base : Heap}
theorem slots_start {F H : Hp} {vs : List V} {ds : List PyData} {N : List Str} {n : Nat} (h : DpAll K F vs ds) (hn : vs.length = n) : Slots K H F H (L2.start N vs) (startD N.length n ds) := by
  have hl := DpAll.len h
  refine ⟨by simp [L2.start, startD, hl, hn] <;> omega, fun _ => 0, fun i v s e1 e2 => ?_, fun i j es fs hij e1 _ => ?_⟩
  · unfold L2.start at e1
    unfold startD at e2
    by_cases hi : i < vs.length
    · rw [List.getElem?_append_left (by simpa using hi), List.getElem?_map] at e1
      rw [List.getElem?_append_left (by simpa using (hl ▸ hi)), List.getElem?_map] at e2
      cases q : ds[i]? with
      | none => rw [q] at e2; cases e2
      | some d =>
        obtain ⟨u, eu, du⟩ := DpAll.get h q
        rw [q] at e2
        rw [eu] at e1
        cases e1
        cases e2
        exact ⟨u, rfl, du⟩
    · rw [List.getElem?_append_right (by simp; omega)] at e2
      rw [List.getElem?_replicate] at e2
      split at e2
      · cases e2
        trivial
      · cases e2
  · unfold startD at e1
    by_cases hi : i < ds.length
    · rw [List.getElem?_append_left (by simpa using hi), List.getElem?_map, List.getElem?_eq_getElem hi] at e1
      cases e1
    · rw [List.getElem?_append_right (by simp; omega), List.getElem?_replicate] at e1
      split at e1 <;> cases e1
/-- THE RULE for a def: its body as a term of rules -/
theorem okD {x qual : Str} {st : Stmt} {f : Addr} {fd : FuncData} {N ps : List Str} {k : Nat} {b : SF} (F : Fun K x qual st f fd) (S : FnScope N ps (defScope st))
    (hbody : ∀ (cdv : Value) (A : Around) (outer : List PySem.Env) (s : Shared) (H : Hp) (E : XK), Room k (A.deeper (envOfC qual (defScope st) s.heap.objs.size f cdv)) → ∃ t, SSs (cxOf CX0 P w K mg base N qual (defScope st) f cdv A outer s H E).nox (defBody st) t b) :
    FnOk P w K mg base CX0 (k + 1) f fd ps (spD K ps.length (fnD N.length ps.length b)) := by
  refine F.ok S (fun vs H Q E h => h.1) (fun cdv A outer s H vs Q E hr h => ?_)
  obtain ⟨hn, F0, ds, r, fh, hd, er, q⟩ := h
  obtain ⟨t, ht⟩ := hbody cdv A outer s H E hr
  refine ⟨t, ht.ps, ?_⟩
  unfold fnD at er
  split at er
  case isFalse => cases er
  have S0 : Sta K F0 H F0 H (L2.start N vs) (startD N.length ps.length ds) := ⟨Grow.refl fh, slots_start hd hn⟩
  unfold resO at er
  split at er
  · rename_i r' eb
    cases er
    exact ht.ds F0 H F0 H _ _ _ S0 eb _ q
  · rename_i e' eb
    cases er
    exact ht.ds F0 H F0 H _ _ _ S0 eb _ fun F' H' σ' _ S' => q F' H' _ S'.g .non
  · cases er
end
section
variable {X : Cx} {x : Str} {p pos : Pos} {e : Expr} {es : List Expr} {t : TA} {af : AF}
theorem de_call {K : PySem.W.Frag} {n : Nat} {g : List PyData → Option R} (hn : ∀ ds r, g ds = some r → ds.length = n) (h : DA K t af) : DE K (tCall (spD K n g) [] E0 t) (eCall g af) := fun B F H σ env r S fh bh e Q q => by
  obtain ⟨ds, ea, e⟩ := bnd e
  refine h B F H σ env ds S fh bh ea _ fun F1 H1 vs g1 d1 => ?_
  rw [List.append_nil]
  exact ⟨by rw [DpAll.len d1, hn _ _ e], F1, ds, r, g1.i, d1, e, fun F2 H2 v g2 rr => q F2 H2 v (g1.trans g2) (rr.back g1)⟩
theorem fnD_len {N n : Nat} {f : SF} {ds : List PyData} {r : R} (h : fnD N n f ds = some r) : ds.length = n := by
  unfold fnD at h
  split at h
  · assumption
  · cases h
theorem se_call {k f N n : Nat} {K : PySem.W.Frag} {fd : FuncData} {ps : List Str} {b : SF} (G : FnOk X.prog X.w X.K X.mg X.base CX0 k f fd ps (spD X.K n (fnD N n b))) (hr : Room k X.A) (hg : Gl X x) (hm : X.mg x = some (.ref f)) (hk : PySem.W.keepIn X.K (.ref f) = true) (hb : Binds X.K fd ps [])
    (ha : SA X (e :: es) t af) (hdb : (x == ("__debug__" : Str)) = false := by decide) (he : starEach (e :: es) X.env = (false, eval e X.env) :: starEach es X.env := by rfl) (hpl : (backTo pos (starEach es X.env)).any (·.1) = false := by rfl) (hK : X.K = K := by rfl) :
    SE X (.Call (.Name x p) (e :: es) [] pos) (tCall (spD K n (fnD N n b)) [] E0 t) (eCall (fnD N n b) af) := by
  subst hK
  exact ⟨pe_call G hr hg hm hk hb .nil pass0 ha.pa hdb he hpl, de_call (fun _ _ => fnD_len) ha.da⟩
end
end Dn
namespace Dn
open PySem PySem.Spec PyProof.Rows L2
/-! a walk over a list or a tuple -/
theorem pi_or {X : Cx} {tg l : Expr} {w1 w2 : TI} (h1 : PI X tg l w1) (h2 : PI X tg l w2) : PI X tg l (fun σ H R => w1 σ H R ∨ w2 σ H R) := ⟨fun pins s σ H R I h => by
  rcases h with h | h
  · exact h1.run pins s σ H R I h
  · exact h2.run pins s σ H R I h⟩
@[simp] def iS (f : EF) : IF := fun env => (f env).bind fun r => match r.frz with
  | .list ds => some ds
  | .tuple ds => some ds
  | _ => none
section
variable {X : Cx} {tg a : Expr} {ta : TE} {f : EF}
theorem di_seq {K : PySem.W.Frag} (h : DE K ta f) : DI K (fun σ H R => iList K ta σ H R ∨ iTup K ta σ H R) (iS f) := fun B F H σ env ds S fh bh e R q => by
  obtain ⟨r, er, e⟩ := bnd e
  cases hr : r.frz with
  | list es =>
    rw [hr] at e
    exact .inl (di_list h B F H σ env ds S fh bh (by unfold iL; rw [er]; show (match r.frz with | .list ds => some ds | _ => none) = _; rw [hr]; exact e) R q)
  | tuple es =>
    rw [hr] at e
    exact .inr (di_tup h B F H σ env ds S fh bh (by unfold iT; rw [er]; show (match r.frz with | .tuple ds => some ds | _ => none) = _; rw [hr]; exact e) R q)
  | none => rw [hr] at e; cases e
  | bool _ => rw [hr] at e; cases e
  | int _ => rw [hr] at e; cases e
  | str _ => rw [hr] at e; cases e
  | dict _ => rw [hr] at e; cases e
theorem si_seq {K : PySem.W.Frag} (h1 : SE X a ta f) (hK : X.K = K := by rfl) : SI X tg a (fun σ H R => iList K ta σ H R ∨ iTup K ta σ H R) (iS f) := by
  subst hK
  exact ⟨pi_or (pi_list h1.pe) (pi_tup h1.pe), di_seq h1.de⟩
end
/-! the law's own end -/
def spLaw (K : PySem.W.Frag) : Sp := fun vs H Q _ => ∃ (a : Addr) (ns : List Int), vs = [.ref a] ∧ SqL K H a (ns.map V.int) ∧ ns.length ≤ 63 ∧ ∀ H', Q (.bl true) H'
theorem law_of {P : Program} {w : World} {K : PySem.W.Frag} {mg : Str → Option Value} {base : Heap} {k : Nat} {f : Addr} {fd : FuncData} {ps : List Str} {g : List PyData → Option R} (h : ∀ ns : List Int, ns.length ≤ 63 → g [.list (ns.map PyData.int)] = some (.val (.bool true)))
    (G : FnOk P w K mg base CX0 k f fd ps (spD K 1 g)) : FnOk P w K mg base CX0 k f fd ps (spLaw K) := G.imp fun vs H Q E ⟨a, ns, e, hs, hl, q⟩ => by
  subst e
  refine ⟨rfl, H, _, _, Same.refl H, .cons (.lst hs (DpAll.ints ns)) .nil, h ns hl, fun F' H' v _ rr => ?_⟩
  cases rr
  exact q H'
theorem _root_.L2.Room.units65 {k : Nat} {A : Around} (r : L2.Room k A) : A.units + 65 < cLine := by have := r.un; omega
theorem boot_isi : bootBuiltins "isinstance" = some (.builtin "isinstance") := by decide +kernel
theorem boot_len_ : bootBuiltins "len" = some (.builtin "len") := by decide +kernel
theorem boot_abs_ : bootBuiltins "abs" = some (.builtin "abs") := by decide +kernel
theorem boot_all_ : bootBuiltins "all" = some (.builtin "all") := by decide +kernel
theorem boot_any_ : bootBuiltins "any" = some (.builtin "any") := by decide +kernel
theorem boot_sum_ : bootBuiltins "sum" = some (.builtin "sum") := by decide +kernel
theorem boot_repr_ : bootBuiltins "repr" = some (.builtin "repr") := by decide +kernel
theorem boot_sorted_ : bootBuiltins "sorted" = some (.builtin "sorted") := by decide +kernel
theorem boot_int_ : bootBuiltins "int" = some (.type "int") := by decide +kernel
theorem boot_str_ : bootBuiltins "str" = some (.type "str") := by decide +kernel
theorem boot_bool_ : bootBuiltins "bool" = some (.type "bool") := by decide +kernel
theorem boot_list_ : bootBuiltins "list" = some (.type "list") := by decide +kernel
theorem boot_tuple_ : bootBuiltins "tuple" = some (.type "tuple") := by decide +kernel
end Dn
/-! Dg1: the law's own call, where it is known that no repr is going on (guards); repr of data. -/
namespace Dn
open PySem PySem.Spec PyProof.Rows L2

/-- the law's def at one place A -/
def CallAt (P : Program) (w : World) (A : Around) (outer : List Env) (H : Hp) (s : Shared) (f : Addr) (us : List Value) (Q : VK) : Prop :=
  codeAny (model P w) A (.call (.ref f) ⟨us, []⟩)
    (fun r s' => match r with
      | .ok (.ret u) => CE outer P w H s Q u s'
      | _ => False) s

section
variable {P : Program} {w : World} {K : PySem.W.Frag} {mg : Str → Option Value} {base : Heap}
theorem callAt {x qual : Str} {st : Stmt} {f : Addr} {fd : FuncData} {N ps : List Str} {k : Nat}
    {A : Around} {outer : List Env} {s : Shared} {H : Hp} {us : List Value} {vs : List V} {Q : VK}
    (F : Fun K x qual st f fd) (S : FnScope N ps (defScope st)) (hr : Room (k + 1) A) (ev : Env0 P w K mg base A outer s H)
    (bnds : BindsTo s fd ⟨us, []⟩ (ps.zip us)) (rv : Vals vs us) (hl : vs.length = ps.length)
    (body : ∀ (cdv : Value), Room k (A.deeper (envOfC qual (defScope st) s.heap.objs.size f cdv)) →
      ∃ t, PSs (cxOf CX0 P w K mg base N qual (defScope st) f cdv A outer s H E0).nox (defBody st) t ∧ t { nx := fun _ H' => Q .non H', rt := Q } (L2.start N vs) H) :
    CallAt P w A outer H s f us Q := by
  obtain ⟨oc, od, kV, doc, pm, an, cdv, ct, osl, rfl, lk, hcd⟩ := F.ex
  have old : ∀ b o, base.get? b = some o → s.heap.get? b = some o := fun b o e => (ev.bs b o e).1
  have inK : K.In s.heap := ev.mod.kin.keeps old
  have kinds : ∀ y ∈ ps.zip us, (defScope st).names.lookup y.1 = some .local ∨
      ((defScope st).names.lookup y.1 = some .cell ∧ ((cellsFrom (s.heap.objs.size + 1) (defScope st).names []).lookup y.1).isSome = true) := by
    rintro ⟨n, v⟩ hy
    rcases S.par n (List.of_mem_zip hy).1 with l | l
    · exact Or.inl l
    · exact Or.inr ⟨l, PySem.W.cellsFrom_some _ _ _ (Or.inl l)⟩
  unfold CallAt
  refine codeAny_call_function hr.depth
    (inK _ _ lk) rfl S.co S.gen rfl
    (PySem.W.codeRec_of inK hcd) (bnds _ _ _ _ ?_)
  refine wpAny_newFunctionEnv_cells S.kind kinds
    fun env he s1 xx => ?_
  subst he
  refine ⟨(ev.mod.nolimit.keeps old).keeps xx.toInCall.keep, codeAny_func ?_⟩
  obtain ⟨t, ht, hq⟩ := body cdv (hr.deeper _)
  have I0 := inv_start (CX := CX0) (E := E0) S hr.hd ev hl rv xx
  refine wpAny_mono (ht.nox.run [] s1 (L2.start N vs) H _ I0 hq)
    (fun fl s' hs => ?_) fun e s' hs => hs
  cases fl with
  | ret u =>
    obtain ⟨v, σ', H', J, r, q⟩ := hs
    exact ⟨v, H', J.os, J.bare, J.base, J.hok, r, q⟩
  | next =>
    obtain ⟨σ', H', J, q⟩ := hs
    exact ⟨V.non, H', J.os, J.bare, J.base, J.hok, rfl, q⟩
  | brk => obtain ⟨_, _, _, q⟩ := hs; exact q.elim
  | cont => obtain ⟨_, _, _, q⟩ := hs; exact q.elim
end

/-- the abstract heap at the head: the script alone, frozen, unless the module has it -/
noncomputable def headH (K : PySem.W.Frag) (a : Addr) (vs : List Value) (ns : List Int) : Hp := fun b =>
  if b = a ∧ K.lookup a = none then some (.frz { cls := .type "list", data := .seq vs.toArray } (.lst (ns.map V.int))) else none
theorem headH_some {K : PySem.W.Frag} {a b : Addr} {vs : List Value} {ns : List Int} {u : HO} (h : headH K a vs ns b = some u) :
    b = a ∧ K.lookup a = none ∧ u = .frz { cls := .type "list", data := .seq vs.toArray } (.lst (ns.map V.int)) := by
  unfold headH at h
  split at h
  · rename_i c
    cases h
    exact ⟨c.1, c.2, rfl⟩
  · cases h
theorem law_at {P : Program} {w : World} {K : PySem.W.Frag} {mg mb : Str → Option Value} {k : Nat} {fa a : Addr} {fd : FuncData} {N : List Str} {st : Stmt} {s₁ : Shared} {vs : List Value} {ns : List Int} {x qual : Str} {b : SF}
    (F : Fun K x qual st fa fd) (S : FnScope N ["script"] (defScope st))
    (KX : K.In s₁.heap) (gns : s₁.heap.Ns mainGlobals mg) (bns : s₁.heap.Ns builtinsNs mb) (boots : ∀ x : Str, x ≠ "__name__" → mb x = bootBuiltins x) (lim : s₁.heap.NoLimit) (gens : s₁.gens = #[])
    (ha : s₁.heap.get? a = some { cls := .type "list", data := .seq vs.toArray }) (hi : IntsAre vs ns) (hl : ns.length ≤ sizeLine) (hr : Room (k + 1) callerA)
    (bnd : ∀ (s : Shared) (u : Value), BindsTo s fd ⟨[u], []⟩ [("script", u)])
    (val : fnD N.length 1 b [.list (ns.map PyData.int)] = some (.val (.bool true)))
    (body : ∀ (base : Heap), K.In base → base.Ns mainGlobals mg → ∀ (cdv : Value) (s : Shared) (H : Hp), Room k (callerA.deeper (envOfC qual (defScope st) s.heap.objs.size fa cdv)) →
      ∃ t, SSs (cxOf CX0 P w K mg base N qual (defScope st) fa cdv callerA [] s H E0).nox (defBody st) t b) :
    codeAny (model P w) callerA (.call (.ref fa) ⟨[.ref a], []⟩) (fun r s' => r = .ok (.ret (.bool true)) ∧ OldK s₁.heap s'.heap ∧ s'.os = s₁.os ∧ AllBare s'.gens) s₁ := by
  have iv := vals_ints hi
  have il := hi.length
  generalize hH : headH K a vs ns = H
  have at_ : ∀ {b : Addr} {u : HO}, H b = some u → b = a ∧ K.lookup a = none ∧ u = .frz { cls := .type "list", data := .seq vs.toArray } (.lst (ns.map V.int)) := fun {b u} e => headH_some (hH ▸ e)
  have free : ∀ {b : Addr} {o : Obj}, s₁.heap.get? b = some o → (∀ es n, o.data ≠ .seq es n) → H b = none := fun {b o} e d => by
    cases q : H b with
    | none => rfl
    | some u =>
      obtain ⟨rfl, _, _⟩ := at_ q
      rw [ha] at e
      cases e
      exact absurd rfl (d _ _)
  have keepNs : ∀ {c : Addr} {m : Str → Option Value}, s₁.heap.Ns c m → (hidT s₁.heap H).Ns c m := fun {c m} ⟨o, es, ep, e, d, r⟩ =>
    ⟨o, es, ep, hidT_get e (free e fun _ _ z => by rw [d] at z; cases z), d, r⟩
  have KB : K.In (hidT s₁.heap H) := fun c o e => hidT_get (KX c o e) (by
    cases q : H c with
    | none => rfl
    | some u =>
      obtain ⟨rfl, n, _⟩ := at_ q
      rw [n] at e
      cases e)
  obtain ⟨mc, l1, l2⟩ := lim
  have md : Mod K mg (hidT s₁.heap H) := ⟨KB, keepNs gns, ⟨mb, keepNs bns, boots⟩, mc, keepNs l1, l2⟩
  have hok : HOk P w H s₁.heap := fun c u z => by
    obtain ⟨rfl, n, rfl⟩ := at_ z
    exact ⟨ha, by rw [List.length_map]; exact hl, vs, _, iv, ha⟩
  have e0 : Env0 P w K mg (hidT s₁.heap H) callerA [] s₁ H :=
    ⟨rfl, md, fun c o e => of_hidT e, Nat.le_of_eq (hidT_size _ _), trivial, fun c hc => (by cases hc), hok, .of_eq gens⟩
  have sq : SqL K H a (ns.map V.int) := by
    cases hk : K.lookup a with
    | some o =>
      have e := KX a o hk
      rw [ha] at e
      cases e
      exact Or.inr ⟨_, vs.toArray, _, hk, rfl, rfl, rfl, by rw [List.size_toArray, il]; exact hl, by simpa using iv⟩
    | none =>
      refine Or.inl (Or.inr ⟨{ cls := .type "list", data := .seq vs.toArray }, ?_⟩)
      rw [← hH]
      unfold headH
      rw [if_pos ⟨rfl, hk⟩]
  have run : CallAt P w callerA [] H s₁ fa [.ref a] (fun v _ => v = .bl true) := by
    refine callAt (vs := [.ref a]) F S hr e0 (bnd s₁ (.ref a)) (.cons rfl .nil) rfl fun cdv room => ?_
    obtain ⟨t, ht⟩ := body _ KB (keepNs gns) cdv s₁ H room
    refine ⟨t, ht.ps, ?_⟩
    unfold fnD at val
    rw [if_pos (show [PyData.list (ns.map PyData.int)].length = 1 from rfl)] at val
    have d0 : DpAll K H [V.ref a] [.list (ns.map PyData.int)] := .cons (.lst sq (DpAll.ints ns)) .nil
    have S0 : Sta K H H H H (L2.start N [V.ref a]) (startD N.length 1 [.list (ns.map PyData.int)]) := ⟨Grow.refl (Same.refl H), slots_start d0 rfl⟩
    unfold resO at val
    split at val
    · rename_i r' eb
      cases val
      refine ht.ds H H H H _ _ _ S0 eb _ ?_
      intro F' H' v g rr
      cases rr
      rfl
    · cases val
    · cases val
  unfold CallAt at run
  refine codeAny_mono run fun r s' h => ?_
  cases r with
  | error e => exact h.elim
  | ok fl =>
    cases fl with
    | next => exact h.elim
    | brk => exact h.elim
    | cont => exact h.elim
    | ret u =>
      obtain ⟨v, H', os, bare, un, hok', r', rfl⟩ := h
      obtain rfl : u = Value.bool true := r'
      refine ⟨rfl, OldK.of_keep fun c o e => ?_, os, bare⟩
      cases q : H c with
      | none => exact un.keep c o e q (fun z => by cases z) (fun z => by cases z)
      | some u =>
        obtain ⟨rfl, n, rfl⟩ := at_ q
        have z1 := (hok c _ q).1
        have z2 := (hok' c _ (un.frzs c _ _ q)).1
        rw [e] at z1
        cases z1
        exact z2
end Dn
namespace Dn
open PySem PySem.Spec PyProof.Rows L2

/-! ### repr of a list or a tuple -/
def Shw (d : PyData) : Prop := d.showable = true ∧ Shp d ∧ d.shown.length ≤ sizeLine
noncomputable instance (d : PyData) : Decidable (Shw d) := Classical.propDecidable _
noncomputable def gRepr : List PyData → Option R
  | [.list ds] => if Shw (.list ds) then some (.val (.str (PyData.shown (.list ds)))) else none
  | [.tuple ds] => if Shw (.tuple ds) then some (.val (.str (PyData.shown (.tuple ds)))) else none
  | _ => none
def rRepr (K : PySem.W.Frag) : List V → Hp → VK → Prop := fun xs H Q => ∃ (a : Addr) (d : PyData), xs = [.ref a] ∧ Dp K H (.ref a) d ∧ Shw d ∧ Q (.str d.shown) H
section
variable {X : Cx}
theorem call_reprD (hg : X.A.guards = some []) (hu : X.A.units + 66 < cLine) : CallR X (.builtin "repr") (rRepr X.K) := by
  intro pins s σ H xs us Q I r h
  obtain ⟨a, d, rfl, hd, ⟨h1, h2, h3⟩, q⟩ := h
  obtain ⟨u, rfl, ru⟩ := Vals.one r
  cases (show u = Value.ref a from ru)
  obtain ⟨as, rd⟩ := Dp.reads I d _ _ hd ru
  have h2 : SeqAt.shaped d = true := h2
  have dp := SeqAt.depth_of_shaped h2
  refine repr_of_reads' (h₀ := s.heap) rd h1 (PyData.noDict_hsm (PyData.hasDict_of_canLay d (SeqAt.canLay_of_shaped h2))) hg (by omega) (fun _ _ e => e) (fun h' u tk hk => ?_) h3
  exact ⟨.str d.shown, H, I.kept hk, ⟨_, rfl⟩, q⟩
end
theorem rc_repr {K : PySem.W.Frag} : RCD K (rRepr K) gRepr := fun F H vs ds r fh h e Q q => by
  unfold gRepr at e
  split at e
  · split at e
    · cases e
      rename_i hs
      obtain ⟨v, rfl, d⟩ := dpa1 h
      have d' := d
      obtain ⟨a, xs, rfl, s1, a1⟩ := dp_list d
      exact ⟨a, _, rfl, dp_mono fh d', hs, q F H _ (Grow.refl fh) (.str _)⟩
    · cases e
  · split at e
    · cases e
      rename_i hs
      obtain ⟨v, rfl, d⟩ := dpa1 h
      have d' := d
      obtain ⟨a, xs, rfl, s1, a1⟩ := dp_tuple d
      exact ⟨a, _, rfl, dp_mono fh d', hs, q F H _ (Grow.refl fh) (.str _)⟩
    · cases e
  · cases e

/-! ### == and != : texts by themselves, all else by data -/
noncomputable def gEqT : PyData → PyData → Option R := fun d e => match d, e with
  | .str a, .str b => some (.val (.bool (decide (a = b))))
  | d, e => gEq d e
noncomputable def gNeT : PyData → PyData → Option R := fun d e => match d, e with
  | .str a, .str b => some (.val (.bool (!decide (a = b))))
  | d, e => gNe d e
@[simp] theorem gEqT_str {a b : Str} : gEqT (.str a) (.str b) = some (.val (.bool (decide (a = b)))) := rfl
@[simp] theorem gNeT_str {a b : Str} : gNeT (.str a) (.str b) = some (.val (.bool (!decide (a = b)))) := rfl
theorem rv_eqT {K : PySem.W.Frag} : RVD K (fun x y H Q => rEq x y H Q ∨ rEqD K x y H Q) gEqT := fun F H x y dx dy r fh d1 d2 e Q q => by
  unfold gEqT at e
  split at e
  · cases e
    rw [dp_str d1, dp_str d2]
    refine .inl ⟨rfl, ?_⟩
    have := q F H _ (Grow.refl fh) (.bl _)
    rename_i a b
    rwa [show decide (V.str a = V.str b) = decide (a = b) by rw [decide_eq_decide]; exact ⟨fun z => by cases z; rfl, fun z => by rw [z]⟩]
  · exact .inr (rv_eq F H x y _ _ r fh d1 d2 e Q q)
theorem rv_neT {K : PySem.W.Frag} : RVD K (fun x y H Q => rNe x y H Q ∨ rNeD K x y H Q) gNeT := fun F H x y dx dy r fh d1 d2 e Q q => by
  unfold gNeT at e
  split at e
  · cases e
    rw [dp_str d1, dp_str d2]
    refine .inl ⟨rfl, ?_⟩
    have := q F H _ (Grow.refl fh) (.bl _)
    rename_i a b
    rwa [show decide (V.str a = V.str b) = decide (a = b) by rw [decide_eq_decide]; exact ⟨fun z => by cases z; rfl, fun z => by rw [z]⟩]
  · exact .inr (rv_ne F H x y _ _ r fh d1 d2 e Q q)
section
variable {X : Cx} {a b c e : Expr} {ta tb tc te : TE} {f g h : EF} {pos : Pos} {es : List Expr} {t : TA} {af : AF} {x : Str} {p : Pos}
theorem se_eqT {K : PySem.W.Frag} (hu : X.A.units + 64 < cLine) (h1 : SE X a ta f) (h2 : SE X b tb g) (hK : X.K = K := by rfl) : SE X (.Compare a [.Eq] [b] pos) (tOp (fun x y H Q => rEq x y H Q ∨ rEqD K x y H Q) ta tb) (eBin gEqT f g) := by
  subst hK
  exact ⟨pe_cmpR (op_eq.or (op_eqD hu)) h1.pe h2.pe (nomark _), de_bin rv_eqT h1.de h2.de⟩
theorem se_neT {K : PySem.W.Frag} (hu : X.A.units + 64 < cLine) (h1 : SE X a ta f) (h2 : SE X b tb g) (hK : X.K = K := by rfl) : SE X (.Compare a [.NotEq] [b] pos) (tOp (fun x y H Q => rNe x y H Q ∨ rNeD K x y H Q) ta tb) (eBin gNeT f g) := by
  subst hK
  exact ⟨pe_cmpR (op_ne.or (op_neD hu)) h1.pe h2.pe (nomark _), de_bin rv_neT h1.de h2.de⟩
theorem st_eqT {K : PySem.W.Frag} (hu : X.A.units + 64 < cLine) (h1 : SE X a ta f) (h2 : SE X b tb g) (hK : X.K = K := by rfl) : ST X (.Compare a [.Eq] [b] pos) (tTest (tOp (fun x y H Q => rEq x y H Q ∨ rEqD K x y H Q) ta tb)) (tE (eBin gEqT f g)) := by
  subst hK
  exact ⟨pt_cmpR (op_eq.or (op_eqD hu)) h1.pe h2.pe (nomark _), dt_test (de_bin rv_eqT h1.de h2.de)⟩
theorem st_neT {K : PySem.W.Frag} (hu : X.A.units + 64 < cLine) (h1 : SE X a ta f) (h2 : SE X b tb g) (hK : X.K = K := by rfl) : ST X (.Compare a [.NotEq] [b] pos) (tTest (tOp (fun x y H Q => rNe x y H Q ∨ rNeD K x y H Q) ta tb)) (tE (eBin gNeT f g)) := by
  subst hK
  exact ⟨pt_cmpR (op_ne.or (op_neD hu)) h1.pe h2.pe (nomark _), dt_test (de_bin rv_neT h1.de h2.de)⟩
theorem se_c_repr {K : PySem.W.Frag} (hgd : X.A.guards = some []) (hu : X.A.units + 66 < cLine) (hg : Gl X x) (hm : X.mg x = none) (hv : bootBuiltins x = some (.builtin "repr")) (ha : SA X (e :: es) t af) (hn : x ≠ "__name__" := by decide) (hdb : (x == ("__debug__" : Str)) = false := by decide)
    (he : starEach (e :: es) X.env = (false, eval e X.env) :: starEach es X.env := by rfl) (hpl : (backTo pos (starEach es X.env)).any (·.1) = false := by rfl) (hK : X.K = K := by rfl) : SE X (.Call (.Name x p) (e :: es) [] pos) (tCB (rRepr K) t) (eCall gRepr af) := by
  subst hK
  exact se_cb (call_reprD hgd hu) rc_repr hg hm hv ha hn hdb he hpl
/-! ### min, max of two ints -/
@[simp] def gMin2 : List PyData → Option R
  | [.int i, .int j] => some (.val (.int (if j < i then j else i)))
  | _ => none
@[simp] def gMax2 : List PyData → Option R
  | [.int i, .int j] => some (.val (.int (if j > i then j else i)))
  | _ => none
theorem rc_min2 {K : PySem.W.Frag} : RCD K (fun xs H Q => ∃ i j, xs = [.int i, .int j] ∧ Q (.int (if j < i then j else i)) H) gMin2 := fun F H vs ds r fh h e Q q => by
  unfold gMin2 at e
  split at e
  · cases e
    obtain ⟨v, w, rfl, d1, d2⟩ := dpa2 h
    rw [dp_int d1, dp_int d2]
    exact ⟨_, _, rfl, q F H _ (Grow.refl fh) (.int _)⟩
  · cases e
theorem rc_max2 {K : PySem.W.Frag} : RCD K (fun xs H Q => ∃ i j, xs = [.int i, .int j] ∧ Q (.int (if j > i then j else i)) H) gMax2 := fun F H vs ds r fh h e Q q => by
  unfold gMax2 at e
  split at e
  · cases e
    obtain ⟨v, w, rfl, d1, d2⟩ := dpa2 h
    rw [dp_int d1, dp_int d2]
    exact ⟨_, _, rfl, q F H _ (Grow.refl fh) (.int _)⟩
  · cases e
theorem se_c_min2 (hg : Gl X x) (hm : X.mg x = none) (hv : bootBuiltins x = some (.builtin "min")) (ha : SA X (e :: es) t af) (hn : x ≠ "__name__" := by decide) (hdb : (x == ("__debug__" : Str)) = false := by decide)
    (he : starEach (e :: es) X.env = (false, eval e X.env) :: starEach es X.env := by rfl) (hpl : (backTo pos (starEach es X.env)).any (·.1) = false := by rfl) (hc : X.calm = true := by rfl) :
    SE X (.Call (.Name x p) (e :: es) [] pos) (tCB (fun xs H Q => ∃ i j, xs = [.int i, .int j] ∧ Q (.int (if j < i then j else i)) H) t) (eCall gMin2 af) := se_cb (call_min2 hc) rc_min2 hg hm hv ha hn hdb he hpl
theorem se_c_max2 (hg : Gl X x) (hm : X.mg x = none) (hv : bootBuiltins x = some (.builtin "max")) (ha : SA X (e :: es) t af) (hn : x ≠ "__name__" := by decide) (hdb : (x == ("__debug__" : Str)) = false := by decide)
    (he : starEach (e :: es) X.env = (false, eval e X.env) :: starEach es X.env := by rfl) (hpl : (backTo pos (starEach es X.env)).any (·.1) = false := by rfl) (hc : X.calm = true := by rfl) :
    SE X (.Call (.Name x p) (e :: es) [] pos) (tCB (fun xs H Q => ∃ i j, xs = [.int i, .int j] ∧ Q (.int (if j > i then j else i)) H) t) (eCall gMax2 af) := se_cb (call_max2 hc) rc_max2 hg hm hv ha hn hdb he hpl
theorem boot_min_ : bootBuiltins "min" = some (.builtin "min") := by decide +kernel
theorem boot_max_ : bootBuiltins "max" = some (.builtin "max") := by decide +kernel
theorem boot_enumerate_ : bootBuiltins "enumerate" = some (.type "enumerate") := by decide +kernel
/-! ### [..] * n -/
@[simp] noncomputable def eRep (t : AF) (n : EF) : EF := fun env => (t env).bind fun ds => (n env).bind fun r => match r.frz with
  | .int k => if Few ds.length ∧ InR k ∧ Fits (ds.length * k.toNat) then some (.own (List.replicate k.toNat ds).flatten) else none
  | _ => none
theorem dpa_flatten {K : PySem.W.Frag} {F : Hp} {vs : List V} {ds : List PyData} (h : DpAll K F vs ds) : ∀ n : Nat, DpAll K F (List.replicate n vs).flatten (List.replicate n ds).flatten
  | 0 => .nil
  | n + 1 => by
    rw [List.replicate_succ, List.replicate_succ, List.flatten_cons, List.flatten_cons]
    exact DpAll.app h (dpa_flatten h n)
theorem de_rep {K : PySem.W.Frag} (h1 : DA K t af) (h2 : DE K tb g) : DE K (tOp rRep (tLst t) tb) (eRep af g) := fun B F H σ env r S fh bh e Q q => by
  obtain ⟨ds, ea, e⟩ := bnd e
  obtain ⟨n, en, e⟩ := bnd e
  split at e
  case h_2 => cases e
  rename_i k hk
  split at e
  case isFalse => cases e
  rename_i c
  cases e
  refine h1 B F H σ env ds S fh bh ea _ fun F1 H1 vs g1 d1 => ⟨by rw [DpAll.len d1]; exact sz1000 c.1, fun p hp => ?_⟩
  have gn : Grow F1 H1 F1 (upd H1 p (.lst vs)) := Grow.new g1.i hp
  have g2 := g1.trans gn
  refine h2.z (S.grow g2) g2.i (bh.trans g2.h) en fun F3 H3 y g3 d3 => ?_
  rw [hk] at d3
  rw [dp_int d3]
  refine ⟨p, k, vs, rfl, rfl, g3.h _ _ upd_same, by have := c.2.1.1; omega, by have := c.2.1.2; omega, ?_, fun p2 hp2 => ?_⟩
  · rw [DpAll.len d1]
    exact Nat.le_trans c.2.2 (by rw [sizeLine_eq]; decide)
  · have g4 := (g2.trans g3).trans (Grow.new (o := .lst (List.replicate k.toNat vs).flatten) g3.i hp2)
    exact q _ _ _ g4 ⟨p2, _, rfl, g3.i.free hp2, (g2.trans g3).h.free hp2, upd_same, dpa_mono g3.f (dpa_flatten d1 _)⟩
theorem se_rep {es : List Expr} {pos pos2 : Pos} (h1 : SA X es t af) (h2 : SE X b tb g) : SE X (.BinOp (.List es pos) .Mult b pos2) (tOp rRep (tLst t) tb) (eRep af g) := ⟨pe_op op_rep (pe_lst h1.pa) h2.pe, de_rep h1.da h2.de⟩
/-! ### xs.index(x) -/
def fstD (d : PyData) : List PyData → Option Nat
  | [] => none
  | z :: zs => if PyData.eqv z d = true then some 0 else (fstD d zs).map (· + 1)
theorem fstD_at {d : PyData} : ∀ {ds : List PyData} {j : Nat}, fstD d ds = some j → ∃ z, ds[j]? = some z ∧ PyData.eqv z d = true ∧ ∀ (m : Nat) (z' : PyData), m < j → ds[m]? = some z' → PyData.eqv z' d = false
  | [], _, h => by cases h
  | z :: zs, j, h => by
    unfold fstD at h
    split at h
    · cases h
      rename_i e
      exact ⟨z, rfl, e, fun m _ hm => absurd hm (Nat.not_lt_zero m)⟩
    · rename_i e
      cases q : fstD d zs with
      | none => rw [q] at h; cases h
      | some i =>
        rw [q] at h
        cases h
        obtain ⟨y, h1, h2, h3⟩ := fstD_at q
        refine ⟨y, h1, h2, fun m z' hm hz => ?_⟩
        cases m with
        | zero => cases hz; exact Bool.eq_false_iff.mpr e
        | succ m => exact h3 m z' (Nat.lt_of_succ_lt_succ hm) hz
@[simp] noncomputable def gIndex : PyData → PyData → Option R := fun y d => match y with
  | .list ds => if Shp (.list ds) ∧ Shp d then (fstD d ds).bind fun j => some (.val (.int (j : Nat))) else none
  | _ => none
theorem de_index {K : PySem.W.Frag} (h1 : DE K ta f) (h2 : DE K te g) : DE K (tBM K "list" (rIndexD K) ta (tCons te tNil)) (eBin gIndex f g) := fun B F H σ env r S fh bh e Q q => by
  obtain ⟨a, ea, e⟩ := bnd e
  obtain ⟨b, eb, e⟩ := bnd e
  unfold gIndex at e
  split at e
  case h_2 => cases e
  rename_i ds hds
  split at e
  case isFalse => cases e
  rename_i c
  obtain ⟨j, hj, e⟩ := bnd e
  cases e
  refine h1.z S fh bh ea fun F1 H1 x g1 d1 => ?_
  rw [hds] at d1
  have d1' := d1
  obtain ⟨p, xs, rfl, s1, a1⟩ := dp_list d1
  refine ⟨Or.inl ⟨rfl, _, sqL_mono g1.i s1⟩, ?_⟩
  refine h2.z (S.grow g1) g1.i (bh.trans g1.h) eb fun F2 H2 y g2 d2 => ?_
  obtain ⟨z, z1, z2, z3⟩ := fstD_at hj
  refine ⟨p, y, b.frz, ds, j, z, rfl, rfl, dp_mono (g2.f.trans g2.i) d1', dp_mono g2.i d2, c.1, c.2, z1, z2, z3, q F2 H2 _ (g1.trans g2) (.int _)⟩
theorem se_index {K : PySem.W.Frag} {o : Expr} {apos cpos : Pos} (hu : X.A.units + 65 < cLine) (h0 : SE X o ta f) (h1 : SE X e te g)
    (hbase : attributeBase o "index" X.env (eval o X.env) = eval o X.env := by rfl)
    (hfew : ((backTo cpos (starEach [e] X.env)).all (fun x => !x.1) && (backToKw cpos (keywordEach [] X.env)).all (fun x => x.1.isSome)
      && decide ([e].length + ([] : List Keyword).length + (if ([] : List Keyword).isEmpty then 0 else 1) < 30)) = true := by rfl)
    (hline : (apos.endLine == cpos.line) = true := by rfl) (hst : starEach [e] X.env = (false, eval e X.env) :: starEach [] X.env := by rfl) (hplain : (backTo cpos (starEach [] X.env)).any (·.1) = false := by rfl) (hK : X.K = K := by rfl) :
    SE X (.Call (.Attribute o "index" apos) [e] [] cpos) (tBM K "list" (rIndexD K) ta (tCons te tNil)) (eBin gIndex f g) := by
  subst hK
  exact ⟨pe_bm PySem.F.plainAttrs_list PySem.F.slot_list_index PySem.F.type_list_index (mt_indexD hu) h0.pe (pa_cons h1.pe pa_nil hst) hbase hfew hline hst hplain, de_index h0.de h1.de⟩
/-! ### the truth of a value -/
@[simp] def truD : PyData → Option Bool
  | .none => some false
  | .bool b => some b
  | .int i => some (i != 0)
  | .list ds => some (!ds.isEmpty)
  | .tuple ds => some (!ds.isEmpty)
  | _ => none
@[simp] def tTru (f : EF) : TF := fun env => (f env).bind fun r => truD r.frz
theorem empty_dp {K : PySem.W.Frag} {F : Hp} {vs : List V} {ds : List PyData} (h : DpAll K F vs ds) : (!ds.isEmpty) = !vs.isEmpty := by
  cases h <;> rfl
theorem dt_tru {K : PySem.W.Frag} (h : DE K ta f) : DT K (fun σ H Q => ta σ H fun x H' => ∃ k, TruV K x H' k ∧ Q k H') (tTru f) := fun B F H σ env b S fh bh e Q q => by
  obtain ⟨a, ea, e⟩ := bnd e
  refine h.z S fh bh ea fun F1 H1 x g1 d1 => ⟨b, ?_, q F1 H1 g1⟩
  cases hd : a.frz with
  | none => rw [hd] at e d1; cases d1; cases e; rfl
  | bool _ => rw [hd] at e d1; cases d1; cases e; rfl
  | int _ => rw [hd] at e d1; cases d1; cases e; rfl
  | str _ => rw [hd] at e; cases e
  | dict _ => rw [hd] at e; cases e
  | list ds =>
    rw [hd] at e d1
    obtain ⟨p, xs, rfl, s1, a1⟩ := dp_list d1
    cases e
    exact .inl ⟨xs, sqL_mono g1.i s1, empty_dp a1⟩
  | tuple ds =>
    rw [hd] at e d1
    obtain ⟨p, xs, rfl, s1, a1⟩ := dp_tuple d1
    cases e
    exact .inr (.inl ⟨xs, sqT_mono g1.i s1, empty_dp a1⟩)
theorem st_tru {K : PySem.W.Frag} (h1 : SE X a ta f) (he : ∀ whole, isTrue a X.env whole = (do let v ← whole; standAt a.pos; holding [v] (truthy v)) := by intro _; rfl) (hK : X.K = K := by rfl) : ST X a (fun σ H Q => ta σ H fun x H' => ∃ k, TruV K x H' k ∧ Q k H') (tTru f) := by
  subst hK
  exact ⟨pt_truth h1.pe he, dt_tru h1.de⟩
end
/-! ### simp rules -/
@[simp] theorem gEqT_int {i j : Int} : gEqT (.int i) (.int j) = some (.val (.bool (decide (i = j)))) := by
  show gEq _ _ = _
  unfold gEq
  rw [if_pos ⟨rfl, rfl⟩]
  show some (R.val (PyData.bool (i == j))) = _
  rw [Bool.beq_eq_decide_eq]
@[simp] theorem gNeT_int {i j : Int} : gNeT (.int i) (.int j) = some (.val (.bool (!decide (i = j)))) := by
  show gNe _ _ = _
  unfold gNe
  rw [if_pos ⟨rfl, rfl⟩]
  show some (R.val (PyData.bool (!(i == j)))) = _
  rw [Bool.beq_eq_decide_eq]
@[simp] theorem gEqT_bool {i j : Bool} : gEqT (.bool i) (.bool j) = some (.val (.bool (decide (i = j)))) := by
  show gEq _ _ = _
  unfold gEq
  rw [if_pos ⟨rfl, rfl⟩]
  cases i <;> cases j <;> rfl
@[simp] theorem gNeT_bool {i j : Bool} : gNeT (.bool i) (.bool j) = some (.val (.bool (!decide (i = j)))) := by
  show gNe _ _ = _
  unfold gNe
  rw [if_pos ⟨rfl, rfl⟩]
  cases i <;> cases j <;> rfl
@[simp] theorem gEqT_tup {a b : List PyData} : gEqT (.tuple a) (.tuple b) = gEq (.tuple a) (.tuple b) := rfl
@[simp] theorem gEqT_lst {a b : List PyData} : gEqT (.list a) (.list b) = gEq (.list a) (.list b) := rfl
@[simp] theorem gNeT_tup {a b : List PyData} : gNeT (.tuple a) (.tuple b) = gNe (.tuple a) (.tuple b) := rfl
@[simp] theorem gNeT_lst {a b : List PyData} : gNeT (.list a) (.list b) = gNe (.list a) (.list b) := rfl
end Dn
namespace Dn
open PySem PySem.Spec PyProof.Rows L2
/-- the law: its def, what it computes, and its derivation at the head -/
def LawG (P : Program) (w : World) (K : PySem.W.Frag) (mg : Str → Option Value) (k : Nat) (fa : Addr) : Prop :=
  ∃ (fd : FuncData) (N : List Str) (st : Stmt) (x qual : Str) (b : SF), Fun K x qual st fa fd ∧ FnScope N ["script"] (defScope st) ∧
    (∀ (s : Shared) (u : Value), BindsTo s fd ⟨[u], []⟩ [("script", u)]) ∧
    (∀ ns : List Int, ns.length ≤ 63 → fnD N.length 1 b [.list (ns.map PyData.int)] = some (.val (.bool true))) ∧
    ∀ (base : Heap), K.In base → base.Ns mainGlobals mg → ∀ (cdv : Value) (s : Shared) (H : Hp), Room k (callerA.deeper (envOfC qual (defScope st) s.heap.objs.size fa cdv)) →
      ∃ t, SSs (cxOf CX0 P w K mg base N qual (defScope st) fa cdv callerA [] s H E0).nox (defBody st) t b
theorem walkG {l : PySem.W.OpenLaw} {k : Nat} {q : Program} {loose : List Str} {XP : (Str → Option Value) → Heap → Prop} {YP : World → Heap → Prop} {d : DefRec} {K : Params → PySem.W.Frag}
    (hn : l.most = some 63) (hdf : d.params.defaults = []) (hr : Room (k + 1) callerA) (hY : ∀ (w : World) (h : Heap), YP w h → (K w.params).In h)
    (F : ∀ (w : World) (mg : Str → Option Value) (fa : Addr) (h : Heap), (K w.params).In h → h.Ns mainGlobals mg → mg d.name = some (.ref fa) → LawG l.prog w (K w.params) mg k fa) :
    PySem.W.WalkO q loose XP YP l.row.toRowW d [] (fun f vs => PySem.call f vs) :=
  Att.attach_call hn hdf fun w s₀ s₁ mg mb fa o pm cd doc a vs ns G Y ho hd hcd hmg hobj hints hlen hg => by
    have kin := hY w _ Y
    obtain ⟨fd, N, st, x, qual, b, F1, S, bnd, val, body⟩ := F w mg fa _ kin G.T.g hmg
    exact law_at F1 S kin G.T.g G.T.b G.T.builtins G.T.nolimit hg hobj hints (Nat.le_trans hlen (by rw [sizeLine_eq]; decide)) hr bnd (val ns hlen) body

theorem _root_.L2.Room.units66 {k : Nat} {A : Around} (r : L2.Room k A) : A.units + 66 < cLine := by have := r.un; omega

/-! ### a, b = x, y of plain names -/
@[simp] def sPar (i j : Nat) (t : AF) : SF := fun env => (t env).bind fun ds => match ds with
  | [a, b] => some (.nx ((env.set i (.val a)).set j (.val b)))
  | _ => none
theorem ds_par {K : PySem.W.Frag} {i j : Nat} {t : TA} {af : AF} (h : DA K t af) : DS K (tPar i j t) (sPar i j af) := fun F0 H0 F H σ env o S e D q => by
  obtain ⟨ds, ea, e⟩ := bnd e
  split at e
  case h_2 => cases e
  rename_i a b
  cases e
  refine h H0 F H σ env _ S.s S.g.i S.bh ea _ fun F1 H1 vs g d1 => ?_
  obtain ⟨v, w, rfl, d1, d2⟩ := dpa2 d1
  have S1 := S.grow g
  refine ⟨v, w, rfl, q F1 H1 _ g.f ⟨S1.g, ?_⟩⟩
  exact ((S1.s.put (r := .val a) S1.bh (Grow.refl S1.g.i) d1).put (r := .val b) S1.bh (Grow.refl S1.g.i) d2)
theorem ss_par {X : Cx} {i j : Nat} {x y : Str} {a b : Expr} {ta : TA} {af : AF} {px py pt pos : Pos} {kt k2 pt2} (hN : X.N.Nodup) (ha : SA X [a, b] ta af) (hc : X.calm = true := by rfl) (hi : X.N[i]? = some x := by rfl) (hj : X.N[j]? = some y := by rfl) (hij : i ≠ j := by decide)
    (hx : X.env.scope.names.lookup x = some .local := by rfl) (hy : X.env.scope.names.lookup y = some .local := by rfl)
    (hw : swappedStores [.Tuple [.Name x px, .Name y py] kt pt] (.Tuple [a, b] k2 pt2) X.env = pure (some [x, y]) := by rfl)
    (hs : swapsWithSole [.Tuple [.Name x px, .Name y py] kt pt] (.Tuple [a, b] k2 pt2) pos.line X.env = pure false := by rfl) :
    SS X (.Assign [.Tuple [.Name x px, .Name y py] kt pt] (.Tuple [a, b] k2 pt2) pos) (tPar i j ta) (sPar i j af) := ⟨ps_par hc hN hi hj hij hx hy ha.pa hw hs, ds_par ha.da⟩
/-! ### a tuple that the module's top has made -/
def constV : List Value → List PyData → Bool
  | [], [] => true
  | .int i _ :: vs, .int j :: ds => decide (i = j) && constV vs ds
  | .str x _ :: vs, .str y :: ds => decide (x = y) && constV vs ds
  | .bool x :: vs, .bool y :: ds => decide (x = y) && constV vs ds
  | .none :: vs, .none :: ds => constV vs ds
  | _, _ => false
theorem constV_ok {K : PySem.W.Frag} {F : Hp} : ∀ {vs : List Value} {ds : List PyData}, constV vs ds = true → ∃ xs, Vals xs vs ∧ DpAll K F xs ds
  | vs, ds, h => by
    unfold constV at h
    split at h
    · exact ⟨[], .nil, .nil⟩
    · rw [Bool.and_eq_true] at h
      obtain ⟨xs, h1, h2⟩ := constV_ok (K := K) (F := F) h.2
      have e := of_decide_eq_true h.1
      subst e
      exact ⟨V.int _ :: xs, .cons ⟨_, rfl⟩ h1, .cons (.int _) h2⟩
    · rw [Bool.and_eq_true] at h
      obtain ⟨xs, h1, h2⟩ := constV_ok (K := K) (F := F) h.2
      have e := of_decide_eq_true h.1
      subst e
      exact ⟨V.str _ :: xs, .cons ⟨_, rfl⟩ h1, .cons (.str _) h2⟩
    · rw [Bool.and_eq_true] at h
      obtain ⟨xs, h1, h2⟩ := constV_ok (K := K) (F := F) h.2
      have e := of_decide_eq_true h.1
      subst e
      exact ⟨V.bl _ :: xs, .cons rfl h1, .cons (.bl _) h2⟩
    · obtain ⟨xs, h1, h2⟩ := constV_ok (K := K) (F := F) h
      exact ⟨V.non :: xs, .cons rfl h1, .cons .non h2⟩
    · cases h
theorem tup_c {K : PySem.W.Frag} {a : Addr} {od : Option Addr} {its : Array Value} {n : Nat} {sl : Array (Option Value)} {ds : List PyData} (h : K.lookup a = some ⟨.type "tuple", od, .seq its n, sl⟩) (hv : (constV its.toList ds && decide (its.size ≤ 1000)) = true) : ∀ F, Dp K F (.ref a) (.tuple ds) := fun F => by
  rw [Bool.and_eq_true] at hv
  obtain ⟨xs, h1, h2⟩ := constV_ok (K := K) (F := F) hv.1
  exact .tup (.inr ⟨_, its, n, h, rfl, rfl, sz1000 (of_decide_eq_true hv.2), h1⟩) h2

/-! ### in a list or a tuple -/
def rInT (K : PySem.W.Frag) (k : Bool) : R2 := fun x y H Q => ∃ d ds, Dp K H x d ∧ Dp K H y (.tuple ds) ∧ SeqAt.shaped d = true ∧ SeqAt.shaped (.tuple ds) = true ∧ Q (.bl (if k then !memD d ds else memD d ds)) H
section
variable {X : Cx}
theorem op_inT (hu : X.A.units + 65 < cLine) : OpR X (compareOp .In) (rInT X.K false) := by
  intro pins s σ H x y v u Q I rx ry h
  obtain ⟨d, ds, hd, he, sd, se, q⟩ := h
  obtain ⟨as, r1⟩ := Dp.reads I d x v hd rx
  obtain ⟨bs, r2⟩ := Dp.reads I (.tuple ds) y u he ry
  have se' : SeqAt.shaped (.list ds) = true := se
  exact SeqAt.in_tuple_reads r2 r1 (SeqAt.canLay_of_shaped (d := .list ds) se') (SeqAt.canLay_of_shaped sd) (room_in_shaped sd hu) ⟨.bl _, H, I, rfl, q⟩
theorem op_notInT (hu : X.A.units + 65 < cLine) : OpR X (compareOp .NotIn) (rInT X.K true) := by
  intro pins s σ H x y v u Q I rx ry h
  obtain ⟨d, ds, hd, he, sd, se, q⟩ := h
  obtain ⟨as, r1⟩ := Dp.reads I d x v hd rx
  obtain ⟨bs, r2⟩ := Dp.reads I (.tuple ds) y u he ry
  have se' : SeqAt.shaped (.list ds) = true := se
  exact SeqAt.notIn_tuple_reads r2 r1 (SeqAt.canLay_of_shaped (d := .list ds) se') (SeqAt.canLay_of_shaped sd) (room_in_shaped sd hu) ⟨.bl _, H, I, rfl, q⟩
end
noncomputable def gInG : PyData → PyData → Option R := fun d y => match y with
  | .list ds => if Shp d ∧ Shp (.list ds) then some (.val (.bool (memD d ds))) else none
  | .tuple ds => if Shp d ∧ Shp (.tuple ds) then some (.val (.bool (memD d ds))) else none
  | _ => none
noncomputable def gNotInG : PyData → PyData → Option R := fun d y => match y with
  | .list ds => if Shp d ∧ Shp (.list ds) then some (.val (.bool (!memD d ds))) else none
  | .tuple ds => if Shp d ∧ Shp (.tuple ds) then some (.val (.bool (!memD d ds))) else none
  | _ => none
theorem rv_inG {K : PySem.W.Frag} : RVD K (fun x y H Q => rInD K x y H Q ∨ rInT K false x y H Q) gInG := fun F H x y dx dy r fh d1 d2 e Q q => by
  unfold gInG at e
  split at e
  · split at e
    · rename_i hh
      cases e
      exact .inl ⟨dx, _, dp_mono fh d1, dp_mono fh d2, hh.1, hh.2, q F H _ (Grow.refl fh) (.bl _)⟩
    · cases e
  · split at e
    · rename_i hh
      cases e
      exact .inr ⟨dx, _, dp_mono fh d1, dp_mono fh d2, hh.1, hh.2, q F H _ (Grow.refl fh) (.bl _)⟩
    · cases e
  · cases e
theorem rv_notInG {K : PySem.W.Frag} : RVD K (fun x y H Q => rNotInD K x y H Q ∨ rInT K true x y H Q) gNotInG := fun F H x y dx dy r fh d1 d2 e Q q => by
  unfold gNotInG at e
  split at e
  · split at e
    · rename_i hh
      cases e
      exact .inl ⟨dx, _, dp_mono fh d1, dp_mono fh d2, hh.1, hh.2, q F H _ (Grow.refl fh) (.bl _)⟩
    · cases e
  · split at e
    · rename_i hh
      cases e
      exact .inr ⟨dx, _, dp_mono fh d1, dp_mono fh d2, hh.1, hh.2, q F H _ (Grow.refl fh) (.bl _)⟩
    · cases e
  · cases e
section
variable {X : Cx} {a b : Expr} {ta tb : TE} {f g : EF} {pos : Pos}
theorem se_inG {K : PySem.W.Frag} (hu : X.A.units + 65 < cLine) (h1 : SE X a ta f) (h2 : SE X b tb g) (hm : behindInMarks .In b = false := by rfl) (hK : X.K = K := by rfl) : SE X (.Compare a [.In] [b] pos) (tOp (fun x y H Q => rInD K x y H Q ∨ rInT K false x y H Q) ta tb) (eBin gInG f g) := by
  subst hK
  exact ⟨pe_cmpR ((op_inD hu).or (op_inT hu)) h1.pe h2.pe hm, de_bin rv_inG h1.de h2.de⟩
theorem se_notInG {K : PySem.W.Frag} (hu : X.A.units + 65 < cLine) (h1 : SE X a ta f) (h2 : SE X b tb g) (hm : behindInMarks .NotIn b = false := by rfl) (hK : X.K = K := by rfl) : SE X (.Compare a [.NotIn] [b] pos) (tOp (fun x y H Q => rNotInD K x y H Q ∨ rInT K true x y H Q) ta tb) (eBin gNotInG f g) := by
  subst hK
  exact ⟨pe_cmpR ((op_notInD hu).or (op_notInT hu)) h1.pe h2.pe hm, de_bin rv_notInG h1.de h2.de⟩
theorem st_inG {K : PySem.W.Frag} (hu : X.A.units + 65 < cLine) (h1 : SE X a ta f) (h2 : SE X b tb g) (hm : behindInMarks .In b = false := by rfl) (hK : X.K = K := by rfl) : ST X (.Compare a [.In] [b] pos) (tTest (tOp (fun x y H Q => rInD K x y H Q ∨ rInT K false x y H Q) ta tb)) (tE (eBin gInG f g)) := by
  subst hK
  exact ⟨pt_cmpR ((op_inD hu).or (op_inT hu)) h1.pe h2.pe hm, dt_test (de_bin rv_inG h1.de h2.de)⟩
theorem st_notInG {K : PySem.W.Frag} (hu : X.A.units + 65 < cLine) (h1 : SE X a ta f) (h2 : SE X b tb g) (hm : behindInMarks .NotIn b = false := by rfl) (hK : X.K = K := by rfl) : ST X (.Compare a [.NotIn] [b] pos) (tTest (tOp (fun x y H Q => rNotInD K x y H Q ∨ rInT K true x y H Q) ta tb)) (tE (eBin gNotInG f g)) := by
  subst hK
  exact ⟨pt_cmpR ((op_notInD hu).or (op_notInT hu)) h1.pe h2.pe hm, dt_test (de_bin rv_notInG h1.de h2.de)⟩
end
end Dn
namespace Dn
open PySem PySem.Spec PyProof.Rows L2
/-! ### x += e for ints -/
@[simp] def gAddI : PyData → PyData → Option R := gI0 fun i j => .int (i + j)
@[simp] def sAug (i : Nat) (g : PyData → PyData → Option R) (f : EF) : SF := fun env => match env[i]? with
  | some (.val d) => (f env).bind fun r => (g d r.frz).bind fun z => some (.nx (env.set i z.sl))
  | _ => none
theorem rv_addI {K : PySem.W.Frag} : RVD K (rI0 fun i j => .int (i + j)) gAddI := fun F H x y dx dy r fh d1 d2 e Q q => by
  cases dx <;> cases dy <;> first | (cases e; done) | skip
  cases e
  rw [dp_int d1, dp_int d2]
  exact ⟨_, _, rfl, rfl, q F H _ (Grow.refl fh) (.int _)⟩
theorem ds_aug {K : PySem.W.Frag} {te : TE} {f : EF} {i : Nat} {r : R2} {g : PyData → PyData → Option R} (hr : RVD K r g) (h : DE K te f) : DS K (tAug i te r) (sAug i g f) := fun F0 H0 F H σ env o S e D q => by
  unfold sAug at e
  split at e
  · rename_i d hd
    obtain ⟨a, ea, e⟩ := bnd e
    obtain ⟨z, ez, e⟩ := bnd e
    cases e
    obtain ⟨v, h1, h2⟩ := S.s.val hd
    refine ⟨v, h1, h.atZ S ea fun F' H' y g1 dy => ?_⟩
    refine hr F' H' v y d _ z g1.i (dp_mono g1.f h2) dy ez _ fun F2 H2 w g2 rr => ?_
    exact q F2 H2 _ (g1.f.trans g2.f) ⟨S.g.trans (g1.trans g2), S.s.put S.bh (g1.trans g2) (rr.back g1)⟩
  · cases e
section
variable {X : Cx} {e : Expr} {te : TE} {f : EF} {pos pos' : Pos} {x : Str}
theorem ss_augI {i : Nat} (hN : X.N.Nodup) (h1 : SE X e te f) (hi : X.N[i]? = some x := by rfl) (hx : Loc X.env.scope x := by first | exact Or.inl rfl | exact Or.inr rfl) (hf : X.fn x = true ∨ X.env.scope.names.lookup x = some .local := by first | exact .inl rfl | exact .inr rfl) :
    SS X (.AugAssign (.Name x pos') .Add e pos) (tAug i te (rI0 fun i j => .int (i + j))) (sAug i gAddI f) := ⟨ps_aug hN hi hx h1.pe iop_add hf, ds_aug rv_addI h1.de⟩
end

/-! ### list(range(n)) -/
def rRng1 : List V → Hp → VK → Prop := fun vs H Q => ∃ j : Int, vs = [V.int j] ∧ ∀ p, H p = none → Q (.ref p) (upd H p (.rng 0 j))
def rListRng : List V → Hp → VK → Prop := fun xs H Q => ∃ (a : Addr) (j : Int), xs = [V.ref a] ∧ H a = some (.rng 0 j) ∧ -(2 ^ 62) ≤ j ∧ j < 2 ^ 62 ∧ j.toNat ≤ 100000 ∧
  ∀ l, H l = none → Q (.ref l) (upd H l (.lst ((List.range j.toNat).map fun k : Nat => V.int (k : Int))))
section
variable {X : Cx}
theorem cr_range1 : CallR X (.type "range") rRng1 := by
  intro pins s σ H vs us Q I r h
  obtain ⟨j, rfl, q⟩ := h
  obtain ⟨u, rfl, ru⟩ := Vals.one r
  obtain ⟨t, rfl⟩ := ru
  refine call_range_1 ⟨.ref s.heap.objs.size, upd H s.heap.objs.size (.rng 0 j), I.laid (t' := s.toks + 1 + 1) (fun b o e => Heap.get?_push_of_some _ e) (Nat.le_refl _) ?_, rfl, q _ (I.hok.fresh (Nat.le_refl _))⟩
  exact ⟨s.toks, t, s.toks + 1, Heap.get?_push_size _ rfl⟩
theorem vals_acc {n : Nat} : ∀ {acc : List Value}, acc.length = n → ∀ (lo : Nat), (∀ i v, acc[i]? = some v → ∃ t, v = Value.int ((lo + i : Nat) : Int) t) → Vals ((List.range n).map fun k : Nat => V.int ((lo + k : Nat) : Int)) acc := by
  induction n with
  | zero => intro acc h lo _; rw [List.eq_nil_of_length_eq_zero h]; exact .nil
  | succ n ih =>
    intro acc h lo hv
    cases acc with
    | nil => cases h
    | cons v acc =>
      rw [List.range_succ_eq_map, List.map_cons, List.map_map]
      refine .cons ?_ ?_
      · obtain ⟨t, e⟩ := hv 0 v rfl
        exact ⟨t, e⟩
      · have := ih (acc := acc) (by simpa using h) (lo + 1) fun i w hw => by
          obtain ⟨t, e⟩ := hv (i + 1) w (by simpa using hw)
          exact ⟨t, by rw [e, Nat.add_assoc, Nat.add_comm 1 i]⟩
        have e : ((fun k : Nat => V.int ((lo + k : Nat) : Int)) ∘ Nat.succ) = fun k : Nat => V.int ((lo + 1 + k : Nat) : Int) := by
          funext k
          show V.int ((lo + (k + 1) : Nat) : Int) = _
          rw [Nat.add_assoc, Nat.add_comm 1 k]
        rw [e]
        exact this
theorem call_list_rng (hc : X.calm = true) : CallR X (.type "list") rListRng := by
  intro pins s σ H xs us Q I r h
  obtain ⟨a, j, rfl, ha, b1, b2, hl, q⟩ := h
  obtain ⟨u, rfl, ru⟩ := Vals.one r
  cases (show u = Value.ref a from ru)
  obtain ⟨t, u, v, ho⟩ := I.hok a _ ha
  have hsz : Builtin.Range.rangeSize 0 j 1 = (j.toNat : Int) := by rw [rangeSize_one]; split <;> omega
  have hl24 : j.toNat ≤ 2 ^ 24 := Nat.le_trans hl (by decide)
  refine call_list_range (A := X.A) (n := j.toNat) (I.ok.hd hc) ho (small_one (by decide) (by decide) b1 b2) hsz hl24 fun h' tk acc' c' hk hS hacc => ?_
  refine ⟨.ref s.heap.objs.size, _, I.laid (t' := tk) (o := .lst ((List.range j.toNat).map fun k : Nat => V.int (k : Int))) hk (Nat.le_refl _) ?_, rfl, q _ (I.hok.fresh (Nat.le_refl _))⟩
  refine ⟨by rw [List.length_map, List.length_range, sizeLine_eq]; omega, acc'.toList, c', ?_, by simpa using hS⟩
  have := vals_acc (n := j.toNat) (acc := acc'.toList) (by have := hacc.1; simpa using this) 0 fun i v hv => by
    obtain ⟨t, e⟩ := hacc.2 i v (by simpa using hv)
    exact ⟨t, by rw [e]; simp⟩
  simpa using this
end
@[simp] noncomputable def eListR (f : EF) : EF := fun env => (f env).bind fun r => match r.frz with
  | .int n => if InR n ∧ Fits n.toNat then some (.own (intsFrom 0 n.toNat)) else none
  | _ => none
theorem dpa_range {K : PySem.W.Frag} {F : Hp} (n : Nat) : DpAll K F ((List.range n).map fun k : Nat => V.int (k : Int)) (intsFrom 0 n) := by
  have e : intsFrom 0 n = ((List.range n).map fun k : Nat => (k : Int)).map PyData.int := by
    refine List.ext_getElem? fun i => ?_
    rw [List.map_map, List.getElem?_map]
    by_cases h : i < n
    · rw [intsFrom_get n 0 i h, List.getElem?_range h, Int.zero_add]
      rfl
    · rw [List.getElem?_eq_none (by rw [intsFrom_len]; omega), List.getElem?_eq_none (by rw [List.length_range]; omega)]
      rfl
  rw [e]
  have := DpAll.ints (K := K) (H := F) ((List.range n).map fun k : Nat => (k : Int))
  rwa [List.map_map] at this
theorem boot_range_ : bootBuiltins "range" = some (.type "range") := by decide +kernel
section
variable {X : Cx} {e : Expr} {te : TE} {f : EF} {pos pos' : Pos} {x y : Str} {p p' : Pos}
theorem de_listR {K : PySem.W.Frag} (h : DE K te f) : DE K (tCB rListRng (tCons (tCB rRng1 (tCons te tNil)) tNil)) (eListR f) := fun B F H σ env r S fh bh e Q q => by
  obtain ⟨a, ea, e⟩ := bnd e
  split at e
  case h_2 => cases e
  rename_i n hn
  split at e
  case isFalse => cases e
  rename_i c
  cases e
  refine h.z S fh bh ea fun F1 H1 x g1 d1 => ?_
  rw [hn] at d1
  rw [dp_int d1]
  refine ⟨n, rfl, fun p hp => ⟨p, n, rfl, upd_same, c.1.1, c.1.2, c.2, fun l hl => ?_⟩⟩
  have g2 := g1.trans (Grow.new (o := .rng 0 n) g1.i hp)
  have g3 := g2.trans (Grow.new (o := .lst ((List.range n.toNat).map fun k : Nat => V.int (k : Int))) g2.i hl)
  exact q F1 _ _ g3 ⟨l, _, rfl, g2.i.free hl, g2.h.free hl, upd_same, dpa_range n.toNat⟩
theorem se_listR (hg : Gl X "list") (hm : X.mg "list" = none) (hg2 : Gl X "range") (hm2 : X.mg "range" = none) (h1 : SE X e te f) (hc : X.calm = true := by rfl)
    (he2 : starEach [e] X.env = (false, eval e X.env) :: starEach [] X.env := by rfl) (hpl2 : (backTo pos' (starEach [] X.env)).any (·.1) = false := by rfl)
    (he : starEach [.Call (.Name "range" p') [e] [] pos'] X.env = (false, eval (.Call (.Name "range" p') [e] [] pos') X.env) :: starEach [] X.env := by rfl) (hpl : (backTo pos (starEach [] X.env)).any (·.1) = false := by rfl) :
    SE X (.Call (.Name "list" p) [.Call (.Name "range" p') [e] [] pos'] [] pos) (tCB rListRng (tCons (tCB rRng1 (tCons te tNil)) tNil)) (eListR f) :=
  ⟨pe_callTy (call_list_rng hc) hg hm boot_list_ (pa_cons (pe_callTy cr_range1 hg2 hm2 boot_range_ (pa_cons h1.pe pa_nil he2) (by decide) (by decide) he2 hpl2) pa_nil he) (by decide) (by decide) he hpl, de_listR h1.de⟩
end
end Dn
/-! Dg5: three new lists in a new tuple come back, and each is owned again. -/
namespace Dn
open PySem PySem.Spec PyProof.Rows L2
@[simp] def sRetT3 (i j k : Nat) : SF := fun env => match env[i]?, env[j]?, env[k]? with
  | some (.own as), some (.own bs), some (.own cs) => some (.rt (.own3 as bs cs))
  | _, _, _ => none
@[simp] def sAsg3 (i j k : Nat) (f : EF) : SF := fun env => (f env).bind fun r => match r with
  | .own3 as bs cs => some (.nx (((env.set i (.own as)).set j (.own bs)).set k (.own cs)))
  | _ => none
section
variable {K : PySem.W.Frag}
theorem ds_retT3 {i j k : Nat} (hij : i ≠ j) (hik : i ≠ k) (hjk : j ≠ k) : DS K (tRet (tTup (tCons (tVar i) (tCons (tVar j) (tCons (tVar k) tNil))))) (sRetT3 i j k) := fun F0 H0 F H σ env o S e D q => by
  unfold sRetT3 at e
  split at e
  · rename_i as bs cs ha hb hc
    cases e
    obtain ⟨l, ad, h1, h2⟩ := S.s
    have get : ∀ m ds, env[m]? = some (Sl.own ds) → ∃ xs, σ[m]? = some (some (.ref (ad m))) ∧ H0 (ad m) = none ∧ F (ad m) = none ∧ H (ad m) = some (.lst xs) ∧ DpAll K F xs ds := fun m ds e => by
      have hi : m < env.length := (List.getElem?_eq_some_iff.mp e).1
      have hs : σ[m]? = some σ[m] := List.getElem?_eq_getElem (by omega)
      obtain ⟨xs, e1, h⟩ := h1 m _ _ hs e
      exact ⟨xs, by rw [hs, e1], h⟩
    obtain ⟨xs, x1, x0, x2, x3, x4⟩ := get i as ha
    obtain ⟨ys, y1, y0, y2, y3, y4⟩ := get j bs hb
    obtain ⟨zs, z1, z0, z2, z3, z4⟩ := get k cs hc
    refine ⟨_, x1, _, y1, _, z1, sz1000 (n := 3) (by decide), fun p hp => ?_⟩
    refine q F _ _ (S.g.trans (Grow.new S.fh hp)) ?_
    have ne : ∀ a xs, H a = some (.lst xs) → a ≠ p := fun a xs e z => by rw [z, hp] at e; cases e
    refine ⟨p, ad i, ad j, ad k, xs, ys, zs, rfl, S.fh.free hp, S.bh.free hp, upd_same, ⟨x2, x0, ?_, x4⟩, ⟨y2, y0, ?_, y4⟩, ⟨z2, z0, ?_, z4⟩, h2 i j _ _ hij ha hb, h2 i k _ _ hik ha hc, h2 j k _ _ hjk hb hc⟩
    · rw [upd_ne (ne _ _ x3)]; exact x3
    · rw [upd_ne (ne _ _ y3)]; exact y3
    · rw [upd_ne (ne _ _ z3)]; exact z3
  · cases e
/-- a slot gets an owned list that no other slot holds -/
theorem Slots.putO {B F H : Hp} {σ : L2.St} {env : En} {i : Nat} {q : Addr} {xs : List V} {ds : List PyData} (S : Slots K B F H σ env) (hB : B q = none) (hF : F q = none) (hH : H q = some (.lst xs)) (hd : DpAll K F xs ds)
    (hn : ∀ (m : Nat) (zs : List PyData), env[m]? = some (Sl.own zs) → σ[m]? ≠ some (some (V.ref q))) : Slots K B F H (σ.set i (some (V.ref q))) (env.set i (.own ds)) := by
  obtain ⟨l, ad, h1, h2⟩ := S
  have old : ∀ (m : Nat) (zs : List PyData), env[m]? = some (Sl.own zs) → ad m ≠ q := fun m zs e z => by
    have hi : m < env.length := (List.getElem?_eq_some_iff.mp e).1
    have hs : σ[m]? = some σ[m] := List.getElem?_eq_getElem (by omega)
    obtain ⟨ys, e1, _⟩ := h1 m _ _ hs e
    exact hn m zs e (by rw [hs, e1, z])
  refine ⟨by simp [l], fun m => if m = i then q else ad m, fun j w s e1 e2 => ?_, fun j k es fs hjk e1 e2 => ?_⟩
  · by_cases hj : i = j
    · subst hj
      rw [List.getElem?_set] at e1 e2
      simp at e1 e2
      obtain ⟨_, rfl⟩ := e1
      obtain ⟨_, rfl⟩ := e2
      show SlOk K B F H _ (if i = i then q else ad i) _
      rw [if_pos rfl]
      exact ⟨xs, rfl, hB, hF, hH, hd⟩
    · rw [List.getElem?_set_ne hj] at e1 e2
      show SlOk K B F H _ (if j = i then q else ad j) _
      rw [if_neg (fun z => hj z.symm)]
      exact h1 j w s e1 e2
  · show (if j = i then q else ad j) ≠ (if k = i then q else ad k)
    by_cases hj : j = i
    · have hk : k ≠ i := fun z => hjk (hj.trans z.symm)
      rw [if_pos hj, if_neg hk]
      rw [List.getElem?_set_ne (fun z => hk z.symm)] at e2
      exact (old k _ e2).symm
    · rw [if_neg hj]
      rw [List.getElem?_set_ne (fun z => hj z.symm)] at e1
      by_cases hk : k = i
      · rw [if_pos hk]
        exact old j _ e1
      · rw [if_neg hk]
        rw [List.getElem?_set_ne (fun z => hk z.symm)] at e2
        exact h2 j k _ _ hjk e1 e2
theorem fresh_set {σ : L2.St} {env : En} {i : Nat} {a q : Addr} {s : Sl} (haq : a ≠ q) (hn : ∀ (m : Nat) (zs : List PyData), env[m]? = some (Sl.own zs) → σ[m]? ≠ some (some (V.ref q))) :
    ∀ (m : Nat) (zs : List PyData), (env.set i s)[m]? = some (Sl.own zs) → (σ.set i (some (V.ref a)))[m]? ≠ some (some (V.ref q)) := fun m zs e z => by
  by_cases hm : i = m
  · subst hm
    rw [List.getElem?_set] at z
    simp at z
    exact haq z.2
  · rw [List.getElem?_set_ne hm] at e z
    exact hn m zs e z
theorem ds_asg3 {te : TE} {f : EF} {i j k : Nat} (h : DE K te f) : DS K (tAsg te (gTup K 3 (gCons (gName i) (gCons (gName j) (gCons (gName k) gNil))))) (sAsg3 i j k f) := fun F0 H0 F H σ env o S e D q => by
  obtain ⟨r, er, e⟩ := bnd e
  cases r with
  | val d => cases e
  | own ds => cases e
  | own3 as bs cs =>
    cases e
    refine h.at S er fun F' H' v g rr => ?_
    obtain ⟨p, a, b, c, xs, ys, zs, rfl, p1, p2, p3, ⟨a1, a2, a3, a4⟩, ⟨b1, b2, b3, b4⟩, ⟨c1, c2, c3, c4⟩, ab, ac, bc⟩ := rr
    have S' := S.grow g
    have fr : ∀ q, H q = none → ∀ (m : Nat) (zs : List PyData), env[m]? = some (Sl.own zs) → σ[m]? ≠ some (some (V.ref q)) := fun q hq m zs e z => by
      obtain ⟨p', ws, w1, _, _, w3, _⟩ := S.s.own e
      rw [z] at w1
      cases w1
      rw [hq] at w3
      cases w3
    have T1 := S'.s.putO (i := i) (S.bh.free a2) a1 a3 a4 (fr a a2)
    have T2 := T1.putO (i := j) (S.bh.free b2) b1 b3 b4 (fresh_set ab (fr b b2))
    have T3 := T2.putO (i := k) (S.bh.free c2) c1 c3 c4 (fresh_set bc (fresh_set ac (fr c c2)))
    exact ⟨_, _, rfl, .inl (.inl p3), rfl, _, _, rfl, _, _, rfl, _, _, rfl, rfl, q F' H' _ g.f ⟨S'.g, T3⟩⟩
end
theorem ss_retT3 {X : Cx} {i j k : Nat} {es : List Expr} {x1} {pos pos2 : Pos} (h1 : PA X es (tCons (tVar i) (tCons (tVar j) (tCons (tVar k) tNil)))) (hij : i ≠ j := by decide) (hik : i ≠ k := by decide) (hjk : j ≠ k := by decide) :
    SS X (.Return (some (.Tuple es x1 pos2)) pos) (tRet (tTup (tCons (tVar i) (tCons (tVar j) (tCons (tVar k) tNil))))) (sRetT3 i j k) := ⟨ps_ret (pe_tup h1), ds_retT3 hij hik hjk⟩
theorem ss_asg3 {X : Cx} {K : PySem.W.Frag} {e : Expr} {te : TE} {f : EF} {i j l : Nat} {e1 e2 e3 : Expr} {k : Nat} {pos pos2 : Pos} (h1 : SE X e te f) (hc : X.calm = true) (h : PGs X [e1, e2, e3] (gCons (gName i) (gCons (gName j) (gCons (gName l) gNil))))
    (hn : (assignEach [e1, e2, e3] X.env).length = 3 := by rfl) (hst : (assignEach [e1, e2, e3] X.env).findIdx? (·.1) = none := by rfl) (hK : X.K = K := by rfl)
    (hs : swapsWithSole [.Tuple [e1, e2, e3] k pos2] e pos.line X.env = pure false := by rfl) (hw : swappedStores [.Tuple [e1, e2, e3] k pos2] e X.env = pure none := by rfl)
    (h2 : (assignEach [.Tuple [e1, e2, e3] k pos2] X.env).map (·.2) = [assign (.Tuple [e1, e2, e3] k pos2) X.env] := by rfl) :
    SS X (.Assign [.Tuple [e1, e2, e3] k pos2] e pos) (tAsg te (gTup K 3 (gCons (gName i) (gCons (gName j) (gCons (gName l) gNil))))) (sAsg3 i j l f) := by
  subst hK
  exact ⟨ps_asg h1.pe (pg_tup hc h hn hst) hs hw h2, ds_asg3 h1.de⟩
end Dn
/-! Dg6: texts: f-strings, join, extend. -/
namespace Dn
open PySem PySem.Spec PyProof.Rows L2
noncomputable def gFmt : PyData → Option R
  | .str y => if Fits y.length then some (.val (.str y)) else none
  | .int i => if StrOk i then some (.val (.str (toString i))) else none
  | _ => none
@[simp] noncomputable def eFmt (f : EF) : EF := fun env => (f env).bind fun r => gFmt r.frz
noncomputable def jsD : Str → List PyData → Option Str
  | acc, [] => some acc
  | acc, .str y :: r => if Fits (acc.length + y.length) then jsD (acc ++ y) r else none
  | _, _ :: _ => none
@[simp] noncomputable def eJs (t : AF) : EF := fun env => (t env).bind fun ds => (jsD Str.empty ds).bind fun y => some (.val (.str y))
def strsD : List PyData → Option (List Str)
  | [] => some []
  | .str y :: r => (strsD r).bind fun ys => some (y :: ys)
  | _ :: _ => none
/-- the room that a joined text takes -/
def JFits (a : Str) (ys : List Str) : Prop := (ys.map (·.length)).sum + ys.length * a.length ≤ 100000
noncomputable instance (a : Str) (ys : List Str) : Decidable (JFits a ys) := Classical.propDecidable _
noncomputable def gJoin : PyData → PyData → Option R
  | .str a, .list ds => (strsD ds).bind fun ys => if JFits a ys then some (.val (.str (Txt.join a ys))) else none
  | _, _ => none
@[simp] noncomputable def eJoin (f g : EF) : EF := fun env => (f env).bind fun a => (g env).bind fun b => gJoin a.frz b.frz
@[simp] noncomputable def sExtend (i : Nat) (f : EF) : SF := fun env => match env[i]? with
  | some (.own ds) => (f env).bind fun r => match r with
    | .own es => if Fits (ds.length + es.length) then some (.nx (env.set i (.own (ds ++ es)))) else none
    | _ => none
  | _ => none
section
variable {K : PySem.W.Frag}
theorem app_len {a b : Str} : (a ++ b).length = a.length + b.length := by
  show (a.cps ++ b.cps).size = _
  exact Array.size_append
theorem de_fmt {te : TE} {f : EF} (h : DE K te f) : DE K (tFmt te) (eFmt f) := fun B F H σ env r S fh bh e Q q => by
  obtain ⟨r0, e0, e⟩ := bnd e
  refine h.z S fh bh e0 fun F1 H1 v g1 d1 => ?_
  unfold gFmt at e
  split at e
  · rename_i y hy
    split at e
    · rename_i hl
      cases e
      rw [hy] at d1
      rw [dp_str d1]
      exact .inl ⟨y, rfl, szL hl, q F1 H1 _ g1 (.str _)⟩
    · cases e
  · rename_i i hi
    split at e
    · rename_i hl
      cases e
      rw [hi] at d1
      rw [dp_int d1]
      exact .inr ⟨i, rfl, Nat.lt_of_lt_of_le (PySem.Flt.log2_lt_of (by decide : 0 < 1000) (show i.natAbs < 2 ^ 1000 from hl)) (by decide), q F1 H1 _ g1 (.str _)⟩
    · cases e
  · cases e
def DJ (K : PySem.W.Frag) (ts : List TE) (af : AF) : Prop := ∀ (B F H : Hp) (σ : L2.St) (env : En) (ds : List PyData) (acc out : Str), Slots K B F H σ env → Same F H → Same B H → af env = some ds → jsD acc ds = some out →
  ∀ Q : Str → Hp → Prop, (∀ F' H', Grow F H F' H' → Q out H') → tJs ts acc σ H Q
theorem dj_nil : DJ K [] aNil := fun B F H σ env ds acc out S fh bh e j Q q => by
  cases e
  cases j
  exact q F H (Grow.refl fh)
theorem dj_cons {te : TE} {ts : List TE} {f : EF} {g : AF} (h1 : DE K te f) (h2 : DJ K ts g) : DJ K (te :: ts) (aCons f g) := fun B F H σ env ds acc out S fh bh e j Q q => by
  obtain ⟨a, ea, e⟩ := bnd e
  obtain ⟨b, eb, e⟩ := bnd e
  cases e
  refine h1.z S fh bh ea fun F1 H1 x g1 d1 => ?_
  generalize a.frz = z at d1 j
  cases z with
  | str y =>
    have j : (if Fits (acc.length + y.length) then jsD (acc ++ y) b else none) = some out := j
    split at j
    · rename_i hl
      rw [dp_str d1]
      refine ⟨y, rfl, by rw [app_len]; exact szL hl, ?_⟩
      exact h2 B F1 H1 σ env b _ out (S.grow g1) g1.i (bh.trans g1.h) eb j Q fun F2 H2 g2 => q F2 H2 (g1.trans g2)
    · cases j
  | _ => cases j
theorem de_js {ts : List TE} {af : AF} (h : DJ K ts af) : DE K (fun σ H Q => tJs ts Str.empty σ H fun out H1 => Q (.str out) H1) (eJs af) := fun B F H σ env r S fh bh e Q q => by
  obtain ⟨ds, e0, e⟩ := bnd e
  obtain ⟨y, e1, e⟩ := bnd e
  cases e
  exact h B F H σ env ds Str.empty y S fh bh e0 e1 _ fun F' H' g => q F' H' _ g (.str _)
theorem strs_dp {F : Hp} : ∀ {vs : List V} {ds : List PyData} {ys : List Str}, DpAll K F vs ds → strsD ds = some ys → vs = ys.map V.str
  | _, [], _, h, e => by cases h; cases e; rfl
  | _, .str y :: r, _, h, e => by
    obtain ⟨zs, e0, e⟩ := bnd e
    cases e
    cases h with
    | cons d t => rw [dp_str d, strs_dp t e0]; rfl
  | _, .none :: _, _, _, e => by cases e
  | _, .bool _ :: _, _, _, e => by cases e
  | _, .int _ :: _, _, _, e => by cases e
  | _, .list _ :: _, _, _, e => by cases e
  | _, .tuple _ :: _, _, _, e => by cases e
  | _, .dict _ :: _, _, _, e => by cases e
theorem de_join {to te : TE} {f g : EF} (h1 : DE K to f) (h2 : DE K te g) : DE K (tM1 (fun x xs H Q => ∃ a p, ∃ ys : List Str, x = .str a ∧ xs = [.ref p] ∧ (SqL K H p (ys.map V.str) ∨ SqT K H p (ys.map V.str)) ∧
      (ys.map (·.length)).sum + ys.length * a.length ≤ 16777216 ∧ Q (.str (Txt.join a ys)) H) to te) (eJoin f g) := fun B F H σ env r S fh bh e Q q => by
  obtain ⟨a, ea, e⟩ := bnd e
  obtain ⟨b, eb, e⟩ := bnd e
  unfold gJoin at e
  split at e
  · rename_i x ds hx hd
    obtain ⟨ys, ey, e⟩ := bnd e
    split at e
    · rename_i hl
      cases e
      refine h1.z S fh bh ea fun F1 H1 v g1 d1 => ?_
      rw [hx] at d1
      refine ⟨⟨x, dp_str d1⟩, ?_⟩
      refine h2.z (S.grow g1) g1.i (bh.trans g1.h) eb fun F2 H2 w g2 d2 => ?_
      rw [hd] at d2
      obtain ⟨p, xs, rfl, sq, ax⟩ := dp_list d2
      rw [strs_dp ax ey] at sq
      refine ⟨x, p, ys, dp_str d1, rfl, .inl (sqL_mono g2.i sq), ?_, q F2 H2 _ (g1.trans g2) (.str _)⟩
      have hl : _ ≤ 100000 := hl
      exact Nat.le_trans hl (by decide)
    · cases e
  · cases e
theorem ds_extend {te : TE} {f : EF} {i : Nat} (h : DE K te f) : DS K (tDrop (tBM K "list" rExtend (tVar i) (tCons te tNil))) (sExtend i f) := fun F0 H0 F H σ env o S e D q => by
  unfold sExtend at e
  split at e
  · rename_i ds hd
    obtain ⟨r, er, e⟩ := bnd e
    split at e
    · rename_i es
      split at e
      · rename_i hl
        cases e
        obtain ⟨p, xs, h1, h0, h2, h3, h4⟩ := S.s.own hd
        refine ⟨_, h1, Or.inl ⟨rfl, _, .inl (.inl h3)⟩, h.at S er fun F' H' v g rr => ?_⟩
        obtain ⟨b, zs, rfl, b1, b2, b3, b4⟩ := rr
        have S' := S.grow g
        refine ⟨p, b, xs, zs, rfl, rfl, g.h _ _ h3, b3, by rw [DpAll.len h4, DpAll.len b4]; exact szL hl, ?_⟩
        exact q F' _ _ g.f (S'.turn hd h1 (DpAll.app (dpa_mono g.f h4) b4))
      · cases e
    · cases e
  · cases e
end
section
variable {X : Cx} {e o : Expr} {es : List Expr} {te to : TE} {ts : List TE} {f g : EF} {af : AF} {pos apos : Pos}
theorem se_fmt (h : SE X e te f) : SE X (.FormattedValue e (-1) none pos) (tFmt te) (eFmt f) := ⟨pe_fmt h.pe, de_fmt h.de⟩
structure SJ (X : Cx) (es : List Expr) (ts : List TE) (af : AF) : Prop where
  pj : PJ X es ts
  dj : DJ X.K ts af
theorem sj_nil : SJ X [] [] aNil := ⟨.nil, dj_nil⟩
theorem sj_cons (h1 : SE X e te f) (h2 : SJ X es ts af) : SJ X (e :: es) (te :: ts) (aCons f af) := ⟨.cons h1.pe h2.pj, dj_cons h1.de h2.dj⟩
theorem se_js {v1 v2 : Expr} {rest : List Expr} (h : SJ X (v1 :: v2 :: rest) ts af) : SE X (.JoinedStr (v1 :: v2 :: rest) pos) (fun σ H Q => tJs ts Str.empty σ H fun out H1 => Q (.str out) H1) (eJs af) := ⟨pe_joined h.pj, de_js h.dj⟩
theorem se_join {K : PySem.W.Frag} (h1 : SE X o to f) (h2 : SE X e te g) (hs : starEach [e] X.env = [(false, eval e X.env)] := by rfl) (hbase : attributeBase o "join" X.env (eval o X.env) = eval o X.env := by rfl) (hline : (apos.endLine == pos.line) = true := by rfl) (hK : X.K = K := by rfl) :
    SE X (.Call (.Attribute o "join" apos) [e] [] pos) (tM1 (fun x xs H Q => ∃ a p, ∃ ys : List Str, x = .str a ∧ xs = [.ref p] ∧ (SqL K H p (ys.map V.str) ∨ SqT K H p (ys.map V.str)) ∧
      (ys.map (·.length)).sum + ys.length * a.length ≤ 16777216 ∧ Q (.str (Txt.join a ys)) H) to te) (eJoin f g) := by
  subst hK
  exact ⟨pe_join h1.pe h2.pe hs hbase hline, de_join h1.de h2.de⟩
theorem ss_extend {j : Nat} {cpos : Pos} (h0 : PE X o (tVar j)) (h1 : SE X e te f) (hs : swapsWith (.Call (.Attribute o "extend" apos) [e] [] cpos) none pos.line X.env = pure false := by rfl)
    (hbase : attributeBase o "extend" X.env (eval o X.env) = eval o X.env := by rfl)
    (hfew : ((backTo cpos (starEach [e] X.env)).all (fun x => !x.1) && (backToKw cpos (keywordEach [] X.env)).all (fun x => x.1.isSome)
      && decide ([e].length + ([] : List Keyword).length + (if ([] : List Keyword).isEmpty then 0 else 1) < 30)) = true := by rfl)
    (hline : (apos.endLine == cpos.line) = true := by rfl) (hst : starEach [e] X.env = (false, eval e X.env) :: starEach [] X.env := by rfl) (hplain : (backTo cpos (starEach [] X.env)).any (·.1) = false := by rfl) :
    SS X (.Expr (.Call (.Attribute o "extend" apos) [e] [] cpos) pos) (tDrop (tBM X.K "list" rExtend (tVar j) (tCons te tNil))) (sExtend j f) :=
  ⟨ps_expr (pe_bm PySem.F.plainAttrs_list PySem.F.slot_list_extend PySem.F.type_list_extend mt_extend h0 (pa_cons h1.pe pa_nil hst) hbase hfew hline hst hplain) hs, ds_extend h1.de⟩
end
end Dn
/-! Dg7: texts that are read: partition, prefixes, digits, int(text), a text's truth. -/
namespace Dn
open PySem PySem.Spec PyProof.Rows L2
@[simp] noncomputable def gRmPre : PyData → PyData → Option R
  | .str a, .str b => if Fits a.length then some (.val (.str (Txt.removeprefix a b))) else none
  | _, _ => none
@[simp] noncomputable def gStarts : PyData → PyData → Option R
  | .str a, .str b => some (.val (.bool (Txt.startswith a b)))
  | _, _ => none
@[simp] noncomputable def gPart : PyData → PyData → Option R
  | .str a, .str b => if Fits a.length ∧ (b.length == 0) = false then some (.val (.tuple [.str (Txt.partition a b).1, .str (Txt.partition a b).2.1, .str (Txt.partition a b).2.2])) else none
  | _, _ => none
@[simp] def gAscii : PyData → Option R
  | .str a => some (.val (.bool (Txt.isascii a)))
  | _ => none
@[simp] def gDigit : PyData → Option R
  | .str a => some (.val (.bool (Txt.isdigit a)))
  | _ => none
@[simp] noncomputable def gIntS : List PyData → Option R
  | [.str a] => (PySem.intText? a).bind fun n => if Fits (a.length + 99360) then some (.val (.int n)) else none
  | _ => none
@[simp] noncomputable def truS : PyData → Option Bool
  | .str y => if Fits y.length then some ((y.length : Int) != 0) else none
  | _ => none
@[simp] noncomputable def tTruS (f : EF) : TF := fun env => (f env).bind fun r => truS r.frz
@[simp] def eM0 (g : PyData → Option R) (f : EF) : EF := fun env => (f env).bind fun a => g a.frz
@[simp] def eM1 (g : PyData → PyData → Option R) (f h : EF) : EF := fun env => (f env).bind fun a => (h env).bind fun b => g a.frz b.frz
section
variable {K : PySem.W.Frag}
/-- what a text's method of one text gives -/
def RM1 (K : PySem.W.Frag) (r : V → List V → Hp → VK → Prop) (g : PyData → PyData → Option R) : Prop := ∀ (F H : Hp) (x y : V) (dx dy : PyData) (r' : R), Same F H → Dp K F x dx → Dp K F y dy → g dx dy = some r' →
  (∃ a, x = .str a) ∧ ∀ Q : VK, (∀ F' H' v, Grow F H F' H' → RepR K F' H H' v r' → Q v H') → r x [y] H Q
def RM0 (K : PySem.W.Frag) (r : V → List V → Hp → VK → Prop) (g : PyData → Option R) : Prop := ∀ (F H : Hp) (x : V) (dx : PyData) (r' : R), Same F H → Dp K F x dx → g dx = some r' →
  (∃ a, x = .str a) ∧ ∀ Q : VK, (∀ F' H' v, Grow F H F' H' → RepR K F' H H' v r' → Q v H') → r x [] H Q
theorem de_m0 {r : V → List V → Hp → VK → Prop} {g : PyData → Option R} {to : TE} {f : EF} (hr : RM0 K r g) (h : DE K to f) : DE K (tM0 r to) (eM0 g f) := fun B F H σ env r' S fh bh e Q q => by
  obtain ⟨a, ea, e⟩ := bnd e
  refine h.z S fh bh ea fun F1 H1 x g1 d1 => ?_
  obtain ⟨s, t⟩ := hr F1 H1 x _ r' g1.i d1 e
  exact ⟨s, t Q fun F3 H3 v g3 rr => q F3 H3 v (g1.trans g3) (rr.back g1)⟩
/-- the second text is there ahead: its reading changes nothing that the first one's text says -/
theorem de_m1 {r : V → List V → Hp → VK → Prop} {g : PyData → PyData → Option R} {to te : TE} {f h : EF} (hs : ∀ dx dy r', g dx dy = some r' → ∃ a, dx = .str a) (hr : RM1 K r g) (h1 : DE K to f) (h2 : DE K te h) : DE K (tM1 r to te) (eM1 g f h) := fun B F H σ env r' S fh bh e Q q => by
  obtain ⟨a, ea, e⟩ := bnd e
  obtain ⟨b, eb, e⟩ := bnd e
  refine h1.z S fh bh ea fun F1 H1 x g1 d1 => ?_
  obtain ⟨y, hy⟩ := hs _ _ _ e
  have dd := d1
  rw [hy] at dd
  refine ⟨⟨y, dp_str dd⟩, ?_⟩
  refine h2.z (S.grow g1) g1.i (bh.trans g1.h) eb fun F2 H2 w g2 d2 => ?_
  exact (hr F2 H2 x w _ _ r' g2.i (dp_mono g2.f d1) d2 e).2 Q fun F3 H3 v g3 rr => q F3 H3 v ((g1.trans g2).trans g3) (rr.back (g1.trans g2))
abbrev rRmPre : V → List V → Hp → VK → Prop := fun x xs H Q => ∃ a b, x = .str a ∧ xs = [.str b] ∧ a.length ≤ sizeLine ∧ Q (.str (Txt.removeprefix a b)) H
abbrev rStarts : V → List V → Hp → VK → Prop := fun x xs H Q => ∃ a b, x = .str a ∧ xs = [.str b] ∧ Q (.bl (Txt.startswith a b)) H
abbrev rPart : V → List V → Hp → VK → Prop := fun x xs H Q => ∃ a b, x = .str a ∧ xs = [.str b] ∧ (b.length == 0) = false ∧ a.length ≤ sizeLine ∧
      ∀ p, H p = none → Q (.ref p) (upd H p (.tup [.str (Txt.partition a b).1, .str (Txt.partition a b).2.1, .str (Txt.partition a b).2.2]))
abbrev rAscii : V → List V → Hp → VK → Prop := fun x xs H Q => ∃ a, x = .str a ∧ xs = [] ∧ True ∧ Q (.bl (Txt.isascii a)) H
abbrev rDigit : V → List V → Hp → VK → Prop := fun x xs H Q => ∃ a, x = .str a ∧ xs = [] ∧ True ∧ Q (.bl (Txt.isdigit a)) H
theorem rm_pre : RM1 K rRmPre gRmPre := fun F H x y dx dy r' fh d1 d2 e => by
  unfold gRmPre at e
  split at e
  · split at e
    · rename_i hl
      cases e
      rw [dp_str d1, dp_str d2]
      exact ⟨⟨_, rfl⟩, fun Q q => ⟨_, _, rfl, rfl, szL hl, q F H _ (Grow.refl fh) (.str _)⟩⟩
    · cases e
  · cases e
theorem rm_starts : RM1 K rStarts gStarts := fun F H x y dx dy r' fh d1 d2 e => by
  unfold gStarts at e
  split at e
  · cases e
    rw [dp_str d1, dp_str d2]
    exact ⟨⟨_, rfl⟩, fun Q q => ⟨_, _, rfl, rfl, q F H _ (Grow.refl fh) (.bl _)⟩⟩
  · cases e
theorem rm_part : RM1 K rPart gPart := fun F H x y dx dy r' fh d1 d2 e => by
  unfold gPart at e
  split at e
  · split at e
    · rename_i hl
      cases e
      rw [dp_str d1, dp_str d2]
      refine ⟨⟨_, rfl⟩, fun Q q => ⟨_, _, rfl, rfl, hl.2, szL hl.1, fun p hp => ?_⟩⟩
      obtain ⟨g, rr⟩ := newT fh hp (DpAll.cons (.str _) (DpAll.cons (.str _) (DpAll.cons (.str _) .nil)))
      exact q _ _ _ g rr
    · cases e
  · cases e
theorem rm_ascii : RM0 K rAscii gAscii := fun F H x dx r' fh d1 e => by
  unfold gAscii at e
  split at e
  · cases e
    rw [dp_str d1]
    exact ⟨⟨_, rfl⟩, fun Q q => ⟨_, rfl, rfl, trivial, q F H _ (Grow.refl fh) (.bl _)⟩⟩
  · cases e
theorem rm_digit : RM0 K rDigit gDigit := fun F H x dx r' fh d1 e => by
  unfold gDigit at e
  split at e
  · cases e
    rw [dp_str d1]
    exact ⟨⟨_, rfl⟩, fun Q q => ⟨_, rfl, rfl, trivial, q F H _ (Grow.refl fh) (.bl _)⟩⟩
  · cases e
theorem hs_pre : ∀ dx dy r', gRmPre dx dy = some r' → ∃ a, dx = .str a := fun dx dy r' e => by
  unfold gRmPre at e
  split at e
  · exact ⟨_, rfl⟩
  · cases e
theorem hs_starts : ∀ dx dy r', gStarts dx dy = some r' → ∃ a, dx = .str a := fun dx dy r' e => by
  unfold gStarts at e
  split at e
  · exact ⟨_, rfl⟩
  · cases e
theorem hs_part : ∀ dx dy r', gPart dx dy = some r' → ∃ a, dx = .str a := fun dx dy r' e => by
  unfold gPart at e
  split at e
  · exact ⟨_, rfl⟩
  · cases e
theorem rc_intS : RCD K (fun xs H Q => ∃ a n, xs = [.str a] ∧ PySem.intText? a = some n ∧ a.length ≤ 640 ∧ Q (.int n) H) gIntS := fun F H vs ds r fh h e Q q => by
  unfold gIntS at e
  split at e
  · obtain ⟨n, hn, e⟩ := bnd e
    split at e
    · rename_i hl
      cases e
      obtain ⟨v, rfl, d⟩ := dpa1 h
      rw [dp_str d]
      have hl : _ ≤ 100000 := hl
      exact ⟨_, _, rfl, hn, by omega, q F H _ (Grow.refl fh) (.int _)⟩
    · cases e
  · cases e
theorem dt_truS {ta : TE} {f : EF} (h : DE K ta f) : DT K (fun σ H Q => ta σ H fun x H' => ∃ k, TruV K x H' k ∧ Q k H') (tTruS f) := fun B F H σ env b S fh bh e Q q => by
  obtain ⟨r, er, e⟩ := bnd e
  refine h.z S fh bh er fun F1 H1 x g1 d1 => ?_
  unfold truS at e
  split at e
  · rename_i y hy
    split at e
    · rename_i hl
      cases e
      rw [hy] at d1
      rw [dp_str d1]
      exact ⟨_, ⟨szL hl, rfl⟩, q F1 H1 g1⟩
    · cases e
  · cases e
end
section
variable {X : Cx} {e o a : Expr} {es : List Expr} {te to ta : TE} {t : TA} {f g : EF} {af : AF} {pos apos p : Pos} {x : Str}
theorem se_rmpre (h1 : SE X o to f) (h2 : SE X e te g) (hs : starEach [e] X.env = [(false, eval e X.env)] := by rfl) (hbase : attributeBase o "removeprefix" X.env (eval o X.env) = eval o X.env := by rfl) (hline : (apos.endLine == pos.line) = true := by rfl) :
    SE X (.Call (.Attribute o "removeprefix" apos) [e] [] pos) (tM1 rRmPre to te) (eM1 gRmPre f g) := ⟨pe_m1 PySem.F.slot_str_removeprefix PySem.F.type_str_removeprefix mt_removeprefix h1.pe h2.pe hs hbase hline, de_m1 hs_pre rm_pre h1.de h2.de⟩
theorem se_starts (h1 : SE X o to f) (h2 : SE X e te g) (hs : starEach [e] X.env = [(false, eval e X.env)] := by rfl) (hbase : attributeBase o "startswith" X.env (eval o X.env) = eval o X.env := by rfl) (hline : (apos.endLine == pos.line) = true := by rfl) :
    SE X (.Call (.Attribute o "startswith" apos) [e] [] pos) (tM1 rStarts to te) (eM1 gStarts f g) := ⟨pe_m1 PySem.F.slot_str_startswith PySem.F.type_str_startswith mt_startswith h1.pe h2.pe hs hbase hline, de_m1 hs_starts rm_starts h1.de h2.de⟩
theorem se_part (h1 : SE X o to f) (h2 : SE X e te g) (hs : starEach [e] X.env = [(false, eval e X.env)] := by rfl) (hbase : attributeBase o "partition" X.env (eval o X.env) = eval o X.env := by rfl) (hline : (apos.endLine == pos.line) = true := by rfl) :
    SE X (.Call (.Attribute o "partition" apos) [e] [] pos) (tM1 rPart to te) (eM1 gPart f g) := ⟨pe_partition h1.pe h2.pe hs hbase hline, de_m1 hs_part rm_part h1.de h2.de⟩
theorem se_ascii (h1 : SE X o to f) (hbase : attributeBase o "isascii" X.env (eval o X.env) = eval o X.env := by rfl) (hline : (apos.endLine == pos.line) = true := by rfl) :
    SE X (.Call (.Attribute o "isascii" apos) [] [] pos) (tM0 rAscii to) (eM0 gAscii f) := ⟨pe_m0 PySem.F.slot_str_isascii PySem.F.type_str_isascii mt_isascii h1.pe hbase hline, de_m0 rm_ascii h1.de⟩
theorem se_digit (h1 : SE X o to f) (hbase : attributeBase o "isdigit" X.env (eval o X.env) = eval o X.env := by rfl) (hline : (apos.endLine == pos.line) = true := by rfl) :
    SE X (.Call (.Attribute o "isdigit" apos) [] [] pos) (tM0 rDigit to) (eM0 gDigit f) := ⟨pe_m0 PySem.F.slot_str_isdigit PySem.F.type_str_isdigit mt_isdigit h1.pe hbase hline, de_m0 rm_digit h1.de⟩
theorem se_c_intS (hg : Gl X x) (hm : X.mg x = none) (hv : bootBuiltins x = some (.type "int")) (ha : SA X (e :: es) t af) (hn : x ≠ "__name__" := by decide) (hdb : (x == ("__debug__" : Str)) = false := by decide)
    (he : starEach (e :: es) X.env = (false, eval e X.env) :: starEach es X.env := by rfl) (hpl : (backTo pos (starEach es X.env)).any (·.1) = false := by rfl) : SE X (.Call (.Name x p) (e :: es) [] pos) (tCB (fun xs H Q => ∃ a n, xs = [.str a] ∧ PySem.intText? a = some n ∧ a.length ≤ 640 ∧ Q (.int n) H) t) (eCall gIntS af) := se_cty call_int_str rc_intS hg hm hv ha hn hdb he hpl
theorem st_truS {K : PySem.W.Frag} (h1 : SE X a ta f) (he : ∀ whole, isTrue a X.env whole = (do let v ← whole; standAt a.pos; holding [v] (truthy v)) := by intro _; rfl) (hK : X.K = K := by rfl) : ST X a (fun σ H Q => ta σ H fun x H' => ∃ k, TruV K x H' k ∧ Q k H') (tTruS f) := by
  subst hK
  exact ⟨pt_truth h1.pe he, dt_truS h1.de⟩
end
end Dn
/-! Dm1: mathematics that every law wants, over Dn. -/
namespace Dn
open PySem PySem.Spec PyProof.Rows L2
theorem fnD_eq {N n : Nat} {f : SF} {ds : List PyData} (h : ds.length = n) : fnD N n f ds = resO (f (startD N n ds)) := by
  unfold fnD
  rw [if_pos h]
/-! sizes -/
theorem lt_divLim {n : Nat} (h : n < 2 ^ 64) : n < divLim := Nat.lt_of_lt_of_le h (Nat.pow_le_pow_right (by decide) (by decide))
theorem divLim_mulLim {n : Nat} (h : n < divLim) : n < mulLim := Nat.lt_of_lt_of_le h (Nat.pow_le_pow_right (by decide) (by decide))
theorem lt_mulLim {n : Nat} (h : n < 2 ^ 64) : n < mulLim := divLim_mulLim (lt_divLim h)
theorem fd_small {i j : Int} (h0 : 0 < j) (h1 : j < 2 ^ 64) : FdOk i j := ⟨by omega, lt_divLim (by omega)⟩
theorem mul_r {i j : Int} (h : j.natAbs < 2 ^ 64) : MulOk i j := .inr (.inl h)
theorem mul_l {i j : Int} (h : i.natAbs < 2 ^ 64) : MulOk i j := .inl h
theorem mul_w {i j : Int} (h : i.natAbs < mulLim) (h' : j.natAbs < mulLim) : MulOk i j := .inr (.inr ⟨h, h'⟩)
theorem fmod_pos {i j : Int} (h : 0 < j) : i.fmod j = i % j := Int.fmod_eq_emod_of_nonneg i (by omega)
theorem fdiv_pos {i j : Int} (h : 0 < j) : i.fdiv j = i / j := Int.fdiv_eq_ediv_of_nonneg i (by omega)
theorem inR_of {n : Int} (h0 : 0 ≤ n) (h1 : n < 2 ^ 61) : InR n := ⟨by omega, by omega⟩
theorem fits {n : Nat} (h : n ≤ 100000) : Fits n := h
theorem shp_int (i : Int) : Shp (.int i) := rfl
theorem shp_bool (i : Bool) : Shp (.bool i) := rfl
theorem shp_none : Shp .none := rfl
/-! == of ints, bools -/
@[simp] theorem gEq_int {i j : Int} : gEq (.int i) (.int j) = some (.val (.bool (decide (i = j)))) := by
  unfold gEq
  rw [if_pos ⟨rfl, rfl⟩]
  show some (R.val (PyData.bool (i == j))) = _
  rw [Bool.beq_eq_decide_eq]
@[simp] theorem gNe_int {i j : Int} : gNe (.int i) (.int j) = some (.val (.bool (!decide (i = j)))) := by
  unfold gNe
  rw [if_pos ⟨rfl, rfl⟩]
  show some (R.val (PyData.bool (!(i == j)))) = _
  rw [Bool.beq_eq_decide_eq]
/-! places -/
theorem ixN_nat {n : Nat} {k : Int} (h0 : 0 ≤ k) (h1 : k < n) : ixN n k = some k.toNat := by
  unfold ixN
  rw [if_pos h0, if_pos h1]
theorem atI_nat' {α : Type} {xs : List α} {k : Int} {x : α} (h0 : 0 ≤ k) (h1 : xs[k.toNat]? = some x) : atI xs k = some x := by
  have hl : k.toNat < xs.length := (List.getElem?_eq_some_iff.mp h1).1
  unfold atI
  rw [ixN_nat h0 (by omega)]
  exact h1
/-! comprehensions -/
theorem lcD_map {vs : List Nat} {g : GF} {c : TF} {f : EF} {env : En} (h : PyData → PyData) : ∀ {ds : List PyData}, (∀ d ∈ ds, ∃ e1 r, g d (wipeD env vs) = some e1 ∧ c e1 = some true ∧ f e1 = some r ∧ r.frz = h d) → lcD vs g c f env ds = some (ds.map h)
  | [], _ => rfl
  | d :: ds, hd => by
    obtain ⟨e1, r, h1, h2, h3, h4⟩ := hd d List.mem_cons_self
    have ih := lcD_map (ds := ds) h fun x hx => hd x (List.mem_cons_of_mem _ hx)
    unfold lcD
    rw [h1, Option.bind_some, h2, Option.bind_some, if_pos rfl, h3, Option.bind_some, ih, Option.bind_some, h4, List.map_cons]
theorem eLc_eq {vs : List Nat} {it : IF} {g : GF} {c : TF} {f : EF} {env : En} {ds rs : List PyData} (h1 : it env = some ds) (hl : Fits ds.length) (h2 : lcD vs g c f env ds = some rs) : eLc vs it g c f env = some (.own rs) := by
  unfold eLc
  rw [h1, Option.bind_some, if_pos hl, h2, Option.bind_some]
theorem sFor_eq {it : IF} {g : GF} {body : SF} {env : En} {ds : List PyData} (h1 : it env = some ds) : sFor it g body env = forD g body ds env := by
  unfold sFor
  rw [h1, Option.bind_some]
/-! loops -/
theorem forD_inv {g : GF} {body : SF} {ds : List PyData} (P : Nat → En → Prop) (turn : ∀ i env d, P i env → ds[i]? = some d → ∃ e1 e2, g d env = some e1 ∧ body e1 = some (.nx e2) ∧ P (i + 1) e2) {env : En} (h : P 0 env) : ∃ e, forD g body ds env = some (.nx e) ∧ P ds.length e := by
  suffices H : ∀ (n i : Nat) (env : En), i + n = ds.length → P i env → ∃ e, forD g body (ds.drop i) env = some (.nx e) ∧ P ds.length e by
    have := H ds.length 0 env (by omega) h
    rwa [List.drop_zero] at this
  intro n
  induction n with
  | zero =>
    intro i env e p
    rw [List.drop_eq_nil_of_le (by omega)]
    have : i = ds.length := by omega
    subst this
    exact ⟨env, rfl, p⟩
  | succ n ih =>
    intro i env e p
    have hi : i < ds.length := by omega
    obtain ⟨e1, e2, h1, h2, h3⟩ := turn i env ds[i] p (List.getElem?_eq_getElem hi)
    obtain ⟨e', h4, h5⟩ := ih (i + 1) e2 (by omega) h3
    refine ⟨e', ?_, h5⟩
    rw [List.drop_eq_getElem_cons hi]
    unfold forD
    rw [h1]
    show turnO (body e1) _ = _
    rw [h2]
    exact h4
theorem intsFrom_at {n : Nat} {lo : Int} {i : Nat} {d : PyData} (h : (intsFrom lo n)[i]? = some d) : i < n ∧ d = .int (lo + i) := by
  have hi : i < n := by
    have := (List.getElem?_eq_some_iff.mp h).1
    rwa [intsFrom_len] at this
  rw [intsFrom_get n lo i hi] at h
  cases h
  exact ⟨hi, rfl⟩
/-! Euclid -/
/-- n turns at most of (a, b) := (b, a mod b), as the loop goes -/
def euc : Nat → Int → Int → Int
  | 0, a, _ => a
  | n + 1, a, b => if b = 0 then a else euc n b (a % b)
def gcdI (a b : Int) : Int := (Nat.gcd a.natAbs b.natAbs : Nat)
theorem gcdI_step {a b : Int} (ha : 0 ≤ a) (hb : 0 < b) : gcdI b (a % b) = gcdI a b := by
  unfold gcdI
  have e : (a % b).natAbs = a.natAbs % b.natAbs := by
    obtain ⟨m, rfl⟩ := Int.eq_ofNat_of_zero_le ha
    obtain ⟨n, rfl⟩ := Int.eq_ofNat_of_zero_le (Int.le_of_lt hb)
    rw [← Int.natCast_emod, Int.natAbs_natCast, Int.natAbs_natCast, Int.natAbs_natCast]
  rw [e, Nat.gcd_comm b.natAbs, ← Nat.gcd_rec, Nat.gcd_comm]
theorem euc_gcd : ∀ (k n : Nat) (a b : Int), 0 ≤ a → 0 ≤ b → b < 2 ^ k → 2 * k + 1 ≤ n → euc n a b = gcdI a b
  | 0, n, a, b, ha, hb, h, hn => by
    have : b = 0 := by
      have : b < 1 := h
      omega
    subst this
    obtain ⟨m, rfl⟩ : ∃ m, n = m + 1 := ⟨n - 1, by omega⟩
    unfold euc
    rw [if_pos rfl]
    unfold gcdI
    simp
    omega
  | k + 1, n, a, b, ha, hb, h, hn => by
    obtain ⟨m, rfl⟩ : ∃ m, n = m + 2 := ⟨n - 2, by omega⟩
    unfold euc
    by_cases h0 : b = 0
    · subst h0
      rw [if_pos rfl]
      unfold gcdI
      simp
      omega
    · rw [if_neg h0]
      have hb' : 0 < b := by omega
      have hr0 := Int.emod_nonneg a h0
      have hr1 := Int.emod_lt_of_pos a hb'
      rw [← gcdI_step ha hb']
      unfold euc
      by_cases h1 : a % b = 0
      · rw [if_pos h1, h1]
        unfold gcdI
        simp
        omega
      · rw [if_neg h1]
        have hr' : 0 < a % b := by omega
        have hs0 := Int.emod_nonneg b h1
        have hs1 := Int.emod_lt_of_pos b hr'
        rw [← gcdI_step (by omega) hr']
        refine euc_gcd k m _ _ (by omega) hs0 ?_ (by omega)
        have hq : 1 ≤ b / (a % b) := Int.le_ediv_of_mul_le hr' (by omega)
        have hd := Int.mul_ediv_add_emod b (a % b)
        have : (a % b) * 1 ≤ (a % b) * (b / (a % b)) := Int.mul_le_mul_of_nonneg_left hq (by omega)
        have e2 : (2 : Int) ^ (k + 1) = 2 * 2 ^ k := by rw [Int.pow_succ, Int.mul_comm]
        rw [e2] at h
        omega
end Dn
namespace Law
open PySem PySem.Spec PyProof.Rows L2 Dn
def topS (i : Nat) : Stmt := PySem.Challenge.pw_oddkeep_k10_numbers_read_back.main.body.getD i (.Pass ⟨0, 0, 0, 0⟩)
abbrev s_is_whole : Stmt := topS 3
abbrev s_write_number : Stmt := topS 7
abbrev s__whole : Stmt := topS 11
abbrev s__law_is_integer : Stmt := topS 13
abbrev s__law_lowest : Stmt := topS 14
abbrev s__law_cell : Stmt := topS 15
abbrev s_is_number : Stmt := topS 4
abbrev s_is_short : Stmt := topS 5
abbrev s_read_number : Stmt := topS 10
abbrev s__law_right : Stmt := topS 16
abbrev s_law : Stmt := topS 17
noncomputable def b_is_whole : SF :=
  (sRet (eIf (tE (eIsi "int" (eVar 0))) (eT (tNotD (tE (eIsi "bool" (eVar 0))))) (eC (.bool false))))
noncomputable abbrev m_is_whole := fnD 1 1 b_is_whole
noncomputable def b_write_number : SF :=
  (sSeq (sAsg (gtTup2 1 2) (eVar 0))
    (sSeq (sIf (tE (eBin gEqT (eVar 2) (eC (.int 1)))) (sRet (eCall gStr (aCons (eVar 1) aNil))) sNext)
    (sRet (eJs (aCons (eFmt (eVar 1)) (aCons (eC (.str "/")) (aCons (eFmt (eVar 2)) aNil)))))))
noncomputable abbrev m_write_number := fnD 3 1 b_write_number
noncomputable def b__whole : SF :=
  (sSeq (sIf (tOrD (tNotD (tE (eM0 gAscii (eVar 0)))) (tOrD (tNotD (tE (eM0 gDigit (eVar 0)))) (tE (eBin gGt (eCall gLen (aCons (eVar 0) aNil)) (eC (.int (3))))))) (sRet (eC .none)) sNext)
    (sSeq (sIf (tAndD (tE (eM1 gStarts (eVar 0) (eC (.str "0")))) (tE (eBin gNeT (eVar 0) (eC (.str "0"))))) (sRet (eC .none)) sNext)
    (sRet (eCall gIntS (aCons (eVar 0) aNil)))))
noncomputable abbrev m__whole := fnD 1 1 b__whole
noncomputable def b__law_is_integer : SF :=
  (sRet (eIf (tE (eIsi "int" (eVar 0))) (eT (tNotD (tE (eIsi "bool" (eVar 0))))) (eC (.bool false))))
noncomputable abbrev m__law_is_integer := fnD 1 1 b__law_is_integer
noncomputable def b__law_lowest_1 : SF :=
  (sSeq (sIf (tE (eBin gEqT (eVar 4) (eC (.int 0)))) sBreak sNext)
    (sPar 3 4 (aCons (eVar 4) (aCons (eBin gMod (eCall gInt (aCons (eVar 3) aNil)) (eVar 4)) aNil))))
noncomputable def b__law_lowest : SF :=
  (sSeq (sPar 3 4 (aCons (eVar 0) (aCons (eVar 1) aNil)))
    (sSeq (sIf (tE (eBin gLt (eVar 3) (eC (.int 0)))) (sSet 3 (eUn gNeg (eVar 3))) sNext)
    (sSeq (sFor (iR1 (aCons (eC (.int 4000)) aNil)) (gtName 2) b__law_lowest_1)
    (sRet (eTup (aCons (eBin gFdiv (eVar 0) (eVar 3)) (aCons (eBin gFdiv (eVar 1) (eVar 3)) aNil)))))))
noncomputable abbrev m__law_lowest := fnD 5 2 b__law_lowest
noncomputable def b__law_cell : SF :=
  (sSeq (sIf (tE (eBin gLt (eVar 1) (eCall gLen (aCons (eVar 0) aNil)))) (sRet (eCall gInt (aCons (eBin gIx (eVar 0) (eVar 1)) aNil))) sNext)
    (sRet (eC (.int 0))))
noncomputable abbrev m__law_cell := fnD 2 2 b__law_cell
noncomputable def b_is_number : SF :=
  (sSeq (sIf (tOrD (tNotD (tE (eIsi "tuple" (eVar 0)))) (tE (eBin gNeT (eCall gLen (aCons (eVar 0) aNil)) (eC (.int 2))))) (sRet (eC (.bool false))) sNext)
    (sSeq (sAsg (gtTup2 1 2) (eVar 0))
    (sRet (eIf (tE (eCall m_is_whole (aCons (eVar 1) aNil))) (eIf (tE (eCall m_is_whole (aCons (eVar 2) aNil))) (eIf (tE (eBin gGe (eVar 2) (eC (.int 1)))) (eBin gEqT (eCall gGcd (aCons (eVar 1) (aCons (eVar 2) aNil))) (eC (.int 1))) (eC (.bool false))) (eC (.bool false))) (eC (.bool false))))))
noncomputable abbrev m_is_number := fnD 3 1 b_is_number
noncomputable def b_is_short : SF :=
  (sSeq (sIf (tNotD (tE (eCall m_is_number (aCons (eVar 0) aNil)))) (sRet (eC (.bool false))) sNext)
    (sSeq (sAsg (gtTup2 1 2) (eVar 0))
    (sRet (eIf (tE (eBin gLt (eCall gAbs (aCons (eVar 1) aNil)) (eC (.int (1000))))) (eBin gLt (eVar 2) (eC (.int (1000)))) (eC (.bool false))))))
noncomputable abbrev m_is_short := fnD 3 1 b_is_short
noncomputable def b_read_number : SF :=
  (sSeq (sAsg (gtTup3 4 5 6) (eM1 gPart (eVar 0) (eC (.str "/"))))
    (sSeq (sSet 1 (eCall m__whole (aCons (eM1 gRmPre (eVar 4) (eC (.str "-"))) aNil)))
    (sSeq (sSet 2 (eIf (tTruS (eVar 5)) (eCall m__whole (aCons (eVar 6) aNil)) (eC (.int 1))))
    (sSeq (sIf (tOrD (tE (eBin gIsN (eVar 1) (eC .none))) (tE (eBin gIsN (eVar 2) (eC .none)))) (sRet (eC .none)) sNext)
    (sSeq (sSet 3 (eIf (tE (eM1 gStarts (eVar 4) (eC (.str "-")))) (eTup (aCons (eUn gNeg (eVar 1)) (aCons (eVar 2) aNil))) (eTup (aCons (eVar 1) (aCons (eVar 2) aNil)))))
    (sSeq (sIf (tOrD (tNotD (tE (eCall m_is_short (aCons (eVar 3) aNil)))) (tE (eBin gNeT (eCall m_write_number (aCons (eVar 3) aNil)) (eVar 0)))) (sRet (eC .none)) sNext)
    (sRet (eVar 3))))))))
noncomputable abbrev m_read_number := fnD 7 1 b_read_number
noncomputable def b__law_right : SF :=
  (sSeq (sSet 2 (eCall m_read_number (aCons (eVar 0) aNil)))
    (sSeq (sIf (tE (eBin gIsN (eVar 1) (eC .none))) (sRet (eBin gIsN (eVar 2) (eC .none))) sNext)
    (sSeq (sIf (tOrD (tNotD (tE (eIsi "tuple" (eVar 2)))) (tOrD (tE (eBin gNeT (eCall gLen (aCons (eVar 2) aNil)) (eC (.int 2)))) (tE (eBin gNeT (eVar 2) (eVar 1))))) (sRet (eC (.bool false))) sNext)
    (sRet (eIf (tE (eCall m__law_is_integer (aCons (eBin gIx (eVar 2) (eC (.int 0))) aNil))) (eCall m__law_is_integer (aCons (eBin gIx (eVar 2) (eC (.int 1))) aNil)) (eC (.bool false)))))))
noncomputable abbrev m__law_right := fnD 3 2 b__law_right
noncomputable def b_law : SF :=
  (sSeq (sSet 1 (eBin gIx (eLst (aCons (eC (.int 30)) (aCons (eC (.int 1040)) aNil))) (eBin gMod (eCall gInt (aCons (eCall m__law_cell (aCons (eVar 0) (aCons (eC (.int 0)) aNil))) aNil)) (eC (.int 2)))))
    (sSeq (sSet 2 (eBin gMod (eCall gInt (aCons (eCall m__law_cell (aCons (eVar 0) (aCons (eC (.int 1)) aNil))) aNil)) (eVar 1)))
    (sSeq (sSet 3 (eBin gAdd (eC (.int 1)) (eBin gMod (eCall gInt (aCons (eCall m__law_cell (aCons (eVar 0) (aCons (eC (.int 2)) aNil))) aNil)) (eVar 1))))
    (sSeq (sIf (tE (eBin gEqT (eBin gMod (eCall gInt (aCons (eCall m__law_cell (aCons (eVar 0) (aCons (eC (.int 3)) aNil))) aNil)) (eC (.int 2))) (eC (.int 1)))) (sSet 2 (eUn gNeg (eVar 2))) sNext)
    (sSeq (sSet 4 (eCall m__law_lowest (aCons (eVar 2) (aCons (eVar 3) aNil))))
    (sSeq (sSet 5 (eIf (tE (eChain gLt gLt (eUn gNeg (eC (.int 1000))) (eBin gIx (eVar 4) (eC (.int 0))) (eC (.int 1000)))) (eBin gLt (eBin gIx (eVar 4) (eC (.int 1))) (eC (.int 1000))) (eC (.bool false))))
    (sSeq (sSet 6 (eCall gStr (aCons (eBin gIx (eVar 4) (eC (.int 0))) aNil)))
    (sSeq (sIf (tE (eBin gNeT (eBin gIx (eVar 4) (eC (.int 1))) (eC (.int 1)))) (sSet 6 (eBin gAdd (eBin gAdd (eVar 6) (eC (.str "/"))) (eCall gStr (aCons (eBin gIx (eVar 4) (eC (.int 1))) aNil)))) sNext)
    (sSeq (sSet 7 (eC .none))
    (sSeq (sIf (tE (eVar 5)) (sSeq (sSet 7 (eVar 4))
    (sIf (tOrD (tE (eBin gNeT (eCall m_write_number (aCons (eVar 4) aNil)) (eVar 6))) (tNotD (tE (eIsi "str" (eCall m_write_number (aCons (eVar 4) aNil)))))) (sRet (eC (.bool false))) sNext)) sNext)
    (sSeq (sIf (tNotD (tE (eCall m__law_right (aCons (eVar 6) (aCons (eVar 7) aNil))))) (sRet (eC (.bool false))) sNext)
    (sSeq (sSet 8 (eBin gAdd (eBin gAdd (eCall gStr (aCons (eVar 2) aNil)) (eC (.str "/"))) (eCall gStr (aCons (eVar 3) aNil))))
    (sSeq (sIf (tAndD (tE (eBin gNeT (eVar 8) (eVar 6))) (tNotD (tE (eCall m__law_right (aCons (eVar 8) (aCons (eC .none) aNil)))))) (sRet (eC (.bool false))) sNext)
    (sSeq (sSet 9 (eLst (aCons (eC (.str "")) (aCons (eC (.str "-")) (aCons (eC (.str "/")) (aCons (eC (.str "1/")) (aCons (eC (.str "/2")) (aCons (eC (.str "-0")) (aCons (eC (.str "01")) (aCons (eC (.str "1/02")) (aCons (eC (.str "1/-2")) (aCons (eC (.str "+1")) (aCons (eC (.str "--1")) (aCons (eC (.str "1/2/3")) (aCons (eC (.str "a")) (aCons (eC (.str "1/0")) aNil))))))))))))))))
    (sSeq (sSet 10 (eBin gIx (eLst (aCons (eC (.str "+")) (aCons (eC (.str "0")) (aCons (eC (.str "--")) (aCons (eC (.str "-0")) aNil))))) (eBin gMod (eCall gInt (aCons (eCall m__law_cell (aCons (eVar 0) (aCons (eC (.int 4)) aNil))) aNil)) (eC (.int 4)))))
    (sRet (eIf (tE (eCall m__law_right (aCons (eIxO 9 (eBin gMod (eCall gInt (aCons (eCall m__law_cell (aCons (eVar 0) (aCons (eC (.int 5)) aNil))) aNil)) (eC (.int 14)))) (aCons (eC .none) aNil)))) (eCall m__law_right (aCons (eBin gAdd (eVar 10) (eVar 6)) (aCons (eC .none) aNil))) (eC (.bool false)))))))))))))))))))
noncomputable abbrev m_law := fnD 11 1 b_law
end Law
namespace Dn
open PySem PySem.Spec PyProof.Rows L2
/-- n by d in lowest terms -/
def redN (n d : Int) : Int := (if d < 0 then -n else n) / gcdI n d
def redD (n d : Int) : Int := (if d < 0 then -d else d) / gcdI n d
def num (n d : Int) : PyData := .tuple [.int (redN n d), .int (redD n d)]
def Big (n : Int) : Prop := n.natAbs < 2 ^ 1900
theorem gcdI_pos {n d : Int} (h : d ≠ 0) : 0 < gcdI n d := by
  unfold gcdI
  have : 0 < Nat.gcd n.natAbs d.natAbs := Nat.gcd_pos_of_pos_right _ (by omega)
  omega
theorem gcdI_le {n d : Int} (h : d ≠ 0) : (gcdI n d).natAbs ≤ d.natAbs := by
  unfold gcdI
  have : Nat.gcd n.natAbs d.natAbs ≤ d.natAbs := Nat.gcd_le_right _ (by omega)
  omega
theorem gcdI_neg {n d : Int} : gcdI (-n) (-d) = gcdI n d := by
  unfold gcdI
  rw [Int.natAbs_neg, Int.natAbs_neg]
theorem gcdI_abs {n d : Int} : gcdI (if n < 0 then -n else n) (if d < 0 then -d else d) = gcdI n d := by
  unfold gcdI
  congr 2
  · split <;> simp
  · split <;> simp
theorem Big.div {n : Int} (h : Big n) : n.natAbs < divLim := Nat.lt_of_lt_of_le (show n.natAbs < 2 ^ 1900 from h) (Nat.pow_le_pow_right (by decide) (by decide))
theorem Big.mul {n : Int} (h : Big n) : n.natAbs < mulLim := divLim_mulLim h.div
theorem fd_gcd {i n d : Int} (h : d ≠ 0) (hb : Big d) : FdOk i (gcdI n d) := ⟨by have := gcdI_pos (n := n) h; omega, Nat.lt_of_le_of_lt (gcdI_le h) hb.div⟩
theorem gcdI_dvd_l {n d : Int} : gcdI n d ∣ n := by
  unfold gcdI
  exact Int.ofNat_dvd_left.mpr (Nat.gcd_dvd_left _ _)
theorem gcdI_dvd_r {n d : Int} : gcdI n d ∣ d := by
  unfold gcdI
  exact Int.ofNat_dvd_left.mpr (Nat.gcd_dvd_right _ _)
theorem redD_pos {n d : Int} (h : d ≠ 0) : 1 ≤ redD n d := by
  have hg := gcdI_pos (n := n) h
  have hd := gcdI_dvd_r (n := n) (d := d)
  unfold redD
  split
  · have := Int.le_of_dvd (by omega) (Int.dvd_neg.mpr hd)
    exact Int.le_ediv_of_mul_le hg (by omega)
  · have := Int.le_of_dvd (by omega) hd
    exact Int.le_ediv_of_mul_le hg (by omega)
theorem red_cop {n d : Int} (h : d ≠ 0) : gcdI (redN n d) (redD n d) = 1 := by
  have hg := gcdI_pos (n := n) h
  have key : ∀ a b : Int, b ≠ 0 → gcdI (a / gcdI a b) (b / gcdI a b) = 1 := fun a b hb => by
    have hg := gcdI_pos (n := a) hb
    have e1 : (a / gcdI a b).natAbs = a.natAbs / Nat.gcd a.natAbs b.natAbs := by
      rw [Int.natAbs_ediv_of_dvd gcdI_dvd_l]
      rfl
    have e2 : (b / gcdI a b).natAbs = b.natAbs / Nat.gcd a.natAbs b.natAbs := by
      rw [Int.natAbs_ediv_of_dvd gcdI_dvd_r]
      rfl
    show ((Nat.gcd (a / gcdI a b).natAbs (b / gcdI a b).natAbs : Nat) : Int) = 1
    have hp : 0 < Nat.gcd a.natAbs b.natAbs := Nat.gcd_pos_of_pos_right _ (by omega)
    rw [e1, e2, Nat.gcd_div (Nat.gcd_dvd_left _ _) (Nat.gcd_dvd_right _ _), Nat.div_self hp]
    rfl
  unfold redN redD
  split
  · have := key (-n) (-d) (by omega)
    rwa [gcdI_neg] at this
  · exact key n d h
theorem natAbs_ediv_le {a b : Int} : (a / b).natAbs ≤ a.natAbs := by
  exact Int.natAbs_ediv_le_natAbs a b
theorem redN_le {n d : Int} : (redN n d).natAbs ≤ n.natAbs := by
  unfold redN
  refine Nat.le_trans natAbs_ediv_le ?_
  split <;> omega
theorem redD_le {n d : Int} : (redD n d).natAbs ≤ d.natAbs := by
  unfold redD
  refine Nat.le_trans natAbs_ediv_le ?_
  split <;> omega
end Dn
/-! Mg1: games as a type of their own; comprehensions and loops over typed lists -/
namespace Dn
open PySem PySem.Spec PyProof.Rows L2
/-- a place -/
inductive Pl where
  | draw (bs : List (PyData × Nat))
  | ours (xs : List Nat)
  | theirs (xs : List Nat)
  | rew (c : PyData) (x : Nat)
  | fin
  | lose
abbrev nI (x : Nat) : PyData := .int (x : Int)
abbrev il (xs : List Nat) : List PyData := xs.map nI
abbrev brD (b : PyData × Nat) : PyData := .tuple [b.1, .int (b.2 : Int)]
def Pl.d : Pl → PyData
  | draw bs => .tuple [.str "draw", .list (bs.map brD)]
  | ours xs => .tuple [.str "ours", .list (il xs)]
  | theirs xs => .tuple [.str "theirs", .list (il xs)]
  | rew c x => .tuple [.str "reward", c, .int (x : Int)]
  | fin => .tuple [.str "finish"]
  | lose => .tuple [.str "lose"]
def Pl.k : Pl → Str
  | draw _ => "draw"
  | ours _ => "ours"
  | theirs _ => "theirs"
  | rew _ _ => "reward"
  | fin => "finish"
  | lose => "lose"
def Pl.tg : Pl → List Nat
  | draw bs => bs.map (·.2)
  | ours xs => xs
  | theirs xs => xs
  | rew _ x => [x]
  | fin => []
  | lose => []
abbrev gd (g : List Pl) : PyData := .list (g.map Pl.d)
def od : Option Nat → PyData
  | none => .none
  | some n => .int (n : Int)
@[simp] theorem od_none : od none = .none := rfl
@[simp] theorem od_some {n : Nat} : od (some n) = .int (n : Int) := rfl
@[simp] theorem isNone_od (o : Option Nat) : isNone (od o) = o.isNone := by cases o <;> rfl
/-! places in written lists -/
@[simp] theorem atI_0 {α : Type} {x : α} {l : List α} : atI (x :: l) 0 = some x := atI_nat' (by decide) rfl
@[simp] theorem atI_1 {α : Type} {x y : α} {l : List α} : atI (x :: y :: l) 1 = some y := atI_nat' (by decide) rfl
@[simp] theorem atI_2 {α : Type} {x y z : α} {l : List α} : atI (x :: y :: z :: l) 2 = some z := atI_nat' (by decide) rfl
@[simp] theorem atI_3 {α : Type} {x y z w : α} {l : List α} : atI (x :: y :: z :: w :: l) 3 = some w := atI_nat' (by decide) rfl
theorem atI_map {α β : Type} {f : α → β} {xs : List α} {p : Nat} {x : α} (h : xs[p]? = some x) : atI (xs.map f) (p : Int) = some (f x) :=
  atI_nat' (by omega) (by rw [Int.toNat_natCast, List.getElem?_map, h]; rfl)
theorem ixN_of {n p : Nat} (h : p < n) : ixN n (p : Int) = some p := by rw [ixN_nat (by omega) (by omega)]; rfl
/-! words -/
@[simp] theorem w_draw_ours : (("draw" : Str) = ("ours" : Str)) = False := eq_false (by decide +kernel)
@[simp] theorem w_draw_theirs : (("draw" : Str) = ("theirs" : Str)) = False := eq_false (by decide +kernel)
@[simp] theorem w_draw_reward : (("draw" : Str) = ("reward" : Str)) = False := eq_false (by decide +kernel)
@[simp] theorem w_draw_finish : (("draw" : Str) = ("finish" : Str)) = False := eq_false (by decide +kernel)
@[simp] theorem w_draw_lose : (("draw" : Str) = ("lose" : Str)) = False := eq_false (by decide +kernel)
@[simp] theorem w_ours_draw : (("ours" : Str) = ("draw" : Str)) = False := eq_false (by decide +kernel)
@[simp] theorem w_ours_theirs : (("ours" : Str) = ("theirs" : Str)) = False := eq_false (by decide +kernel)
@[simp] theorem w_ours_reward : (("ours" : Str) = ("reward" : Str)) = False := eq_false (by decide +kernel)
@[simp] theorem w_ours_finish : (("ours" : Str) = ("finish" : Str)) = False := eq_false (by decide +kernel)
@[simp] theorem w_ours_lose : (("ours" : Str) = ("lose" : Str)) = False := eq_false (by decide +kernel)
@[simp] theorem w_theirs_draw : (("theirs" : Str) = ("draw" : Str)) = False := eq_false (by decide +kernel)
@[simp] theorem w_theirs_ours : (("theirs" : Str) = ("ours" : Str)) = False := eq_false (by decide +kernel)
@[simp] theorem w_theirs_reward : (("theirs" : Str) = ("reward" : Str)) = False := eq_false (by decide +kernel)
@[simp] theorem w_theirs_finish : (("theirs" : Str) = ("finish" : Str)) = False := eq_false (by decide +kernel)
@[simp] theorem w_theirs_lose : (("theirs" : Str) = ("lose" : Str)) = False := eq_false (by decide +kernel)
@[simp] theorem w_reward_draw : (("reward" : Str) = ("draw" : Str)) = False := eq_false (by decide +kernel)
@[simp] theorem w_reward_ours : (("reward" : Str) = ("ours" : Str)) = False := eq_false (by decide +kernel)
@[simp] theorem w_reward_theirs : (("reward" : Str) = ("theirs" : Str)) = False := eq_false (by decide +kernel)
@[simp] theorem w_reward_finish : (("reward" : Str) = ("finish" : Str)) = False := eq_false (by decide +kernel)
@[simp] theorem w_reward_lose : (("reward" : Str) = ("lose" : Str)) = False := eq_false (by decide +kernel)
@[simp] theorem w_finish_draw : (("finish" : Str) = ("draw" : Str)) = False := eq_false (by decide +kernel)
@[simp] theorem w_finish_ours : (("finish" : Str) = ("ours" : Str)) = False := eq_false (by decide +kernel)
@[simp] theorem w_finish_theirs : (("finish" : Str) = ("theirs" : Str)) = False := eq_false (by decide +kernel)
@[simp] theorem w_finish_reward : (("finish" : Str) = ("reward" : Str)) = False := eq_false (by decide +kernel)
@[simp] theorem w_finish_lose : (("finish" : Str) = ("lose" : Str)) = False := eq_false (by decide +kernel)
@[simp] theorem w_lose_draw : (("lose" : Str) = ("draw" : Str)) = False := eq_false (by decide +kernel)
@[simp] theorem w_lose_ours : (("lose" : Str) = ("ours" : Str)) = False := eq_false (by decide +kernel)
@[simp] theorem w_lose_theirs : (("lose" : Str) = ("theirs" : Str)) = False := eq_false (by decide +kernel)
@[simp] theorem w_lose_reward : (("lose" : Str) = ("reward" : Str)) = False := eq_false (by decide +kernel)
@[simp] theorem w_lose_finish : (("lose" : Str) = ("finish" : Str)) = False := eq_false (by decide +kernel)
@[simp] theorem w_sure_chance : (("sure" : Str) = ("chance" : Str)) = False := eq_false (by decide +kernel)
@[simp] theorem w_sure_almost : (("sure" : Str) = ("almost" : Str)) = False := eq_false (by decide +kernel)
@[simp] theorem w_chance_sure : (("chance" : Str) = ("sure" : Str)) = False := eq_false (by decide +kernel)
@[simp] theorem w_chance_almost : (("chance" : Str) = ("almost" : Str)) = False := eq_false (by decide +kernel)
@[simp] theorem w_almost_sure : (("almost" : Str) = ("sure" : Str)) = False := eq_false (by decide +kernel)
@[simp] theorem w_almost_chance : (("almost" : Str) = ("chance" : Str)) = False := eq_false (by decide +kernel)
theorem shp_lit {x : Str} (h : PyData.strOk x = true) : Shp (.str x) := by
  show (PyData.strOk x && _) = true
  rw [h]
  rfl
/-! comprehensions over typed lists -/
theorem lcD_typ {α : Type} {vs : List Nat} {g : GF} {c : TF} {f : EF} {env : En} (enc h : α → PyData) : ∀ {xs : List α}, (∀ a ∈ xs, ∃ e1 r, g (enc a) (wipeD env vs) = some e1 ∧ c e1 = some true ∧ f e1 = some r ∧ r.frz = h a) → lcD vs g c f env (xs.map enc) = some (xs.map h)
  | [], _ => rfl
  | a :: xs, hd => by
    obtain ⟨e1, r, h1, h2, h3, h4⟩ := hd a List.mem_cons_self
    have ih := lcD_typ (xs := xs) enc h fun x hx => hd x (List.mem_cons_of_mem _ hx)
    rw [List.map_cons]
    unfold lcD
    rw [h1, Option.bind_some, h2, Option.bind_some, if_pos rfl, h3, Option.bind_some, ih, Option.bind_some, h4, List.map_cons]
theorem lcD_flt {α : Type} {vs : List Nat} {g : GF} {c : TF} {f : EF} {env : En} (enc h : α → PyData) (p : α → Bool) : ∀ {xs : List α}, (∀ a ∈ xs, ∃ e1, g (enc a) (wipeD env vs) = some e1 ∧ c e1 = some (p a) ∧ (p a = true → ∃ r, f e1 = some r ∧ r.frz = h a)) → lcD vs g c f env (xs.map enc) = some ((xs.filter p).map h)
  | [], _ => rfl
  | a :: xs, hd => by
    obtain ⟨e1, h1, h2, h3⟩ := hd a List.mem_cons_self
    have ih := lcD_flt (xs := xs) enc h p fun x hx => hd x (List.mem_cons_of_mem _ hx)
    rw [List.map_cons]
    unfold lcD
    rw [h1, Option.bind_some, h2, Option.bind_some]
    cases q : p a with
    | true =>
      obtain ⟨r, h4, h5⟩ := h3 q
      rw [if_pos rfl, h4, Option.bind_some, ih, Option.bind_some, h5, List.filter_cons_of_pos q, List.map_cons]
    | false =>
      rw [if_neg (by decide), ih, List.filter_cons_of_neg (by rw [q]; decide)]
/-- a loop over a typed list, each turn going on -/
theorem forD_run {α : Type} {g : GF} {body : SF} (enc : α → PyData) (P : List α → En → Prop) (all : List α)
    (turn : ∀ pre a post env, all = pre ++ a :: post → P pre env → ∃ e1 e2, g (enc a) env = some e1 ∧ body e1 = some (.nx e2) ∧ P (pre ++ [a]) e2) : ∀ {xs : List α} {pre : List α} {env : En}, all = pre ++ xs → P pre env →
    ∃ e, forD g body (xs.map enc) env = some (.nx e) ∧ P all e
  | [], pre, env, e, h => ⟨env, rfl, by rw [e, List.append_nil]; exact h⟩
  | a :: xs, pre, env, e, h => by
    obtain ⟨e1, e2, h1, h2, h3⟩ := turn pre a xs env e h
    obtain ⟨e', h4, h5⟩ := forD_run enc P all turn (xs := xs) (by rw [e, List.append_cons]) h3
    refine ⟨e', ?_, h5⟩
    rw [List.map_cons]
    unfold forD
    rw [h1]
    show turnO (body e1) _ = _
    rw [h2]
    exact h4
theorem forD_typ {α : Type} {g : GF} {body : SF} (enc : α → PyData) (P : List α → En → Prop) {all : List α} {env : En} (h : P [] env)
    (turn : ∀ pre a post env, all = pre ++ a :: post → P pre env → ∃ e1 e2, g (enc a) env = some e1 ∧ body e1 = some (.nx e2) ∧ P (pre ++ [a]) e2) :
    ∃ e, forD g body (all.map enc) env = some (.nx e) ∧ P all e := forD_run enc P all turn rfl h
/-- ints from 0 -/
theorem ints0 (n : Nat) : intsFrom 0 n = il (List.range n) := by
  refine List.ext_getElem? fun i => ?_
  rw [List.getElem?_map]
  by_cases h : i < n
  · rw [intsFrom_get n 0 i h, List.getElem?_range h, Int.zero_add]
    rfl
  · rw [List.getElem?_eq_none (by rw [intsFrom_len]; omega), List.getElem?_eq_none (by rw [List.length_range]; omega)]
    rfl
theorem intsLo (lo n : Nat) : intsFrom (lo : Int) n = il ((List.range n).map (lo + ·)) := by
  refine List.ext_getElem? fun i => ?_
  rw [List.getElem?_map, List.getElem?_map]
  by_cases h : i < n
  · rw [intsFrom_get n lo i h, List.getElem?_range h]
    show some (PyData.int ((lo : Int) + (i : Int))) = some (PyData.int ((lo + i : Nat) : Int))
    rw [Int.natCast_add]
  · rw [List.getElem?_eq_none (by rw [intsFrom_len]; omega), List.getElem?_eq_none (by rw [List.length_range]; omega)]
    rfl
/-! membership -/
theorem eqv_int (i j : Int) : PyData.eqv (.int i) (.int j) = (i == j) := by simp only [PyData.eqv]
theorem memD_il (x : Nat) (xs : List Nat) : memD (.int (x : Int)) (il xs) = decide (x ∈ xs) := by
  induction xs with
  | nil => rfl
  | cons y ys ih =>
    unfold memD at ih ⊢
    rw [show il (y :: ys) = nI y :: il ys from rfl, List.any_cons, ih, eqv_int]
    by_cases h : x = y
    · subst h; simp
    · have : ((y : Int) == (x : Int)) = false := beq_eq_false_iff_ne.mpr (by omega)
      rw [this]
      simp [h]
theorem lay_il (xs : List Nat) : PyData.canLayAll0 (il xs) = true ∧ PyData.depthAll (il xs) = 0 := by
  induction xs with
  | nil => exact ⟨rfl, rfl⟩
  | cons y ys ih =>
    constructor
    · show (PyData.canLay0 _ && _) = true
      rw [ih.1]
      rfl
    · show max (PyData.depth _) _ = 0
      rw [ih.2]
      rfl
theorem shp_il (xs : List Nat) : Shp (.list (il xs)) := by
  obtain ⟨h1, h2⟩ := lay_il xs
  show (PyData.canLay0 (.list (il xs)) && decide (PyData.depth (.list (il xs)) ≤ 64)) = true
  rw [show PyData.canLay0 (.list (il xs)) = true from h1, Bool.true_and]
  exact decide_eq_true (by show PyData.depthAll (il xs) + 1 ≤ 64; omega)
theorem gIn_il (x : Nat) (xs : List Nat) : gInG (.int (x : Int)) (.list (il xs)) = some (.val (.bool (decide (x ∈ xs)))) := by
  show (if _ then _ else _) = _
  rw [if_pos ⟨rfl, shp_il xs⟩, memD_il]
theorem boolsD_mapB {α : Type} (p : α → Bool) (xs : List α) : boolsD (xs.map fun a => PyData.bool (p a)) = some (xs.map p) := by
  rw [← boolsD_map (xs.map p), List.map_map]
  rfl
theorem gAll_map {α : Type} (p : α → Bool) (xs : List α) : gAll [.list (xs.map fun a => PyData.bool (p a))] = some (.val (.bool (xs.all p))) := by
  show (boolsD _).bind _ = _
  rw [boolsD_mapB, Option.bind_some, List.all_map]
  rfl
theorem gAny_map {α : Type} (p : α → Bool) (xs : List α) : gAny [.list (xs.map fun a => PyData.bool (p a))] = some (.val (.bool (xs.any p))) := by
  show (boolsD _).bind _ = _
  rw [boolsD_mapB, Option.bind_some, List.any_map]
  rfl
end Dn
namespace Dn
theorem seq_nx {f g : SF} {env e : En} (h : f env = some (.nx e)) : sSeq f g env = g e := by
  show bindO (f env) g = _
  rw [h]
  rfl
theorem seq_rt {f g : SF} {env : En} {r : R} (h : f env = some (.rt r)) : sSeq f g env = some (.rt r) := by
  show bindO (f env) g = _
  rw [h]
  rfl
end Dn
/-! Mw: sizes of data: what repr and == want -/
namespace Dn
open PySem PySem.Spec PyProof.Rows L2
def Wd (k w : Nat) (d : PyData) : Prop := d.canLay0 = true ∧ d.depth ≤ k ∧ d.weight ≤ w ∧ d.intsShort 13 = true ∧ d.showable = true
theorem Wd.mono {k w k' w' : Nat} {d : PyData} (h : Wd k w d) (hk : k ≤ k') (hw : w ≤ w') : Wd k' w' d := ⟨h.1, Nat.le_trans h.2.1 hk, Nat.le_trans h.2.2.1 hw, h.2.2.2⟩
theorem wd_int {i : Int} (h : i.natAbs < 10 ^ 12) : Wd 0 40 (.int i) := by
  have hl : i.natAbs.log2 < 40 := by
    by_cases h0 : i.natAbs = 0
    · rw [h0]; decide
    · exact (Nat.log2_lt h0).mpr (Nat.lt_of_lt_of_le h (by decide))
  refine ⟨rfl, Nat.le_refl _, ?_, ?_, ?_⟩
  · show (if (i == 0) = true then 0 else i.natAbs.log2 + 1) ≤ 40
    split
    · omega
    · omega
  · show decide ((PyData.shown (.int i)).length ≤ 13) = true
    refine decide_eq_true ?_
    have e : (PyData.shown (.int i)).length = (toString i : String).length := by
      simp only [PyData.shown]
      exact PySem.ofString_length _
    rw [e]
    exact int_text_length_le10 (by decide) h
  · show decide (i.natAbs.log2 < 1920) = true
    exact decide_eq_true (by omega)
theorem wd_none : Wd 0 0 .none := ⟨rfl, Nat.le_refl _, Nat.le_refl _, rfl, rfl⟩
theorem wd_bool (b : Bool) : Wd 0 0 (.bool b) := ⟨rfl, Nat.le_refl _, Nat.le_refl _, rfl, rfl⟩
theorem wd_str {x : Str} {n : Nat} (h1 : PyData.strOk x = true := by decide +kernel) (h2 : x.cps.size ≤ n := by decide +kernel) : Wd 0 n (.str x) := ⟨h1, Nat.le_refl _, h2, rfl, rfl⟩
theorem wds {k w : Nat} : ∀ {ds : List PyData}, (∀ d ∈ ds, Wd k w d) → PyData.canLayAll0 ds = true ∧ PyData.depthAll ds ≤ k ∧ PyData.weightAll ds ≤ ds.length * (w + 1) ∧ PyData.intsShortAll 13 ds = true ∧ PyData.showableAll ds = true
  | [], _ => ⟨rfl, Nat.zero_le _, by simp [PyData.weightAll], rfl, rfl⟩
  | d :: ds, h => by
    obtain ⟨a1, a2, a3, a4, a5⟩ := h d List.mem_cons_self
    obtain ⟨b1, b2, b3, b4, b5⟩ := wds fun x hx => h x (List.mem_cons_of_mem _ hx)
    refine ⟨?_, ?_, ?_, ?_, ?_⟩
    · show (PyData.canLay0 d && _) = true
      rw [a1, b1]; rfl
    · show max d.depth _ ≤ k
      exact Nat.max_le.mpr ⟨a2, b2⟩
    · show d.weight + 1 + PyData.weightAll ds ≤ (ds.length + 1) * (w + 1)
      rw [Nat.succ_mul]
      omega
    · show (PyData.intsShort 13 d && _) = true
      rw [a4, b4]; rfl
    · show (PyData.showable d && _) = true
      rw [a5, b5]; rfl
theorem wd_list {k w : Nat} {ds : List PyData} (h : ∀ d ∈ ds, Wd k w d) : Wd (k + 1) (ds.length * (w + 1)) (.list ds) := by
  obtain ⟨b1, b2, b3, b4, b5⟩ := wds h
  exact ⟨b1, Nat.succ_le_succ b2, b3, b4, b5⟩
theorem wd_tuple {k w : Nat} {ds : List PyData} (h : ∀ d ∈ ds, Wd k w d) : Wd (k + 1) (ds.length * (w + 1)) (.tuple ds) := by
  obtain ⟨b1, b2, b3, b4, b5⟩ := wds h
  exact ⟨b1, Nat.succ_le_succ b2, b3, b4, b5⟩
theorem Wd.shp {k w : Nat} {d : PyData} (h : Wd k w d) (hk : k ≤ 64) : Shp d := by
  show (d.canLay0 && decide (d.depth ≤ 64)) = true
  rw [h.1, Bool.true_and]
  exact decide_eq_true (Nat.le_trans h.2.1 hk)
theorem Wd.shw {k w : Nat} {d : PyData} (h : Wd k w d) (hk : k ≤ 64) (hw : w ≤ 2 ^ 20) : Shw d := by
  refine ⟨h.2.2.2.2, h.shp hk, ?_⟩
  have hl : PyData.layable0 d = true := by
    show (d.canLay0 && decide (d.depth ≤ 64) && decide (d.weight ≤ 2 ^ 20)) = true
    rw [h.1, Bool.true_and, decide_eq_true (Nat.le_trans h.2.1 hk), decide_eq_true (Nat.le_trans h.2.2.1 hw)]
    rfl
  exact Nat.le_trans (shown_le13 hl h.2.2.2.1) (by rw [sizeLine_eq]; decide)
theorem wd_nat {n : Nat} (h : n < 10 ^ 12) : Wd 0 40 (nI n) := wd_int (by omega)
theorem wd_il {xs : List Nat} (h : ∀ x ∈ xs, x < 10 ^ 12) : Wd 1 (xs.length * 41) (.list (il xs)) := by
  have := wd_list (k := 0) (w := 40) (ds := il xs) fun d hd => by
    obtain ⟨x, hx, rfl⟩ := List.mem_map.mp hd
    exact wd_nat (h x hx)
  rwa [il, List.length_map] at this
theorem wd_od {o : Option Nat} (h : ∀ n, o = some n → n < 10 ^ 12) : Wd 0 40 (od o) := by
  cases o with
  | none => exact wd_none.mono (by decide) (by decide)
  | some n => exact wd_nat (h n rfl)
def Pl.cs : Pl → List PyData
  | .draw bs => bs.map (·.1)
  | .rew c _ => [c]
  | _ => []
/-- a place's data is small -/
def SmP (p : Pl) : Prop := p.tg.length ≤ 6 ∧ (∀ x ∈ p.tg, x < 1000) ∧ ∀ c ∈ p.cs, Wd 1 90 c
theorem wd_place {p : Pl} (h : SmP p) : Wd 4 2500 p.d := by
  obtain ⟨h1, h2, h3⟩ := h
  have two : ∀ {s : Str} {e : PyData}, Wd 0 20 (.str s) → Wd 3 1200 e → Wd 4 2500 (.tuple [.str s, e]) := fun {s e} a b =>
    (wd_tuple (k := 3) (w := 1200) (ds := [.str s, e]) fun d hd => by
      simp at hd
      rcases hd with rfl | rfl
      · exact a.mono (by decide) (by decide)
      · exact b).mono (by decide) (by simp)
  cases p with
  | draw bs =>
    refine two wd_str ((wd_list (k := 2) (w := 182) fun d hd => ?_).mono (by decide) ?_)
    · obtain ⟨b, hb, rfl⟩ := List.mem_map.mp hd
      have hx : b.2 < 1000 := h2 b.2 (List.mem_map.mpr ⟨b, hb, rfl⟩)
      have := wd_tuple (k := 1) (w := 90) (ds := [b.1, nI b.2]) fun d hd => by
        simp at hd
        rcases hd with rfl | rfl
        · exact h3 b.1 (List.mem_map.mpr ⟨b, hb, rfl⟩)
        · exact (wd_nat (by omega)).mono (by decide) (by decide)
      exact this
    · rw [List.length_map]
      have : bs.length ≤ 6 := by simpa [Pl.tg] using h1
      omega
  | ours xs =>
    have h1 : xs.length ≤ 6 := h1
    exact two wd_str ((wd_il fun x hx => by have := h2 x hx; omega).mono (by decide) (by omega))
  | theirs xs =>
    have h1 : xs.length ≤ 6 := h1
    exact two wd_str ((wd_il fun x hx => by have := h2 x hx; omega).mono (by decide) (by omega))
  | rew c x =>
    have hx : x < 1000 := h2 x (by simp [Pl.tg])
    exact (wd_tuple (k := 1) (w := 90) (ds := [.str "reward", c, nI x]) fun d hd => by
      simp at hd
      rcases hd with rfl | rfl | rfl
      · exact (wd_str (n := 6)).mono (by decide) (by decide)
      · exact h3 _ (by simp [Pl.cs])
      · exact (wd_nat (by omega)).mono (by decide) (by decide)).mono (by decide) (by simp)
  | fin => exact (wd_tuple (k := 0) (w := 6) (ds := [.str "finish"]) fun d hd => by
      simp at hd
      subst hd
      exact wd_str).mono (by decide) (by simp)
  | lose => exact (wd_tuple (k := 0) (w := 6) (ds := [.str "lose"]) fun d hd => by
      simp at hd
      subst hd
      exact wd_str).mono (by decide) (by simp)
theorem wd_game {g : List Pl} (h : ∀ p ∈ g, SmP p) : Wd 5 (g.length * 2501) (gd g) := by
  have := wd_list (k := 4) (w := 2500) (ds := g.map Pl.d) fun d hd => by
    obtain ⟨p, hp, rfl⟩ := List.mem_map.mp hd
    exact wd_place (h p hp)
  rwa [List.length_map] at this
end Dn
namespace Dn
open PySem PySem.Spec PyProof.Rows L2
/-- ints 0 .. 999 -/
def Dr (ds : List Int) : Prop := ∀ d ∈ ds, 0 ≤ d ∧ d < 1000
theorem at_D {ds : List Int} {k : Nat} (h : k < ds.length) : atI (ds.map PyData.int) (k : Int) = some (.int (ds.getD k 0)) := by
  rw [atI_map (x := ds.getD k 0)]
  rw [List.getElem?_eq_getElem h, List.getD_eq_getElem?_getD, List.getElem?_eq_getElem h]
  rfl
theorem Dr.at {ds : List Int} (D : Dr ds) (k : Nat) : 0 ≤ ds.getD k 0 ∧ ds.getD k 0 < 1000 := by
  by_cases h : k < ds.length
  · rw [List.getD_eq_getElem?_getD, List.getElem?_eq_getElem h]
    exact D _ (List.getElem_mem h)
  · rw [List.getD_eq_getElem?_getD, List.getElem?_eq_none (by omega)]
    decide
theorem Dr.part {ds : List Int} (D : Dr ds) (a n : Nat) : Dr ((ds.drop a).take n) := fun d h => D d (List.mem_of_mem_drop (List.mem_of_mem_take h))
theorem sx_nat' {ds : List PyData} {a b : Nat} (hab : a ≤ b) (hb : b ≤ ds.length) : sxD ds (some (a : Int)) (some (b : Int)) = (ds.drop a).take (b - a) := by
  have e : ∀ n d : Nat, n ≤ ds.length → HT.sIx ds.length d (some (n : Int)) = n := fun n d h => by
    unfold HT.sIx
    simp
    rw [if_neg (by omega)]
    omega
  unfold sxD
  rw [e a _ (by omega), e b _ hb]
theorem red_small {n d : Int} (hn : 0 ≤ n) (hd : 0 < d) : 0 ≤ redN n d ∧ redN n d ≤ n ∧ 1 ≤ redD n d ∧ redD n d ≤ d := by
  have h1 := redN_le (n := n) (d := d)
  have h2 := redD_le (n := n) (d := d)
  have h3 := redD_pos (n := n) (d := d) (by omega)
  have h4 : 0 ≤ redN n d := by
    unfold redN
    rw [if_neg (by omega)]
    exact Int.ediv_nonneg hn (Int.le_of_lt (gcdI_pos (by omega)))
  omega
theorem wd_num {n d : Int} (hn : 0 ≤ n) (hd : 0 < d) (h1 : n < 10 ^ 12) (h2 : d < 10 ^ 12) : Wd 1 90 (num n d) := by
  have := red_small hn hd
  exact (wd_tuple (k := 0) (w := 40) (ds := [.int (redN n d), .int (redD n d)]) fun x hx => by
    simp at hx
    rcases hx with rfl | rfl <;> exact wd_int (by omega)).mono (by decide) (by simp)
def sumI (xs : List Int) : Int := xs.foldr (· + ·) 0
theorem gSum_ints (xs : List Int) : gSum [.list (xs.map PyData.int)] = some (.val (.int (sumI xs))) := by
  show (intsD _).bind _ = _
  rw [intsD_map, Option.bind_some]
  rfl
end Dn
namespace Law
open PySem PySem.Spec PyProof.Rows L2 Dn
theorem lowest_loop : ∀ (n : Nat) (lo a b : Int) (s0 s1 s2 : Sl), 0 ≤ a → 0 ≤ b → ∃ s2' b', forD (gtName 2) b__law_lowest_1 (intsFrom lo n) [s0, s1, s2, .val (.int a), .val (.int b)] = some (.nx [s0, s1, s2', .val (.int (euc n a b)), .val (.int b')])
  | 0, lo, a, b, s0, s1, s2, ha, hb => ⟨s2, b, rfl⟩
  | n + 1, lo, a, b, s0, s1, s2, ha, hb => by
    by_cases h0 : b = 0
    · subst h0
      exact ⟨.val (.int lo), 0, by simp [Dn.intsFrom, euc, b__law_lowest_1]⟩
    · have nz : NzOk a b := h0
      obtain ⟨s2', b', ih⟩ := lowest_loop n (lo + 1) b (a % b) s0 s1 (.val (.int lo)) hb (Int.emod_nonneg a h0)
      refine ⟨s2', b', ?_⟩
      have hm : a.fmod b = a % b := Int.fmod_eq_emod_of_nonneg a hb
      simp [Dn.intsFrom, euc, h0, nz, hm, b__law_lowest_1] at ih ⊢
      exact ih
theorem lowest_eq {n d : Int} (hn : 0 ≤ n) (hd : 0 < d) (hb : d < 2 ^ 60) : m__law_lowest [.int n, .int d] = some (.val (num n d)) := by
  unfold m__law_lowest
  rw [fnD_eq (by rfl)]
  have hr : InR 4000 := inR_of (by decide) (by decide)
  have big : Big d := by
    unfold Big
    exact Nat.lt_of_lt_of_le (show d.natAbs < 2 ^ 60 by omega) (Nat.pow_le_pow_right (by decide) (by decide))
  obtain ⟨s2', b', h⟩ := lowest_loop 4000 0 n d (.val (.int n)) (.val (.int d)) .no hn (by omega)
  rw [euc_gcd 60 4000 _ _ hn (by omega) hb (by decide)] at h
  have g := gcdI_pos (n := n) (show d ≠ 0 by omega)
  have f1 : ∀ i, FdOk i (gcdI n d) := fun i => fd_gcd (by omega) big
  have hn' : ¬ n < 0 := by omega
  have hd' : ¬ d < 0 := by omega
  simp [b__law_lowest, hr, hn', h, f1, num, redN, redD, hd', fdiv_pos g]

end Law
namespace Dn
open PySem PySem.Spec PyProof.Rows L2
def tI (i : Int) : Str := (toString i : String)
def tN (n d : Int) : Str := if d = 1 then tI n else tI n ++ ("/" : Str) ++ tI d
theorem str_assoc (a b c : Str) : a ++ b ++ c = a ++ (b ++ c) := by
  show (⟨a.cps ++ b.cps ++ c.cps⟩ : Str) = ⟨a.cps ++ (b.cps ++ c.cps)⟩
  rw [Array.append_assoc]
theorem str_empty (a : Str) : Str.empty ++ a = a := by
  show (⟨#[] ++ a.cps⟩ : Str) = a
  rw [Array.empty_append]
theorem empty_lit : ("" : Str) = Str.empty := by decide +kernel
theorem str_empty_r (a : Str) : a ++ Str.empty = a := by
  show (⟨a.cps ++ #[]⟩ : Str) = a
  rw [Array.append_empty]
theorem tI_len {i : Int} (h : i.natAbs < 10 ^ 12) : (tI i).length ≤ 13 := by
  unfold tI
  rw [show (((toString i : String) : Str)).length = (toString i : String).length from PySem.ofString_length _]
  exact int_text_length_le10 (by decide) h
theorem slash_len : ("/" : Str).length = 1 := by decide +kernel
theorem space_len : (" " : Str).length = 1 := by decide +kernel
theorem tN_len {n d : Int} (h1 : n.natAbs < 10 ^ 12) (h2 : d.natAbs < 10 ^ 12) : (tN n d).length ≤ 27 := by
  have a := tI_len h1
  have b := tI_len h2
  unfold tN
  split
  · omega
  · rw [app_len, app_len, slash_len]; omega
theorem strOk_of {i : Int} (h : i.natAbs < 10 ^ 12) : StrOk i := by
  unfold StrOk
  exact Nat.lt_of_lt_of_le h (by decide +kernel)
theorem gStr_eq {i : Int} (h : i.natAbs < 10 ^ 12) : gStr [.int i] = some (.val (.str (tI i))) := by
  show (if _ then _ else _) = _
  rw [if_pos (strOk_of h)]
  rfl
/-- one behind the other, each behind a blank -/
def onto (w : Str) (ys : List Str) : Str := ys.foldl (fun a y => a ++ (" " : Str) ++ y) w
theorem onto_pre (p : Str) : ∀ (ys : List Str) (w : Str), p ++ onto w ys = onto (p ++ w) ys
  | [], w => rfl
  | y :: ys, w => by
    show p ++ onto (w ++ (" " : Str) ++ y) ys = onto (p ++ w ++ (" " : Str) ++ y) ys
    rw [onto_pre p ys]; simp only [str_assoc]
theorem join_onto : ∀ (ys : List Str) (w : Str), Str.join (" " : Str) (w :: ys) = onto w ys
  | [], w => rfl
  | y :: ys, w => by
    show w ++ (" " : Str) ++ Str.join (" " : Str) (y :: ys) = onto (w ++ (" " : Str) ++ y) ys
    rw [join_onto ys y, onto_pre]
theorem join_flat : ∀ (ys : List Str) (w : Str), w ++ Str.join Str.empty (ys.map fun y => (" " : Str) ++ y) = onto w ys
  | [], w => str_empty_r w
  | [y], w => by
    show w ++ ((" " : Str) ++ y) = w ++ (" " : Str) ++ y
    rw [str_assoc]
  | y :: z :: ys, w => by
    have ih := join_flat (z :: ys) (w ++ (" " : Str) ++ y)
    show w ++ ((" " : Str) ++ y ++ Str.empty ++ Str.join Str.empty ((z :: ys).map fun y => (" " : Str) ++ y)) = onto (w ++ (" " : Str) ++ y) (z :: ys)
    rw [← ih, str_empty_r]; simp only [str_assoc]
theorem strsD_map (ys : List Str) : strsD (ys.map PyData.str) = some ys := by
  induction ys with
  | nil => rfl
  | cons y ys ih =>
    show (strsD _).bind _ = _
    rw [ih]
    rfl
theorem len_sum : ∀ {ys : List Str}, (∀ y ∈ ys, y.length ≤ 30) → (ys.map (·.length)).sum ≤ 30 * ys.length
  | [], _ => by simp
  | y :: ys, h => by
    have a := h y List.mem_cons_self
    have b := len_sum fun z hz => h z (List.mem_cons_of_mem _ hz)
    rw [List.map_cons, List.sum_cons, List.length_cons]
    omega
theorem gJoin_eq {a : Str} {ys : List Str} (ha : a.length ≤ 1) (h : ∀ y ∈ ys, y.length ≤ 30) (hl : ys.length ≤ 100) : gJoin (.str a) (.list (ys.map PyData.str)) = some (.val (.str (Str.join a ys))) := by
  unfold gJoin
  show (strsD _).bind _ = _
  rw [strsD_map, Option.bind_some]
  have f : JFits a ys := by
    unfold JFits
    have := len_sum h
    have : ys.length * a.length ≤ ys.length * 1 := Nat.mul_le_mul_left _ ha
    omega
  rw [if_pos f, TL.join_eq]
theorem onto_len {w : Str} {ys : List Str} (h : ∀ y ∈ ys, y.length ≤ 30) : (onto w ys).length ≤ w.length + 31 * ys.length := by
  induction ys generalizing w with
  | nil => simp [onto]
  | cons y ys ih =>
    have a := h y List.mem_cons_self
    have b := ih (w := w ++ (" " : Str) ++ y) fun z hz => h z (List.mem_cons_of_mem _ hz)
    show (onto (w ++ (" " : Str) ++ y) ys).length ≤ _
    rw [app_len, app_len, space_len] at b
    rw [List.length_cons]
    omega
theorem onto_snoc {w y : Str} {ys : List Str} : onto w (ys ++ [y]) = onto w ys ++ (" " : Str) ++ y := by
  unfold onto
  rw [List.foldl_append]
  rfl
end Dn
namespace Law
open PySem PySem.Spec PyProof.Rows L2 Dn
theorem gJs3 {n d : Int} (h1 : n.natAbs < 10 ^ 12) (h2 : d.natAbs < 10 ^ 12) : jsD Str.empty [.str (tI n), .str ("/" : Str), .str (tI d)] = some (tI n ++ ("/" : Str) ++ tI d) := by
  have a := tI_len h1
  have b := tI_len h2
  have f1 : Fits (Str.empty.length + (tI n).length) := fits (by show 0 + _ ≤ _; omega)
  have f2 : Fits ((Str.empty ++ tI n).length + ("/" : Str).length) := fits (by rw [str_empty, slash_len]; omega)
  have f3 : Fits ((Str.empty ++ tI n ++ ("/" : Str)).length + (tI d).length) := fits (by rw [str_empty, app_len, slash_len]; omega)
  show (if _ then _ else _) = _
  rw [if_pos f1]
  show (if _ then _ else _) = _
  rw [if_pos f2]
  show (if _ then _ else _) = _
  rw [if_pos f3, str_empty]
  rfl
theorem write_number_eq {n d : Int} (h1 : n.natAbs < 10 ^ 12) (h2 : d.natAbs < 10 ^ 12) : m_write_number [.tuple [.int n, .int d]] = some (.val (.str (tN n d))) := by
  unfold m_write_number
  rw [fnD_eq (by rfl)]
  have g1 := gStr_eq h1
  have m1 : gFmt (.int n) = some (.val (.str (tI n))) := by show (if _ then _ else _) = _; rw [if_pos (strOk_of h1)]; rfl
  have m2 : gFmt (.int d) = some (.val (.str (tI d))) := by show (if _ then _ else _) = _; rw [if_pos (strOk_of h2)]; rfl
  have js := gJs3 h1 h2
  unfold tN
  by_cases h : d = 1
  · subst h
    simp [b_write_number, g1]
  · simp [b_write_number, h, m1, m2, js]
end Law
namespace Dn
open PySem PySem.Spec PyProof.Rows L2
def passW (w : Str) : Bool := (!Txt.isascii w || !Txt.isdigit w || decide (w.length > 3)) || (Txt.startswith w "0" && !decide (w = "0"))
def wholeF (w : Str) : Option Int := if passW w then none else PySem.intText? w
def fineW (w : Str) : Bool := passW w || (PySem.intText? w).isSome
def rp (w : Str) : Str := Txt.removeprefix w "-"
theorem rp_len (x : Str) : (rp x).length ≤ x.length := by
  show (Txt.affix x (if Builtin.Str.subAt x "-" 0 then some (("-" : Str).length, x.length) else none)).length ≤ _
  split
  · show (if _ then x else Builtin.Str.strSub x _ _).length ≤ _
    split
    · exact Nat.le_refl _
    · show (x.cps.extract _ _).size ≤ x.cps.size
      rw [Array.size_extract]
      omega
  · exact Nat.le_refl _
def oI : Option Int → PyData
  | none => .none
  | some i => .int i
def shortF (n d : Int) : Bool := decide (1 ≤ d) && decide (gcdI n d = 1) && decide (n.natAbs < 1000) && decide (d < 1000)
def outD : Option (Int × Int) → PyData
  | none => .none
  | some f => .tuple [.int f.1, .int f.2]
def readP (w a s b : Str) : Option (Int × Int) := match wholeF (rp a), (if s.length ≠ 0 then wholeF b else some 1) with
  | some n, some d => if shortF (if Txt.startswith a "-" then -n else n) d && decide (tN (if Txt.startswith a "-" then -n else n) d = w) then some (if Txt.startswith a "-" then -n else n, d) else none
  | _, _ => none
end Dn
namespace Law
open PySem PySem.Spec PyProof.Rows L2 Dn
theorem whole_eq {w : Str} (hl : w.length ≤ 600) (hf : fineW w = true) : m__whole [.str w] = some (.val (oI (wholeF w))) := by
  unfold m__whole
  rw [fnD_eq (by rfl)]
  have f1 : Fits w.length := fits (by omega)
  have f2 : Fits (w.length + 99360) := fits (by omega)
  unfold wholeF
  unfold fineW at hf
  unfold passW at *
  generalize hA : Txt.isascii w = A at *
  generalize hD : Txt.isdigit w = D at *
  generalize hS : Txt.startswith w "0" = S at *
  cases A with
  | false => simp [b__whole, hA, hD, hS, oI]
  | true =>
    cases D with
    | false => simp [b__whole, hA, hD, hS, oI]
    | true =>
      by_cases h3 : w.length > 3
      · have h3' : (3 : Int) < w.length := by omega
        simp [b__whole, hA, hD, hS, f1, h3, h3', oI]
      · have h3' : ¬ (3 : Int) < w.length := by omega
        cases S with
        | true =>
          by_cases hz : w = "0"
          · simp [h3, hz] at hf
            have hf : (intText? w).isSome = true := by
              rcases hf with hf | hf
              · exact absurd hf (by decide +kernel)
              · rw [hz]; exact hf
            obtain ⟨n, hn⟩ := Option.isSome_iff_exists.mp hf
            subst hz
            simp [b__whole, hA, hD, hS, f1, f2, h3, h3', hn, oI]
          · simp [b__whole, hA, hD, hS, f1, h3, h3', hz, oI]
        | false =>
          simp [h3] at hf
          obtain ⟨n, hn⟩ := Option.isSome_iff_exists.mp hf
          simp [b__whole, hA, hD, hS, f1, f2, h3, h3', hn, oI]
theorem is_whole_int (n : Int) : m_is_whole [.int n] = some (.val (.bool true)) := by
  unfold m_is_whole
  rw [fnD_eq (by rfl)]
  simp [b_is_whole]
theorem is_number_ints (n d : Int) : m_is_number [.tuple [.int n, .int d]] = some (.val (.bool (decide (1 ≤ d) && decide (gcdI n d = 1)))) := by
  unfold m_is_number
  rw [fnD_eq (by rfl)]
  have e : ((n.natAbs.gcd d.natAbs : Nat) : Int) = gcdI n d := rfl
  by_cases h : 1 ≤ d
  · simp [b_is_number, is_whole_int, h, e]
  · simp [b_is_number, is_whole_int, h]
theorem is_short_eq (n d : Int) : m_is_short [.tuple [.int n, .int d]] = some (.val (.bool (shortF n d))) := by
  unfold m_is_short
  rw [fnD_eq (by rfl)]
  have i := is_number_ints n d
  unfold shortF
  generalize (decide (1 ≤ d) && decide (gcdI n d = 1)) = N at *
  cases N with
  | false => simp [b_is_short, i]
  | true =>
    have e : ((if n < 0 then -n else n) < 1000) = (n.natAbs < 1000) := by rw [eq_iff_iff]; split <;> omega
    by_cases h : n.natAbs < 1000
    · simp [b_is_short, i, e, h]
    · simp [b_is_short, i, e, h]
noncomputable def s_read_number_1 : SF := (sAsg (gtTup3 4 5 6) (eM1 gPart (eVar 0) (eC (.str "/"))))
noncomputable def s_read_number_2 : SF := (sSet 1 (eCall m__whole (aCons (eM1 gRmPre (eVar 4) (eC (.str "-"))) aNil)))
noncomputable def s_read_number_3 : SF := (sSet 2 (eIf (tTruS (eVar 5)) (eCall m__whole (aCons (eVar 6) aNil)) (eC (.int 1))))
noncomputable def s_read_number_4 : SF := (sIf (tOrD (tE (eBin gIsN (eVar 1) (eC .none))) (tE (eBin gIsN (eVar 2) (eC .none)))) (sRet (eC .none)) sNext)
noncomputable def s_read_number_5 : SF := (sSet 3 (eIf (tE (eM1 gStarts (eVar 4) (eC (.str "-")))) (eTup (aCons (eUn gNeg (eVar 1)) (aCons (eVar 2) aNil))) (eTup (aCons (eVar 1) (aCons (eVar 2) aNil)))))
noncomputable def s_read_number_6 : SF := (sIf (tOrD (tNotD (tE (eCall m_is_short (aCons (eVar 3) aNil)))) (tE (eBin gNeT (eCall m_write_number (aCons (eVar 3) aNil)) (eVar 0)))) (sRet (eC .none)) sNext)
noncomputable def s_read_number_7 : SF := (sRet (eVar 3))
theorem split_read_number : b_read_number = (sSeq s_read_number_1 (sSeq s_read_number_2 (sSeq s_read_number_3 (sSeq s_read_number_4 (sSeq s_read_number_5 (sSeq s_read_number_6 s_read_number_7)))))) := rfl
theorem read_eq {w a s b : Str} (hp : Txt.partition w "/" = (a, s, b)) (lw : w.length ≤ 600) (la : a.length ≤ 600) (ls : s.length ≤ 600) (lb : b.length ≤ 600) (h1 : fineW (rp a) = true) (h2 : s.length ≠ 0 → fineW b = true) :
    m_read_number [.str w] = some (.val (outD (readP w a s b))) := by
  unfold m_read_number
  rw [fnD_eq (by rfl)]
  have fw : Fits w.length := fits (by omega)
  have fa : Fits a.length := fits (by omega)
  have fs : Fits s.length := fits (by omega)
  have w1 := whole_eq (w := rp a) (Nat.le_trans (rp_len a) la) h1
  have w1 : m__whole [.str (Txt.removeprefix a "-")] = _ := w1
  have nz : ("/" : Str).length = 1 := by decide +kernel
  have w2 : s.length ≠ 0 → m__whole [.str b] = some (.val (oI (wholeF b))) := fun h => whole_eq lb (h2 h)
  have tr : ((s.length : Int) != 0) = decide (s.length ≠ 0) := by
    by_cases h : s.length = 0
    · simp [h]
    · simp [h]
  -- the tail's number
  have fz : Fits 0 := fits (by decide)
  have hD : ∃ D : Option Int, (if s.length ≠ 0 then wholeF b else some 1) = D ∧ ∀ e1 e2 e3 : Sl, eIf (tTruS (eVar 5)) (eCall m__whole (aCons (eVar 6) aNil)) (eC (.int 1)) [.val (.str w), e1, e2, e3, .val (.str a), .val (.str s), .val (.str b)] = some (.val (oI D)) := by
    by_cases h : s.length = 0
    · exact ⟨some 1, by simp [h], fun e1 e2 e3 => by simp [h, fs, fz, oI] ⟩
    · have w2 := w2 h
      generalize wholeF b = B at *
      exact ⟨B, by simp [h], fun e1 e2 e3 => by simp [h, fs, w2]⟩
  obtain ⟨D, hD1, hD2⟩ := hD
  unfold readP
  rw [hD1, split_read_number]
  generalize wholeF (rp a) = N at *
  generalize hSW : Txt.startswith a "-" = SW at *
  show resO (sSeq _ _ [.val (.str w), .no, .no, .no, .no, .no, .no]) = _
  have q1 : s_read_number_1 [.val (.str w), .no, .no, .no, .no, .no, .no] = some (.nx [.val (.str w), .no, .no, .no, .val (.str a), .val (.str s), .val (.str b)]) := by
    simp [s_read_number_1, hp, fw, nz]
  rw [seq_nx q1]
  have q2 : s_read_number_2 [.val (.str w), .no, .no, .no, .val (.str a), .val (.str s), .val (.str b)] = some (.nx [.val (.str w), .val (oI N), .no, .no, .val (.str a), .val (.str s), .val (.str b)]) := by
    simp [s_read_number_2, fa, w1]
  rw [seq_nx q2]
  have q3 : s_read_number_3 [.val (.str w), .val (oI N), .no, .no, .val (.str a), .val (.str s), .val (.str b)] = some (.nx [.val (.str w), .val (oI N), .val (oI D), .no, .val (.str a), .val (.str s), .val (.str b)]) := by
    show (eIf _ _ _ _).bind _ = _
    rw [hD2]
    rfl
  rw [seq_nx q3]
  cases N with
  | none => simp [s_read_number_4, oI, outD, isNone]
  | some n =>
    cases D with
    | none => simp [s_read_number_4, oI, outD, isNone]
    | some d =>
      have q4 : s_read_number_4 [.val (.str w), .val (oI (some n)), .val (oI (some d)), .no, .val (.str a), .val (.str s), .val (.str b)] = some (.nx [.val (.str w), .val (.int n), .val (.int d), .no, .val (.str a), .val (.str s), .val (.str b)]) := by
        simp [s_read_number_4, oI, isNone]
      rw [seq_nx q4]
      have t2 : Few 2 := by unfold Few; decide
      obtain ⟨m, hm⟩ : ∃ m, (if SW = true then -n else n) = m := ⟨_, rfl⟩
      have q5 : s_read_number_5 [.val (.str w), .val (.int n), .val (.int d), .no, .val (.str a), .val (.str s), .val (.str b)] = some (.nx [.val (.str w), .val (.int n), .val (.int d), .val (.tuple [.int m, .int d]), .val (.str a), .val (.str s), .val (.str b)]) := by
        subst hm
        cases SW <;> simp [s_read_number_5, hSW, t2]
      rw [seq_nx q5]
      dsimp only
      rw [hm]
      have sh := is_short_eq m d
      have wr : shortF m d = true → m_write_number [.tuple [.int m, .int d]] = some (.val (.str (tN m d))) := fun h => by
        unfold shortF at h
        simp only [Bool.and_eq_true, decide_eq_true_eq] at h
        exact write_number_eq (by omega) (by omega)
      generalize shortF m d = S at *
      cases S with
      | false => simp [s_read_number_6, sh, outD]
      | true =>
        have wr := wr rfl
        generalize tN m d = T at *
        by_cases ht : T = w
        · simp [s_read_number_6, s_read_number_7, sh, wr, ht, outD]
        · simp [s_read_number_6, sh, wr, ht, outD]
end Law
namespace Dn
open PySem PySem.Spec PyProof.Rows L2
def headOK (l : Int) (k : Nat) (w : Str) : Bool := decide (wholeF (rp w) = if k < 1000 then some (k : Int) else none) && fineW (rp w) && (Txt.startswith w "-" == decide (l < 0)) && !(TL.tl w).contains 47
def tailOK (k : Nat) (w : Str) : Bool := decide (wholeF w = if k < 1000 then some (k : Int) else none) && fineW w
def badH (h : Str) : Bool := decide (wholeF (rp h) = none) && fineW (rp h) && !(TL.tl h).contains 47

end Dn
namespace Dn
open PySem PySem.Spec PyProof.Rows L2
theorem posT : ((List.range 1041).all fun k => headOK (k : Int) k (tI (k : Int)) && tailOK k (tI (k : Int))) = true := by decide +kernel
theorem negT : ((List.range 1041).all fun k => headOK (-(k : Int)) k (tI (-(k : Int)))) = true := by decide +kernel
end Dn
namespace Dn
open PySem PySem.Spec PyProof.Rows L2
theorem badT1 : ((List.range 1041).all fun k => badH (("+" : Str) ++ tI (k : Int)) && badH (("+" : Str) ++ tI (-(k : Int)))) = true := by decide +kernel
end Dn
namespace Dn
open PySem PySem.Spec PyProof.Rows L2
theorem badT2 : ((List.range 1041).all fun k => badH (("0" : Str) ++ tI (k : Int)) && badH (("0" : Str) ++ tI (-(k : Int)))) = true := by decide +kernel
end Dn
namespace Dn
open PySem PySem.Spec PyProof.Rows L2
theorem badT3 : ((List.range 1041).all fun k => badH (("--" : Str) ++ tI (k : Int)) && badH (("--" : Str) ++ tI (-(k : Int)))) = true := by decide +kernel
end Dn
namespace Dn
open PySem PySem.Spec PyProof.Rows L2
theorem badT4 : ((List.range 1041).all fun k => badH (("-0" : Str) ++ tI (k : Int)) && badH (("-0" : Str) ++ tI (-(k : Int)))) = true := by decide +kernel
end Dn
namespace Dn
open PySem PySem.Spec PyProof.Rows L2
structure HeadP (l : Int) (w : Str) : Prop where
  wh : wholeF (rp w) = if l.natAbs < 1000 then some (l.natAbs : Int) else none
  fi : fineW (rp w) = true
  sw : Txt.startswith w "-" = decide (l < 0)
  sl : 47 ∉ TL.tl w
theorem headP {l : Int} {w : Str} (h : headOK l l.natAbs w = true) : HeadP l w := by
  unfold headOK at h
  simp only [Bool.and_eq_true, decide_eq_true_eq, beq_iff_eq, Bool.not_eq_true', List.contains_eq_mem, decide_eq_false_iff_not] at h
  exact ⟨h.1.1.1, h.1.1.2, h.1.2, h.2⟩
theorem head_of {l : Int} (h : l.natAbs < 1041) : HeadP l (tI l) := by
  refine headP ?_
  by_cases h0 : 0 ≤ l
  · have := List.all_eq_true.mp posT l.natAbs (List.mem_range.mpr h)
    rw [Bool.and_eq_true] at this
    have e : (l.natAbs : Int) = l := by omega
    rw [e] at this
    exact this.1
  · have := List.all_eq_true.mp negT l.natAbs (List.mem_range.mpr h)
    have e : -(l.natAbs : Int) = l := by omega
    rw [e] at this
    exact this
theorem tail_of {m : Nat} (h : m < 1041) : wholeF (tI m) = (if m < 1000 then some (m : Int) else none) ∧ fineW (tI m) = true := by
  have := List.all_eq_true.mp posT m (List.mem_range.mpr h)
  rw [Bool.and_eq_true] at this
  have := this.2
  unfold tailOK at this
  simp only [Bool.and_eq_true, decide_eq_true_eq] at this
  exact this
structure BadP (h : Str) : Prop where
  wh : wholeF (rp h) = none
  fi : fineW (rp h) = true
  sl : 47 ∉ TL.tl h
theorem badP {h : Str} (e : badH h = true) : BadP h := by
  unfold badH at e
  simp only [Bool.and_eq_true, decide_eq_true_eq, Bool.not_eq_true', List.contains_eq_mem, decide_eq_false_iff_not] at e
  exact ⟨e.1.1, e.1.2, e.2⟩
theorem bad_by {f : Str} (T : ((List.range 1041).all fun k => badH (f ++ tI (k : Int)) && badH (f ++ tI (-(k : Int)))) = true) {l : Int} (h : l.natAbs < 1041) : BadP (f ++ tI l) := by
  have := List.all_eq_true.mp T l.natAbs (List.mem_range.mpr h)
  rw [Bool.and_eq_true] at this
  refine badP ?_
  by_cases h0 : 0 ≤ l
  · have e : (l.natAbs : Int) = l := by omega
    rw [e] at this
    exact this.1
  · have e : -(l.natAbs : Int) = l := by omega
    rw [e] at this
    exact this.2
def fronts : List Str := [("+" : Str), ("0" : Str), ("--" : Str), ("-0" : Str)]
theorem bad_of {f : Str} (hf : f ∈ fronts) {l : Int} (h : l.natAbs < 1041) : BadP (f ++ tI l) := by
  unfold fronts at hf
  simp only [List.mem_cons, List.not_mem_nil, or_false] at hf
  rcases hf with rfl | rfl | rfl | rfl
  · exact bad_by badT1 h
  · exact bad_by badT2 h
  · exact bad_by badT3 h
  · exact bad_by badT4 h
theorem front_len {f : Str} (hf : f ∈ fronts) : f.length ≤ 2 := by
  unfold fronts at hf
  simp only [List.mem_cons, List.not_mem_nil, or_false] at hf
  rcases hf with rfl | rfl | rfl | rfl <;> decide +kernel
theorem tl_slash : TL.tl ("/" : Str) = 47 :: [] := by decide +kernel
def oddL : List Str := [("" : Str), ("-" : Str), ("/" : Str), ("1/" : Str), ("/2" : Str), ("-0" : Str), ("01" : Str), ("1/02" : Str), ("1/-2" : Str), ("+1" : Str), ("--1" : Str), ("1/2/3" : Str), ("a" : Str), ("1/0" : Str)]
def oddOK (w : Str) : Bool := decide (w.length ≤ 600) && decide ((Txt.partition w "/").1.length ≤ 600) && decide ((Txt.partition w "/").2.1.length ≤ 600) && decide ((Txt.partition w "/").2.2.length ≤ 600) && fineW (rp (Txt.partition w "/").1) && (decide ((Txt.partition w "/").2.1.length = 0) || fineW (Txt.partition w "/").2.2) && decide (readP w (Txt.partition w "/").1 (Txt.partition w "/").2.1 (Txt.partition w "/").2.2 = none)
theorem oddT : oddL.all oddOK = true := by decide +kernel
end Dn
namespace Law
open PySem PySem.Spec PyProof.Rows L2 Dn
theorem right1 {l : Int} (h : l.natAbs < 1041) : m_read_number [.str (tI l)] = some (.val (outD (if l.natAbs < 1000 then some (l, 1) else none))) := by
  obtain ⟨wh, fi, sw, sl⟩ := head_of h
  have len := tI_len (i := l) (by omega)
  have z : Str.empty.length = 0 := rfl
  rw [read_eq (TL.partition_none tl_slash sl) (by omega) (by omega) (by omega) (by omega) fi fun c => absurd z c]
  congr 2
  unfold readP
  rw [wh, sw]
  by_cases h0 : l.natAbs < 1000
  · rw [if_pos h0, if_neg (fun c => c z), if_pos h0]
    dsimp only
    have e : (if decide (l < 0) = true then -(l.natAbs : Int) else (l.natAbs : Int)) = l := by
      by_cases hn : l < 0
      · rw [if_pos (by simp [hn])]; omega
      · rw [if_neg (by simp [hn])]; omega
    rw [e]
    have s : shortF l 1 = true := by
      unfold shortF
      have g : gcdI l 1 = 1 := by unfold gcdI; simp
      simp [g, h0]
    have t : tN l 1 = tI l := by unfold tN; rw [if_pos rfl]
    rw [s, t]
    simp
  · rw [if_neg h0, if_neg h0]
theorem right2 {l : Int} (h : l.natAbs < 1041) {m : Nat} (hm : m < 1041) (hm1 : 1 ≤ m) : m_read_number [.str (tI l ++ ("/" : Str) ++ tI m)] = some (.val (outD (if l.natAbs < 1000 ∧ m < 1000 ∧ gcdI l m = 1 ∧ m ≠ 1 then some (l, (m : Int)) else none))) := by
  obtain ⟨wh, fi, sw, sl⟩ := head_of h
  obtain ⟨th, tf⟩ := tail_of hm
  have len := tI_len (i := l) (by omega)
  have len2 := tI_len (i := (m : Int)) (by omega)
  have z : ("/" : Str).length = 1 := slash_len
  rw [read_eq (TL.partition_app tl_slash sl) (by rw [app_len, app_len]; omega) (by omega) (by omega) (by omega) fi fun _ => tf]
  congr 2
  unfold readP
  rw [wh, sw, th, if_pos (by omega : ("/" : Str).length ≠ 0)]
  by_cases h0 : l.natAbs < 1000
  · rw [if_pos h0]
    by_cases h1 : m < 1000
    · rw [if_pos h1]
      dsimp only
      have e : (if decide (l < 0) = true then -(l.natAbs : Int) else (l.natAbs : Int)) = l := by
        by_cases hn : l < 0
        · rw [if_pos (by simp [hn])]; omega
        · rw [if_neg (by simp [hn])]; omega
      rw [e]
      have s : shortF l m = decide (gcdI l m = 1) := by
        unfold shortF
        have q1 : (1 : Int) ≤ (m : Int) := by omega
        have q2 : (m : Int) < 1000 := by omega
        simp [h0, q1, q2]
      rw [s]
      by_cases g : gcdI l m = 1
      · by_cases h2 : m = 1
        · have t : ¬ tN l (m : Int) = tI l ++ ("/" : Str) ++ tI (m : Int) := fun c => by
            have t0 : tN l (m : Int) = tI l := by unfold tN; rw [if_pos (by omega)]
            rw [t0] at c
            have := congrArg Str.length c
            rw [app_len, app_len] at this
            omega
          rw [decide_eq_false t, Bool.and_false, if_neg (by decide), if_neg (fun c => c.2.2.2 h2)]
        · have t : tN l (m : Int) = tI l ++ ("/" : Str) ++ tI (m : Int) := by unfold tN; rw [if_neg (by omega)]
          rw [t]
          simp [g, h0, h1, h2]
      · simp [g]
    · rw [if_neg h1]
      simp [h1]
  · rw [if_neg h0]
    simp [h0]
theorem bad1 {f : Str} (hf : f ∈ fronts) {l : Int} (h : l.natAbs < 1041) : m_read_number [.str (f ++ tI l)] = some (.val .none) := by
  obtain ⟨wh, fi, sl⟩ := bad_of hf h
  have len := tI_len (i := l) (by omega)
  have fl := front_len hf
  have z : Str.empty.length = 0 := rfl
  rw [read_eq (TL.partition_none tl_slash sl) (by rw [app_len]; omega) (by rw [app_len]; omega) (by omega) (by omega) fi fun c => absurd z c]
  unfold readP
  rw [wh]
  rfl
theorem bad2 {f : Str} (hf : f ∈ fronts) {l : Int} (h : l.natAbs < 1041) {m : Nat} (hm : m < 1041) : m_read_number [.str (f ++ (tI l ++ ("/" : Str) ++ tI m))] = some (.val .none) := by
  obtain ⟨wh, fi, sl⟩ := bad_of hf h
  obtain ⟨th, tf⟩ := tail_of hm
  have len := tI_len (i := l) (by omega)
  have len2 := tI_len (i := (m : Int)) (by omega)
  have fl := front_len hf
  have z : ("/" : Str).length = 1 := slash_len
  have e : f ++ (tI l ++ ("/" : Str) ++ tI m) = f ++ tI l ++ ("/" : Str) ++ tI m := by simp only [str_assoc]
  rw [e, read_eq (TL.partition_app tl_slash sl) (by rw [app_len, app_len, app_len]; omega) (by rw [app_len]; omega) (by omega) (by omega) fi fun _ => tf]
  unfold readP
  rw [wh]
  rfl
theorem odd_eq {w : Str} (h : w ∈ oddL) : m_read_number [.str w] = some (.val .none) := by
  have := List.all_eq_true.mp oddT w h
  unfold oddOK at this
  simp only [Bool.and_eq_true, Bool.or_eq_true, decide_eq_true_eq] at this
  obtain ⟨⟨⟨⟨⟨⟨a1, a2⟩, a3⟩, a4⟩, a5⟩, a6⟩, a7⟩ := this
  rw [read_eq (a := (Txt.partition w "/").1) (s := (Txt.partition w "/").2.1) (b := (Txt.partition w "/").2.2) rfl a1 a2 a3 a4 a5 (fun c => a6.resolve_left c), a7]
  rfl
theorem is_integer_eq (n : Int) : m__law_is_integer [.int n] = some (.val (.bool true)) := by
  unfold m__law_is_integer
  rw [fnD_eq (by rfl)]
  simp [b__law_is_integer]
theorem law_right_eq {w : Str} {o : Option (Int × Int)} (h : m_read_number [.str w] = some (.val (outD o))) : m__law_right [.str w, outD o] = some (.val (.bool true)) := by
  unfold m__law_right
  rw [fnD_eq (by rfl)]
  cases o with
  | none =>
    have h : m_read_number [.str w] = some (.val .none) := h
    show resO (b__law_right [.val (.str w), .val .none, .no]) = _
    simp [b__law_right, h, isNone]
  | some f =>
    obtain ⟨n, d⟩ := f
    have h : m_read_number [.str w] = some (.val (.tuple [.int n, .int d])) := h
    have g : gNeT (.tuple [.int n, .int d]) (.tuple [.int n, .int d]) = some (.val (.bool false)) := by
      show gNe _ _ = _
      unfold gNe
      rw [if_pos ⟨rfl, rfl⟩]
      have e : PyData.eqv (.tuple [.int n, .int d]) (.tuple [.int n, .int d]) = true := by
        show (n == n && (d == d && true)) = true
        simp
      rw [e]
      rfl
    show resO (b__law_right [.val (.str w), .val (.tuple [.int n, .int d]), .no]) = _
    simp [b__law_right, h, isNone, g, is_integer_eq]
end Law
namespace Law
open PySem PySem.Spec PyProof.Rows L2 Dn
noncomputable def s_law_1 : SF := (sSet 1 (eBin gIx (eLst (aCons (eC (.int 30)) (aCons (eC (.int 1040)) aNil))) (eBin gMod (eCall gInt (aCons (eCall m__law_cell (aCons (eVar 0) (aCons (eC (.int 0)) aNil))) aNil)) (eC (.int 2)))))
noncomputable def s_law_2 : SF := (sSet 2 (eBin gMod (eCall gInt (aCons (eCall m__law_cell (aCons (eVar 0) (aCons (eC (.int 1)) aNil))) aNil)) (eVar 1)))
noncomputable def s_law_3 : SF := (sSet 3 (eBin gAdd (eC (.int 1)) (eBin gMod (eCall gInt (aCons (eCall m__law_cell (aCons (eVar 0) (aCons (eC (.int 2)) aNil))) aNil)) (eVar 1))))
noncomputable def s_law_4 : SF := (sIf (tE (eBin gEqT (eBin gMod (eCall gInt (aCons (eCall m__law_cell (aCons (eVar 0) (aCons (eC (.int 3)) aNil))) aNil)) (eC (.int 2))) (eC (.int 1)))) (sSet 2 (eUn gNeg (eVar 2))) sNext)
noncomputable def s_law_5 : SF := (sSet 4 (eCall m__law_lowest (aCons (eVar 2) (aCons (eVar 3) aNil))))
noncomputable def s_law_6 : SF := (sSet 5 (eIf (tE (eChain gLt gLt (eUn gNeg (eC (.int 1000))) (eBin gIx (eVar 4) (eC (.int 0))) (eC (.int 1000)))) (eBin gLt (eBin gIx (eVar 4) (eC (.int 1))) (eC (.int 1000))) (eC (.bool false))))
noncomputable def s_law_7 : SF := (sSet 6 (eCall gStr (aCons (eBin gIx (eVar 4) (eC (.int 0))) aNil)))
noncomputable def s_law_8 : SF := (sIf (tE (eBin gNeT (eBin gIx (eVar 4) (eC (.int 1))) (eC (.int 1)))) (sSet 6 (eBin gAdd (eBin gAdd (eVar 6) (eC (.str "/"))) (eCall gStr (aCons (eBin gIx (eVar 4) (eC (.int 1))) aNil)))) sNext)
noncomputable def s_law_9 : SF := (sSet 7 (eC .none))
noncomputable def s_law_10 : SF := (sIf (tE (eVar 5)) (sSeq (sSet 7 (eVar 4)) (sIf (tOrD (tE (eBin gNeT (eCall m_write_number (aCons (eVar 4) aNil)) (eVar 6))) (tNotD (tE (eIsi "str" (eCall m_write_number (aCons (eVar 4) aNil)))))) (sRet (eC (.bool false))) sNext)) sNext)
noncomputable def s_law_11 : SF := (sIf (tNotD (tE (eCall m__law_right (aCons (eVar 6) (aCons (eVar 7) aNil))))) (sRet (eC (.bool false))) sNext)
noncomputable def s_law_12 : SF := (sSet 8 (eBin gAdd (eBin gAdd (eCall gStr (aCons (eVar 2) aNil)) (eC (.str "/"))) (eCall gStr (aCons (eVar 3) aNil))))
noncomputable def s_law_13 : SF := (sIf (tAndD (tE (eBin gNeT (eVar 8) (eVar 6))) (tNotD (tE (eCall m__law_right (aCons (eVar 8) (aCons (eC .none) aNil)))))) (sRet (eC (.bool false))) sNext)
noncomputable def s_law_14 : SF := (sSet 9 (eLst (aCons (eC (.str "")) (aCons (eC (.str "-")) (aCons (eC (.str "/")) (aCons (eC (.str "1/")) (aCons (eC (.str "/2")) (aCons (eC (.str "-0")) (aCons (eC (.str "01")) (aCons (eC (.str "1/02")) (aCons (eC (.str "1/-2")) (aCons (eC (.str "+1")) (aCons (eC (.str "--1")) (aCons (eC (.str "1/2/3")) (aCons (eC (.str "a")) (aCons (eC (.str "1/0")) aNil))))))))))))))))
noncomputable def s_law_15 : SF := (sSet 10 (eBin gIx (eLst (aCons (eC (.str "+")) (aCons (eC (.str "0")) (aCons (eC (.str "--")) (aCons (eC (.str "-0")) aNil))))) (eBin gMod (eCall gInt (aCons (eCall m__law_cell (aCons (eVar 0) (aCons (eC (.int 4)) aNil))) aNil)) (eC (.int 4)))))
noncomputable def s_law_16 : SF := (sRet (eIf (tE (eCall m__law_right (aCons (eIxO 9 (eBin gMod (eCall gInt (aCons (eCall m__law_cell (aCons (eVar 0) (aCons (eC (.int 5)) aNil))) aNil)) (eC (.int 14)))) (aCons (eC .none) aNil)))) (eCall m__law_right (aCons (eBin gAdd (eVar 10) (eVar 6)) (aCons (eC .none) aNil))) (eC (.bool false))))
theorem split_law : b_law = (sSeq s_law_1 (sSeq s_law_2 (sSeq s_law_3 (sSeq s_law_4 (sSeq s_law_5 (sSeq s_law_6 (sSeq s_law_7 (sSeq s_law_8 (sSeq s_law_9 (sSeq s_law_10 (sSeq s_law_11 (sSeq s_law_12 (sSeq s_law_13 (sSeq s_law_14 (sSeq s_law_15 s_law_16))))))))))))))) := rfl
end Law
namespace Law
open PySem PySem.Spec PyProof.Rows L2 Dn
theorem lowest_any {n d : Int} (hd : 0 < d) (hb : d < 2 ^ 60) : m__law_lowest [.int n, .int d] = some (.val (num n d)) := by
  by_cases hn : 0 ≤ n
  · exact lowest_eq hn hd hb
  · unfold m__law_lowest
    rw [fnD_eq (by rfl)]
    have hr : InR 4000 := inR_of (by decide) (by decide)
    have big : Big d := by
      unfold Big
      exact Nat.lt_of_lt_of_le (show d.natAbs < 2 ^ 60 by omega) (Nat.pow_le_pow_right (by decide) (by decide))
    obtain ⟨s2', b', h⟩ := lowest_loop 4000 0 (-n) d (.val (.int n)) (.val (.int d)) .no (by omega) (by omega)
    rw [euc_gcd 60 4000 _ _ (by omega) (by omega) hb (by decide)] at h
    have e : gcdI (-n) d = gcdI n d := by unfold gcdI; rw [Int.natAbs_neg]
    rw [e] at h
    have g := gcdI_pos (n := n) (show d ≠ 0 by omega)
    have f1 : ∀ i, FdOk i (gcdI n d) := fun i => fd_gcd (by omega) big
    have hn' : n < 0 := by omega
    have hd' : ¬ d < 0 := by omega
    simp [b__law_lowest, hr, hn', h, f1, num, redN, redD, hd', fdiv_pos g]
theorem cell_eq {ns : List Int} {k : Nat} : m__law_cell [.list (ns.map .int), .int (k : Int)] = some (.val (.int (ns.getD k 0))) := by
  unfold m__law_cell
  rw [fnD_eq (by rfl)]
  by_cases h : k < ns.length
  · have a := at_D (ds := ns) (k := k) h
    have h' : (k : Int) < ns.length := by omega
    generalize ns.getD k 0 = x at *
    simp [b__law_cell, h', a]
  · have h' : ¬ (k : Int) < ns.length := by omega
    have e : ns.getD k 0 = 0 := by rw [List.getD_eq_getElem?_getD, List.getElem?_eq_none (by omega)]; rfl
    rw [e]
    simp [b__law_cell, h']
theorem hlaw : ∀ ns : List Int, ns.length ≤ 63 → m_law [.list (ns.map PyData.int)] = some (.val (.bool true)) := fun ns hns => by
  have c0 : m__law_cell [.list (ns.map .int), .int 0] = _ := cell_eq (ns := ns) (k := 0)
  have c1 : m__law_cell [.list (ns.map .int), .int 1] = _ := cell_eq (ns := ns) (k := 1)
  have c2 : m__law_cell [.list (ns.map .int), .int 2] = _ := cell_eq (ns := ns) (k := 2)
  have c3 : m__law_cell [.list (ns.map .int), .int 3] = _ := cell_eq (ns := ns) (k := 3)
  have c4 : m__law_cell [.list (ns.map .int), .int 4] = _ := cell_eq (ns := ns) (k := 4)
  have c5 : m__law_cell [.list (ns.map .int), .int 5] = _ := cell_eq (ns := ns) (k := 5)
  unfold m_law
  rw [fnD_eq (by rfl), split_law]
  show resO (sSeq _ _ [.val (.list (ns.map .int)), .no, .no, .no, .no, .no, .no, .no, .no, .no, .no]) = _
  generalize PyData.list (ns.map .int) = NS at *
  generalize ns.getD 0 0 = x0 at *
  generalize ns.getD 1 0 = x1 at *
  generalize ns.getD 2 0 = x2 at *
  generalize ns.getD 3 0 = x3 at *
  generalize ns.getD 4 0 = x4 at *
  generalize ns.getD 5 0 = x5 at *
  have n2 : ∀ i, NzOk i 2 := fun i => by unfold NzOk; decide
  have f2 : ∀ i : Int, i.fmod 2 = i % 2 := fun i => fmod_pos (by decide)
  have n4 : ∀ i, NzOk i 4 := fun i => by unfold NzOk; decide
  have f4 : ∀ i : Int, i.fmod 4 = i % 4 := fun i => fmod_pos (by decide)
  have n14 : ∀ i, NzOk i 14 := fun i => by unfold NzOk; decide
  have f14 : ∀ i : Int, i.fmod 14 = i % 14 := fun i => fmod_pos (by decide)
  have t2 : Few 2 := by unfold Few; decide
  have t4 : Few 4 := by unfold Few; decide
  have t14 : Few 14 := by unfold Few; decide
  obtain ⟨B, hB, hB2⟩ : ∃ B : Int, s_law_1 [.val NS, .no, .no, .no, .no, .no, .no, .no, .no, .no, .no] = some (.nx [.val NS, .val (.int B), .no, .no, .no, .no, .no, .no, .no, .no, .no]) ∧ (B = 30 ∨ B = 1040) := by
    have : x0 % 2 = 0 ∨ x0 % 2 = 1 := by omega
    rcases this with h | h
    · have a : gIx (.list [.int 30, .int 1040]) (.int 0) = some (.val (.int 30)) := rfl
      exact ⟨30, by simp [-gIx, s_law_1, c0, n2, f2, h, t2, a], .inl rfl⟩
    · have a : gIx (.list [.int 30, .int 1040]) (.int 1) = some (.val (.int 1040)) := rfl
      exact ⟨1040, by simp [-gIx, s_law_1, c0, n2, f2, h, t2, a], .inr rfl⟩
  rw [seq_nx hB]
  have nB : ∀ i, NzOk i B := fun i => by unfold NzOk; omega
  have fB : ∀ i : Int, i.fmod B = i % B := fun i => fmod_pos (by omega)
  have a1 := Int.emod_nonneg x1 (show B ≠ 0 by omega)
  have a2 := Int.emod_lt_of_pos x1 (show 0 < B by omega)
  have b1 := Int.emod_nonneg x2 (show B ≠ 0 by omega)
  have b2 := Int.emod_lt_of_pos x2 (show 0 < B by omega)
  have h2 : s_law_2 [.val NS, .val (.int B), .no, .no, .no, .no, .no, .no, .no, .no, .no] = some (.nx [.val NS, .val (.int B), .val (.int (x1 % B)), .no, .no, .no, .no, .no, .no, .no, .no]) := by
    simp [s_law_2, c1, nB, fB]
  rw [seq_nx h2]
  have h3 : s_law_3 [.val NS, .val (.int B), .val (.int (x1 % B)), .no, .no, .no, .no, .no, .no, .no, .no] = some (.nx [.val NS, .val (.int B), .val (.int (x1 % B)), .val (.int (1 + x2 % B)), .no, .no, .no, .no, .no, .no, .no]) := by
    simp [s_law_3, c2, nB, fB]
  rw [seq_nx h3]
  obtain ⟨n, hn, hn2⟩ : ∃ n : Int, s_law_4 [.val NS, .val (.int B), .val (.int (x1 % B)), .val (.int (1 + x2 % B)), .no, .no, .no, .no, .no, .no, .no] = some (.nx [.val NS, .val (.int B), .val (.int n), .val (.int (1 + x2 % B)), .no, .no, .no, .no, .no, .no, .no]) ∧ n.natAbs < 1040 := by
    by_cases h : x3 % 2 = 1
    · exact ⟨-(x1 % B), by simp [s_law_4, c3, n2, f2, h], by omega⟩
    · exact ⟨x1 % B, by simp [s_law_4, c3, n2, f2, h], by omega⟩
  rw [seq_nx hn]
  obtain ⟨d, hd⟩ : ∃ d : Nat, 1 + x2 % B = (d : Int) := ⟨(1 + x2 % B).toNat, by omega⟩
  have hd1 : 1 ≤ d ∧ d < 1041 := by omega
  rw [hd]
  have lo := lowest_any (n := n) (d := (d : Int)) (by omega) (by omega)
  have r1 := redN_le (n := n) (d := (d : Int))
  have r2 := redD_le (n := n) (d := (d : Int))
  have r3 := redD_pos (n := n) (d := (d : Int)) (by omega)
  have rc := red_cop (n := n) (d := (d : Int)) (by omega)
  have same : gcdI n d = 1 → redN n d = n ∧ redD n d = (d : Int) := fun g => by
    unfold redN redD
    rw [g, if_neg (by omega), if_neg (by omega), Int.ediv_one, Int.ediv_one]
    exact ⟨rfl, rfl⟩
  obtain ⟨m, hm⟩ : ∃ m : Nat, redD n d = (m : Int) := ⟨(redD n d).toNat, by omega⟩
  have lo : m__law_lowest [.int n, .int (d : Int)] = some (.val (.tuple [.int (redN n d), .int (redD n d)])) := lo
  rw [hm] at lo rc same r2 r3
  generalize redN n d = l at *
  have hl : l.natAbs < 1041 := by omega
  have hm2 : 1 ≤ m ∧ m < 1041 := by omega
  have h5 : s_law_5 [.val NS, .val (.int B), .val (.int n), .val (.int (d : Int)), .no, .no, .no, .no, .no, .no, .no] = some (.nx [.val NS, .val (.int B), .val (.int n), .val (.int (d : Int)), .val (.tuple [.int l, .int (m : Int)]), .no, .no, .no, .no, .no, .no]) := by
    simp [s_law_5, lo]
  rw [seq_nx h5]
  have h6 : s_law_6 [.val NS, .val (.int B), .val (.int n), .val (.int (d : Int)), .val (.tuple [.int l, .int (m : Int)]), .no, .no, .no, .no, .no, .no] = some (.nx [.val NS, .val (.int B), .val (.int n), .val (.int (d : Int)), .val (.tuple [.int l, .int (m : Int)]), .val (.bool (decide (l.natAbs < 1000 ∧ m < 1000))), .no, .no, .no, .no, .no]) := by
    by_cases q : -1000 < l
    · by_cases q2 : l < 1000
      · have e : l.natAbs < 1000 := by omega
        have e3 : ((m : Int) < 1000) = (m < 1000) := by rw [eq_iff_iff]; omega
        simp [s_law_6, q, q2, e, e3]
      · have e : ¬ l.natAbs < 1000 := by omega
        simp [s_law_6, q, q2, e]
    · have e : ¬ l.natAbs < 1000 := by omega
      simp [s_law_6, q, e]
  rw [seq_nx h6]
  have g1 := gStr_eq (i := l) (by omega)
  have g2 := gStr_eq (i := (m : Int)) (by omega)
  have g3 := gStr_eq (i := n) (by omega)
  have g4 := gStr_eq (i := (d : Int)) (by omega)
  have l1 := tI_len (i := l) (by omega)
  have l2 := tI_len (i := (m : Int)) (by omega)
  have l3 := tI_len (i := n) (by omega)
  have l4 := tI_len (i := (d : Int)) (by omega)
  have sl := slash_len
  have h7 : s_law_7 [.val NS, .val (.int B), .val (.int n), .val (.int (d : Int)), .val (.tuple [.int l, .int (m : Int)]), .val (.bool (decide (l.natAbs < 1000 ∧ m < 1000))), .no, .no, .no, .no, .no] = some (.nx [.val NS, .val (.int B), .val (.int n), .val (.int (d : Int)), .val (.tuple [.int l, .int (m : Int)]), .val (.bool (decide (l.natAbs < 1000 ∧ m < 1000))), .val (.str (tI l)), .no, .no, .no, .no]) := by
    simp [s_law_7, g1]
  rw [seq_nx h7]
  have h8 : s_law_8 [.val NS, .val (.int B), .val (.int n), .val (.int (d : Int)), .val (.tuple [.int l, .int (m : Int)]), .val (.bool (decide (l.natAbs < 1000 ∧ m < 1000))), .val (.str (tI l)), .no, .no, .no, .no] = some (.nx [.val NS, .val (.int B), .val (.int n), .val (.int (d : Int)), .val (.tuple [.int l, .int (m : Int)]), .val (.bool (decide (l.natAbs < 1000 ∧ m < 1000))), .val (.str (tN l m)), .no, .no, .no, .no]) := by
    have q1 : Fits ((tI l).length + ("/" : Str).length) := fits (by omega)
    have q2 : Fits ((tI l ++ ("/" : Str)).length + (tI (m : Int)).length) := fits (by rw [app_len]; omega)
    unfold tN
    by_cases q : (m : Int) = 1
    · simp [s_law_8, q]
    · simp [s_law_8, q, g2, q1, q2]
  rw [seq_nx h8]
  -- the text is read back as it should
  have rt : m_read_number [.str (tN l m)] = some (.val (outD (if l.natAbs < 1000 ∧ m < 1000 then some (l, (m : Int)) else none))) := by
    by_cases q : m = 1
    · have e : tN l m = tI l := by unfold tN; rw [if_pos (by omega)]
      rw [e, right1 hl]
      congr 2
      subst q
      by_cases h0 : l.natAbs < 1000
      · rw [if_pos h0, if_pos ⟨h0, by decide⟩]; rfl
      · rw [if_neg h0, if_neg (fun c => h0 c.1)]
    · have e : tN l m = tI l ++ ("/" : Str) ++ tI m := by unfold tN; rw [if_neg (by omega)]
      rw [e, right2 hl hm2.2 hm2.1]
      congr 2
      by_cases h0 : l.natAbs < 1000 ∧ m < 1000
      · rw [if_pos ⟨h0.1, h0.2, rc, q⟩, if_pos h0]
      · rw [if_neg (fun c => h0 ⟨c.1, c.2.1⟩), if_neg h0]
  have rw1 := law_right_eq rt
  have wn := write_number_eq (n := l) (d := (m : Int)) (by omega) (by omega)
  -- front and text
  have ft : ∀ f ∈ fronts, m_read_number [.str (f ++ tN l m)] = some (.val .none) := fun f hf => by
    by_cases q : m = 1
    · have e : tN l m = tI l := by unfold tN; rw [if_pos (by omega)]
      rw [e]
      exact bad1 hf hl
    · have e : tN l m = tI l ++ ("/" : Str) ++ tI m := by unfold tN; rw [if_neg (by omega)]
      rw [e]
      exact bad2 hf hl hm2.2
  -- the plain text
  have pt : ¬ tI n ++ ("/" : Str) ++ tI (d : Int) = tN l m → m_read_number [.str (tI n ++ ("/" : Str) ++ tI (d : Int))] = some (.val .none) := fun ne => by
    rw [right2 (l := n) (by omega) hd1.2 hd1.1, if_neg ?_]
    · rfl
    · rintro ⟨_, _, g, nd⟩
      obtain ⟨e1, e2⟩ := same g
      have e2 : m = d := by omega
      apply ne
      unfold tN
      rw [if_neg (by omega), e1, e2]
  have tl := tN_len (n := l) (d := (m : Int)) (by omega) (by omega)
  generalize tN l m = T at *
  have h9 : s_law_9 [.val NS, .val (.int B), .val (.int n), .val (.int (d : Int)), .val (.tuple [.int l, .int (m : Int)]), .val (.bool (decide (l.natAbs < 1000 ∧ m < 1000))), .val (.str T), .no, .no, .no, .no] = some (.nx [.val NS, .val (.int B), .val (.int n), .val (.int (d : Int)), .val (.tuple [.int l, .int (m : Int)]), .val (.bool (decide (l.natAbs < 1000 ∧ m < 1000))), .val (.str T), .val .none, .no, .no, .no]) := by
    simp [s_law_9]
  rw [seq_nx h9]
  have h10 : s_law_10 [.val NS, .val (.int B), .val (.int n), .val (.int (d : Int)), .val (.tuple [.int l, .int (m : Int)]), .val (.bool (decide (l.natAbs < 1000 ∧ m < 1000))), .val (.str T), .val .none, .no, .no, .no] = some (.nx [.val NS, .val (.int B), .val (.int n), .val (.int (d : Int)), .val (.tuple [.int l, .int (m : Int)]), .val (.bool (decide (l.natAbs < 1000 ∧ m < 1000))), .val (.str T), .val (outD (if l.natAbs < 1000 ∧ m < 1000 then some (l, (m : Int)) else none)), .no, .no, .no]) := by
    by_cases h : l.natAbs < 1000 ∧ m < 1000
    · simp [s_law_10, h, wn, outD]
    · rw [if_neg h]
      rw [decide_eq_false h]
      simp [s_law_10, outD]
  rw [seq_nx h10]
  generalize decide (l.natAbs < 1000 ∧ m < 1000) = SH at *
  generalize (if l.natAbs < 1000 ∧ m < 1000 then some (l, (m : Int)) else none) = O at *
  generalize outD O = OD at *
  have h11 : s_law_11 [.val NS, .val (.int B), .val (.int n), .val (.int (d : Int)), .val (.tuple [.int l, .int (m : Int)]), .val (.bool SH), .val (.str T), .val OD, .no, .no, .no] = some (.nx [.val NS, .val (.int B), .val (.int n), .val (.int (d : Int)), .val (.tuple [.int l, .int (m : Int)]), .val (.bool SH), .val (.str T), .val OD, .no, .no, .no]) := by
    simp [s_law_11, rw1]
  rw [seq_nx h11]
  have h12 : s_law_12 [.val NS, .val (.int B), .val (.int n), .val (.int (d : Int)), .val (.tuple [.int l, .int (m : Int)]), .val (.bool SH), .val (.str T), .val OD, .no, .no, .no] = some (.nx [.val NS, .val (.int B), .val (.int n), .val (.int (d : Int)), .val (.tuple [.int l, .int (m : Int)]), .val (.bool SH), .val (.str T), .val OD, .val (.str (tI n ++ ("/" : Str) ++ tI (d : Int))), .no, .no]) := by
    have q1 : Fits ((tI n).length + ("/" : Str).length) := fits (by omega)
    have q2 : Fits ((tI n ++ ("/" : Str)).length + (tI (d : Int)).length) := fits (by rw [app_len]; omega)
    simp [s_law_12, g3, g4, q1, q2]
  rw [seq_nx h12]
  generalize tI n ++ ("/" : Str) ++ tI (d : Int) = PT at *
  have h13 : s_law_13 [.val NS, .val (.int B), .val (.int n), .val (.int (d : Int)), .val (.tuple [.int l, .int (m : Int)]), .val (.bool SH), .val (.str T), .val OD, .val (.str PT), .no, .no] = some (.nx [.val NS, .val (.int B), .val (.int n), .val (.int (d : Int)), .val (.tuple [.int l, .int (m : Int)]), .val (.bool SH), .val (.str T), .val OD, .val (.str PT), .no, .no]) := by
    by_cases q : PT = T
    · simp [s_law_13, q]
    · have lr := law_right_eq (o := none) (pt q)
      have lr : m__law_right [.str PT, .none] = some (.val (.bool true)) := lr
      simp [s_law_13, q, lr]
  rw [seq_nx h13]
  have h14 : s_law_14 [.val NS, .val (.int B), .val (.int n), .val (.int (d : Int)), .val (.tuple [.int l, .int (m : Int)]), .val (.bool SH), .val (.str T), .val OD, .val (.str PT), .no, .no] = some (.nx [.val NS, .val (.int B), .val (.int n), .val (.int (d : Int)), .val (.tuple [.int l, .int (m : Int)]), .val (.bool SH), .val (.str T), .val OD, .val (.str PT), .own (oddL.map PyData.str), .no]) := by
    show _ = some (Out.nx [.val NS, .val (.int B), .val (.int n), .val (.int (d : Int)), .val (.tuple [.int l, .int (m : Int)]), .val (.bool SH), .val (.str T), .val OD, .val (.str PT), .own [.str "", .str "-", .str "/", .str "1/", .str "/2", .str "-0", .str "01", .str "1/02", .str "1/-2", .str "+1", .str "--1", .str "1/2/3", .str "a", .str "1/0"], .no])
    simp [s_law_14, t14]
  rw [seq_nx h14]
  obtain ⟨f, hf, h15⟩ : ∃ f ∈ fronts, s_law_15 [.val NS, .val (.int B), .val (.int n), .val (.int (d : Int)), .val (.tuple [.int l, .int (m : Int)]), .val (.bool SH), .val (.str T), .val OD, .val (.str PT), .own (oddL.map PyData.str), .no] = some (.nx [.val NS, .val (.int B), .val (.int n), .val (.int (d : Int)), .val (.tuple [.int l, .int (m : Int)]), .val (.bool SH), .val (.str T), .val OD, .val (.str PT), .own (oddL.map PyData.str), .val (.str f)]) := by
    have : x4 % 4 = 0 ∨ x4 % 4 = 1 ∨ x4 % 4 = 2 ∨ x4 % 4 = 3 := by omega
    have e : ∀ k : Nat, ∀ f : Str, fronts[k]? = some f → x4 % 4 = (k : Int) → ∃ f ∈ fronts, s_law_15 [.val NS, .val (.int B), .val (.int n), .val (.int (d : Int)), .val (.tuple [.int l, .int (m : Int)]), .val (.bool SH), .val (.str T), .val OD, .val (.str PT), .own (oddL.map PyData.str), .no] = some (.nx [.val NS, .val (.int B), .val (.int n), .val (.int (d : Int)), .val (.tuple [.int l, .int (m : Int)]), .val (.bool SH), .val (.str T), .val OD, .val (.str PT), .own (oddL.map PyData.str), .val (.str f)]) := fun k f hk hx => by
      refine ⟨f, List.mem_of_getElem? hk, ?_⟩
      have a : atI (fronts.map PyData.str) (k : Int) = some (.str f) := atI_map hk
      have a : gIx (.list [.str "+", .str "0", .str "--", .str "-0"]) (.int (k : Int)) = some (.val (.str f)) := by
        show (atI (fronts.map PyData.str) (k : Int)).bind _ = _
        rw [a]
        rfl
      generalize oddL.map PyData.str = OL at *
      simp [-gIx, s_law_15, c4, n4, f4, hx, t4, a]
    rcases this with h | h | h | h
    · exact e 0 _ rfl h
    · exact e 1 _ rfl h
    · exact e 2 _ rfl h
    · exact e 3 _ rfl h
  rw [seq_nx h15]
  obtain ⟨k, hk⟩ : ∃ k : Nat, x5 % 14 = (k : Int) := ⟨(x5 % 14).toNat, by omega⟩
  have hk2 : k < oddL.length := by show k < 14; omega
  obtain ⟨w, hw⟩ : ∃ w, oddL[k]? = some w := ⟨_, List.getElem?_eq_getElem hk2⟩
  have aw : atI (oddL.map PyData.str) (k : Int) = some (.str w) := atI_map hw
  have lw := law_right_eq (o := none) (odd_eq (List.mem_of_getElem? hw))
  have lw : m__law_right [.str w, .none] = some (.val (.bool true)) := lw
  have lf := law_right_eq (o := none) (ft f hf)
  have lf : m__law_right [.str (f ++ T), .none] = some (.val (.bool true)) := lf
  have fl := front_len hf
  have qf : Fits (f.length + T.length) := fits (by omega)
  generalize oddL.map PyData.str = OL at *
  simp [s_law_16, c5, n14, f14, hk, aw, lw, lf, qf]
end Law
namespace Law
open PySem PySem.Spec PyProof.Rows L2 Dn
theorem sc_is_whole : FnScope ["value"] ["value"] (defScope s_is_whole) := ⟨rfl, rfl, rfl, by decide +kernel, rfl, by decide +kernel, by decide +kernel⟩
theorem sc_write_number : FnScope ["number", "n", "d"] ["number"] (defScope s_write_number) := ⟨rfl, rfl, rfl, by decide +kernel, rfl, by decide +kernel, by decide +kernel⟩
theorem sc__whole : FnScope ["word"] ["word"] (defScope s__whole) := ⟨rfl, rfl, rfl, by decide +kernel, rfl, by decide +kernel, by decide +kernel⟩
theorem sc__law_is_integer : FnScope ["actual"] ["actual"] (defScope s__law_is_integer) := ⟨rfl, rfl, rfl, by decide +kernel, rfl, by decide +kernel, by decide +kernel⟩
theorem sc__law_lowest : FnScope ["n", "d", "step", "one", "other"] ["n", "d"] (defScope s__law_lowest) := ⟨rfl, rfl, rfl, by decide +kernel, rfl, by decide +kernel, by decide +kernel⟩
theorem sc__law_cell : FnScope ["script", "k"] ["script", "k"] (defScope s__law_cell) := ⟨rfl, rfl, rfl, by decide +kernel, rfl, by decide +kernel, by decide +kernel⟩
theorem sc_is_number : FnScope ["value", "n", "d"] ["value"] (defScope s_is_number) := ⟨rfl, rfl, rfl, by decide +kernel, rfl, by decide +kernel, by decide +kernel⟩
theorem sc_is_short : FnScope ["value", "n", "d"] ["value"] (defScope s_is_short) := ⟨rfl, rfl, rfl, by decide +kernel, rfl, by decide +kernel, by decide +kernel⟩
theorem sc_read_number : FnScope ["word", "n", "d", "found", "head", "slash", "tail"] ["word"] (defScope s_read_number) := ⟨rfl, rfl, rfl, by decide +kernel, rfl, by decide +kernel, by decide +kernel⟩
theorem sc__law_right : FnScope ["word", "due", "actual"] ["word", "due"] (defScope s__law_right) := ⟨rfl, rfl, rfl, by decide +kernel, rfl, by decide +kernel, by decide +kernel⟩
theorem sc_law : FnScope ["script", "bound", "n", "d", "low", "is_short_v", "text", "due", "plain", "odd", "front"] ["script"] (defScope s_law) := ⟨rfl, rfl, rfl, by decide +kernel, rfl, by decide +kernel, by decide +kernel⟩
structure Tx (K : PySem.W.Frag) (mg : Str → Option Value) where
  f_is_whole : Addr
  fd_is_whole : FuncData
  F_is_whole : Fun K "is_whole" "is_whole" s_is_whole f_is_whole fd_is_whole
  g_is_whole : mg "is_whole" = some (.ref f_is_whole)
  b_is_whole : Binds K fd_is_whole ["value"] []
  f_write_number : Addr
  fd_write_number : FuncData
  F_write_number : Fun K "write_number" "write_number" s_write_number f_write_number fd_write_number
  g_write_number : mg "write_number" = some (.ref f_write_number)
  b_write_number : Binds K fd_write_number ["number"] []
  f__whole : Addr
  fd__whole : FuncData
  F__whole : Fun K "_whole" "_whole" s__whole f__whole fd__whole
  g__whole : mg "_whole" = some (.ref f__whole)
  b__whole : Binds K fd__whole ["word"] []
  f__law_is_integer : Addr
  fd__law_is_integer : FuncData
  F__law_is_integer : Fun K "_law_is_integer" "_law_is_integer" s__law_is_integer f__law_is_integer fd__law_is_integer
  g__law_is_integer : mg "_law_is_integer" = some (.ref f__law_is_integer)
  b__law_is_integer : Binds K fd__law_is_integer ["actual"] []
  f__law_lowest : Addr
  fd__law_lowest : FuncData
  F__law_lowest : Fun K "_law_lowest" "_law_lowest" s__law_lowest f__law_lowest fd__law_lowest
  g__law_lowest : mg "_law_lowest" = some (.ref f__law_lowest)
  b__law_lowest : Binds K fd__law_lowest ["n", "d"] []
  f__law_cell : Addr
  fd__law_cell : FuncData
  F__law_cell : Fun K "_law_cell" "_law_cell" s__law_cell f__law_cell fd__law_cell
  g__law_cell : mg "_law_cell" = some (.ref f__law_cell)
  b__law_cell : Binds K fd__law_cell ["script", "k"] []
  f_is_number : Addr
  fd_is_number : FuncData
  F_is_number : Fun K "is_number" "is_number" s_is_number f_is_number fd_is_number
  g_is_number : mg "is_number" = some (.ref f_is_number)
  b_is_number : Binds K fd_is_number ["value"] []
  f_is_short : Addr
  fd_is_short : FuncData
  F_is_short : Fun K "is_short" "is_short" s_is_short f_is_short fd_is_short
  g_is_short : mg "is_short" = some (.ref f_is_short)
  b_is_short : Binds K fd_is_short ["value"] []
  f_read_number : Addr
  fd_read_number : FuncData
  F_read_number : Fun K "read_number" "read_number" s_read_number f_read_number fd_read_number
  g_read_number : mg "read_number" = some (.ref f_read_number)
  b_read_number : Binds K fd_read_number ["word"] []
  f__law_right : Addr
  fd__law_right : FuncData
  F__law_right : Fun K "_law_right" "_law_right" s__law_right f__law_right fd__law_right
  g__law_right : mg "_law_right" = some (.ref f__law_right)
  b__law_right : Binds K fd__law_right ["word", "due"] []
  f_law : Addr
  fd_law : FuncData
  F_law : Fun K "law" "law" s_law f_law fd_law
  g_law : mg "law" = some (.ref f_law)
  b_law : Binds K fd_law ["script"] []
  n_abs : mg "abs" = none
  n_bool : mg "bool" = none
  n_int : mg "int" = none
  n_isinstance : mg "isinstance" = none
  n_len : mg "len" = none
  n_range : mg "range" = none
  n_str : mg "str" = none
  n_tuple : mg "tuple" = none
  m_gcd : mg "gcd" = some (.builtin "math.gcd")
  t_SHORT_LIMIT : Tok
  c_SHORT_LIMIT : mg "SHORT_LIMIT" = some (.int (1000) t_SHORT_LIMIT)
  t_MOST_DIGITS : Tok
  c_MOST_DIGITS : mg "MOST_DIGITS" = some (.int (3) t_MOST_DIGITS)
section
variable {P : Program} {w : World} {K : PySem.W.Frag} {mg : Str → Option Value} {base : Heap}
theorem ok_is_whole (T : Tx K mg) : FnOk P w K mg base CX0 1 T.f_is_whole T.fd_is_whole ["value"] (spD K 1 m_is_whole) := okD (N := ["value"]) (ps := ["value"]) (k := 0) (b := b_is_whole) T.F_is_whole sc_is_whole fun cdv A outer s H E hr => by
  have nd := sc_is_whole.nd
  exact ⟨_, (ss_one (ss_ret (se_and (se_isi (T := "int") (by decide) (by rfl) T.n_isinstance boot_isi (by rfl) T.n_int boot_int_ (sv 0)) (se_one (se_not (se_isi (T := "bool") (by decide) (by rfl) T.n_isinstance boot_isi (by rfl) T.n_bool boot_bool_ (sv 0)))))))⟩
theorem ok_write_number (T : Tx K mg) : FnOk P w K mg base CX0 1 T.f_write_number T.fd_write_number ["number"] (spD K 1 m_write_number) := okD (N := ["number", "n", "d"]) (ps := ["number"]) (k := 0) (b := b_write_number) T.F_write_number sc_write_number fun cdv A outer s H E hr => by
  have nd := sc_write_number.nd
  exact ⟨_, (ss_cons (ss_asg (sv 0) (sg_tup2 rfl (pgs_cons (pg_name (i := 1) nd rfl (by first | exact Or.inl rfl | exact Or.inr rfl)) (pgs_cons (pg_name (i := 2) nd rfl (by first | exact Or.inl rfl | exact Or.inr rfl)) pgs_nil))))
    (ss_cons (ss_if (st_eqT hr.units (sv 2) se_int)
      (ss_one (ss_ret (se_c_str (by rfl) T.n_str boot_str_ (sa_cons (sv 1) sa_nil))))
      ss_nil)
    (ss_one (ss_ret (se_js (sj_cons (se_fmt (sv 1)) (sj_cons se_str (sj_cons (se_fmt (sv 2)) sj_nil))))))))⟩
theorem ok__whole (T : Tx K mg) : FnOk P w K mg base CX0 1 T.f__whole T.fd__whole ["word"] (spD K 1 m__whole) := okD (N := ["word"]) (ps := ["word"]) (k := 0) (b := b__whole) T.F__whole sc__whole fun cdv A outer s H E hr => by
  have nd := sc__whole.nd
  exact ⟨_, (ss_cons (ss_if (SW.st (sw_or (st_not (st_val (se_ascii (sv 0)))) (sw_or (st_not (st_val (se_digit (sv 0)))) (sw_or1 (st_gt (se_c_len (by rfl) T.n_len boot_len_ (sa_cons (sv 0) sa_nil)) (se_glob (v := .int (3)) (by rfl) T.c_MOST_DIGITS ⟨_, rfl⟩ (fun _ => .int _)))))))
      (ss_one (ss_ret se_non))
      ss_nil)
    (ss_cons (ss_if (SW.st (sw_and (st_val (se_starts (sv 0) se_str)) (sw_and1 (st_neT hr.units (sv 0) se_str))))
      (ss_one (ss_ret se_non))
      ss_nil)
    (ss_one (ss_ret (se_c_intS (by rfl) T.n_int boot_int_ (sa_cons (sv 0) sa_nil))))))⟩
theorem ok__law_is_integer (T : Tx K mg) : FnOk P w K mg base CX0 1 T.f__law_is_integer T.fd__law_is_integer ["actual"] (spD K 1 m__law_is_integer) := okD (N := ["actual"]) (ps := ["actual"]) (k := 0) (b := b__law_is_integer) T.F__law_is_integer sc__law_is_integer fun cdv A outer s H E hr => by
  have nd := sc__law_is_integer.nd
  exact ⟨_, (ss_one (ss_ret (se_and (se_isi (T := "int") (by decide) (by rfl) T.n_isinstance boot_isi (by rfl) T.n_int boot_int_ (sv 0)) (se_one (se_not (se_isi (T := "bool") (by decide) (by rfl) T.n_isinstance boot_isi (by rfl) T.n_bool boot_bool_ (sv 0)))))))⟩
theorem ok__law_lowest (T : Tx K mg) : FnOk P w K mg base CX0 1 T.f__law_lowest T.fd__law_lowest ["n", "d"] (spD K 2 m__law_lowest) := okD (N := ["n", "d", "step", "one", "other"]) (ps := ["n", "d"]) (k := 0) (b := b__law_lowest) T.F__law_lowest sc__law_lowest fun cdv A outer s H E hr => by
  have nd := sc__law_lowest.nd
  exact ⟨_, (ss_cons (ss_par (i := 3) (j := 4) nd (sa_cons (sv 0) (sa_cons (sv 1) sa_nil)))
    (ss_cons (ss_if (st_lt (sv 3) se_int)
      (ss_one (ss_set (i := 3) nd rfl (by first | exact Or.inl rfl | exact Or.inr rfl) (se_neg (sv 3))))
      ss_nil)
    (ss_cons (ss_for PassesOwn.never rfl (si_r1 (by rfl) T.n_range (sa_cons se_int sa_nil)) (sg_name (i := 2) nd rfl (by first | exact Or.inl rfl | exact Or.inr rfl))
      (ss_cons (ss_if (st_eqT hr.units (sv 4) se_int)
      (ss_one ss_break)
      ss_nil)
    (ss_one (ss_par (i := 3) (j := 4) nd (sa_cons (sv 4) (sa_cons (se_mod (se_c_int (by rfl) T.n_int boot_int_ (sa_cons (sv 3) sa_nil)) (sv 4)) sa_nil))))))
    (ss_one (ss_ret (se_tup (sa_cons (se_fdiv (sv 0) (sv 3)) (sa_cons (se_fdiv (sv 1) (sv 3)) sa_nil))))))))⟩
theorem ok__law_cell (T : Tx K mg) : FnOk P w K mg base CX0 1 T.f__law_cell T.fd__law_cell ["script", "k"] (spD K 2 m__law_cell) := okD (N := ["script", "k"]) (ps := ["script", "k"]) (k := 0) (b := b__law_cell) T.F__law_cell sc__law_cell fun cdv A outer s H E hr => by
  have nd := sc__law_cell.nd
  exact ⟨_, (ss_cons (ss_if (st_lt (sv 1) (se_c_len (by rfl) T.n_len boot_len_ (sa_cons (sv 0) sa_nil)))
      (ss_one (ss_ret (se_c_int (by rfl) T.n_int boot_int_ (sa_cons (se_ix (sv 0) (sv 1)) sa_nil))))
      ss_nil)
    (ss_one (ss_ret se_int)))⟩
theorem ok_is_number (T : Tx K mg) : FnOk P w K mg base CX0 2 T.f_is_number T.fd_is_number ["value"] (spD K 1 m_is_number) := okD (N := ["value", "n", "d"]) (ps := ["value"]) (k := 1) (b := b_is_number) T.F_is_number sc_is_number fun cdv A outer s H E hr => by
  have nd := sc_is_number.nd
  exact ⟨_, (ss_cons (ss_if (SW.st (sw_or (st_not (st_val (se_isi (T := "tuple") (by decide) (by rfl) T.n_isinstance boot_isi (by rfl) T.n_tuple boot_tuple_ (sv 0)))) (sw_or1 (st_neT hr.units (se_c_len (by rfl) T.n_len boot_len_ (sa_cons (sv 0) sa_nil)) se_int))))
      (ss_one (ss_ret se_bl))
      ss_nil)
    (ss_cons (ss_asg (sv 0) (sg_tup2 rfl (pgs_cons (pg_name (i := 1) nd rfl (by first | exact Or.inl rfl | exact Or.inr rfl)) (pgs_cons (pg_name (i := 2) nd rfl (by first | exact Or.inl rfl | exact Or.inr rfl)) pgs_nil))))
    (ss_one (ss_ret (se_and (se_call (ok_is_whole T) (hr.mono (by decide)) (by rfl) T.g_is_whole T.F_is_whole.kp T.b_is_whole (sa_cons (sv 1) sa_nil)) (se_and (se_call (ok_is_whole T) (hr.mono (by decide)) (by rfl) T.g_is_whole T.F_is_whole.kp T.b_is_whole (sa_cons (sv 2) sa_nil)) (se_and (se_ge (sv 2) se_int) (se_one (se_eqT hr.units (se_cfun cr_gcd rc_gcd (by rfl) T.m_gcd (sa_cons (sv 1) (sa_cons (sv 2) sa_nil))) se_int)))))))))⟩
theorem ok_is_short (T : Tx K mg) : FnOk P w K mg base CX0 3 T.f_is_short T.fd_is_short ["value"] (spD K 1 m_is_short) := okD (N := ["value", "n", "d"]) (ps := ["value"]) (k := 2) (b := b_is_short) T.F_is_short sc_is_short fun cdv A outer s H E hr => by
  have nd := sc_is_short.nd
  exact ⟨_, (ss_cons (ss_if (st_not (st_val (se_call (ok_is_number T) (hr.mono (by decide)) (by rfl) T.g_is_number T.F_is_number.kp T.b_is_number (sa_cons (sv 0) sa_nil))))
      (ss_one (ss_ret se_bl))
      ss_nil)
    (ss_cons (ss_asg (sv 0) (sg_tup2 rfl (pgs_cons (pg_name (i := 1) nd rfl (by first | exact Or.inl rfl | exact Or.inr rfl)) (pgs_cons (pg_name (i := 2) nd rfl (by first | exact Or.inl rfl | exact Or.inr rfl)) pgs_nil))))
    (ss_one (ss_ret (se_and (se_lt (se_c_abs (by rfl) T.n_abs boot_abs_ (sa_cons (sv 1) sa_nil)) (se_glob (v := .int (1000)) (by rfl) T.c_SHORT_LIMIT ⟨_, rfl⟩ (fun _ => .int _))) (se_one (se_lt (sv 2) (se_glob (v := .int (1000)) (by rfl) T.c_SHORT_LIMIT ⟨_, rfl⟩ (fun _ => .int _)))))))))⟩
theorem ok_read_number (T : Tx K mg) : FnOk P w K mg base CX0 4 T.f_read_number T.fd_read_number ["word"] (spD K 1 m_read_number) := okD (N := ["word", "n", "d", "found", "head", "slash", "tail"]) (ps := ["word"]) (k := 3) (b := b_read_number) T.F_read_number sc_read_number fun cdv A outer s H E hr => by
  have nd := sc_read_number.nd
  exact ⟨_, (ss_cons (ss_asg (se_part (sv 0) se_str) (sg_tup3 rfl (pgs_cons (pg_name (i := 4) nd rfl (by first | exact Or.inl rfl | exact Or.inr rfl)) (pgs_cons (pg_name (i := 5) nd rfl (by first | exact Or.inl rfl | exact Or.inr rfl)) (pgs_cons (pg_name (i := 6) nd rfl (by first | exact Or.inl rfl | exact Or.inr rfl)) pgs_nil)))))
    (ss_cons (ss_set (i := 1) nd rfl (by first | exact Or.inl rfl | exact Or.inr rfl) (se_call (ok__whole T) (hr.mono (by decide)) (by rfl) T.g__whole T.F__whole.kp T.b__whole (sa_cons (se_rmpre (sv 4) se_str) sa_nil)))
    (ss_cons (ss_set (i := 2) nd rfl (by first | exact Or.inl rfl | exact Or.inr rfl) (se_if (st_truS (sv 5)) (se_call (ok__whole T) (hr.mono (by decide)) (by rfl) T.g__whole T.F__whole.kp T.b__whole (sa_cons (sv 6) sa_nil)) se_int))
    (ss_cons (ss_if (SW.st (sw_or (st_isN (sv 1)) (sw_or1 (st_isN (sv 2)))))
      (ss_one (ss_ret se_non))
      ss_nil)
    (ss_cons (ss_set (i := 3) nd rfl (by first | exact Or.inl rfl | exact Or.inr rfl) (se_if (st_val (se_starts (sv 4) se_str)) (se_tup (sa_cons (se_neg (sv 1)) (sa_cons (sv 2) sa_nil))) (se_tup (sa_cons (sv 1) (sa_cons (sv 2) sa_nil)))))
    (ss_cons (ss_if (SW.st (sw_or (st_not (st_val (se_call (ok_is_short T) (hr.mono (by decide)) (by rfl) T.g_is_short T.F_is_short.kp T.b_is_short (sa_cons (sv 3) sa_nil)))) (sw_or1 (st_neT hr.units (se_call (ok_write_number T) (hr.mono (by decide)) (by rfl) T.g_write_number T.F_write_number.kp T.b_write_number (sa_cons (sv 3) sa_nil)) (sv 0)))))
      (ss_one (ss_ret se_non))
      ss_nil)
    (ss_one (ss_ret (sv 3)))))))))⟩
theorem ok__law_right (T : Tx K mg) : FnOk P w K mg base CX0 5 T.f__law_right T.fd__law_right ["word", "due"] (spD K 2 m__law_right) := okD (N := ["word", "due", "actual"]) (ps := ["word", "due"]) (k := 4) (b := b__law_right) T.F__law_right sc__law_right fun cdv A outer s H E hr => by
  have nd := sc__law_right.nd
  exact ⟨_, (ss_cons (ss_set (i := 2) nd rfl (by first | exact Or.inl rfl | exact Or.inr rfl) (se_call (ok_read_number T) (hr.mono (by decide)) (by rfl) T.g_read_number T.F_read_number.kp T.b_read_number (sa_cons (sv 0) sa_nil)))
    (ss_cons (ss_if (st_isN (sv 1))
      (ss_one (ss_ret (se_isN (sv 2))))
      ss_nil)
    (ss_cons (ss_if (SW.st (sw_or (st_not (st_val (se_isi (T := "tuple") (by decide) (by rfl) T.n_isinstance boot_isi (by rfl) T.n_tuple boot_tuple_ (sv 2)))) (sw_or (st_neT hr.units (se_c_len (by rfl) T.n_len boot_len_ (sa_cons (sv 2) sa_nil)) se_int) (sw_or1 (st_neT hr.units (sv 2) (sv 1))))))
      (ss_one (ss_ret se_bl))
      ss_nil)
    (ss_one (ss_ret (se_and (se_call (ok__law_is_integer T) (hr.mono (by decide)) (by rfl) T.g__law_is_integer T.F__law_is_integer.kp T.b__law_is_integer (sa_cons (se_ix (sv 2) se_int) sa_nil)) (se_one (se_call (ok__law_is_integer T) (hr.mono (by decide)) (by rfl) T.g__law_is_integer T.F__law_is_integer.kp T.b__law_is_integer (sa_cons (se_ix (sv 2) se_int) sa_nil)))))))))⟩
theorem ok_law (T : Tx K mg) (cdv : Value) (s : Shared) (H : Hp) (hr : Room 5 (callerA.deeper (envOfC "law" (defScope s_law) s.heap.objs.size T.f_law cdv))) : ∃ t, SSs (cxOf CX0 P w K mg base ["script", "bound", "n", "d", "low", "is_short_v", "text", "due", "plain", "odd", "front"] "law" (defScope s_law) T.f_law cdv callerA [] s H E0).nox (defBody s_law) t b_law := by
  have nd := sc_law.nd
  exact ⟨_, (ss_cons (ss_set (i := 1) nd rfl (by first | exact Or.inl rfl | exact Or.inr rfl) (se_ix (se_lst (sa_cons se_int (sa_cons se_int sa_nil))) (se_mod (se_c_int (by rfl) T.n_int boot_int_ (sa_cons (se_call (ok__law_cell T) (hr.mono (by decide)) (by rfl) T.g__law_cell T.F__law_cell.kp T.b__law_cell (sa_cons (sv 0) (sa_cons se_int sa_nil))) sa_nil)) se_int)))
    (ss_cons (ss_set (i := 2) nd rfl (by first | exact Or.inl rfl | exact Or.inr rfl) (se_mod (se_c_int (by rfl) T.n_int boot_int_ (sa_cons (se_call (ok__law_cell T) (hr.mono (by decide)) (by rfl) T.g__law_cell T.F__law_cell.kp T.b__law_cell (sa_cons (sv 0) (sa_cons se_int sa_nil))) sa_nil)) (sv 1)))
    (ss_cons (ss_set (i := 3) nd rfl (by first | exact Or.inl rfl | exact Or.inr rfl) (se_add se_int (se_mod (se_c_int (by rfl) T.n_int boot_int_ (sa_cons (se_call (ok__law_cell T) (hr.mono (by decide)) (by rfl) T.g__law_cell T.F__law_cell.kp T.b__law_cell (sa_cons (sv 0) (sa_cons se_int sa_nil))) sa_nil)) (sv 1))))
    (ss_cons (ss_if (st_eqT hr.units (se_mod (se_c_int (by rfl) T.n_int boot_int_ (sa_cons (se_call (ok__law_cell T) (hr.mono (by decide)) (by rfl) T.g__law_cell T.F__law_cell.kp T.b__law_cell (sa_cons (sv 0) (sa_cons se_int sa_nil))) sa_nil)) se_int) se_int)
      (ss_one (ss_set (i := 2) nd rfl (by first | exact Or.inl rfl | exact Or.inr rfl) (se_neg (sv 2))))
      ss_nil)
    (ss_cons (ss_set (i := 4) nd rfl (by first | exact Or.inl rfl | exact Or.inr rfl) (se_call (ok__law_lowest T) (hr.mono (by decide)) (by rfl) T.g__law_lowest T.F__law_lowest.kp T.b__law_lowest (sa_cons (sv 2) (sa_cons (sv 3) sa_nil))))
    (ss_cons (ss_set (i := 5) nd rfl (by first | exact Or.inl rfl | exact Or.inr rfl) (se_and (se_chain op_lt rv_lt op_lt rv_lt (se_neg se_int) (se_ix (sv 4) se_int) se_int) (se_one (se_lt (se_ix (sv 4) se_int) se_int))))
    (ss_cons (ss_set (i := 6) nd rfl (by first | exact Or.inl rfl | exact Or.inr rfl) (se_c_str (by rfl) T.n_str boot_str_ (sa_cons (se_ix (sv 4) se_int) sa_nil)))
    (ss_cons (ss_if (st_neT hr.units (se_ix (sv 4) se_int) se_int)
      (ss_one (ss_set (i := 6) nd rfl (by first | exact Or.inl rfl | exact Or.inr rfl) (se_add (se_add (sv 6) se_str) (se_c_str (by rfl) T.n_str boot_str_ (sa_cons (se_ix (sv 4) se_int) sa_nil)))))
      ss_nil)
    (ss_cons (ss_set (i := 7) nd rfl (by first | exact Or.inl rfl | exact Or.inr rfl) se_non)
    (ss_cons (ss_if (st_val (sv 5))
      (ss_cons (ss_set (i := 7) nd rfl (by first | exact Or.inl rfl | exact Or.inr rfl) (sv 4))
    (ss_one (ss_if (SW.st (sw_or (st_neT hr.units (se_call (ok_write_number T) (hr.mono (by decide)) (by rfl) T.g_write_number T.F_write_number.kp T.b_write_number (sa_cons (sv 4) sa_nil)) (sv 6)) (sw_or1 (st_not (st_val (se_isi (T := "str") (by decide) (by rfl) T.n_isinstance boot_isi (by rfl) T.n_str boot_str_ (se_call (ok_write_number T) (hr.mono (by decide)) (by rfl) T.g_write_number T.F_write_number.kp T.b_write_number (sa_cons (sv 4) sa_nil))))))))
      (ss_one (ss_ret se_bl))
      ss_nil)))
      ss_nil)
    (ss_cons (ss_if (st_not (st_val (se_call (ok__law_right T) (hr.mono (by decide)) (by rfl) T.g__law_right T.F__law_right.kp T.b__law_right (sa_cons (sv 6) (sa_cons (sv 7) sa_nil)))))
      (ss_one (ss_ret se_bl))
      ss_nil)
    (ss_cons (ss_set (i := 8) nd rfl (by first | exact Or.inl rfl | exact Or.inr rfl) (se_add (se_add (se_c_str (by rfl) T.n_str boot_str_ (sa_cons (sv 2) sa_nil)) se_str) (se_c_str (by rfl) T.n_str boot_str_ (sa_cons (sv 3) sa_nil))))
    (ss_cons (ss_if (SW.st (sw_and (st_neT hr.units (sv 8) (sv 6)) (sw_and1 (st_not (st_val (se_call (ok__law_right T) (hr.mono (by decide)) (by rfl) T.g__law_right T.F__law_right.kp T.b__law_right (sa_cons (sv 8) (sa_cons se_non sa_nil))))))))
      (ss_one (ss_ret se_bl))
      ss_nil)
    (ss_cons (ss_set (i := 9) nd rfl (by first | exact Or.inl rfl | exact Or.inr rfl) (se_lst (sa_cons se_str (sa_cons se_str (sa_cons se_str (sa_cons se_str (sa_cons se_str (sa_cons se_str (sa_cons se_str (sa_cons se_str (sa_cons se_str (sa_cons se_str (sa_cons se_str (sa_cons se_str (sa_cons se_str (sa_cons se_str sa_nil))))))))))))))))
    (ss_cons (ss_set (i := 10) nd rfl (by first | exact Or.inl rfl | exact Or.inr rfl) (se_ix (se_lst (sa_cons se_str (sa_cons se_str (sa_cons se_str (sa_cons se_str sa_nil))))) (se_mod (se_c_int (by rfl) T.n_int boot_int_ (sa_cons (se_call (ok__law_cell T) (hr.mono (by decide)) (by rfl) T.g__law_cell T.F__law_cell.kp T.b__law_cell (sa_cons (sv 0) (sa_cons se_int sa_nil))) sa_nil)) se_int)))
    (ss_one (ss_ret (se_and (se_call (ok__law_right T) (hr.mono (by decide)) (by rfl) T.g__law_right T.F__law_right.kp T.b__law_right (sa_cons (se_ixO (ov 9) (se_mod (se_c_int (by rfl) T.n_int boot_int_ (sa_cons (se_call (ok__law_cell T) (hr.mono (by decide)) (by rfl) T.g__law_cell T.F__law_cell.kp T.b__law_cell (sa_cons (sv 0) (sa_cons se_int sa_nil))) sa_nil)) se_int)) (sa_cons se_non sa_nil))) (se_one (se_call (ok__law_right T) (hr.mono (by decide)) (by rfl) T.g__law_right T.F__law_right.kp T.b__law_right (sa_cons (se_add (sv 10) (sv 6)) (sa_cons se_non sa_nil))))))))))))))))))))))⟩
end
theorem all_mk (hlaw : ∀ ns : List Int, ns.length ≤ 63 → m_law [.list (ns.map PyData.int)] = some (.val (.bool true))) {l : PySem.W.OpenLaw} {w : World} {K : PySem.W.Frag} {h : Heap} {mg : Str → Option Value} {fa : Addr} (X : K.In h) (G : h.Ns mainGlobals mg) (hfa : mg "law" = some (.ref fa))
    {od_is_whole an_is_whole : Option Addr} {sl_is_whole : Array (Option Value)} {oc_is_whole kV_is_whole dc_is_whole pm_is_whole cd_is_whole ct_is_whole : Value} {f_is_whole : Addr}
    (a_is_whole : PySem.W.nsIn K mainGlobals "is_whole" = some (some (.ref f_is_whole))) (l_is_whole : K.lookup f_is_whole = some ⟨oc_is_whole, od_is_whole, .func (PySem.W.fnOf "is_whole" "is_whole" (defArgs s_is_whole) (defBody s_is_whole) (defScope s_is_whole) .none kV_is_whole dc_is_whole pm_is_whole an_is_whole cd_is_whole ct_is_whole), sl_is_whole⟩) (c_is_whole : PySem.W.codeIn K cd_is_whole "is_whole" = true) (k_is_whole : PySem.W.keepIn K (.ref f_is_whole) = true)
    {od_write_number an_write_number : Option Addr} {sl_write_number : Array (Option Value)} {oc_write_number kV_write_number dc_write_number pm_write_number cd_write_number ct_write_number : Value} {f_write_number : Addr}
    (a_write_number : PySem.W.nsIn K mainGlobals "write_number" = some (some (.ref f_write_number))) (l_write_number : K.lookup f_write_number = some ⟨oc_write_number, od_write_number, .func (PySem.W.fnOf "write_number" "write_number" (defArgs s_write_number) (defBody s_write_number) (defScope s_write_number) .none kV_write_number dc_write_number pm_write_number an_write_number cd_write_number ct_write_number), sl_write_number⟩) (c_write_number : PySem.W.codeIn K cd_write_number "write_number" = true) (k_write_number : PySem.W.keepIn K (.ref f_write_number) = true)
    {od__whole an__whole : Option Addr} {sl__whole : Array (Option Value)} {oc__whole kV__whole dc__whole pm__whole cd__whole ct__whole : Value} {f__whole : Addr}
    (a__whole : PySem.W.nsIn K mainGlobals "_whole" = some (some (.ref f__whole))) (l__whole : K.lookup f__whole = some ⟨oc__whole, od__whole, .func (PySem.W.fnOf "_whole" "_whole" (defArgs s__whole) (defBody s__whole) (defScope s__whole) .none kV__whole dc__whole pm__whole an__whole cd__whole ct__whole), sl__whole⟩) (c__whole : PySem.W.codeIn K cd__whole "_whole" = true) (k__whole : PySem.W.keepIn K (.ref f__whole) = true)
    {od__law_is_integer an__law_is_integer : Option Addr} {sl__law_is_integer : Array (Option Value)} {oc__law_is_integer kV__law_is_integer dc__law_is_integer pm__law_is_integer cd__law_is_integer ct__law_is_integer : Value} {f__law_is_integer : Addr}
    (a__law_is_integer : PySem.W.nsIn K mainGlobals "_law_is_integer" = some (some (.ref f__law_is_integer))) (l__law_is_integer : K.lookup f__law_is_integer = some ⟨oc__law_is_integer, od__law_is_integer, .func (PySem.W.fnOf "_law_is_integer" "_law_is_integer" (defArgs s__law_is_integer) (defBody s__law_is_integer) (defScope s__law_is_integer) .none kV__law_is_integer dc__law_is_integer pm__law_is_integer an__law_is_integer cd__law_is_integer ct__law_is_integer), sl__law_is_integer⟩) (c__law_is_integer : PySem.W.codeIn K cd__law_is_integer "_law_is_integer" = true) (k__law_is_integer : PySem.W.keepIn K (.ref f__law_is_integer) = true)
    {od__law_lowest an__law_lowest : Option Addr} {sl__law_lowest : Array (Option Value)} {oc__law_lowest kV__law_lowest dc__law_lowest pm__law_lowest cd__law_lowest ct__law_lowest : Value} {f__law_lowest : Addr}
    (a__law_lowest : PySem.W.nsIn K mainGlobals "_law_lowest" = some (some (.ref f__law_lowest))) (l__law_lowest : K.lookup f__law_lowest = some ⟨oc__law_lowest, od__law_lowest, .func (PySem.W.fnOf "_law_lowest" "_law_lowest" (defArgs s__law_lowest) (defBody s__law_lowest) (defScope s__law_lowest) .none kV__law_lowest dc__law_lowest pm__law_lowest an__law_lowest cd__law_lowest ct__law_lowest), sl__law_lowest⟩) (c__law_lowest : PySem.W.codeIn K cd__law_lowest "_law_lowest" = true) (k__law_lowest : PySem.W.keepIn K (.ref f__law_lowest) = true)
    {od__law_cell an__law_cell : Option Addr} {sl__law_cell : Array (Option Value)} {oc__law_cell kV__law_cell dc__law_cell pm__law_cell cd__law_cell ct__law_cell : Value} {f__law_cell : Addr}
    (a__law_cell : PySem.W.nsIn K mainGlobals "_law_cell" = some (some (.ref f__law_cell))) (l__law_cell : K.lookup f__law_cell = some ⟨oc__law_cell, od__law_cell, .func (PySem.W.fnOf "_law_cell" "_law_cell" (defArgs s__law_cell) (defBody s__law_cell) (defScope s__law_cell) .none kV__law_cell dc__law_cell pm__law_cell an__law_cell cd__law_cell ct__law_cell), sl__law_cell⟩) (c__law_cell : PySem.W.codeIn K cd__law_cell "_law_cell" = true) (k__law_cell : PySem.W.keepIn K (.ref f__law_cell) = true)
    {od_is_number an_is_number : Option Addr} {sl_is_number : Array (Option Value)} {oc_is_number kV_is_number dc_is_number pm_is_number cd_is_number ct_is_number : Value} {f_is_number : Addr}
    (a_is_number : PySem.W.nsIn K mainGlobals "is_number" = some (some (.ref f_is_number))) (l_is_number : K.lookup f_is_number = some ⟨oc_is_number, od_is_number, .func (PySem.W.fnOf "is_number" "is_number" (defArgs s_is_number) (defBody s_is_number) (defScope s_is_number) .none kV_is_number dc_is_number pm_is_number an_is_number cd_is_number ct_is_number), sl_is_number⟩) (c_is_number : PySem.W.codeIn K cd_is_number "is_number" = true) (k_is_number : PySem.W.keepIn K (.ref f_is_number) = true)
    {od_is_short an_is_short : Option Addr} {sl_is_short : Array (Option Value)} {oc_is_short kV_is_short dc_is_short pm_is_short cd_is_short ct_is_short : Value} {f_is_short : Addr}
    (a_is_short : PySem.W.nsIn K mainGlobals "is_short" = some (some (.ref f_is_short))) (l_is_short : K.lookup f_is_short = some ⟨oc_is_short, od_is_short, .func (PySem.W.fnOf "is_short" "is_short" (defArgs s_is_short) (defBody s_is_short) (defScope s_is_short) .none kV_is_short dc_is_short pm_is_short an_is_short cd_is_short ct_is_short), sl_is_short⟩) (c_is_short : PySem.W.codeIn K cd_is_short "is_short" = true) (k_is_short : PySem.W.keepIn K (.ref f_is_short) = true)
    {od_read_number an_read_number : Option Addr} {sl_read_number : Array (Option Value)} {oc_read_number kV_read_number dc_read_number pm_read_number cd_read_number ct_read_number : Value} {f_read_number : Addr}
    (a_read_number : PySem.W.nsIn K mainGlobals "read_number" = some (some (.ref f_read_number))) (l_read_number : K.lookup f_read_number = some ⟨oc_read_number, od_read_number, .func (PySem.W.fnOf "read_number" "read_number" (defArgs s_read_number) (defBody s_read_number) (defScope s_read_number) .none kV_read_number dc_read_number pm_read_number an_read_number cd_read_number ct_read_number), sl_read_number⟩) (c_read_number : PySem.W.codeIn K cd_read_number "read_number" = true) (k_read_number : PySem.W.keepIn K (.ref f_read_number) = true)
    {od__law_right an__law_right : Option Addr} {sl__law_right : Array (Option Value)} {oc__law_right kV__law_right dc__law_right pm__law_right cd__law_right ct__law_right : Value} {f__law_right : Addr}
    (a__law_right : PySem.W.nsIn K mainGlobals "_law_right" = some (some (.ref f__law_right))) (l__law_right : K.lookup f__law_right = some ⟨oc__law_right, od__law_right, .func (PySem.W.fnOf "_law_right" "_law_right" (defArgs s__law_right) (defBody s__law_right) (defScope s__law_right) .none kV__law_right dc__law_right pm__law_right an__law_right cd__law_right ct__law_right), sl__law_right⟩) (c__law_right : PySem.W.codeIn K cd__law_right "_law_right" = true) (k__law_right : PySem.W.keepIn K (.ref f__law_right) = true)
    {od_law an_law : Option Addr} {sl_law : Array (Option Value)} {oc_law kV_law dc_law pm_law cd_law ct_law : Value} {f_law : Addr}
    (a_law : PySem.W.nsIn K mainGlobals "law" = some (some (.ref f_law))) (l_law : K.lookup f_law = some ⟨oc_law, od_law, .func (PySem.W.fnOf "law" "law" (defArgs s_law) (defBody s_law) (defScope s_law) .none kV_law dc_law pm_law an_law cd_law ct_law), sl_law⟩) (c_law : PySem.W.codeIn K cd_law "law" = true) (k_law : PySem.W.keepIn K (.ref f_law) = true)
    (z_abs : PySem.W.nsIn K mainGlobals "abs" = some none)
    (z_bool : PySem.W.nsIn K mainGlobals "bool" = some none)
    (z_int : PySem.W.nsIn K mainGlobals "int" = some none)
    (z_isinstance : PySem.W.nsIn K mainGlobals "isinstance" = some none)
    (z_len : PySem.W.nsIn K mainGlobals "len" = some none)
    (z_range : PySem.W.nsIn K mainGlobals "range" = some none)
    (z_str : PySem.W.nsIn K mainGlobals "str" = some none)
    (z_tuple : PySem.W.nsIn K mainGlobals "tuple" = some none)
    (y_gcd : PySem.W.nsIn K mainGlobals "gcd" = some (some (.builtin "math.gcd")))
    {tk_SHORT_LIMIT : Tok} (x_SHORT_LIMIT : PySem.W.nsIn K mainGlobals "SHORT_LIMIT" = some (some (.int (1000) tk_SHORT_LIMIT)))
    {tk_MOST_DIGITS : Tok} (x_MOST_DIGITS : PySem.W.nsIn K mainGlobals "MOST_DIGITS" = some (some (.int (3) tk_MOST_DIGITS)))
    : LawG l.prog w K mg 5 fa := by
  have e := hfa.symm.trans (PySem.W.mg_of X G a_law)
  have e : fa = f_law := by cases e; rfl
  subst e
  let T : Tx K mg := {
      f_is_whole := f_is_whole,
      fd_is_whole := _,
      F_is_whole := fun_mk (st := s_is_whole) l_is_whole c_is_whole k_is_whole,
      g_is_whole := PySem.W.mg_of X G a_is_whole,
      b_is_whole := (fun_mk (st := s_is_whole) l_is_whole c_is_whole k_is_whole).binds (ps := ["value"]) fun _ _ _ _ _ _ us hl => match us, hl with | [_], _ => rfl,
      f_write_number := f_write_number,
      fd_write_number := _,
      F_write_number := fun_mk (st := s_write_number) l_write_number c_write_number k_write_number,
      g_write_number := PySem.W.mg_of X G a_write_number,
      b_write_number := (fun_mk (st := s_write_number) l_write_number c_write_number k_write_number).binds (ps := ["number"]) fun _ _ _ _ _ _ us hl => match us, hl with | [_], _ => rfl,
      f__whole := f__whole,
      fd__whole := _,
      F__whole := fun_mk (st := s__whole) l__whole c__whole k__whole,
      g__whole := PySem.W.mg_of X G a__whole,
      b__whole := (fun_mk (st := s__whole) l__whole c__whole k__whole).binds (ps := ["word"]) fun _ _ _ _ _ _ us hl => match us, hl with | [_], _ => rfl,
      f__law_is_integer := f__law_is_integer,
      fd__law_is_integer := _,
      F__law_is_integer := fun_mk (st := s__law_is_integer) l__law_is_integer c__law_is_integer k__law_is_integer,
      g__law_is_integer := PySem.W.mg_of X G a__law_is_integer,
      b__law_is_integer := (fun_mk (st := s__law_is_integer) l__law_is_integer c__law_is_integer k__law_is_integer).binds (ps := ["actual"]) fun _ _ _ _ _ _ us hl => match us, hl with | [_], _ => rfl,
      f__law_lowest := f__law_lowest,
      fd__law_lowest := _,
      F__law_lowest := fun_mk (st := s__law_lowest) l__law_lowest c__law_lowest k__law_lowest,
      g__law_lowest := PySem.W.mg_of X G a__law_lowest,
      b__law_lowest := (fun_mk (st := s__law_lowest) l__law_lowest c__law_lowest k__law_lowest).binds (ps := ["n", "d"]) fun _ _ _ _ _ _ us hl => match us, hl with | [_, _], _ => rfl,
      f__law_cell := f__law_cell,
      fd__law_cell := _,
      F__law_cell := fun_mk (st := s__law_cell) l__law_cell c__law_cell k__law_cell,
      g__law_cell := PySem.W.mg_of X G a__law_cell,
      b__law_cell := (fun_mk (st := s__law_cell) l__law_cell c__law_cell k__law_cell).binds (ps := ["script", "k"]) fun _ _ _ _ _ _ us hl => match us, hl with | [_, _], _ => rfl,
      f_is_number := f_is_number,
      fd_is_number := _,
      F_is_number := fun_mk (st := s_is_number) l_is_number c_is_number k_is_number,
      g_is_number := PySem.W.mg_of X G a_is_number,
      b_is_number := (fun_mk (st := s_is_number) l_is_number c_is_number k_is_number).binds (ps := ["value"]) fun _ _ _ _ _ _ us hl => match us, hl with | [_], _ => rfl,
      f_is_short := f_is_short,
      fd_is_short := _,
      F_is_short := fun_mk (st := s_is_short) l_is_short c_is_short k_is_short,
      g_is_short := PySem.W.mg_of X G a_is_short,
      b_is_short := (fun_mk (st := s_is_short) l_is_short c_is_short k_is_short).binds (ps := ["value"]) fun _ _ _ _ _ _ us hl => match us, hl with | [_], _ => rfl,
      f_read_number := f_read_number,
      fd_read_number := _,
      F_read_number := fun_mk (st := s_read_number) l_read_number c_read_number k_read_number,
      g_read_number := PySem.W.mg_of X G a_read_number,
      b_read_number := (fun_mk (st := s_read_number) l_read_number c_read_number k_read_number).binds (ps := ["word"]) fun _ _ _ _ _ _ us hl => match us, hl with | [_], _ => rfl,
      f__law_right := f__law_right,
      fd__law_right := _,
      F__law_right := fun_mk (st := s__law_right) l__law_right c__law_right k__law_right,
      g__law_right := PySem.W.mg_of X G a__law_right,
      b__law_right := (fun_mk (st := s__law_right) l__law_right c__law_right k__law_right).binds (ps := ["word", "due"]) fun _ _ _ _ _ _ us hl => match us, hl with | [_, _], _ => rfl,
      f_law := fa,
      fd_law := _,
      F_law := fun_mk (st := s_law) l_law c_law k_law,
      g_law := PySem.W.mg_of X G a_law,
      b_law := (fun_mk (st := s_law) l_law c_law k_law).binds (ps := ["script"]) fun _ _ _ _ _ _ us hl => match us, hl with | [_], _ => rfl,
      n_abs := PySem.W.mg_none_of X G z_abs,
      n_bool := PySem.W.mg_none_of X G z_bool,
      n_int := PySem.W.mg_none_of X G z_int,
      n_isinstance := PySem.W.mg_none_of X G z_isinstance,
      n_len := PySem.W.mg_none_of X G z_len,
      n_range := PySem.W.mg_none_of X G z_range,
      n_str := PySem.W.mg_none_of X G z_str,
      n_tuple := PySem.W.mg_none_of X G z_tuple,
      m_gcd := PySem.W.mg_of X G y_gcd,
      t_SHORT_LIMIT := tk_SHORT_LIMIT,
      c_SHORT_LIMIT := PySem.W.mg_of X G x_SHORT_LIMIT,
      t_MOST_DIGITS := tk_MOST_DIGITS,
      c_MOST_DIGITS := PySem.W.mg_of X G x_MOST_DIGITS }
  exact ⟨T.fd_law, ["script", "bound", "n", "d", "low", "is_short_v", "text", "due", "plain", "odd", "front"], s_law, "law", "law", b_law, T.F_law, sc_law, fun s v => .of_eq rfl, hlaw, fun base _ _ cdv s H hr => ok_law T cdv s H hr⟩
end Law
open PySem PySem.W PyProof.Rows
set_option maxHeartbeats 0 in
theorem PySem.Challenge.cw_oddkeep_k10_numbers_read_back_holds : PySem.Challenge.rw_oddkeep_k10_numbers_read_back.Holds := by
  w_on; o_law; k_head; (case hw => w_witness2)
  k_fill
  refine Dn.walkG (l := PySem.Challenge.rw_oddkeep_k10_numbers_read_back) (k := 5) rfl rfl ⟨rfl, by decide, by decide⟩ (fun w h Y => PySem.W.kIn_of Y) ?F
  case F =>
    intro w mg fa h KX G hmg
    refine' Law.all_mk Law.hlaw KX G hmg ?a_is_whole ?l_is_whole ?c_is_whole ?k_is_whole ?a_write_number ?l_write_number ?c_write_number ?k_write_number ?a__whole ?l__whole ?c__whole ?k__whole ?a__law_is_integer ?l__law_is_integer ?c__law_is_integer ?k__law_is_integer ?a__law_lowest ?l__law_lowest ?c__law_lowest ?k__law_lowest ?a__law_cell ?l__law_cell ?c__law_cell ?k__law_cell ?a_is_number ?l_is_number ?c_is_number ?k_is_number ?a_is_short ?l_is_short ?c_is_short ?k_is_short ?a_read_number ?l_read_number ?c_read_number ?k_read_number ?a__law_right ?l__law_right ?c__law_right ?k__law_right ?a_law ?l_law ?c_law ?k_law ?z_abs ?z_bool ?z_int ?z_isinstance ?z_len ?z_range ?z_str ?z_tuple ?y_gcd ?x_SHORT_LIMIT ?x_MOST_DIGITS
    (case a_is_whole => k_is); (case l_is_whole => k_is); (case c_is_whole => k_is); (case k_is_whole => k_is)
    (case a_write_number => k_is); (case l_write_number => k_is); (case c_write_number => k_is); (case k_write_number => k_is)
    (case a__whole => k_is); (case l__whole => k_is); (case c__whole => k_is); (case k__whole => k_is)
    (case a__law_is_integer => k_is); (case l__law_is_integer => k_is); (case c__law_is_integer => k_is); (case k__law_is_integer => k_is)
    (case a__law_lowest => k_is); (case l__law_lowest => k_is); (case c__law_lowest => k_is); (case k__law_lowest => k_is)
    (case a__law_cell => k_is); (case l__law_cell => k_is); (case c__law_cell => k_is); (case k__law_cell => k_is)
    (case a_is_number => k_is); (case l_is_number => k_is); (case c_is_number => k_is); (case k_is_number => k_is)
    (case a_is_short => k_is); (case l_is_short => k_is); (case c_is_short => k_is); (case k_is_short => k_is)
    (case a_read_number => k_is); (case l_read_number => k_is); (case c_read_number => k_is); (case k_read_number => k_is)
    (case a__law_right => k_is); (case l__law_right => k_is); (case c__law_right => k_is); (case k__law_right => k_is)
    (case a_law => k_is); (case l_law => k_is); (case c_law => k_is); (case k_law => k_is)
    (case z_abs => k_is); (case z_bool => k_is); (case z_int => k_is); (case z_isinstance => k_is)
    (case z_len => k_is); (case z_range => k_is); (case z_str => k_is); (case z_tuple => k_is)
    (case y_gcd => k_is); (case x_SHORT_LIMIT => k_is); (case x_MOST_DIGITS => k_is)

