import PyProof.Rows.All
import Wide.All
import OpenK.AllK
import Wide.FinOn
import HandS.ForMost
import HandS.Gcd
import HandS.IsInst
import HandS.Wide
import HandS.TupAny
import HandS.Deep
import HandS.Style
import PyProof.Rows.RegFStrParts
import PyProof.ListRange
import HandS.FStr
import HandS.Text
import HandS.StrMore
import HandS.Iter
import HandS.Exc
import HandS.ExcOwn
import HandS.WordsExc
import HandS.CallSlots
import HandS.Flow
import PySem.Challenge.RW_oddkeep_k32_what_lists_are
set_option Elab.async false
set_option linter.all false
set_option maxRecDepth 100000
set_option maxHeartbeats 4000000
/-! Dn: what a def computes, as a function over plain data (PyData). Each rule pairs a derivation (PE, PS ..) with a function. -/
namespace Dn
open PySem PySem.Spec PyProof.Rows L2

/-! ### data in a heap that only grows -/
theorem sqL_mono {K : PySem.W.Frag} {H H' : Hp} {a : Addr} {xs : List V} (e : Same H H') (h : SqL K H a xs) : SqL K H' a xs := e.seq h
theorem sqT_mono {K : PySem.W.Frag} {H H' : Hp} {a : Addr} {xs : List V} (e : Same H H') (h : SqT K H a xs) : SqT K H' a xs := by
  rcases h with (h | ⟨o, h⟩) | h
  · exact .inl (.inl (e _ _ h))
  · exact .inl (.inr ⟨o, e _ _ h⟩)
  · exact .inr h
mutual
theorem dp_mono {K : PySem.W.Frag} {H H' : Hp} (e : Same H H') : ∀ {v : V} {d : PyData}, Dp K H v d → Dp K H' v d
  | _, _, .non => .non
  | _, _, .bl b => .bl b
  | _, _, .int i => .int i
  | _, _, .str x => .str x
  | _, _, .lst hs ha => .lst (sqL_mono e hs) (dpa_mono e ha)
  | _, _, .tup hs ha => .tup (sqT_mono e hs) (dpa_mono e ha)
theorem dpa_mono {K : PySem.W.Frag} {H H' : Hp} (e : Same H H') : ∀ {vs : List V} {ds : List PyData}, DpAll K H vs ds → DpAll K H' vs ds
  | _, _, .nil => .nil
  | _, _, .cons h t => .cons (dp_mono e h) (dpa_mono e t)
end
section
variable {K : PySem.W.Frag} {H : Hp}
theorem DpAll.len : ∀ {vs : List V} {ds : List PyData}, DpAll K H vs ds → vs.length = ds.length
  | _, _, .nil => rfl
  | _, _, .cons _ t => by simp only [List.length_cons, DpAll.len t]
theorem DpAll.get : ∀ {vs : List V} {ds : List PyData} {i : Nat} {d : PyData}, DpAll K H vs ds → ds[i]? = some d → ∃ v, vs[i]? = some v ∧ Dp K H v d
  | _, _, i, _, .nil, e => by simp at e
  | _, _, 0, _, .cons h _, e => by simp at e; subst e; exact ⟨_, rfl, h⟩
  | _, _, i + 1, _, .cons _ t, e => by
    obtain ⟨v, h1, h2⟩ := DpAll.get (i := i) t (by simpa using e)
    exact ⟨v, by simpa using h1, h2⟩
theorem DpAll.app : ∀ {vs ws : List V} {ds es : List PyData}, DpAll K H vs ds → DpAll K H ws es → DpAll K H (vs ++ ws) (ds ++ es)
  | _, _, _, _, .nil, s => s
  | _, _, _, _, .cons h t, s => .cons h (DpAll.app t s)
theorem DpAll.take : ∀ (n : Nat) {vs : List V} {ds : List PyData}, DpAll K H vs ds → DpAll K H (vs.take n) (ds.take n)
  | 0, _, _, _ => .nil
  | _ + 1, _, _, .nil => .nil
  | n + 1, _, _, .cons h t => .cons h (DpAll.take n t)
theorem DpAll.drop : ∀ (n : Nat) {vs : List V} {ds : List PyData}, DpAll K H vs ds → DpAll K H (vs.drop n) (ds.drop n)
  | 0, _, _, h => h
  | _ + 1, _, _, .nil => .nil
  | n + 1, _, _, .cons _ t => DpAll.drop n t
theorem DpAll.set : ∀ (i : Nat) {vs : List V} {ds : List PyData} {v : V} {d : PyData}, DpAll K H vs ds → Dp K H v d → DpAll K H (vs.set i v) (ds.set i d)
  | _, _, _, _, _, .nil, _ => .nil
  | 0, _, _, _, _, .cons _ t, h => .cons h t
  | i + 1, _, _, _, _, .cons h t, g => .cons h (DpAll.set i t g)
theorem DpAll.ints : ∀ (ns : List Int), DpAll K H (ns.map V.int) (ns.map PyData.int)
  | [] => .nil
  | n :: r => .cons (.int n) (DpAll.ints r)
theorem DpAll.dropLast {vs : List V} {ds : List PyData} (h : DpAll K H vs ds) : DpAll K H vs.dropLast ds.dropLast := by
  rw [List.dropLast_eq_take, List.dropLast_eq_take, DpAll.len h]
  exact DpAll.take _ h
end

/-! ### frozen and owned -/
inductive R where
  | val (d : PyData)
  | own (ds : List PyData)
  /-- a new tuple of three new lists -/
  | own3 (as bs cs : List PyData)
def R.frz : R → PyData
  | .val d => d
  | .own ds => .list ds
  | .own3 as bs cs => .tuple [.list as, .list bs, .list cs]
@[simp] theorem frz_own3 {as bs cs : List PyData} : (R.own3 as bs cs).frz = .tuple [.list as, .list bs, .list cs] := rfl
@[simp] theorem frz_val {d : PyData} : (R.val d).frz = d := rfl
@[simp] theorem frz_own {ds : List PyData} : (R.own ds).frz = .list ds := rfl
inductive Sl where
  | no
  | val (d : PyData)
  | own (ds : List PyData)
def R.sl : R → Sl
  | .val d => .val d
  | .own ds => .own ds
  | .own3 _ _ _ => .no
@[simp] theorem sl_val {d : PyData} : (R.val d).sl = .val d := rfl
@[simp] theorem sl_own {ds : List PyData} : (R.own ds).sl = .own ds := rfl
abbrev En := List Sl

/-- F: what is frozen of the heap H -/
structure Grow (F H F' H' : Hp) : Prop where
  f : Same F F'
  h : Same H H'
  i : Same F' H'
  n : ∀ a, H a ≠ none → F a = none → F' a = none
theorem same_ne {H H' : Hp} (e : Same H H') {a : Addr} (h : H a ≠ none) : H' a ≠ none := by
  cases q : H a with
  | none => exact absurd q h
  | some o => rw [e _ _ q]; exact Option.some_ne_none o
theorem Grow.refl {F H : Hp} (e : Same F H) : Grow F H F H := ⟨Same.refl F, Same.refl H, e, fun _ _ h => h⟩
theorem Grow.trans {F H F1 H1 F2 H2 : Hp} (a : Grow F H F1 H1) (b : Grow F1 H1 F2 H2) : Grow F H F2 H2 :=
  ⟨a.f.trans b.f, a.h.trans b.h, b.i, fun x hx hf => b.n x (same_ne a.h hx) (a.n x hx hf)⟩
theorem same_upd {H : Hp} {p : Addr} {o : HO} (h : H p = none) : Same H (upd H p o) := fun b x e => by
  rw [upd_ne (ne_of_none e h)]
  exact e
theorem same_updF {F H : Hp} {p : Addr} {o : HO} (e : Same F H) (h : F p = none) : Same F (upd H p o) := fun b x g => by
  rw [upd_ne (ne_of_none g h)]
  exact e _ _ g
/-- a new object, not frozen -/
theorem Grow.new {F H : Hp} {p : Addr} {o : HO} (e : Same F H) (h : H p = none) : Grow F H F (upd H p o) :=
  ⟨Same.refl F, same_upd h, e.trans (same_upd h), fun _ _ g => g⟩
/-- a new object is frozen -/
theorem Grow.frz {F H F' H' : Hp} {p : Addr} {o : HO} (g : Grow F H F' H') (hp : H p = none) (hf : F' p = none) (hh : H' p = some o) : Grow F H (upd F' p o) H' := by
  refine ⟨g.f.trans (same_upd hf), g.h, fun b x e => ?_, fun a ha hfa => ?_⟩
  · by_cases hb : b = p
    · subst hb
      rw [upd_same] at e
      rw [hh]
      exact e
    · rw [upd_ne hb] at e
      exact g.i _ _ e
  · rw [upd_ne (fun (z : a = p) => ha (by rw [z]; exact hp))]
    exact g.n a ha hfa

def RepR (K : PySem.W.Frag) (F' H H' : Hp) (v : V) : R → Prop
  | .val d => Dp K F' v d
  | .own ds => ∃ p xs, v = .ref p ∧ F' p = none ∧ H p = none ∧ H' p = some (.lst xs) ∧ DpAll K F' xs ds
  | .own3 as bs cs => ∃ p a b c xs ys zs, v = .ref p ∧ F' p = none ∧ H p = none ∧ H' p = some (.tup [.ref a, .ref b, .ref c]) ∧ (F' a = none ∧ H a = none ∧ H' a = some (.lst xs) ∧ DpAll K F' xs as) ∧
      (F' b = none ∧ H b = none ∧ H' b = some (.lst ys) ∧ DpAll K F' ys bs) ∧ (F' c = none ∧ H c = none ∧ H' c = some (.lst zs) ∧ DpAll K F' zs cs) ∧ a ≠ b ∧ a ≠ c ∧ b ≠ c
theorem free_back {F H : Hp} (e : Same F H) {p : Addr} (h : H p = none) : F p = none := e.free h
/-- whatever it is, it may be frozen -/
theorem RepR.frz {K : PySem.W.Frag} {F H F' H' : Hp} {v : V} {r : R} (g : Grow F H F' H') (h : RepR K F' H H' v r) : ∃ F2, Grow F H F2 H' ∧ Same F' F2 ∧ Dp K F2 v r.frz := by
  cases r with
  | val d => exact ⟨F', g, Same.refl _, h⟩
  | own ds =>
    obtain ⟨p, xs, rfl, h1, h2, h3, h4⟩ := h
    have s1 : Same F' (upd F' p (.lst xs)) := same_upd h1
    exact ⟨upd F' p (.lst xs), g.frz h2 h1 h3, s1, .lst (.inl (.inl upd_same)) (dpa_mono s1 h4)⟩
  | own3 as bs cs =>
    obtain ⟨p, a, b, c, xs, ys, zs, rfl, p1, p2, p3, ⟨a1, a2, a3, a4⟩, ⟨b1, b2, b3, b4⟩, ⟨c1, c2, c3, c4⟩, ab, ac, bc⟩ := h
    have pa : p ≠ a := fun z => by rw [z, a3] at p3; cases p3
    have pb : p ≠ b := fun z => by rw [z, b3] at p3; cases p3
    have pc : p ≠ c := fun z => by rw [z, c3] at p3; cases p3
    have b1' : upd F' a (.lst xs) b = none := by rw [upd_ne (Ne.symm ab)]; exact b1
    have c1' : upd (upd F' a (.lst xs)) b (.lst ys) c = none := by rw [upd_ne (Ne.symm bc), upd_ne (Ne.symm ac)]; exact c1
    have p1' : upd (upd (upd F' a (.lst xs)) b (.lst ys)) c (.lst zs) p = none := by rw [upd_ne pc, upd_ne pb, upd_ne pa]; exact p1
    have s1 : Same F' (upd F' a (.lst xs)) := same_upd a1
    have s2 : Same (upd F' a (.lst xs)) (upd (upd F' a (.lst xs)) b (.lst ys)) := same_upd b1'
    have s3 : Same (upd (upd F' a (.lst xs)) b (.lst ys)) (upd (upd (upd F' a (.lst xs)) b (.lst ys)) c (.lst zs)) := same_upd c1'
    have s4 : Same (upd (upd (upd F' a (.lst xs)) b (.lst ys)) c (.lst zs)) (upd (upd (upd (upd F' a (.lst xs)) b (.lst ys)) c (.lst zs)) p (.tup [.ref a, .ref b, .ref c])) := same_upd p1'
    have s : Same F' (upd (upd (upd (upd F' a (.lst xs)) b (.lst ys)) c (.lst zs)) p (.tup [.ref a, .ref b, .ref c])) := ((s1.trans s2).trans s3).trans s4
    refine ⟨_, (((g.frz a2 a1 a3).frz b2 b1' b3).frz c2 c1' c3).frz p2 p1' p3, s, .tup (.inl (.inl upd_same)) (.cons ?_ (.cons ?_ (.cons ?_ .nil)))⟩
    · exact .lst (.inl (.inl (((s2.trans s3).trans s4) _ _ upd_same))) (dpa_mono s a4)
    · exact .lst (.inl (.inl ((s3.trans s4) _ _ upd_same))) (dpa_mono s b4)
    · exact .lst (.inl (.inl (s4 _ _ upd_same))) (dpa_mono s c4)

/-! ### slots -/
def SlOk (K : PySem.W.Frag) (B F H : Hp) (v : Option V) (ad : Addr) : Sl → Prop
  | .no => True
  | .val d => ∃ x, v = some x ∧ Dp K F x d
  | .own ds => ∃ xs, v = some (.ref ad) ∧ B ad = none ∧ F ad = none ∧ H ad = some (.lst xs) ∧ DpAll K F xs ds
structure Slots (K : PySem.W.Frag) (B F H : Hp) (σ : L2.St) (env : En) : Prop where
  len : σ.length = env.length
  ex : ∃ ad : Nat → Addr, (∀ i v s, σ[i]? = some v → env[i]? = some s → SlOk K B F H v (ad i) s) ∧ ∀ i j ds es, i ≠ j → env[i]? = some (.own ds) → env[j]? = some (.own es) → ad i ≠ ad j
theorem SlOk.grow {K : PySem.W.Frag} {B F H F' H' : Hp} {v : Option V} {ad : Addr} {s : Sl} (g : Grow F H F' H') (h : SlOk K B F H v ad s) : SlOk K B F' H' v ad s := by
  cases s with
  | no => trivial
  | val d =>
    obtain ⟨x, e, h⟩ := h
    exact ⟨x, e, dp_mono g.f h⟩
  | own ds =>
    obtain ⟨xs, e, h0, h1, h2, h3⟩ := h
    exact ⟨xs, e, h0, g.n _ (by rw [h2]; exact Option.some_ne_none _) h1, g.h _ _ h2, dpa_mono g.f h3⟩
theorem Slots.grow {K : PySem.W.Frag} {B F H F' H' : Hp} {σ : L2.St} {env : En} (g : Grow F H F' H') (S : Slots K B F H σ env) : Slots K B F' H' σ env := by
  obtain ⟨l, ad, h1, h2⟩ := S
  exact ⟨l, ad, fun i v s e1 e2 => (h1 i v s e1 e2).grow g, h2⟩
theorem Slots.val {K : PySem.W.Frag} {B F H : Hp} {σ : L2.St} {env : En} (S : Slots K B F H σ env) {i : Nat} {d : PyData} (e : env[i]? = some (.val d)) : ∃ v, σ[i]? = some (some v) ∧ Dp K F v d := by
  obtain ⟨l, ad, h1, h2⟩ := S
  have hi : i < env.length := (List.getElem?_eq_some_iff.mp e).1
  have hs : σ[i]? = some σ[i] := List.getElem?_eq_getElem (by omega)
  obtain ⟨x, e1, h⟩ := h1 i _ _ hs e
  exact ⟨x, by rw [hs, e1], h⟩
theorem Slots.own {K : PySem.W.Frag} {B F H : Hp} {σ : L2.St} {env : En} (S : Slots K B F H σ env) {i : Nat} {ds : List PyData} (e : env[i]? = some (.own ds)) : ∃ p xs, σ[i]? = some (some (.ref p)) ∧ B p = none ∧ F p = none ∧ H p = some (.lst xs) ∧ DpAll K F xs ds := by
  obtain ⟨l, ad, h1, h2⟩ := S
  have hi : i < env.length := (List.getElem?_eq_some_iff.mp e).1
  have hs : σ[i]? = some σ[i] := List.getElem?_eq_getElem (by omega)
  obtain ⟨xs, e1, h⟩ := h1 i _ _ hs e
  exact ⟨ad i, xs, by rw [hs, e1], h⟩
/-- a slot gets what has come -/
theorem Slots.put {K : PySem.W.Frag} {B F H F' H' : Hp} {σ : L2.St} {env : En} {i : Nat} {v : V} {r : R} (S : Slots K B F H σ env) (bh : Same B H) (g : Grow F H F' H') (h : RepR K F' H H' v r) : Slots K B F' H' (σ.set i (some v)) (env.set i r.sl) := by
  obtain ⟨l, ad, h1, h2⟩ := S
  have S' := Slots.grow g ⟨l, ad, h1, h2⟩
  cases r with
  | val d =>
    refine ⟨by simp [l], ad, fun j w s e1 e2 => ?_, fun j k ds es hjk e1 e2 => ?_⟩
    · by_cases hj : i = j
      · subst hj
        rw [List.getElem?_set] at e1 e2
        simp at e1 e2
        obtain ⟨_, rfl⟩ := e1
        obtain ⟨_, rfl⟩ := e2
        exact ⟨v, rfl, h⟩
      · rw [List.getElem?_set_ne hj] at e1 e2
        exact (h1 j w s e1 e2).grow g
    · have q : ∀ m zs, (env.set i (R.val d).sl)[m]? = some (Sl.own zs) → env[m]? = some (Sl.own zs) := fun m zs e => by
        by_cases hm : i = m
        · subst hm
          rw [List.getElem?_set] at e
          simp at e
        · rw [List.getElem?_set_ne hm] at e
          exact e
      exact h2 j k ds es hjk (q _ _ e1) (q _ _ e2)
  | own3 as bs cs =>
    refine ⟨by simp [l], ad, fun j w s e1 e2 => ?_, fun j k ds es hjk e1 e2 => ?_⟩
    · by_cases hj : i = j
      · subst hj
        rw [List.getElem?_set] at e1 e2
        simp at e1 e2
        obtain ⟨_, rfl⟩ := e2
        trivial
      · rw [List.getElem?_set_ne hj] at e1 e2
        exact (h1 j w s e1 e2).grow g
    · have q : ∀ m zs, (env.set i (R.own3 as bs cs).sl)[m]? = some (Sl.own zs) → env[m]? = some (Sl.own zs) := fun m zs e => by
        by_cases hm : i = m
        · subst hm
          rw [List.getElem?_set] at e
          simp [R.sl] at e
        · rw [List.getElem?_set_ne hm] at e
          exact e
      exact h2 j k ds es hjk (q _ _ e1) (q _ _ e2)
  | own ds =>
    obtain ⟨p, xs, rfl, f1, f2, f3, f4⟩ := h
    have old : ∀ m zs, env[m]? = some (Sl.own zs) → ad m ≠ p := fun m zs e z => by
      have hi : m < env.length := (List.getElem?_eq_some_iff.mp e).1
      have hs : σ[m]? = some σ[m] := List.getElem?_eq_getElem (by omega)
      obtain ⟨ys, _, _, _, e3, _⟩ := h1 m _ _ hs e
      rw [z, f2] at e3
      cases e3
    refine ⟨by simp [l], fun m => if m = i then p else ad m, fun j w s e1 e2 => ?_, fun j k es fs hjk e1 e2 => ?_⟩
    · by_cases hj : i = j
      · subst hj
        rw [List.getElem?_set] at e1 e2
        simp at e1 e2
        obtain ⟨_, rfl⟩ := e1
        obtain ⟨_, rfl⟩ := e2
        show SlOk K B F' H' _ (if i = i then p else ad i) _
        rw [if_pos rfl]
        exact ⟨xs, rfl, bh.free f2, f1, f3, f4⟩
      · rw [List.getElem?_set_ne hj] at e1 e2
        show SlOk K B F' H' _ (if j = i then p else ad j) _
        rw [if_neg (fun z => hj z.symm)]
        exact (h1 j w s e1 e2).grow g
    · show (if j = i then p else ad j) ≠ (if k = i then p else ad k)
      by_cases hj : j = i
      · have hk : k ≠ i := fun z => hjk (hj.trans z.symm)
        rw [if_pos hj, if_neg hk]
        rw [List.getElem?_set_ne (fun z => hk z.symm)] at e2
        exact (old k _ e2).symm
      · rw [if_neg hj]
        rw [List.getElem?_set_ne (fun z => hj z.symm)] at e1
        by_cases hk : k = i
        · rw [if_pos hk]
          exact old j _ e1
        · rw [if_neg hk]
          rw [List.getElem?_set_ne (fun z => hk z.symm)] at e2
          exact h2 j k _ _ hjk e1 e2
/-- an owned list is turned -/
theorem Slots.turn {K : PySem.W.Frag} {B F H : Hp} {σ : L2.St} {env : En} {i : Nat} {p : Addr} {ds es : List PyData} {ys : List V} (S : Slots K B F H σ env) (e : env[i]? = some (.own ds)) (hp : σ[i]? = some (some (.ref p))) (hy : DpAll K F ys es) : Slots K B F (upd H p (.lst ys)) σ (env.set i (.own es)) := by
  obtain ⟨l, ad, h1, h2⟩ := S
  have q0 := h1 i _ _ hp e
  obtain ⟨xs, e1, b0, b1, b2, b3⟩ := q0
  have ep : p = ad i := by
    have := Option.some.inj e1
    cases this
    rfl
  have q : ∀ m zs, (env.set i (.own es))[m]? = some (Sl.own zs) → ∃ ws, env[m]? = some (Sl.own ws) := fun m zs g => by
    by_cases hm : i = m
    · subst hm
      exact ⟨ds, e⟩
    · rw [List.getElem?_set_ne hm] at g
      exact ⟨zs, g⟩
  refine ⟨by simp [l], ad, fun j w s g1 g2 => ?_, fun j k fs gs hjk g1 g2 => ?_⟩
  · by_cases hj : i = j
    · subst hj
      rw [hp] at g1
      cases g1
      rw [List.getElem?_set] at g2
      simp at g2
      obtain ⟨_, rfl⟩ := g2
      exact ⟨ys, e1, b0, b1, by rw [ep, upd_same], hy⟩
    · rw [List.getElem?_set_ne hj] at g2
      have o := h1 j w s g1 g2
      cases s with
      | no => trivial
      | val d => exact o
      | own zs =>
        obtain ⟨xs', c1, c0, c2, c3, c4⟩ := o
        exact ⟨xs', c1, c0, c2, by rw [ep, upd_ne (h2 j i _ _ (fun z => hj z.symm) g2 e)]; exact c3, c4⟩
  · obtain ⟨w1, r1⟩ := q _ _ g1
    obtain ⟨w2, r2⟩ := q _ _ g2
    exact h2 j k _ _ hjk r1 r2
/-- an owned list is frozen -/
theorem Slots.freeze {K : PySem.W.Frag} {B F H : Hp} {σ : L2.St} {env : En} {i : Nat} {ds : List PyData} (fh : Same F H) (S : Slots K B F H σ env) (e : env[i]? = some (.own ds)) : ∃ F', Same F F' ∧ Same F' H ∧ (∀ a, B a ≠ none → F a = none → F' a = none) ∧ Slots K B F' H σ (env.set i (.val (.list ds))) := by
  obtain ⟨l, ad, h1, h2⟩ := S
  have hi : i < env.length := (List.getElem?_eq_some_iff.mp e).1
  have hs : σ[i]? = some σ[i] := List.getElem?_eq_getElem (by omega)
  obtain ⟨xs, e1, b0, b1, b2, b3⟩ := h1 i _ _ hs e
  have s1 : Same F (upd F (ad i) (.lst xs)) := same_upd b1
  refine ⟨upd F (ad i) (.lst xs), s1, fun b x g => ?_, fun a ha hf => ?_, by simp [l], ad, fun j w s g1 g2 => ?_, fun j k fs gs hjk g1 g2 => ?_⟩
  · by_cases hb : b = ad i
    · rw [hb, upd_same] at g
      rw [hb, b2]
      exact g
    · rw [upd_ne hb] at g
      exact fh _ _ g
  · rw [upd_ne (fun (z : a = ad i) => ha (by rw [z]; exact b0))]
    exact hf
  · by_cases hj : i = j
    · subst hj
      rw [hs, e1] at g1
      cases g1
      rw [List.getElem?_set] at g2
      simp at g2
      obtain ⟨_, rfl⟩ := g2
      exact ⟨_, rfl, .lst (.inl (.inl upd_same)) (dpa_mono s1 b3)⟩
    · rw [List.getElem?_set_ne hj] at g2
      have o := h1 j w s g1 g2
      cases s with
      | no => trivial
      | val d =>
        obtain ⟨x, c1, c2⟩ := o
        exact ⟨x, c1, dp_mono s1 c2⟩
      | own zs =>
        obtain ⟨xs', c1, c0, c2, c3, c4⟩ := o
        exact ⟨xs', c1, c0, by rw [upd_ne (h2 j i _ _ (fun z => hj z.symm) g2 e)]; exact c2, c3, dpa_mono s1 c4⟩
  · have q : ∀ m zs, (env.set i (.val (.list ds)))[m]? = some (Sl.own zs) → env[m]? = some (Sl.own zs) := fun m zs g => by
      by_cases hm : i = m
      · subst hm
        rw [List.getElem?_set] at g
        simp at g
      · rw [List.getElem?_set_ne hm] at g
        exact g
    exact h2 j k _ _ hjk (q _ _ g1) (q _ _ g2)
end Dn
namespace Dn
open PySem PySem.Spec PyProof.Rows L2

abbrev EF := En → Option R
abbrev TF := En → Option Bool
abbrev AF := En → Option (List PyData)

/-! ### what a reading computes -/
def DE (K : PySem.W.Frag) (te : TE) (f : EF) : Prop := ∀ (B F H : Hp) (σ : L2.St) (env : En) (r : R), Slots K B F H σ env → Same F H → Same B H → f env = some r →
  ∀ Q : VK, (∀ F' H' v, Grow F H F' H' → RepR K F' H H' v r → Q v H') → te σ H Q
def DT (K : PySem.W.Frag) (tt : TT) (f : TF) : Prop := ∀ (B F H : Hp) (σ : L2.St) (env : En) (b : Bool), Slots K B F H σ env → Same F H → Same B H → f env = some b →
  ∀ Q : Bool → Hp → Prop, (∀ F' H', Grow F H F' H' → Q b H') → tt σ H Q
def DA (K : PySem.W.Frag) (ta : TA) (f : AF) : Prop := ∀ (B F H : Hp) (σ : L2.St) (env : En) (ds : List PyData), Slots K B F H σ env → Same F H → Same B H → f env = some ds →
  ∀ Q : List V → Hp → Prop, (∀ F' H' vs, Grow F H F' H' → DpAll K F' vs ds → Q vs H') → ta σ H Q
structure SE (X : Cx) (e : Expr) (te : TE) (f : EF) : Prop where
  pe : PE X e te
  de : DE X.K te f
structure ST (X : Cx) (e : Expr) (tt : TT) (f : TF) : Prop where
  pt : PT X e tt
  dt : DT X.K tt f
structure SW (X : Cx) (e : Expr) (tt : TT) (f : TF) : Prop where
  pw : PW X e tt
  dt : DT X.K tt f
structure SA (X : Cx) (es : List Expr) (ta : TA) (f : AF) : Prop where
  pa : PA X es ta
  da : DA X.K ta f
theorem SW.st {X : Cx} {e : Expr} {tt : TT} {f : TF} (h : SW X e tt f) : ST X e tt f := ⟨h.pw.pt, h.dt⟩

/-! ### combinators -/
@[simp] def eVar (i : Nat) : EF := fun env => match env[i]? with
  | some (.val d) => some (.val d)
  | _ => none
@[simp] def eC (d : PyData) : EF := fun _ => some (.val d)
@[simp] def eBin (g : PyData → PyData → Option R) (f1 f2 : EF) : EF := fun env => (f1 env).bind fun a => (f2 env).bind fun b => g a.frz b.frz
@[simp] def eUn (g : PyData → Option R) (f : EF) : EF := fun env => (f env).bind fun a => g a.frz
@[simp] def aNil : AF := fun _ => some []
@[simp] def aCons (f : EF) (t : AF) : AF := fun env => (f env).bind fun a => (t env).bind fun ds => some (a.frz :: ds)
/-- a display's length; conditions are opaque to computation -/
def Few (n : Nat) : Prop := n ≤ 1000
noncomputable instance (n : Nat) : Decidable (Few n) := Classical.propDecidable _
@[simp] theorem few_iff {n : Nat} : Few n ↔ n ≤ 1000 := Iff.rfl
@[simp] noncomputable def eTup (t : AF) : EF := fun env => (t env).bind fun ds => if Few ds.length then some (.val (.tuple ds)) else none
@[simp] noncomputable def eLst (t : AF) : EF := fun env => (t env).bind fun ds => if Few ds.length then some (.own ds) else none
@[simp] def eCall (g : List PyData → Option R) (t : AF) : EF := fun env => (t env).bind g
@[simp] def toB : PyData → Option Bool
  | .bool b => some b
  | _ => none
@[simp] def tE (f : EF) : TF := fun env => (f env).bind fun a => toB a.frz
@[simp] def tAndD (f g : TF) : TF := fun env => (f env).bind fun a => if a = true then g env else some false
@[simp] def tOrD (f g : TF) : TF := fun env => (f env).bind fun a => if a = true then some true else g env
@[simp] def tNotD (f : TF) : TF := fun env => (f env).bind fun a => some (!a)
@[simp] def eT (f : TF) : EF := fun env => (f env).bind fun b => some (.val (.bool b))
@[simp] def eIf (c : TF) (f g : EF) : EF := fun env => (c env).bind fun b => if b = true then f env else g env

section
variable {K : PySem.W.Frag}
theorem bnd {α β : Type} {o : Option α} {f : α → Option β} {b : β} (h : o.bind f = some b) : ∃ a, o = some a ∧ f a = some b := by
  cases o with
  | none => cases h
  | some a => exact ⟨a, rfl, h⟩
/-- an expression, frozen -/
theorem DE.z {te : TE} {f : EF} (h : DE K te f) {B F H : Hp} {σ : L2.St} {env : En} {r : R} (S : Slots K B F H σ env) (fh : Same F H) (bh : Same B H) (e : f env = some r) {Q : VK} (q : ∀ F' H' v, Grow F H F' H' → Dp K F' v r.frz → Q v H') : te σ H Q :=
  h B F H σ env r S fh bh e Q fun F' H' v g rr => by
    obtain ⟨F2, g2, _, d⟩ := rr.frz g
    exact q F2 H' v g2 d
theorem de_var {i : Nat} : DE K (tVar i) (eVar i) := fun B F H σ env r S fh bh e Q q => by
  unfold eVar at e
  split at e
  · rename_i d hd
    cases e
    obtain ⟨v, h1, h2⟩ := S.val hd
    exact ⟨v, h1, q F H v (Grow.refl fh) h2⟩
  · cases e
theorem de_c {v : V} {d : PyData} (h : ∀ F, Dp K F v d) : DE K (tC v) (eC d) := fun B F H σ env r S fh bh e Q q => by
  cases e
  exact q F H v (Grow.refl fh) (h F)
def RVD (K : PySem.W.Frag) (r : R2) (g : PyData → PyData → Option R) : Prop := ∀ (F H : Hp) (x y : V) (dx dy : PyData) (r' : R), Same F H → Dp K F x dx → Dp K F y dy → g dx dy = some r' →
  ∀ Q : VK, (∀ F' H' v, Grow F H F' H' → RepR K F' H H' v r' → Q v H') → r x y H Q
def RUD (K : PySem.W.Frag) (r : V → Hp → VK → Prop) (g : PyData → Option R) : Prop := ∀ (F H : Hp) (x : V) (dx : PyData) (r' : R), Same F H → Dp K F x dx → g dx = some r' →
  ∀ Q : VK, (∀ F' H' v, Grow F H F' H' → RepR K F' H H' v r' → Q v H') → r x H Q
def RCD (K : PySem.W.Frag) (r : List V → Hp → VK → Prop) (g : List PyData → Option R) : Prop := ∀ (F H : Hp) (vs : List V) (ds : List PyData) (r' : R), Same F H → DpAll K F vs ds → g ds = some r' →
  ∀ Q : VK, (∀ F' H' v, Grow F H F' H' → RepR K F' H H' v r' → Q v H') → r vs H Q
/-- a result is seen from further back -/
theorem RepR.back {F H F1 H1 F2 H2 : Hp} {v : V} {r : R} (g1 : Grow F H F1 H1) (h : RepR K F2 H1 H2 v r) : RepR K F2 H H2 v r := by
  cases r with
  | val d => exact h
  | own ds =>
    obtain ⟨p, xs, e, a, b, c, d⟩ := h
    exact ⟨p, xs, e, a, g1.h.free b, c, d⟩
  | own3 as bs cs =>
    obtain ⟨p, a, b, c, xs, ys, zs, rfl, p1, p2, p3, ⟨a1, a2, a3, a4⟩, ⟨b1, b2, b3, b4⟩, ⟨c1, c2, c3, c4⟩, n⟩ := h
    exact ⟨p, a, b, c, xs, ys, zs, rfl, p1, g1.h.free p2, p3, ⟨a1, g1.h.free a2, a3, a4⟩, ⟨b1, g1.h.free b2, b3, b4⟩, ⟨c1, g1.h.free c2, c3, c4⟩, n⟩
theorem de_bin {r : R2} {g : PyData → PyData → Option R} {ta tb : TE} {f1 f2 : EF} (hr : RVD K r g) (h1 : DE K ta f1) (h2 : DE K tb f2) : DE K (tOp r ta tb) (eBin g f1 f2) := fun B F H σ env r' S fh bh e Q q => by
  obtain ⟨a, ea, e⟩ := bnd e
  obtain ⟨b, eb, e⟩ := bnd e
  refine h1.z S fh bh ea fun F1 H1 x g1 d1 => ?_
  refine h2.z (S.grow g1) g1.i (bh.trans g1.h) eb fun F2 H2 y g2 d2 => ?_
  refine hr F2 H2 x y _ _ r' g2.i (dp_mono g2.f d1) d2 e Q fun F3 H3 v g3 rr => ?_
  exact q F3 H3 v ((g1.trans g2).trans g3) (rr.back (g1.trans g2))
theorem de_un {r : V → Hp → VK → Prop} {g : PyData → Option R} {ta : TE} {f : EF} (hr : RUD K r g) (h1 : DE K ta f) : DE K (tUn r ta) (eUn g f) := fun B F H σ env r' S fh bh e Q q => by
  obtain ⟨a, ea, e⟩ := bnd e
  refine h1.z S fh bh ea fun F1 H1 x g1 d1 => ?_
  refine hr F1 H1 x _ r' g1.i d1 e Q fun F3 H3 v g3 rr => ?_
  exact q F3 H3 v (g1.trans g3) (rr.back g1)
theorem da_nil : DA K tNil aNil := fun B F H σ env ds S fh bh e Q q => by
  cases e
  exact q F H [] (Grow.refl fh) .nil
theorem da_cons {te : TE} {t : TA} {f : EF} {g : AF} (h1 : DE K te f) (h2 : DA K t g) : DA K (tCons te t) (aCons f g) := fun B F H σ env ds S fh bh e Q q => by
  obtain ⟨a, ea, e⟩ := bnd e
  obtain ⟨b, eb, e⟩ := bnd e
  cases e
  refine h1.z S fh bh ea fun F1 H1 x g1 d1 => ?_
  refine h2 B F1 H1 σ env b (S.grow g1) g1.i (bh.trans g1.h) eb _ fun F2 H2 vs g2 d2 => ?_
  exact q F2 H2 (x :: vs) (g1.trans g2) (.cons (dp_mono g2.f d1) d2)
theorem sz1000 {n : Nat} (h : n ≤ 1000) : n ≤ sizeLine := Nat.le_of_lt (small1000 h)
theorem de_tup {t : TA} {g : AF} (h : DA K t g) : DE K (tTup t) (eTup g) := fun B F H σ env r S fh bh e Q q => by
  obtain ⟨ds, ea, e⟩ := bnd e
  split at e
  · rename_i hl
    cases e
    refine h B F H σ env ds S fh bh ea _ fun F1 H1 vs g1 d1 => ⟨by rw [DpAll.len d1]; exact sz1000 hl, fun p hp => ?_⟩
    have g2 : Grow F H F1 (upd H1 p (.tup vs)) := g1.trans (Grow.new g1.i hp)
    have hf : F1 p = none := g1.i.free hp
    exact q _ _ _ (g2.frz (g1.h.free hp) hf upd_same) (.tup (.inl (.inl upd_same)) (dpa_mono (same_upd hf) d1))
  · cases e
theorem de_lst {t : TA} {g : AF} (h : DA K t g) : DE K (tLst t) (eLst g) := fun B F H σ env r S fh bh e Q q => by
  obtain ⟨ds, ea, e⟩ := bnd e
  split at e
  · rename_i hl
    cases e
    refine h B F H σ env ds S fh bh ea _ fun F1 H1 vs g1 d1 => ⟨by rw [DpAll.len d1]; exact sz1000 hl, fun p hp => ?_⟩
    have g2 : Grow F H F1 (upd H1 p (.lst vs)) := g1.trans (Grow.new g1.i hp)
    exact q _ _ _ g2 ⟨p, vs, rfl, g1.i.free hp, g1.h.free hp, upd_same, d1⟩
  · cases e
theorem de_cb {r : List V → Hp → VK → Prop} {g : List PyData → Option R} {t : TA} {a : AF} (hr : RCD K r g) (h : DA K t a) : DE K (tCB r t) (eCall g a) := fun B F H σ env r' S fh bh e Q q => by
  obtain ⟨ds, ea, e⟩ := bnd e
  refine h B F H σ env ds S fh bh ea _ fun F1 H1 vs g1 d1 => ?_
  refine hr F1 H1 vs ds r' g1.i d1 e Q fun F3 H3 v g3 rr => ?_
  exact q F3 H3 v (g1.trans g3) (rr.back g1)
theorem toB_some {d : PyData} {b : Bool} (h : toB d = some b) : d = .bool b := by
  cases d <;> cases h
  rfl
theorem dt_test {te : TE} {f : EF} (h : DE K te f) : DT K (tTest te) (tE f) := fun B F H σ env b S fh bh e Q q => by
  obtain ⟨a, ea, e⟩ := bnd e
  refine h.z S fh bh ea fun F1 H1 x g1 d1 => ?_
  rw [toB_some e] at d1
  cases d1
  exact ⟨b, rfl, q F1 H1 g1⟩
theorem dt_B {te : TE} {f : EF} (h : DE K te f) : DT K (tB te) (tE f) := dt_test h
theorem dt_and {t u : TT} {f g : TF} (h1 : DT K t f) (h2 : DT K u g) : DT K (tAnd t u) (tAndD f g) := fun B F H σ env b S fh bh e Q q => by
  obtain ⟨a, ea, e⟩ := bnd e
  refine h1 B F H σ env a S fh bh ea _ fun F1 H1 g1 => ?_
  cases a with
  | true => exact iteT (h2 B F1 H1 σ env b (S.grow g1) g1.i (bh.trans g1.h) e Q fun F2 H2 g2 => q F2 H2 (g1.trans g2))
  | false =>
    cases e
    exact iteF (q F1 H1 g1)
theorem dt_or {t u : TT} {f g : TF} (h1 : DT K t f) (h2 : DT K u g) : DT K (tOr t u) (tOrD f g) := fun B F H σ env b S fh bh e Q q => by
  obtain ⟨a, ea, e⟩ := bnd e
  refine h1 B F H σ env a S fh bh ea _ fun F1 H1 g1 => ?_
  cases a with
  | false => exact iteF (h2 B F1 H1 σ env b (S.grow g1) g1.i (bh.trans g1.h) e Q fun F2 H2 g2 => q F2 H2 (g1.trans g2))
  | true =>
    cases e
    exact iteT (q F1 H1 g1)
theorem dt_not {t : TT} {f : TF} (h1 : DT K t f) : DT K (tNot t) (tNotD f) := fun B F H σ env b S fh bh e Q q => by
  obtain ⟨a, ea, e⟩ := bnd e
  cases e
  exact h1 B F H σ env a S fh bh ea _ fun F1 H1 g1 => q F1 H1 g1
/-- and, or, not as values -/
theorem de_andV {ta tb : TE} {f g : EF} (h1 : DE K ta f) (h2 : DE K tb g) : DE K (tAndV ta tb) (eIf (tE f) g (eC (.bool false))) := fun B F H σ env r S fh bh e Q q => by
  obtain ⟨a, ea, e⟩ := bnd e
  obtain ⟨w, ew, ea⟩ := bnd ea
  refine h1.z S fh bh ew fun F1 H1 x g1 d1 => ?_
  rw [toB_some ea] at d1
  cases d1
  refine ⟨a, rfl, ?_⟩
  cases a with
  | true => exact iteT (h2 B F1 H1 σ env r (S.grow g1) g1.i (bh.trans g1.h) e Q fun F2 H2 v g2 rr => q F2 H2 v (g1.trans g2) (rr.back g1))
  | false =>
    cases e
    exact iteF (q F1 H1 _ g1 (.bl false))
theorem de_orV {ta tb : TE} {f g : EF} (h1 : DE K ta f) (h2 : DE K tb g) : DE K (tOrV ta tb) (eIf (tE f) (eC (.bool true)) g) := fun B F H σ env r S fh bh e Q q => by
  obtain ⟨a, ea, e⟩ := bnd e
  obtain ⟨w, ew, ea⟩ := bnd ea
  refine h1.z S fh bh ew fun F1 H1 x g1 d1 => ?_
  rw [toB_some ea] at d1
  cases d1
  refine ⟨a, rfl, ?_⟩
  cases a with
  | false => exact iteF (h2 B F1 H1 σ env r (S.grow g1) g1.i (bh.trans g1.h) e Q fun F2 H2 v g2 rr => q F2 H2 v (g1.trans g2) (rr.back g1))
  | true =>
    cases e
    exact iteT (q F1 H1 _ g1 (.bl true))
theorem de_notV {ta : TE} {f : EF} (h1 : DE K ta f) : DE K (tNotV ta) (eT (tNotD (tE f))) := fun B F H σ env r S fh bh e Q q => by
  obtain ⟨a, ea, e⟩ := bnd e
  obtain ⟨c, ec, ea⟩ := bnd ea
  obtain ⟨w, ew, ec⟩ := bnd ec
  cases e
  cases ea
  refine h1.z S fh bh ew fun F1 H1 x g1 d1 => ?_
  rw [toB_some ec] at d1
  cases d1
  exact ⟨c, rfl, q F1 H1 _ g1 (.bl _)⟩
theorem de_ifE {c : TT} {ta tb : TE} {t : TF} {f g : EF} (hc : DT K c t) (h1 : DE K ta f) (h2 : DE K tb g) : DE K (tIf c ta tb) (eIf t f g) := fun B F H σ env r S fh bh e Q q => by
  obtain ⟨a, ea, e⟩ := bnd e
  refine hc B F H σ env a S fh bh ea _ fun F1 H1 g1 => ?_
  cases a with
  | true => exact iteT (h1 B F1 H1 σ env r (S.grow g1) g1.i (bh.trans g1.h) e Q fun F2 H2 v g2 rr => q F2 H2 v (g1.trans g2) (rr.back g1))
  | false => exact iteF (h2 B F1 H1 σ env r (S.grow g1) g1.i (bh.trans g1.h) e Q fun F2 H2 v g2 rr => q F2 H2 v (g1.trans g2) (rr.back g1))

/-! ### peeking at owned lists -/
end
@[simp] def unown : Sl → Sl
  | .own ds => .val (.list ds)
  | s => s
@[simp] def flat : PyData → Bool
  | .list _ => false
  | .tuple _ => false
  | .dict _ => false
  | _ => true
@[simp] def flatR : R → Bool
  | .val d => flat d
  | .own ds => ds.all flat
  | .own3 _ _ _ => false
/-- the expression reads owned lists and gives no object, or a new list without objects -/
@[simp] def ePeek (f : EF) : EF := fun env => (f (env.map unown)).bind fun r => if flatR r = true then some r else none
@[simp] def tPeek (f : TF) : TF := fun env => f (env.map unown)
section
variable {K : PySem.W.Frag}
theorem dp_flat {F F' : Hp} {v : V} {d : PyData} (h : Dp K F v d) (hf : flat d = true) : Dp K F' v d := by
  cases h with
  | non => exact .non
  | bl b => exact .bl b
  | int i => exact .int i
  | str x => exact .str x
  | lst _ _ => cases hf
  | tup _ _ => cases hf
theorem dpa_flat {F F' : Hp} : ∀ {vs : List V} {ds : List PyData}, DpAll K F vs ds → ds.all flat = true → DpAll K F' vs ds
  | _, _, .nil, _ => .nil
  | _, _, .cons h t, e => by
    rw [List.all_cons, Bool.and_eq_true] at e
    exact .cons (dp_flat h e.1) (dpa_flat t e.2)
/-- the first n slots are frozen -/
theorem Slots.unownN {B F H : Hp} {σ : L2.St} {env : En} (S : Slots K B F H σ env) (fh : Same F H) : ∀ n : Nat, ∃ (F2 : Hp) (e2 : En), Same F F2 ∧ Same F2 H ∧ Slots K B F2 H σ e2 ∧ e2.length = env.length ∧ ∀ i, e2[i]? = if i < n then (env[i]?).map unown else env[i]?
  | 0 => ⟨F, env, Same.refl F, fh, S, rfl, fun i => by rw [if_neg (Nat.not_lt_zero i)]⟩
  | n + 1 => by
    obtain ⟨F2, e2, a, b, c, d, g⟩ := Slots.unownN S fh n
    have same : (∀ ds, env[n]? ≠ some (.own ds)) → ∀ i, e2[i]? = if i < n + 1 then (env[i]?).map unown else env[i]? := fun hn i => by
      rw [g i]
      by_cases h1 : i < n
      · rw [if_pos h1, if_pos (by omega)]
      · rw [if_neg h1]
        by_cases h2 : i = n
        · subst h2
          rw [if_pos (by omega)]
          cases q : env[i]? with
          | none => rfl
          | some s =>
            cases s with
            | no => rfl
            | val d => rfl
            | own ds => exact absurd q (hn ds)
        · rw [if_neg (by omega)]
    cases q : env[n]? with
    | none => exact ⟨F2, e2, a, b, c, d, same (fun ds z => by rw [q] at z; cases z)⟩
    | some s =>
      cases s with
      | no => exact ⟨F2, e2, a, b, c, d, same (fun ds z => by rw [q] at z; cases z)⟩
      | val x => exact ⟨F2, e2, a, b, c, d, same (fun ds z => by rw [q] at z; cases z)⟩
      | own ds =>
        have q2 : e2[n]? = some (.own ds) := by rw [g n, if_neg (Nat.lt_irrefl n), q]
        obtain ⟨F3, a3, b3, _, c3⟩ := c.freeze b q2
        refine ⟨F3, e2.set n (.val (.list ds)), a.trans a3, b3, c3, by rw [List.length_set, d], fun i => ?_⟩
        by_cases h2 : n = i
        · subst h2
          rw [if_pos (by omega), q, List.getElem?_set_self (List.getElem?_eq_some_iff.mp q2).1]
          rfl
        · rw [List.getElem?_set_ne h2, g i]
          by_cases h1 : i < n
          · rw [if_pos h1, if_pos (by omega)]
          · rw [if_neg h1, if_neg (by omega)]
theorem Slots.unown {B F H : Hp} {σ : L2.St} {env : En} (S : Slots K B F H σ env) (fh : Same F H) : ∃ F2 : Hp, Same F F2 ∧ Same F2 H ∧ Slots K B F2 H σ (env.map Dn.unown) := by
  obtain ⟨F2, e2, a, b, c, d, g⟩ := Slots.unownN S fh env.length
  have e : e2 = env.map Dn.unown := by
    refine List.ext_getElem? fun i => ?_
    rw [g i, List.getElem?_map]
    split
    · rfl
    · rename_i h
      rw [List.getElem?_eq_none (by omega)]
      rfl
  exact ⟨F2, a, b, e ▸ c⟩
theorem de_peek {te : TE} {f : EF} (h : DE K te f) : DE K te (ePeek f) := fun B F H σ env r S fh bh e Q q => by
  obtain ⟨r0, ea, e⟩ := bnd e
  split at e
  · rename_i hf
    cases e
    obtain ⟨F2, a, b, S2⟩ := S.unown fh
    refine h B F2 H σ _ r S2 b bh ea Q fun F3 H3 v g rr => q F H3 v ⟨Same.refl F, g.h, fh.trans g.h, fun _ _ z => z⟩ ?_
    cases r with
    | val d => exact dp_flat (show Dp K F3 v d from rr) hf
    | own ds =>
      obtain ⟨p, xs, e, h1, h2, h3, h4⟩ := rr
      exact ⟨p, xs, e, fh.free h2, h2, h3, dpa_flat h4 hf⟩
    | own3 as bs cs => cases hf
  · cases e
theorem dt_peek {tt : TT} {f : TF} (h : DT K tt f) : DT K tt (tPeek f) := fun B F H σ env b S fh bh e Q q => by
  obtain ⟨F2, x, y, S2⟩ := S.unown fh
  exact h B F2 H σ _ b S2 y bh e Q fun F3 H3 g => q F H3 ⟨Same.refl F, g.h, fh.trans g.h, fun _ _ z => z⟩
end
end Dn
namespace Dn
open PySem PySem.Spec PyProof.Rows L2

inductive Out where
  | nx (env : En)
  | rt (r : R)
  | bk (env : En)
  | ct (env : En)
abbrev SF := En → Option Out
/-- the longest list that is made here (not written out: a literal would be unfolded) -/
def Fits (n : Nat) : Prop := n ≤ 100000
noncomputable instance (n : Nat) : Decidable (Fits n) := Classical.propDecidable _
/-- the state within a def: F0, H0 at its entry -/
structure Sta (K : PySem.W.Frag) (F0 H0 F H : Hp) (σ : L2.St) (env : En) : Prop where
  g : Grow F0 H0 F H
  s : Slots K H0 F H σ env
def EndOk (K : PySem.W.Frag) (F0 H0 G : Hp) (D : Ends) : Out → Prop
  | .nx env => ∀ F H σ, Same G F → Sta K F0 H0 F H σ env → D.nx σ H
  | .rt r => ∀ F H v, Grow F0 H0 F H → RepR K F H0 H v r → D.rt v H
  | .bk env => ∀ F H σ, Same G F → Sta K F0 H0 F H σ env → D.bk σ H
  | .ct env => ∀ F H σ, Same G F → Sta K F0 H0 F H σ env → D.ct σ H
theorem EndOk.mono {K : PySem.W.Frag} {F0 H0 G G' : Hp} {D : Ends} {o : Out} (s : Same G G') (h : EndOk K F0 H0 G D o) : EndOk K F0 H0 G' D o := by
  cases o with
  | nx env => exact fun F H σ a b => h F H σ (s.trans a) b
  | rt r => exact h
  | bk env => exact fun F H σ a b => h F H σ (s.trans a) b
  | ct env => exact fun F H σ a b => h F H σ (s.trans a) b
def DS (K : PySem.W.Frag) (ts : TS) (f : SF) : Prop := ∀ (F0 H0 F H : Hp) (σ : L2.St) (env : En) (o : Out), Sta K F0 H0 F H σ env → f env = some o → ∀ D : Ends, EndOk K F0 H0 F D o → ts D σ H
structure SS (X : Cx) (st : Stmt) (ts : TS) (f : SF) : Prop where
  ps : PS X st ts
  ds : DS X.K ts f
structure SSs (X : Cx) (st : List Stmt) (ts : TS) (f : SF) : Prop where
  ps : PSs X st ts
  ds : DS X.K ts f

@[simp] def sNext : SF := fun env => some (.nx env)
def bindO (o : Option Out) (g : SF) : Option Out := match o with
  | some (.nx e) => g e
  | o => o
section
variable {g k : SF} {e : En} {r : R}
@[simp] theorem bindO_nx : bindO (some (.nx e)) g = g e := rfl
@[simp] theorem bindO_rt : bindO (some (.rt r)) g = some (.rt r) := rfl
@[simp] theorem bindO_bk : bindO (some (.bk e)) g = some (.bk e) := rfl
@[simp] theorem bindO_ct : bindO (some (.ct e)) g = some (.ct e) := rfl
@[simp] theorem bindO_no : bindO none g = none := rfl
theorem bindO_ite {c : Prop} [Decidable c] {x y : Option Out} : bindO (if c then x else y) g = if c then bindO x g else bindO y g := by split <;> rfl
/-- behind a loop's turn -/
def turnO (o : Option Out) (k : SF) : Option Out := match o with
  | some (.nx e) => k e
  | some (.ct e) => k e
  | some (.bk e) => some (.nx e)
  | some (.rt r) => some (.rt r)
  | none => none
@[simp] theorem turnO_nx : turnO (some (.nx e)) k = k e := rfl
@[simp] theorem turnO_ct : turnO (some (.ct e)) k = k e := rfl
@[simp] theorem turnO_bk : turnO (some (.bk e)) k = some (.nx e) := rfl
@[simp] theorem turnO_rt : turnO (some (.rt r)) k = some (.rt r) := rfl
@[simp] theorem turnO_no : turnO none k = none := rfl
theorem turnO_ite {c : Prop} [Decidable c] {x y : Option Out} : turnO (if c then x else y) k = if c then turnO x k else turnO y k := by split <;> rfl
end
@[simp] def sSeq (f g : SF) : SF := fun env => bindO (f env) g
@[simp] def sRet (f : EF) : SF := fun env => (f env).bind fun r => some (.rt r)
@[simp] def sRetN : SF := fun _ => some (.rt (.val .none))
@[simp] def sRetOwn (i : Nat) : SF := fun env => match env[i]? with
  | some (.own ds) => some (.rt (.own ds))
  | _ => none
@[simp] def sBreak : SF := fun env => some (.bk env)
@[simp] def sCont : SF := fun env => some (.ct env)
@[simp] def sIf (c : TF) (f g : SF) : SF := fun env => (c env).bind fun b => if b = true then f env else g env
@[simp] def sSet (i : Nat) (f : EF) : SF := fun env => (f env).bind fun r => some (.nx (env.set i r.sl))
@[simp] def sDrop (f : EF) : SF := fun env => (f env).bind fun _ => some (.nx env)
@[simp] noncomputable def sAppend (i : Nat) (f : EF) : SF := fun env => match env[i]? with
  | some (.own ds) => (f env).bind fun r => if Fits (ds.length + 1) then some (.nx (env.set i (.own (ds ++ [r.frz])))) else none
  | _ => none
def ixD (ds : List PyData) (k : Int) : Option Nat := ixN ds.length k
@[simp] def sPut (i : Nat) (fi fv : EF) : SF := fun env => match env[i]? with
  | some (.own ds) => (fv env).bind fun r => (fi env).bind fun k => match k.frz with
    | .int k => (ixN ds.length k).bind fun j => some (.nx (env.set i (.own (ds.set j r.frz))))
    | _ => none
  | _ => none
/-- a ghost's step: an owned list is frozen -/
@[simp] def frzAt (i : Nat) (env : En) : En := match env[i]? with
  | some (.own ds) => env.set i (.val (.list ds))
  | _ => env
@[simp] def sFrz (i : Nat) (f : SF) : SF := fun env => f (frzAt i env)

section
variable {K : PySem.W.Frag} {F0 H0 F H F' H' : Hp} {σ : L2.St} {env : En}
theorem Sta.fh (S : Sta K F0 H0 F H σ env) : Same F H := S.g.i
theorem Sta.bh (S : Sta K F0 H0 F H σ env) : Same H0 H := S.g.h
theorem Sta.grow (S : Sta K F0 H0 F H σ env) (g : Grow F H F' H') : Sta K F0 H0 F' H' σ env := ⟨S.g.trans g, S.s.grow g⟩
theorem DE.at {te : TE} {f : EF} (h : DE K te f) (S : Sta K F0 H0 F H σ env) {r : R} (e : f env = some r) {Q : VK} (q : ∀ F' H' v, Grow F H F' H' → RepR K F' H H' v r → Q v H') : te σ H Q := h H0 F H σ env r S.s S.fh S.bh e Q q
theorem DE.atZ {te : TE} {f : EF} (h : DE K te f) (S : Sta K F0 H0 F H σ env) {r : R} (e : f env = some r) {Q : VK} (q : ∀ F' H' v, Grow F H F' H' → Dp K F' v r.frz → Q v H') : te σ H Q := h.z S.s S.fh S.bh e q
theorem ds_next : DS K tNext sNext := fun F0 H0 F H σ env o S e D q => by
  cases e
  exact q F H σ (Same.refl F) S
theorem ds_seq {t u : TS} {f g : SF} (h1 : DS K t f) (h2 : DS K u g) : DS K (tSeq t u) (sSeq f g) := fun F0 H0 F H σ env o S e D q => by
  unfold sSeq at e
  cases e1 : f env with
  | none =>
    rw [e1, bindO_no] at e
    cases e
  | some o1 =>
    rw [e1] at e
    refine h1 F0 H0 F H σ env o1 S e1 _ ?_
    cases o1 with
    | nx env1 => exact fun F1 H1 σ1 s1 S1 => h2 F0 H0 F1 H1 σ1 env1 o S1 e D (q.mono s1)
    | rt r =>
      rw [bindO_rt] at e
      cases e
      exact q
    | bk env1 =>
      rw [bindO_bk] at e
      cases e
      exact q
    | ct env1 =>
      rw [bindO_ct] at e
      cases e
      exact q
theorem ds_ret {te : TE} {f : EF} (h : DE K te f) : DS K (tRet te) (sRet f) := fun F0 H0 F H σ env o S e D q => by
  obtain ⟨r, er, e⟩ := bnd e
  cases e
  exact h.at S er fun F' H' v g rr => q F' H' v (S.g.trans g) (rr.back S.g)
theorem ds_retN : DS K tRetN sRetN := fun F0 H0 F H σ env o S e D q => by
  cases e
  exact q F H _ S.g .non
theorem ds_retOwn {i : Nat} : DS K (tRet (tVar i)) (sRetOwn i) := fun F0 H0 F H σ env o S e D q => by
  unfold sRetOwn at e
  split at e
  · rename_i ds hd
    cases e
    obtain ⟨p, xs, h1, h0, h2, h3, h4⟩ := S.s.own hd
    exact ⟨_, h1, q F H _ S.g ⟨p, xs, rfl, h2, h0, h3, h4⟩⟩
  · cases e
theorem ds_break : DS K tBreak sBreak := fun F0 H0 F H σ env o S e D q => by
  cases e
  exact q F H σ (Same.refl F) S
theorem ds_cont : DS K tCont sCont := fun F0 H0 F H σ env o S e D q => by
  cases e
  exact q F H σ (Same.refl F) S
theorem ds_if {c : TT} {t u : TS} {b : TF} {f g : SF} (hc : DT K c b) (h1 : DS K t f) (h2 : DS K u g) : DS K (tIfS c t u) (sIf b f g) := fun F0 H0 F H σ env o S e D q => by
  obtain ⟨a, ea, e⟩ := bnd e
  refine hc H0 F H σ env a S.s S.fh S.bh ea _ fun F1 H1 g1 => ?_
  cases a with
  | true => exact iteT (h1 F0 H0 F1 H1 σ env o (S.grow g1) e D (q.mono g1.f))
  | false => exact iteF (h2 F0 H0 F1 H1 σ env o (S.grow g1) e D (q.mono g1.f))
theorem ds_set {te : TE} {f : EF} {i : Nat} (h : DE K te f) : DS K (tAsg te (gName i)) (sSet i f) := fun F0 H0 F H σ env o S e D q => by
  obtain ⟨r, er, e⟩ := bnd e
  cases e
  exact h.at S er fun F' H' v g rr => q F' H' _ g.f ⟨S.g.trans g, S.s.put S.bh g rr⟩
theorem ds_drop {te : TE} {f : EF} (h : DE K te f) : DS K (tDrop te) (sDrop f) := fun F0 H0 F H σ env o S e D q => by
  obtain ⟨r, er, e⟩ := bnd e
  cases e
  exact h.at S er fun F' H' v g rr => q F' H' _ g.f (S.grow g)
/-- an owned list is turned within the def -/
theorem Sta.turn (S : Sta K F0 H0 F H σ env) {i : Nat} {p : Addr} {ds es : List PyData} {ys : List V} (e : env[i]? = some (.own ds)) (hp : σ[i]? = some (some (.ref p))) (hy : DpAll K F ys es) : Sta K F0 H0 F (upd H p (.lst ys)) σ (env.set i (.own es)) := by
  obtain ⟨p', xs, h1, h0, h2, h3, h4⟩ := S.s.own e
  rw [hp] at h1
  cases h1
  exact ⟨⟨S.g.f, same_updF S.bh h0, same_updF S.fh h2, S.g.n⟩, S.s.turn e hp hy⟩
theorem ds_append {te : TE} {f : EF} {i : Nat} (h : DE K te f) : DS K (tDrop (tBM K "list" rAppend (tVar i) (tCons te tNil))) (sAppend i f) := fun F0 H0 F H σ env o S e D q => by
  unfold sAppend at e
  split at e
  · rename_i ds hd
    obtain ⟨r, er, e⟩ := bnd e
    split at e
    · rename_i hl
      cases e
      obtain ⟨p, xs, h1, h0, h2, h3, h4⟩ := S.s.own hd
      refine ⟨_, h1, Or.inl ⟨rfl, _, .inl (.inl h3)⟩, h.atZ S er fun F' H' v g dv => ?_⟩
      have S' := S.grow g
      refine ⟨p, xs, v, rfl, rfl, g.h _ _ h3, by rw [DpAll.len h4]; exact Nat.lt_of_lt_of_le hl (by decide), ?_⟩
      exact q F' _ _ g.f (S'.turn hd h1 (DpAll.app (dpa_mono g.f h4) (.cons dv .nil)))
    · cases e
  · cases e
theorem ds_put {te ti : TE} {fi fv : EF} {i : Nat} (hv : DE K te fv) (hi : DE K ti fi) : DS K (tAsg te (gSub (tVar i) ti rSetL)) (sPut i fi fv) := fun F0 H0 F H σ env o S e D q => by
  unfold sPut at e
  split at e
  · rename_i ds hd
    obtain ⟨r, er, e⟩ := bnd e
    obtain ⟨k, ek, e⟩ := bnd e
    split at e
    · rename_i k' hk
      obtain ⟨j, ej, e⟩ := bnd e
      cases e
      obtain ⟨p, xs, h1, h0, h2, h3, h4⟩ := S.s.own hd
      refine hv.atZ S er fun F1 H1 v g1 dv => ⟨_, h1, ?_⟩
      have S1 := S.grow g1
      refine hi.atZ S1 ek fun F2 H2 kv g2 dk => ?_
      have S2 := S1.grow g2
      rw [hk] at dk
      cases dk
      have ln := DpAll.len h4
      refine ⟨p, xs, _, j, rfl, rfl, g2.h _ _ (g1.h _ _ h3), by rw [ln]; exact ej, ?_⟩
      exact q F2 _ _ (g1.f.trans g2.f) (S2.turn hd h1 (DpAll.set j (dpa_mono (g1.f.trans g2.f) h4) (dp_mono g2.f dv)))
    · cases e
  · cases e
theorem ds_frz {t : TS} {f : SF} {i : Nat} (h : DS K t f) : DS K t (sFrz i f) := fun F0 H0 F H σ env o S e D q => by
  unfold sFrz frzAt at e
  split at e
  · rename_i ds hd
    obtain ⟨F', a, b, c, d⟩ := S.s.freeze S.fh hd
    exact h F0 H0 F' H σ _ o ⟨⟨S.g.f.trans a, S.g.h, b, fun x hx hf => c x hx (S.g.n x hx hf)⟩, d⟩ e D (q.mono a)
  · exact h F0 H0 F H σ _ o S e D q
end

/-! ### targets -/
theorem wipe_set {σ : L2.St} {i : Nat} {x : Option V} : ∀ {vs : List Nat}, wipe (σ.set i x) vs = if i ∈ vs then wipe σ vs else (wipe σ vs).set i x
  | [] => by simp [wipe]
  | w :: vs => by
    unfold wipe
    rw [wipe_set (vs := vs)]
    by_cases h : i ∈ vs
    · rw [if_pos h, if_pos (List.mem_cons_of_mem _ h)]
    · rw [if_neg h]
      by_cases hw : i = w
      · subst hw
        rw [if_pos List.mem_cons_self, List.set_set]
      · rw [if_neg (by simp [hw, h]), List.set_comm _ _ hw]
theorem wipe_set_in {σ : L2.St} {i : Nat} {x : Option V} {vs : List Nat} (h : i ∈ vs) : wipe (σ.set i x) vs = wipe σ vs := by rw [wipe_set, if_pos h]
abbrev GF := PyData → En → Option En
/-- ws: the slots that it stores into -/
def DG (K : PySem.W.Frag) (ws : List Nat) (t : TG) (g : GF) : Prop := ∀ (B F H : Hp) (σ : L2.St) (env env' : En) (v : V) (d : PyData), Slots K B F H σ env → Same F H → Same B H → Dp K F v d → g d env = some env' →
  ∀ Q : L2.St → Hp → Prop, (∀ F' H' σ', Grow F H F' H' → Slots K B F' H' σ' env' → (∀ vs, (∀ i ∈ ws, i ∈ vs) → wipe σ' vs = wipe σ vs) → Q σ' H') → t v σ H Q
@[simp] def gtName (i : Nat) : GF := fun d env => some (env.set i (.val d))
@[simp] def gtTup2 (i j : Nat) : GF := fun d env => match d with
  | .tuple [a, b] => some ((env.set i (.val a)).set j (.val b))
  | _ => none
@[simp] def gtTup3 (i j k : Nat) : GF := fun d env => match d with
  | .tuple [a, b, c] => some (((env.set i (.val a)).set j (.val b)).set k (.val c))
  | _ => none
section
variable {K : PySem.W.Frag}
theorem Slots.putV {B F H : Hp} {σ : L2.St} {env : En} {v : V} {d : PyData} {i : Nat} (S : Slots K B F H σ env) (fh : Same F H) (bh : Same B H) (h : Dp K F v d) : Slots K B F H (σ.set i (some v)) (env.set i (.val d)) := S.put bh (Grow.refl fh) (r := .val d) h
theorem dg_name {i : Nat} : DG K [i] (gName i) (gtName i) := fun B F H σ env env' v d S fh bh h e Q q => by
  cases e
  exact q F H _ (Grow.refl fh) (S.putV fh bh h) fun vs hv => wipe_set_in (hv i (by simp))
theorem dg_tup2 {i j : Nat} : DG K [i, j] (gTup K 2 (gCons (gName i) (gCons (gName j) gNil))) (gtTup2 i j) := fun B F H σ env env' v d S fh bh h e Q q => by
  unfold gtTup2 at e
  split at e
  · cases e
    cases h with
    | tup hs ha =>
      cases ha with
      | cons a1 ha =>
        cases ha with
        | cons a2 ha =>
          cases ha
          refine ⟨_, _, rfl, sqT_mono fh hs, rfl, _, _, rfl, _, _, rfl, rfl, q F H _ (Grow.refl fh) ((S.putV fh bh a1).putV fh bh a2) fun vs hv => ?_⟩
          rw [wipe_set_in (hv j (by simp)), wipe_set_in (hv i (by simp))]
  · cases e
theorem dg_tup3 {i j k : Nat} : DG K [i, j, k] (gTup K 3 (gCons (gName i) (gCons (gName j) (gCons (gName k) gNil)))) (gtTup3 i j k) := fun B F H σ env env' v d S fh bh h e Q q => by
  unfold gtTup3 at e
  split at e
  · cases e
    cases h with
    | tup hs ha =>
      cases ha with
      | cons a1 ha =>
        cases ha with
        | cons a2 ha =>
          cases ha with
          | cons a3 ha =>
            cases ha
            refine ⟨_, _, rfl, sqT_mono fh hs, rfl, _, _, rfl, _, _, rfl, _, _, rfl, rfl, q F H _ (Grow.refl fh) (((S.putV fh bh a1).putV fh bh a2).putV fh bh a3) fun vs hv => ?_⟩
            rw [wipe_set_in (hv k (by simp)), wipe_set_in (hv j (by simp)), wipe_set_in (hv i (by simp))]
  · cases e
@[simp] def sAsg (g : GF) (f : EF) : SF := fun env => (f env).bind fun r => (g r.frz env).bind fun e => some (.nx e)
theorem ds_asg {te : TE} {f : EF} {t : TG} {g : GF} {ws : List Nat} (h : DE K te f) (hg : DG K ws t g) : DS K (tAsg te t) (sAsg g f) := fun F0 H0 F H σ env o S e D q => by
  obtain ⟨r, er, e⟩ := bnd e
  obtain ⟨e1, ee, e⟩ := bnd e
  cases e
  exact h.atZ S er fun F' H' v g1 dv => hg H0 F' H' σ env e1 v _ (S.grow g1).s g1.i (S.grow g1).bh dv ee _ fun F2 H2 σ2 g2 S2 _ => q F2 H2 σ2 (g1.f.trans g2.f) ⟨(S.g.trans g1).trans g2, S2⟩
end

/-! ### what is walked -/
abbrev IF := En → Option (List PyData)
/-- an iterator that gives ds in order, whatever has grown meanwhile -/
def Walks (K : PySem.W.Frag) (F : Hp) (J : It) (ds : List PyData) : Prop := ∀ (i : Nat) (F1 H1 : Hp), Same F F1 → Same F1 H1 →
  (ds[i]? = none → i = ds.length → J.stop i H1) ∧ ∀ d, ds[i]? = some d → J.go i H1 ∧ ∀ x H2, J.yld i H1 x H2 → ∃ F2, Grow F1 H1 F2 H2 ∧ Dp K F2 x d
def DI (K : PySem.W.Frag) (wi : TI) (f : IF) : Prop := ∀ (B F H : Hp) (σ : L2.St) (env : En) (ds : List PyData), Slots K B F H σ env → Same F H → Same B H → f env = some ds →
  ∀ R : It → Hp → Prop, (∀ F' H' J, Grow F H F' H' → Walks K F' J ds → R J H') → wi σ H R
@[simp] def iL (f : EF) : IF := fun env => (f env).bind fun r => match r.frz with
  | .list ds => some ds
  | _ => none
@[simp] def iT (f : EF) : IF := fun env => (f env).bind fun r => match r.frz with
  | .tuple ds => some ds
  | _ => none
def intsFrom (lo : Int) : Nat → List PyData
  | 0 => []
  | n + 1 => .int lo :: intsFrom (lo + 1) n
/-- a range's bounds -/
def InR (n : Int) : Prop := -(2 ^ 62) ≤ n ∧ n < 2 ^ 62
noncomputable instance (n : Int) : Decidable (InR n) := Classical.propDecidable _
@[simp] noncomputable def iR1 (t : AF) : IF := fun env => (t env).bind fun ds => match ds with
  | [.int n] => if InR n then some (intsFrom 0 n.toNat) else none
  | _ => none
@[simp] noncomputable def iR2 (t : AF) : IF := fun env => (t env).bind fun ds => match ds with
  | [.int a, .int b] => if InR a ∧ InR b then some (intsFrom a (b - a).toNat) else none
  | _ => none
theorem intsFrom_len : ∀ (n : Nat) (lo : Int), (intsFrom lo n).length = n
  | 0, _ => rfl
  | n + 1, lo => by
    show (intsFrom (lo + 1) n).length + 1 = n + 1
    rw [intsFrom_len n]
theorem intsFrom_get : ∀ (n : Nat) (lo : Int) (i : Nat), i < n → (intsFrom lo n)[i]? = some (.int (lo + i))
  | 0, _, _, h => absurd h (Nat.not_lt_zero _)
  | n + 1, lo, 0, _ => by
    show some (PyData.int lo) = _
    simp
  | n + 1, lo, i + 1, h => by
    show (intsFrom (lo + 1) n)[i]? = _
    rw [intsFrom_get n (lo + 1) i (by omega)]
    congr 2
    omega
section
variable {K : PySem.W.Frag}
theorem walks_list {F : Hp} {a : Addr} {xs : List V} {ds : List PyData} (h : SqL K F a xs) (hd : DpAll K F xs ds) (uq : ∀ H1, Same F H1 → ∀ ys, SqL K H1 a ys → ys = xs) : Walks K F (Itl K a) ds := fun i F1 H1 s1 s2 => by
  have hl := DpAll.len hd
  refine ⟨fun _ e => ⟨xs, sqL_mono (s1.trans s2) h, by omega⟩, fun d e => ?_⟩
  obtain ⟨v, e1, h1⟩ := DpAll.get hd e
  refine ⟨⟨xs, v, sqL_mono (s1.trans s2) h, e1⟩, fun x H2 y => ?_⟩
  obtain ⟨rfl, y⟩ := y
  have e2 := y xs (sqL_mono (s1.trans s2) h)
  rw [e1] at e2
  cases e2
  exact ⟨F1, Grow.refl s2, dp_mono s1 h1⟩
theorem di_list {tl : TE} {f : EF} (h : DE K tl f) : DI K (iList K tl) (iL f) := fun B F H σ env ds S fh bh e R q => by
  obtain ⟨r, er, e⟩ := bnd e
  refine h.z S fh bh er fun F1 H1 v g d => ?_
  split at e
  · rename_i es he
    cases e
    rw [he] at d
    cases d with
    | lst hs ha =>
      refine ⟨_, rfl, ⟨_, sqL_mono g.i hs⟩, q F1 H1 _ g fun i F2 H2 s1 s2 => ?_⟩
      have hl := DpAll.len ha
      refine ⟨fun _ e => ⟨_, sqL_mono (s1.trans s2) hs, by omega⟩, fun d e => ?_⟩
      obtain ⟨w, e1, h1⟩ := DpAll.get ha e
      refine ⟨⟨_, w, sqL_mono (s1.trans s2) hs, e1⟩, fun x H3 y => ?_⟩
      obtain ⟨rfl, y⟩ := y
      have e2 := y _ (sqL_mono (s1.trans s2) hs)
      rw [e1] at e2
      cases e2
      exact ⟨F2, Grow.refl s2, dp_mono s1 h1⟩
  · cases e
theorem di_tup {tl : TE} {f : EF} (h : DE K tl f) : DI K (iTup K tl) (iT f) := fun B F H σ env ds S fh bh e R q => by
  obtain ⟨r, er, e⟩ := bnd e
  refine h.z S fh bh er fun F1 H1 v g d => ?_
  split at e
  · rename_i es he
    cases e
    rw [he] at d
    cases d with
    | tup hs ha =>
      refine ⟨_, rfl, ⟨_, sqT_mono g.i hs⟩, q F1 H1 _ g fun i F2 H2 s1 s2 => ?_⟩
      have hl := DpAll.len ha
      refine ⟨fun _ e => ⟨_, sqT_mono (s1.trans s2) hs, by omega⟩, fun d e => ?_⟩
      obtain ⟨w, e1, h1⟩ := DpAll.get ha e
      refine ⟨⟨_, w, sqT_mono (s1.trans s2) hs, e1⟩, fun x H3 y => ?_⟩
      obtain ⟨rfl, y⟩ := y
      have e2 := y _ (sqT_mono (s1.trans s2) hs)
      rw [e1] at e2
      cases e2
      exact ⟨F2, Grow.refl s2, dp_mono s1 h1⟩
  · cases e
theorem walks_rng {F : Hp} (lo : Int) (n : Nat) : Walks K F (Itr lo n) (intsFrom lo n) := fun i F1 H1 s1 s2 => by
  refine ⟨fun _ e => by rw [intsFrom_len] at e; exact Nat.le_of_eq e.symm, fun d e => ?_⟩
  have hi : i < n := by
    have := (List.getElem?_eq_some_iff.mp e).1
    rw [intsFrom_len] at this
    exact this
  rw [intsFrom_get n lo i hi] at e
  cases e
  refine ⟨hi, fun x H2 y => ?_⟩
  obtain ⟨rfl, rfl⟩ := y
  exact ⟨F1, Grow.refl s2, .int _⟩
theorem di_r1 {ta : TA} {t : AF} (h : DA K ta t) : DI K (iRng1 ta) (iR1 t) := fun B F H σ env ds S fh bh e R q => by
  obtain ⟨as, ea, e⟩ := bnd e
  split at e
  · split at e
    · rename_i n hn
      cases e
      refine h B F H σ env _ S fh bh ea _ fun F1 H1 vs g d => ?_
      cases d with
      | cons d1 d2 =>
        cases d1
        cases d2
        exact ⟨n, rfl, hn.1, hn.2, q F1 H1 _ g (walks_rng 0 n.toNat)⟩
    · cases e
  · cases e
theorem di_r2 {ta : TA} {t : AF} (h : DA K ta t) : DI K (iRng2 ta) (iR2 t) := fun B F H σ env ds S fh bh e R q => by
  obtain ⟨as, ea, e⟩ := bnd e
  split at e
  · split at e
    · rename_i a b hn
      cases e
      refine h B F H σ env _ S fh bh ea _ fun F1 H1 vs g d => ?_
      cases d with
      | cons d1 d2 =>
        cases d1
        cases d2 with
        | cons d1 d2 =>
          cases d1
          cases d2
          exact ⟨a, b, rfl, ⟨hn.1.1, hn.1.2, hn.2.1, hn.2.2⟩, q F1 H1 _ g (walks_rng a (b - a).toNat)⟩
    · cases e
  · cases e

/-! ### for, while, comprehensions -/
@[simp] def forD (g : GF) (body : SF) : List PyData → SF
  | [], env => some (.nx env)
  | d :: ds, env => (g d env).bind fun e1 => turnO (body e1) (forD g body ds)
@[simp] def sFor (it : IF) (g : GF) (body : SF) : SF := fun env => (it env).bind fun ds => forD g body ds env
theorem ds_for {wi : TI} {it : IF} {t : TG} {g : GF} {ws : List Nat} {tb : TS} {body : SF} (hi : DI K wi it) (hg : DG K ws t g) (hb : DS K tb body) : DS K (tFor wi t tb) (sFor it g body) := fun F0 H0 F H σ env o S e D q => by
  obtain ⟨ds, ed, e⟩ := bnd e
  refine hi H0 F H σ env ds S.s S.fh S.bh ed _ fun F1 H1 J g1 wk => ?_
  refine ⟨fun i m σ2 H2 => ∃ F2 e2, Same F1 F2 ∧ Sta K F0 H0 F2 H2 σ2 e2 ∧ forD g body (ds.drop i) e2 = some o ∧ i + m = ds.length, ⟨ds.length, F1, env, Same.refl F1, S.grow g1, e, by omega⟩, ?_⟩
  rintro i m σ2 H2 ⟨F2, e2, s2, S2, eq, em⟩
  obtain ⟨wn, wg⟩ := wk i F2 H2 s2 S2.fh
  cases hd : ds[i]? with
  | none =>
    have hl : ds.length ≤ i := List.getElem?_eq_none_iff.mp hd
    rw [List.drop_eq_nil_of_le hl] at eq
    cases eq
    exact .inl ⟨wn hd (by omega), q F2 H2 σ2 (g1.f.trans s2) S2⟩
  | some d =>
    obtain ⟨go, yl⟩ := wg d hd
    have hi : i < ds.length := (List.getElem?_eq_some_iff.mp hd).1
    have hdr : ds.drop i = d :: ds.drop (i + 1) := by
      rw [List.drop_eq_getElem_cons hi]
      rw [List.getElem?_eq_getElem hi] at hd
      cases hd
      rfl
    rw [hdr] at eq
    obtain ⟨e3, ee, eq⟩ := bnd eq
    refine .inr ⟨go, fun σ' H' => ∃ F' e', Same F1 F' ∧ Sta K F0 H0 F' H' σ' e' ∧ forD g body (ds.drop (i + 1)) e' = some o, fun σ' H' ⟨F', e', a, b, c⟩ => ⟨m - 1, by omega, F', e', a, b, c, by omega⟩, fun x H' hy => ?_⟩
    obtain ⟨F3, g3, dx⟩ := yl x H' hy
    have S3 := S2.grow g3
    refine hg H0 F3 H' σ2 e2 e3 x d S3.s g3.i S3.bh dx ee _ fun F4 H4 σ4 g4 S4 _ => ?_
    have S5 : Sta K F0 H0 F4 H4 σ4 e3 := ⟨S3.g.trans g4, S4⟩
    have s4 : Same F1 F4 := (s2.trans g3.f).trans g4.f
    cases eb : body e3 with
    | none =>
      rw [eb, turnO_no] at eq
      cases eq
    | some ob =>
      rw [eb] at eq
      refine hb F0 H0 F4 H4 σ4 e3 ob S5 eb _ ?_
      cases ob with
      | nx e4 => exact fun F5 H5 σ5 s5 S5 => ⟨F5, e4, s4.trans s5, S5, eq⟩
      | ct e4 => exact fun F5 H5 σ5 s5 S5 => ⟨F5, e4, s4.trans s5, S5, eq⟩
      | bk e4 =>
        rw [turnO_bk] at eq
        cases eq
        exact fun F5 H5 σ5 s5 S5 => q F5 H5 σ5 (g1.f.trans (s4.trans s5)) S5
      | rt r =>
        rw [turnO_rt] at eq
        cases eq
        exact q
def whileD (c : TF) (body : SF) : Nat → SF
  | 0, _ => none
  | n + 1, env => (c env).bind fun b => if b = true then turnO (body env) (whileD c body n) else some (.nx env)
theorem ds_while {c : TT} {cf : TF} {tb : TS} {body : SF} (n : Nat) (hc : DT K c cf) (hb : DS K tb body) : DS K (tWhile c tb) (whileD cf body n) := fun F0 H0 F H σ env o S e D q => by
  refine ⟨fun m σ2 H2 => ∃ F2 e2, Same F F2 ∧ Sta K F0 H0 F2 H2 σ2 e2 ∧ whileD cf body m e2 = some o, ⟨n, F, env, Same.refl F, S, e⟩, ?_⟩
  rintro m σ2 H2 ⟨F2, e2, s2, S2, eq⟩
  cases m with
  | zero => cases eq
  | succ m =>
    obtain ⟨b, eb, eq⟩ := bnd eq
    refine hc H0 F2 H2 σ2 e2 b S2.s S2.fh S2.bh eb _ fun F3 H3 g3 => ?_
    have S3 := S2.grow g3
    cases b with
    | false =>
      cases eq
      exact iteF (q F3 H3 σ2 (s2.trans g3.f) S3)
    | true =>
      rw [if_pos rfl] at eq
      refine iteT ⟨fun σ' H' => ∃ F' e', Same F F' ∧ Sta K F0 H0 F' H' σ' e' ∧ whileD cf body m e' = some o, fun σ' H' w => ⟨m, Nat.lt_succ_self m, w⟩, ?_⟩
      cases ebd : body e2 with
      | none =>
        rw [ebd, turnO_no] at eq
        cases eq
      | some ob =>
        rw [ebd] at eq
        refine hb F0 H0 F3 H3 σ2 e2 ob S3 ebd _ ?_
        have s4 := s2.trans g3.f
        cases ob with
        | nx e4 => exact fun F5 H5 σ5 s5 S5 => ⟨F5, e4, s4.trans s5, S5, eq⟩
        | ct e4 => exact fun F5 H5 σ5 s5 S5 => ⟨F5, e4, s4.trans s5, S5, eq⟩
        | bk e4 =>
          rw [turnO_bk] at eq
          cases eq
          exact fun F5 H5 σ5 s5 S5 => q F5 H5 σ5 (s4.trans s5) S5
        | rt r =>
          rw [turnO_rt] at eq
          cases eq
          exact q
@[simp] def wipeD (env : En) : List Nat → En
  | [] => env
  | v :: vs => (wipeD env vs).set v .no
theorem Slots.wipe {B F H : Hp} {σ : L2.St} {env : En} (S : Slots K B F H σ env) : ∀ vs : List Nat, Slots K B F H (wipe σ vs) (wipeD env vs)
  | [] => S
  | v :: vs => by
    obtain ⟨l, ad, h1, h2⟩ := Slots.wipe S vs
    refine ⟨?_, ad, fun i w s e1 e2 => ?_, fun i j ds es hij e1 e2 => ?_⟩
    · show ((L2.wipe σ vs).set v none).length = ((wipeD env vs).set v .no).length
      rw [List.length_set, List.length_set, l]
    · have e1 : ((L2.wipe σ vs).set v none)[i]? = some w := e1
      have e2 : ((wipeD env vs).set v .no)[i]? = some s := e2
      by_cases hv : v = i
      · subst hv
        rw [List.getElem?_set] at e2
        simp at e2
        obtain ⟨_, rfl⟩ := e2
        trivial
      · rw [List.getElem?_set_ne hv] at e1 e2
        exact h1 i w s e1 e2
    · have q : ∀ (m : Nat) (zs : List PyData), (wipeD env (v :: vs))[m]? = some (Sl.own zs) → (wipeD env vs)[m]? = some (Sl.own zs) := fun m zs g => by
        have g : ((wipeD env vs).set v .no)[m]? = some (Sl.own zs) := g
        by_cases hm : v = m
        · subst hm
          rw [List.getElem?_set] at g
          simp at g
        · rw [List.getElem?_set_ne hm] at g
          exact g
      exact h2 i j ds es hij (q _ _ e1) (q _ _ e2)
def lcD (vs : List Nat) (g : GF) (c : TF) (f : EF) (env : En) : List PyData → Option (List PyData)
  | [] => some []
  | d :: ds => (g d (wipeD env vs)).bind fun e1 => (c e1).bind fun b => if b = true then (f e1).bind fun r => (lcD vs g c f env ds).bind fun rs => some (r.frz :: rs) else lcD vs g c f env ds
@[simp] noncomputable def eLc (vs : List Nat) (it : IF) (g : GF) (c : TF) (f : EF) : EF := fun env => (it env).bind fun ds => if Fits ds.length then (lcD vs g c f env ds).bind fun rs => some (.own rs) else none
@[simp] def tYesD : TF := fun _ => some true
theorem dt_yes : DT K tYes tYesD := fun B F H σ env b S fh bh e Q q => by
  cases e
  exact q F H (Grow.refl fh)
theorem de_lc {wi : TI} {it : IF} {t : TG} {g : GF} {ws vs : List Nat} {tt : TT} {c : TF} {te : TE} {f : EF} (hi : DI K wi it) (hg : DG K ws t g) (hw : ∀ i ∈ ws, i ∈ vs) (hc : DT K tt c) (he : DE K te f) : DE K (tLc wi t tt te vs) (eLc vs it g c f) := fun B F H σ env r S fh bh e Q q => by
  obtain ⟨ds, ed, e⟩ := bnd e
  split at e
  case isFalse => cases e
  rename_i hlen
  obtain ⟨rs, er, e⟩ := bnd e
  cases e
  refine hi B F H σ env ds S fh bh ed _ fun F1 H1 J g1 wk => ?_
  intro D hD
  have S1 := S.grow g1
  have hFD : F1 D = none := g1.i.free hD
  have gD : Grow F1 H1 F1 (upd H1 D (.lst [])) := Grow.new g1.i hD
  refine ⟨fun i m H2 => ∃ F2 acc bs as rs', Grow F1 H1 F2 H2 ∧ H2 D = some (.lst acc) ∧ F2 D = none ∧ DpAll K F2 acc bs ∧ as.length ≤ i ∧ as.length = bs.length ∧ lcD vs g c f env (ds.drop i) = some rs' ∧ bs ++ rs' = rs ∧ i + m = ds.length ∧ (as : List Nat).length = bs.length, ⟨ds.length, F1, [], [], [], rs, gD, upd_same, hFD, .nil, Nat.le_refl _, rfl, er, rfl, by omega, rfl⟩, ?_⟩
  rintro i m H2 ⟨F2, acc, bs, as, rs', G2, hA, hF2, dA, hal, hab, el, eb, em, _⟩
  have la := DpAll.len dA
  obtain ⟨wn, wg⟩ := wk i F2 H2 G2.f G2.i
  cases hd : ds[i]? with
  | none =>
    have hl : ds.length ≤ i := List.getElem?_eq_none_iff.mp hd
    rw [List.drop_eq_nil_of_le hl] at el
    cases el
    rw [List.append_nil] at eb
    subst eb
    exact .inl ⟨wn hd (by omega), q F2 H2 _ (g1.trans G2) ⟨D, acc, rfl, hF2, g1.h.free hD, hA, dA⟩⟩
  | some d =>
    obtain ⟨go, yl⟩ := wg d hd
    have hi2 : i < ds.length := (List.getElem?_eq_some_iff.mp hd).1
    have hdr : ds.drop i = d :: ds.drop (i + 1) := by
      rw [List.drop_eq_getElem_cons hi2]
      rw [List.getElem?_eq_getElem hi2] at hd
      cases hd
      rfl
    rw [hdr] at el
    obtain ⟨e3, ee, el⟩ := bnd el
    obtain ⟨b, ebt, el⟩ := bnd el
    refine .inr ⟨go, fun H' => ∃ F' acc bs as rs', Grow F1 H1 F' H' ∧ H' D = some (.lst acc) ∧ F' D = none ∧ DpAll K F' acc bs ∧ as.length ≤ i + 1 ∧ as.length = bs.length ∧ lcD vs g c f env (ds.drop (i + 1)) = some rs' ∧ bs ++ rs' = rs ∧ (as : List Nat).length = bs.length,
      fun H' ⟨F', acc, bs, as, rs', a1, a2, a3, a4, a5, a6, a7, a8, a9⟩ => ⟨m - 1, by omega, F', acc, bs, as, rs', a1, a2, a3, a4, a5, a6, a7, a8, by omega, a9⟩, fun x H' hy => ?_⟩
    obtain ⟨F3, g3, dx⟩ := yl x H' hy
    have G3 := G2.trans g3
    have S3 : Slots K B F3 H' (L2.wipe σ vs) (wipeD env vs) := (S1.grow G3).wipe vs
    have bh3 : Same B H' := (bh.trans g1.h).trans G3.h
    refine hg B F3 H' _ _ e3 x d S3 g3.i bh3 dx ee _ fun F4 H4 σ4 g4 S4 hw4 => ⟨?_, ?_⟩
    · rw [hw4 vs hw]
      have w2 : ∀ (us : List Nat) (τ : L2.St), (∀ i ∈ us, ∀ y, τ[i]? = some y → y = none) → L2.wipe τ us = τ := fun us => by
        induction us with
        | nil => exact fun τ _ => rfl
        | cons u us ih =>
          intro τ h
          unfold L2.wipe
          rw [ih τ (fun i hi => h i (List.mem_cons_of_mem _ hi))]
          refine List.ext_getElem? fun j => ?_
          by_cases hj : u = j
          · subst hj
            cases hy : τ[u]? with
            | none => rw [List.getElem?_eq_none (by rw [List.length_set]; exact List.getElem?_eq_none_iff.mp hy)]
            | some y =>
              rw [h u List.mem_cons_self y hy, List.getElem?_set_self (List.getElem?_eq_some_iff.mp hy).1]
          · rw [List.getElem?_set_ne hj]
      refine w2 vs _ fun i hi y hy => ?_
      have w3 : ∀ (us : List Nat), i ∈ us → ∀ y, (L2.wipe σ us)[i]? = some y → y = none := fun us => by
        induction us with
        | nil => intro h; cases h
        | cons u us ih =>
          intro h y hy
          unfold L2.wipe at hy
          by_cases hj : u = i
          · subst hj
            rw [List.getElem?_set] at hy
            simp at hy
            exact hy.2.symm
          · rw [List.getElem?_set_ne hj] at hy
            exact ih (by cases h with
              | head => exact absurd rfl hj
              | tail _ h => exact h) y hy
      exact w3 vs hi y hy
    · have bh4 : Same B H4 := bh3.trans g4.h
      refine hc B F4 H4 σ4 e3 b S4 g4.i bh4 ebt _ fun F5 H5 g5 => ?_
      have G5 := (G3.trans g4).trans g5
      have h25 : Grow F2 H2 F5 H5 := (g3.trans g4).trans g5
      have hD2 : H2 D ≠ none := by rw [hA]; exact Option.some_ne_none _
      cases b with
      | false =>
        rw [if_neg Bool.false_ne_true] at el ⊢
        exact ⟨F5, acc, bs, as, rs', G5, h25.h _ _ hA, h25.n _ hD2 hF2, dpa_mono h25.f dA, by omega, hab, el, eb, hab⟩
      | true =>
        rw [if_pos rfl] at el ⊢
        obtain ⟨r1, er1, el⟩ := bnd el
        obtain ⟨rs1, er2, el⟩ := bnd el
        cases el
        refine he.z (S4.grow g5) g5.i (bh4.trans g5.h) er1 fun F6 H6 y g6 dy => ?_
        have h26 := h25.trans g6
        have G6 := G5.trans g6
        refine ⟨acc, h26.h _ _ hA, by
          rw [la, ← hab]
          exact Nat.lt_of_le_of_lt (Nat.le_trans hal (Nat.le_trans (Nat.le_of_lt hi2) hlen)) (by decide), F6, acc ++ [y], bs ++ [r1.frz], as ++ [0], rs1, ?_, upd_same, h26.n _ hD2 hF2, DpAll.app (dpa_mono h26.f dA) (.cons dy .nil), by rw [List.length_append]; exact Nat.succ_le_succ hal, by rw [List.length_append, List.length_append, hab]; rfl, er2, by rw [List.append_assoc]; exact eb, by rw [List.length_append, List.length_append, hab]; rfl⟩
        have hFD6 : F6 D = none := h26.n _ hD2 hF2
        exact ⟨G6.f, same_updF G6.h hD, same_updF G6.i hFD6, G6.n⟩
end
end Dn
namespace Dn
open PySem PySem.Spec PyProof.Rows L2

/-! ### operators by values -/
def divLim : Nat := 2 ^ 8000
def mulLim : Nat := 2 ^ 400000
theorem OpR.or {X : Cx} {f : Value → Value → Sem Value} {r r' : R2} (h : OpR X f r) (h' : OpR X f r') : OpR X f (fun x y H Q => r x y H Q ∨ r' x y H Q) := by
  intro pins s σ H x y v u Q I rx ry q
  rcases q with q | q
  · exact h pins s σ H x y v u Q I rx ry q
  · exact h' pins s σ H x y v u Q I rx ry q
theorem op_fdivG {X : Cx} : OpR X (binaryOp .FloorDiv) (rI (fun _ j => j ≠ 0 ∧ j.natAbs < divLim) fun i j => .int (i.fdiv j)) := opI fun i j _ _ _ _ _ hc q =>
  floordiv_int hc.1 q (.inl (PyProof.noPylong_of_log2 (Nat.lt_of_lt_of_le (PySem.Flt.log2_lt_of (by decide : 0 < 8000) (show j.natAbs < 2 ^ 8000 from hc.2)) (by decide))))
def MulOk (i j : Int) : Prop := i.natAbs < 2 ^ 64 ∨ j.natAbs < 2 ^ 64 ∨ (i.natAbs < mulLim ∧ j.natAbs < mulLim)
noncomputable instance (i j : Int) : Decidable (MulOk i j) := Classical.propDecidable _
theorem MulOk.ok {i j : Int} (h : MulOk i j) : IntMulOk i j := by
  rcases h with h | h | ⟨h1, h2⟩
  · exact CMul.ok (.inl ⟨by omega, by omega⟩)
  · exact CMul.ok (.inr ⟨by omega, by omega⟩)
  · exact CMulW.ok (wide_mul (show i.natAbs < 2 ^ 400000 from h1) (show j.natAbs < 2 ^ 400000 from h2) (by decide) (by decide) (by decide))
theorem op_mulG {X : Cx} : OpR X (binaryOp .Mult) (rI MulOk fun i j => .int (i * j)) := opI fun _ _ _ _ _ _ _ hc q => mul_int q hc.ok
/-- list + list, both only read -/
def rCatL (K : PySem.W.Frag) : R2 := fun x y H Q => ∃ l b xs zs, x = .ref l ∧ y = .ref b ∧ SqL K H l xs ∧ SqL K H b zs ∧ xs.length + zs.length ≤ sizeLine ∧ ∀ p, H p = none → Q (.ref p) (upd H p (.lst (xs ++ zs)))
theorem op_catL {X : Cx} : OpR X (binaryOp .Add) (rCatL X.K) := by
  intro pins s σ H x y v u Q I rx ry h
  obtain ⟨l, b, xs, zs, rfl, rfl, hH, hB, hz, q⟩ := h
  cases rx
  cases ry
  obtain ⟨its, r, pl, _⟩ := I.list hH
  obtain ⟨its2, r2, pl2, _⟩ := I.list hB
  obtain ⟨⟨cls, dd, data, sl⟩, ho, hc, n, hd⟩ := pl.isList
  obtain ⟨⟨cls2, dd2, data2, sl2⟩, ho2, hc2, n2, hd2⟩ := pl2.isList
  simp only at hc hd hc2 hd2
  subst hc hd hc2 hd2
  have e : its.toArray ++ its2.toArray = (its ++ its2).toArray := by simp
  refine concat_meets ⟨_, ho, rfl⟩ ⟨_, ho2, rfl⟩ noFill_list_add seq_list_add PySem.F.slot_list_add PySem.F.entry_list_add (PySem.F.args_list_add_2 _ _) (list_addW l b its.toArray its2.toArray n n2 dd dd2 sl sl2 (by rw [List.size_toArray, List.size_toArray, ← r.length, ← r2.length]; exact hz)) ⟨ho, ho2, ?_⟩
  rw [e]
  exact ⟨.ref _, _, I.lnew (t' := s.toks) (r.append r2) (by rw [List.length_append]; omega), rfl, q _ I.fresh⟩

section
variable {K : PySem.W.Frag}
theorem szL {n : Nat} (h : Fits n) : n ≤ sizeLine := Nat.le_trans h (by decide)
theorem dp_int {F : Hp} {v : V} {i : Int} (h : Dp K F v (.int i)) : v = .int i := by cases h; rfl
theorem dp_bool {F : Hp} {v : V} {i : Bool} (h : Dp K F v (.bool i)) : v = .bl i := by cases h; rfl
theorem dp_str {F : Hp} {v : V} {x : Str} (h : Dp K F v (.str x)) : v = .str x := by cases h; rfl
theorem dp_list {F : Hp} {v : V} {ds : List PyData} (h : Dp K F v (.list ds)) : ∃ a xs, v = .ref a ∧ SqL K F a xs ∧ DpAll K F xs ds := by cases h with | lst hs ha => exact ⟨_, _, rfl, hs, ha⟩
theorem dp_tuple {F : Hp} {v : V} {ds : List PyData} (h : Dp K F v (.tuple ds)) : ∃ a xs, v = .ref a ∧ SqT K F a xs ∧ DpAll K F xs ds := by cases h with | tup hs ha => exact ⟨_, _, rfl, hs, ha⟩
theorem newL {F H : Hp} {p : Addr} {xs : List V} {ds : List PyData} (fh : Same F H) (hp : H p = none) (h : DpAll K F xs ds) : RepR K F H (upd H p (.lst xs)) (.ref p) (.own ds) := ⟨p, xs, rfl, fh.free hp, hp, upd_same, h⟩
theorem newT {F H : Hp} {p : Addr} {xs : List V} {ds : List PyData} (fh : Same F H) (hp : H p = none) (h : DpAll K F xs ds) : Grow F H (upd F p (.tup xs)) (upd H p (.tup xs)) ∧ RepR K (upd F p (.tup xs)) H (upd H p (.tup xs)) (.ref p) (.val (.tuple ds)) :=
  ⟨(Grow.new fh hp).frz hp (fh.free hp) upd_same, .tup (.inl (.inl upd_same)) (dpa_mono (same_upd (fh.free hp)) h)⟩

@[simp] noncomputable def gAdd : PyData → PyData → Option R
  | .int i, .int j => some (.val (.int (i + j)))
  | .str x, .str y => if Fits (x.length + y.length) then some (.val (.str (x ++ y))) else none
  | .list xs, .list ys => if Fits (xs.length + ys.length) then some (.own (xs ++ ys)) else none
  | .tuple (x :: xs), .tuple (y :: ys) => if Fits (xs.length + ys.length + 2) then some (.val (.tuple (x :: xs ++ y :: ys))) else none
  | .tuple (x :: xs), .tuple [] => if Fits (xs.length + 2) then some (.val (.tuple (x :: xs))) else none
  | _, _ => none
def rAddG (K : PySem.W.Frag) : R2 := fun x y H Q => (rI0 (fun i j => .int (i + j)) x y H Q ∨ (∃ i j, x = .str i ∧ y = .str j ∧ i.length + j.length ≤ sizeLine ∧ Q (.str (i ++ j)) H)) ∨ (rCatL K x y H Q ∨ rCatT K x y H Q)
theorem op_addG {X : Cx} : OpR X (binaryOp .Add) (rAddG X.K) := OpR.or (OpR.or op_add op_add_str) (OpR.or op_catL op_catT)
theorem rv_add : RVD K (rAddG K) gAdd := fun F H x y dx dy r fh d1 d2 e Q q => by
  unfold gAdd at e
  split at e
  · cases e
    rw [dp_int d1, dp_int d2]
    exact .inl (.inl ⟨_, _, rfl, rfl, q F H _ (Grow.refl fh) (.int _)⟩)
  · split at e
    · cases e
      rename_i hl
      rw [dp_str d1, dp_str d2]
      exact .inl (.inr ⟨_, _, rfl, rfl, szL hl, q F H _ (Grow.refl fh) (.str _)⟩)
    · cases e
  · split at e
    · cases e
      rename_i hl
      obtain ⟨a, xs, rfl, s1, a1⟩ := dp_list d1
      obtain ⟨b, ys, rfl, s2, a2⟩ := dp_list d2
      refine .inr (.inl ⟨a, b, xs, ys, rfl, rfl, sqL_mono fh s1, sqL_mono fh s2, by rw [DpAll.len a1, DpAll.len a2]; exact szL hl, fun p hp => ?_⟩)
      exact q F _ _ (Grow.new fh hp) (newL fh hp (DpAll.app a1 a2))
    · cases e
  · split at e
    · cases e
      rename_i hl
      obtain ⟨a, xs, rfl, s1, a1⟩ := dp_tuple d1
      obtain ⟨b, ys, rfl, s2, a2⟩ := dp_tuple d2
      have l1 := DpAll.len a1
      have l2 := DpAll.len a2
      rw [List.length_cons] at l1 l2
      refine .inr (.inr ⟨a, b, xs, ys, rfl, rfl, sqT_mono fh s1, sqT_mono fh s2, (fun z => by subst z; cases l1), by rw [l1, l2]; exact szL (show Fits _ from (by have h : _ ≤ 100000 := hl; show _ ≤ 100000; omega)), (fun z => by subst z; cases l2), fun _ p hp => ?_⟩)
      obtain ⟨g, rr⟩ := newT fh hp (DpAll.app a1 a2)
      exact q _ _ _ g rr
    · cases e
  · split at e
    · cases e
      rename_i hl
      obtain ⟨a, xs, rfl, s1, a1⟩ := dp_tuple d1
      obtain ⟨b, ys, rfl, s2, a2⟩ := dp_tuple d2
      have l1 := DpAll.len a1
      rw [List.length_cons] at l1
      cases a2
      refine .inr (.inr ⟨a, b, xs, [], rfl, rfl, sqT_mono fh s1, sqT_mono fh s2, (fun z => by subst z; cases l1), by rw [l1]; exact szL (show Fits _ from (by have h : _ ≤ 100000 := hl; show _ ≤ 100000; simp; omega)), fun _ => q F H _ (Grow.refl fh) (.tup s1 a1), fun z => absurd rfl z⟩)
    · cases e
  · cases e
@[simp] def gI (C : Int → Int → Prop) [∀ i j, Decidable (C i j)] (g : Int → Int → PyData) : PyData → PyData → Option R
  | .int i, .int j => if C i j then some (.val (g i j)) else none
  | _, _ => none
@[simp] def gI0 (g : Int → Int → PyData) : PyData → PyData → Option R
  | .int i, .int j => some (.val (g i j))
  | _, _ => none
theorem rv_I {C : Int → Int → Prop} [∀ i j, Decidable (C i j)] {g : Int → Int → PyData} {gv : Int → Int → V} (h : ∀ F i j, C i j → Dp K F (gv i j) (g i j)) : RVD K (rI C gv) (gI C g) := fun F H x y dx dy r fh d1 d2 e Q q => by
  unfold gI at e
  split at e
  · split at e
    · cases e
      rename_i hc
      rw [dp_int d1, dp_int d2]
      exact ⟨_, _, rfl, rfl, hc, q F H _ (Grow.refl fh) (h F _ _ hc)⟩
    · cases e
  · cases e
theorem rv_I0 {g : Int → Int → PyData} {gv : Int → Int → V} (h : ∀ F i j, Dp K F (gv i j) (g i j)) : RVD K (rI0 gv) (gI0 g) := fun F H x y dx dy r fh d1 d2 e Q q => by
  unfold gI0 at e
  split at e
  · cases e
    rw [dp_int d1, dp_int d2]
    exact ⟨_, _, rfl, rfl, q F H _ (Grow.refl fh) (h F _ _)⟩
  · cases e
def gSub := gI0 fun i j => .int (i - j)
noncomputable def gMul := gI MulOk fun i j => .int (i * j)
def FdOk (_ j : Int) : Prop := j ≠ 0 ∧ j.natAbs < divLim
noncomputable instance (i j : Int) : Decidable (FdOk i j) := Classical.propDecidable _
def NzOk (_ j : Int) : Prop := j ≠ 0
noncomputable instance (i j : Int) : Decidable (NzOk i j) := Classical.propDecidable _
noncomputable def gFdiv := gI FdOk fun i j => .int (i.fdiv j)
noncomputable def gMod := gI NzOk fun i j => .int (i.fmod j)
def PowOk (i j : Int) : Prop := 0 ≤ j ∧ j ≤ 1000000 ∧ i.natAbs < 2 ^ 64
noncomputable instance (i j : Int) : Decidable (PowOk i j) := Classical.propDecidable _
noncomputable def gPow := gI PowOk fun i j => .int (i ^ j.toNat)
def gLt := gI0 fun i j => .bool (decide (i < j))
def gLe := gI0 fun i j => .bool (decide (i ≤ j))
def gGt := gI0 fun i j => .bool (decide (j < i))
def gGe := gI0 fun i j => .bool (decide (j ≤ i))
section
variable {i j : Int}
@[simp] theorem gSub_int : gSub (.int i) (.int j) = some (.val (.int (i - j))) := rfl
@[simp] theorem gMul_int : gMul (.int i) (.int j) = if MulOk i j then some (.val (.int (i * j))) else none := rfl
@[simp] theorem gFdiv_int : gFdiv (.int i) (.int j) = if FdOk i j then some (.val (.int (i.fdiv j))) else none := rfl
@[simp] theorem gMod_int : gMod (.int i) (.int j) = if NzOk i j then some (.val (.int (i.fmod j))) else none := rfl
@[simp] theorem gPow_int : gPow (.int i) (.int j) = if PowOk i j then some (.val (.int (i ^ j.toNat))) else none := rfl
@[simp] theorem gLt_int : gLt (.int i) (.int j) = some (.val (.bool (decide (i < j)))) := rfl
@[simp] theorem gLe_int : gLe (.int i) (.int j) = some (.val (.bool (decide (i ≤ j)))) := rfl
@[simp] theorem gGt_int : gGt (.int i) (.int j) = some (.val (.bool (decide (j < i)))) := rfl
@[simp] theorem gGe_int : gGe (.int i) (.int j) = some (.val (.bool (decide (j ≤ i)))) := rfl
end
theorem rv_sub : RVD K (rI0 fun i j => .int (i - j)) gSub := rv_I0 fun _ _ _ => .int _
theorem rv_mul : RVD K (rI MulOk fun i j => .int (i * j)) gMul := rv_I fun _ _ _ _ => .int _
theorem rv_fdiv : RVD K (rI (fun _ j => j ≠ 0 ∧ j.natAbs < divLim) fun i j => .int (i.fdiv j)) gFdiv := rv_I (C := FdOk) fun _ _ _ _ => .int _
theorem rv_mod : RVD K (rI (fun _ j => j ≠ 0) fun i j => .int (i.fmod j)) gMod := rv_I (C := NzOk) fun _ _ _ _ => .int _
theorem rv_pow : RVD K (rI CPow fun i j => .int (i ^ j.toNat)) gPow := rv_I (C := PowOk) fun _ _ _ _ => .int _
theorem rv_lt : RVD K (rI0 fun i j => .bl (decide (i < j))) gLt := rv_I0 fun _ _ _ => .bl _
theorem rv_le : RVD K (rI0 fun i j => .bl (decide (i ≤ j))) gLe := rv_I0 fun _ _ _ => .bl _
theorem rv_gt : RVD K (rI0 fun i j => .bl (decide (j < i))) gGt := rv_I0 fun _ _ _ => .bl _
theorem rv_ge : RVD K (rI0 fun i j => .bl (decide (j ≤ i))) gGe := rv_I0 fun _ _ _ => .bl _
@[simp] def gNeg : PyData → Option R
  | .int i => some (.val (.int (-i)))
  | _ => none
theorem ru_neg : RUD K (rU fun i => .int (-i)) gNeg := fun F H x dx r fh d1 e Q q => by
  unfold gNeg at e
  split at e
  · cases e
    rw [dp_int d1]
    exact ⟨_, rfl, q F H _ (Grow.refl fh) (.int _)⟩
  · cases e
/-- == and != of data -/
def Shp (d : PyData) : Prop := SeqAt.shaped d = true
noncomputable instance (d : PyData) : Decidable (Shp d) := Classical.propDecidable _
noncomputable def gEq : PyData → PyData → Option R := fun d e => if Shp d ∧ Shp e then some (.val (.bool (PyData.eqv d e))) else none
noncomputable def gNe : PyData → PyData → Option R := fun d e => if Shp d ∧ Shp e then some (.val (.bool (!PyData.eqv d e))) else none
theorem rv_eq : RVD K (rEqD K) gEq := fun F H x y dx dy r fh d1 d2 e Q q => by
  unfold gEq at e
  split at e
  · cases e
    rename_i h
    exact ⟨dx, dy, dp_mono fh d1, dp_mono fh d2, h.1, h.2, q F H _ (Grow.refl fh) (.bl _)⟩
  · cases e
theorem rv_ne : RVD K (rNeD K) gNe := fun F H x y dx dy r fh d1 d2 e Q q => by
  unfold gNe at e
  split at e
  · cases e
    rename_i h
    exact ⟨dx, dy, dp_mono fh d1, dp_mono fh d2, h.1, h.2, q F H _ (Grow.refl fh) (.bl _)⟩
  · cases e
/-- in, not in -/
def memD (d : PyData) (ds : List PyData) : Bool := ds.any fun z => PyData.eqv z d
/-- subscripts -/
@[simp] noncomputable def gIx : PyData → PyData → Option R
  | .list ds, .int k => (atI ds k).bind fun d => some (.val d)
  | .tuple ds, .int k => (atI ds k).bind fun d => some (.val d)
  | .str z, .int k => if Fits (z.length) then (atI z.cps.toList k).bind fun c => some (.val (.str ⟨#[c]⟩)) else none
  | _, _ => none
theorem DpAll.at {F : Hp} {xs : List V} {ds : List PyData} {k : Int} {d : PyData} (h : DpAll K F xs ds) (e : atI ds k = some d) : ∃ v, atI xs k = some v ∧ Dp K F v d := by
  unfold atI at e ⊢
  rw [DpAll.len h]
  cases q : ixN ds.length k with
  | none => rw [q] at e; cases e
  | some j =>
    rw [q] at e
    exact DpAll.get h e
theorem rv_ix : RVD K (rIx K) gIx := fun F H x y dx dy r fh d1 d2 e Q q => by
  unfold gIx at e
  split at e
  · obtain ⟨d, ed, e⟩ := bnd e
    cases e
    obtain ⟨a, xs, rfl, s1, a1⟩ := dp_list d1
    rw [dp_int d2]
    obtain ⟨v, ev, dv⟩ := DpAll.at a1 ed
    exact .inl ⟨a, xs, _, v, rfl, rfl, sqL_mono fh s1, ev, q F H _ (Grow.refl fh) dv⟩
  · obtain ⟨d, ed, e⟩ := bnd e
    cases e
    obtain ⟨a, xs, rfl, s1, a1⟩ := dp_tuple d1
    rw [dp_int d2]
    obtain ⟨v, ev, dv⟩ := DpAll.at a1 ed
    exact .inr (.inl ⟨a, xs, _, v, rfl, rfl, sqT_mono fh s1, ev, q F H _ (Grow.refl fh) dv⟩)
  · split at e
    · rename_i hl
      obtain ⟨c, ec, e⟩ := bnd e
      cases e
      rw [dp_str d1, dp_int d2]
      exact .inr (.inr ⟨_, _, c, rfl, rfl, szL hl, ec, q F H _ (Grow.refl fh) (.str _)⟩)
    · cases e
  · cases e
/-- an item of an owned list -/
@[simp] def eIxO (i : Nat) (fk : EF) : EF := fun env => match env[i]? with
  | some (.own ds) => (fk env).bind fun k => match k.frz with
    | .int k => (atI ds k).bind fun d => some (.val d)
    | _ => none
  | _ => none
theorem de_ixO {i : Nat} {tk : TE} {fk : EF} (hk : DE K tk fk) : DE K (tOp (rIx K) (tVar i) tk) (eIxO i fk) := fun B F H σ env r S fh bh e Q q => by
  unfold eIxO at e
  split at e
  · rename_i ds hd
    obtain ⟨k, ek, e⟩ := bnd e
    split at e
    · rename_i k' hk'
      obtain ⟨d, ed, e⟩ := bnd e
      cases e
      obtain ⟨p, xs, h1, h0, h2, h3, h4⟩ := S.own hd
      refine ⟨_, h1, hk.z S fh bh ek fun F1 H1 y g1 dy => ?_⟩
      rw [hk'] at dy
      rw [dp_int dy]
      obtain ⟨v, ev, dv⟩ := DpAll.at h4 ed
      exact .inl ⟨p, xs, _, v, rfl, rfl, .inl (.inl (g1.h _ _ h3)), ev, q F1 H1 _ g1 (dp_mono g1.f dv)⟩
    · cases e
  · cases e

/-! ### calls of built-ins by values -/
@[simp] noncomputable def gLen : List PyData → Option R
  | [.list ds] => some (.val (.int ds.length))
  | [.tuple ds] => some (.val (.int ds.length))
  | [.str z] => if Fits (z.length) then some (.val (.int z.length)) else none
  | _ => none
theorem dpa1 {F : Hp} {vs : List V} {d : PyData} (h : DpAll K F vs [d]) : ∃ v, vs = [v] ∧ Dp K F v d := by
  cases h with
  | cons h t => cases t; exact ⟨_, rfl, h⟩
theorem dpa2 {F : Hp} {vs : List V} {d e : PyData} (h : DpAll K F vs [d, e]) : ∃ v w, vs = [v, w] ∧ Dp K F v d ∧ Dp K F w e := by
  cases h with
  | cons h t =>
    obtain ⟨w, rfl, h2⟩ := dpa1 t
    exact ⟨_, w, rfl, h, h2⟩
theorem rc_len : RCD K (fun xs H Q => ∃ x n, xs = [x] ∧ LenV K x H n ∧ Q (.int n) H) gLen := fun F H vs ds r fh h e Q q => by
  unfold gLen at e
  split at e
  · cases e
    obtain ⟨v, rfl, d⟩ := dpa1 h
    obtain ⟨a, xs, rfl, s1, a1⟩ := dp_list d
    exact ⟨_, xs.length, rfl, .inl ⟨xs, sqL_mono fh s1, rfl⟩, by rw [DpAll.len a1]; exact q F H _ (Grow.refl fh) (.int _)⟩
  · cases e
    obtain ⟨v, rfl, d⟩ := dpa1 h
    obtain ⟨a, xs, rfl, s1, a1⟩ := dp_tuple d
    exact ⟨_, xs.length, rfl, .inr ⟨xs, sqT_mono fh s1, rfl⟩, by rw [DpAll.len a1]; exact q F H _ (Grow.refl fh) (.int _)⟩
  · split at e
    · cases e
      rename_i hl
      obtain ⟨v, rfl, d⟩ := dpa1 h
      rw [dp_str d]
      exact ⟨_, _, rfl, ⟨szL hl, rfl⟩, q F H _ (Grow.refl fh) (.int _)⟩
    · cases e
  · cases e
@[simp] def gAbs : List PyData → Option R
  | [.int i] => some (.val (.int (if i < 0 then -i else i)))
  | _ => none
theorem rc_abs : RCD K (fun xs H Q => ∃ i, xs = [.int i] ∧ Q (.int (if i < 0 then -i else i)) H) gAbs := fun F H vs ds r fh h e Q q => by
  unfold gAbs at e
  split at e
  · cases e
    obtain ⟨v, rfl, d⟩ := dpa1 h
    rw [dp_int d]
    exact ⟨_, rfl, q F H _ (Grow.refl fh) (.int _)⟩
  · cases e
@[simp] def gInt : List PyData → Option R
  | [.int i] => some (.val (.int i))
  | [.bool b] => some (.val (.int (if b then 1 else 0)))
  | _ => none
theorem rc_int : RCD K (fun xs H Q => (∃ i, xs = [.int i] ∧ Q (.int i) H) ∨ ∃ k, xs = [.bl k] ∧ Q (.int (if k then 1 else 0)) H) gInt := fun F H vs ds r fh h e Q q => by
  unfold gInt at e
  split at e
  · cases e
    obtain ⟨v, rfl, d⟩ := dpa1 h
    rw [dp_int d]
    exact .inl ⟨_, rfl, q F H _ (Grow.refl fh) (.int _)⟩
  · cases e
    obtain ⟨v, rfl, d⟩ := dpa1 h
    rw [dp_bool d]
    exact .inr ⟨_, rfl, q F H _ (Grow.refl fh) (.int _)⟩
  · cases e
def StrOk (i : Int) : Prop := i.natAbs < 2 ^ 1000
noncomputable instance (i : Int) : Decidable (StrOk i) := Classical.propDecidable _
noncomputable def gStr : List PyData → Option R
  | [.int i] => if StrOk i then some (.val (.str (toString i))) else none
  | _ => none
theorem rc_str : RCD K (fun xs H Q => ∃ i, xs = [.int i] ∧ i.natAbs.log2 < 1920 ∧ Q (.str (toString i)) H) gStr := fun F H vs ds r fh h e Q q => by
  unfold gStr at e
  split at e
  · split at e
    · cases e
      rename_i i hl
      obtain ⟨v, rfl, d⟩ := dpa1 h
      rw [dp_int d]
      exact ⟨_, rfl, Nat.lt_of_lt_of_le (PySem.Flt.log2_lt_of (by decide : 0 < 1000) (show i.natAbs < 2 ^ 1000 from hl)) (by decide), q F H _ (Grow.refl fh) (.str _)⟩
    · cases e
  · cases e
@[simp] def gGcd : List PyData → Option R
  | [.int a, .int b] => some (.val (.int (Nat.gcd a.natAbs b.natAbs : Nat)))
  | _ => none
theorem rc_gcd : RCD K rGcd gGcd := fun F H vs ds r fh h e Q q => by
  unfold gGcd at e
  split at e
  · cases e
    obtain ⟨v, w, rfl, d1, d2⟩ := dpa2 h
    rw [dp_int d1, dp_int d2]
    exact ⟨_, _, rfl, q F H _ (Grow.refl fh) (.int _)⟩
  · cases e
def boolsD : List PyData → Option (List Bool)
  | [] => some []
  | .bool b :: r => (boolsD r).bind fun bs => some (b :: bs)
  | _ :: _ => none
def intsD : List PyData → Option (List Int)
  | [] => some []
  | .int b :: r => (intsD r).bind fun bs => some (b :: bs)
  | _ :: _ => none
theorem boolsD_ok {F : Hp} : ∀ {ds : List PyData} {xs : List V} {bs : List Bool}, DpAll K F xs ds → boolsD ds = some bs → xs = bs.map V.bl
  | [], _, _, .nil, e => by cases e; rfl
  | d :: ds, _, _, .cons h t, e => by
    cases d with
    | bool b =>
      obtain ⟨cs, ec, e⟩ := bnd (show (boolsD ds).bind _ = _ from e)
      cases e
      rw [dp_bool h, boolsD_ok t ec]
      rfl
    | none => cases e
    | int _ => cases e
    | str _ => cases e
    | list _ => cases e
    | tuple _ => cases e
    | dict _ => cases e
theorem intsD_ok {F : Hp} : ∀ {ds : List PyData} {xs : List V} {bs : List Int}, DpAll K F xs ds → intsD ds = some bs → xs = bs.map V.int
  | [], _, _, .nil, e => by cases e; rfl
  | d :: ds, _, _, .cons h t, e => by
    cases d with
    | int b =>
      obtain ⟨cs, ec, e⟩ := bnd (show (intsD ds).bind _ = _ from e)
      cases e
      rw [dp_int h, intsD_ok t ec]
      rfl
    | none => cases e
    | bool _ => cases e
    | str _ => cases e
    | list _ => cases e
    | tuple _ => cases e
    | dict _ => cases e
theorem boolsD_map (bs : List Bool) : boolsD (bs.map PyData.bool) = some bs := by
  induction bs with
  | nil => rfl
  | cons b r ih => show (boolsD (r.map PyData.bool)).bind _ = _; rw [ih]; rfl
theorem intsD_map (bs : List Int) : intsD (bs.map PyData.int) = some bs := by
  induction bs with
  | nil => rfl
  | cons b r ih => show (intsD (r.map PyData.int)).bind _ = _; rw [ih]; rfl
@[simp] def gAll : List PyData → Option R
  | [.list ds] => (boolsD ds).bind fun bs => some (.val (.bool (bs.all id)))
  | _ => none
@[simp] def gAny : List PyData → Option R
  | [.list ds] => (boolsD ds).bind fun bs => some (.val (.bool (bs.any id)))
  | _ => none
@[simp] def gSum : List PyData → Option R
  | [.list ds] => (intsD ds).bind fun bs => some (.val (.int bs.sum))
  | _ => none
theorem rc_all : RCD K (rAll K) gAll := fun F H vs ds r fh h e Q q => by
  unfold gAll at e
  split at e
  · obtain ⟨bs, eb, e⟩ := bnd e
    cases e
    obtain ⟨v, rfl, d⟩ := dpa1 h
    obtain ⟨a, xs, rfl, s1, a1⟩ := dp_list d
    rw [boolsD_ok a1 eb] at s1
    exact ⟨a, bs, rfl, sqL_mono fh s1, q F H _ (Grow.refl fh) (.bl _)⟩
  · cases e
theorem rc_any : RCD K (rAny K) gAny := fun F H vs ds r fh h e Q q => by
  unfold gAny at e
  split at e
  · obtain ⟨bs, eb, e⟩ := bnd e
    cases e
    obtain ⟨v, rfl, d⟩ := dpa1 h
    obtain ⟨a, xs, rfl, s1, a1⟩ := dp_list d
    rw [boolsD_ok a1 eb] at s1
    exact ⟨a, bs, rfl, sqL_mono fh s1, q F H _ (Grow.refl fh) (.bl _)⟩
  · cases e
theorem rc_sum : RCD K (rSum K) gSum := fun F H vs ds r fh h e Q q => by
  unfold gSum at e
  split at e
  · obtain ⟨bs, eb, e⟩ := bnd e
    cases e
    obtain ⟨v, rfl, d⟩ := dpa1 h
    obtain ⟨a, xs, rfl, s1, a1⟩ := dp_list d
    rw [intsD_ok a1 eb] at s1
    exact ⟨a, bs, rfl, sqL_mono fh s1, q F H _ (Grow.refl fh) (.int _)⟩
  · cases e
@[simp] def gList : List PyData → Option R
  | [.list ds] => some (.own ds)
  | [.tuple ds] => some (.own ds)
  | _ => none
theorem rc_list : RCD K (fun xs H Q => ∃ p ys, xs = [.ref p] ∧ (SqL K H p ys ∨ SqT K H p ys) ∧ ∀ l, H l = none → Q (.ref l) (upd H l (.lst ys))) gList := fun F H vs ds r fh h e Q q => by
  unfold gList at e
  split at e
  · cases e
    obtain ⟨v, rfl, d⟩ := dpa1 h
    obtain ⟨a, xs, rfl, s1, a1⟩ := dp_list d
    exact ⟨a, xs, rfl, .inl (sqL_mono fh s1), fun l hl => q F _ _ (Grow.new fh hl) (newL fh hl a1)⟩
  · cases e
    obtain ⟨v, rfl, d⟩ := dpa1 h
    obtain ⟨a, xs, rfl, s1, a1⟩ := dp_tuple d
    exact ⟨a, xs, rfl, .inr (sqT_mono fh s1), fun l hl => q F _ _ (Grow.new fh hl) (newL fh hl a1)⟩
  · cases e
/-! isinstance -/
@[simp] def tyD : PyData → String
  | .none => "NoneType"
  | .bool _ => "bool"
  | .int _ => "int"
  | .str _ => "str"
  | .list _ => "list"
  | .tuple _ => "tuple"
  | .dict _ => "dict"
theorem dp_ty {F : Hp} {v : V} {d : PyData} (h : Dp K F v d) : TyX K F v (.type (tyD d)) := by
  cases h with
  | non => exact .base .non
  | bl b => exact .base (.bl b)
  | int i => exact .base (.int i)
  | str x => exact .base (.str x)
  | lst hs _ =>
    rcases hs with (h | ⟨o, h⟩) | ⟨o, its, n, h, c, _⟩
    · exact .base (.lst h)
    · exact .base (.frz h)
    · exact .kList h c
  | tup hs _ =>
    rcases hs with (h | ⟨o, h⟩) | ⟨o, its, n, h, c, _⟩
    · exact .base (.tup h)
    · exact .fTuple h
    · exact .kTuple h c
@[simp] def isiS (T t : String) : Bool := t == T || (T == "int" && t == "bool")
@[simp] def isi (T : String) : PyData → Bool := fun d => isiS T (tyD d)
theorem kit_all : (["int", "bool", "str", "tuple", "list"].all fun T => ["NoneType", "bool", "int", "str", "list", "tuple", "dict"].all fun t => kitB t T == some (isiS T t)) = true := by decide +kernel
theorem tyD_mem (d : PyData) : tyD d ∈ ["NoneType", "bool", "int", "str", "list", "tuple", "dict"] := by cases d <;> simp [tyD]
theorem kit_isi {d : PyData} {T : String} (hT : T ∈ ["int", "bool", "str", "tuple", "list"]) : PySem.W.kitOne K (.type (tyD d)) (.type T) = some (isi T d) := by
  have h := List.all_eq_true.mp (List.all_eq_true.mp kit_all T hT) (tyD d) (tyD_mem d)
  exact kit_ty (by simpa [isi] using h)
/-- slices -/
def sxD (ds : List PyData) (lo hi : Option Int) : List PyData := (ds.drop (HT.sIx ds.length 0 lo)).take (HT.sIx ds.length ds.length hi - HT.sIx ds.length 0 lo)
theorem DpAll.cut {F : Hp} {xs : List V} {ds : List PyData} (lo hi : Option Int) (h : DpAll K F xs ds) : DpAll K F (cutV xs lo hi) (sxD ds lo hi) := by
  unfold cutV sxD
  rw [DpAll.len h]
  exact DpAll.take _ (DpAll.drop _ h)
abbrev OF := En → Option (Option Int)
def DO (K : PySem.W.Frag) (to : TO) (f : OF) : Prop := ∀ (B F H : Hp) (σ : L2.St) (env : En) (o : Option Int), Slots K B F H σ env → Same F H → Same B H → f env = some o →
  ∀ Q : Option Int → Hp → Prop, (∀ F' H', Grow F H F' H' → Q o H') → to σ H Q
@[simp] def oNone : OF := fun _ => some none
@[simp] def oSome (f : EF) : OF := fun env => (f env).bind fun r => match r.frz with
  | .int i => some (some i)
  | _ => none
theorem do_none : DO K tNoPart oNone := fun B F H σ env o S fh bh e Q q => by
  cases e
  exact q F H (Grow.refl fh)
theorem do_some {te : TE} {f : EF} (h : DE K te f) : DO K (tPart te) (oSome f) := fun B F H σ env o S fh bh e Q q => by
  obtain ⟨r, er, e⟩ := bnd e
  split at e
  · rename_i i hi
    cases e
    refine h.z S fh bh er fun F1 H1 v g d => ?_
    rw [hi] at d
    rw [dp_int d]
    exact ⟨i, rfl, q F1 H1 g⟩
  · cases e
/-- a slice of a list; of a tuple -/
@[simp] def eSl (f : EF) (lo hi : OF) : EF := fun env => (f env).bind fun r => (lo env).bind fun a => (hi env).bind fun b => match r.frz with
  | .list ds => some (.own (sxD ds a b))
  | .tuple ds => some (.val (.tuple (sxD ds a b)))
  | _ => none
def rSlLA (K : PySem.W.Frag) : V → Option Int → Option Int → Hp → VK → Prop := fun x lo hi H Q => rSlL K x lo hi H Q ∨ rSlA K x lo hi H Q
theorem sl_la {X : Cx} : SlR X (rSlLA X.K) := SlR.or sl_list sl_tupA
@[simp] def eSlO (i : Nat) (lo hi : OF) : EF := fun env => match env[i]? with
  | some (.own ds) => (lo env).bind fun a => (hi env).bind fun b => some (.own (sxD ds a b))
  | _ => none
theorem cut_whole {xs : List V} {lo hi : Option Int} (h : HT.sIx xs.length 0 lo = 0 ∧ HT.sIx xs.length xs.length hi = xs.length) : cutV xs lo hi = xs := by
  unfold cutV
  rw [h.1, h.2, List.drop_zero, Nat.sub_zero, List.take_length]
theorem de_sl {te : TE} {f : EF} {tl th : TO} {lo hi : OF} (h : DE K te f) (hl : DO K tl lo) (hh : DO K th hi) : DE K (tSl (rSlLA K) te tl th) (eSl f lo hi) := fun B F H σ env r S fh bh e Q q => by
  obtain ⟨r0, er, e⟩ := bnd e
  obtain ⟨a, ea, e⟩ := bnd e
  obtain ⟨b, eb, e⟩ := bnd e
  split at e
  · rename_i ds hd
    cases e
    refine h.z S fh bh er fun F1 H1 v g1 d => ?_
    rw [hd] at d
    obtain ⟨p, xs, rfl, s1, a1⟩ := dp_list d
    refine hl B F1 H1 σ env a (S.grow g1) g1.i (bh.trans g1.h) ea _ fun F2 H2 g2 => ?_
    have g12 := g1.trans g2
    refine hh B F2 H2 σ env b (S.grow g12) g12.i (bh.trans g12.h) eb _ fun F3 H3 g3 => ?_
    have g13 := g12.trans g3
    have s3 : SqL K F3 p xs := sqL_mono (g2.f.trans g3.f) s1
    refine Or.inl ⟨p, xs, rfl, sqL_mono g3.i s3, fun c hc => q F3 _ _ (g13.trans (Grow.new g3.i hc)) ?_⟩
    exact (newL g3.i hc (DpAll.cut a b (dpa_mono (g2.f.trans g3.f) a1))).back g13
  · rename_i ds hd
    cases e
    refine h.z S fh bh er fun F1 H1 v g1 d => ?_
    rw [hd] at d
    obtain ⟨p, xs, rfl, s1, a1⟩ := dp_tuple d
    refine hl B F1 H1 σ env a (S.grow g1) g1.i (bh.trans g1.h) ea _ fun F2 H2 g2 => ?_
    have g12 := g1.trans g2
    refine hh B F2 H2 σ env b (S.grow g12) g12.i (bh.trans g12.h) eb _ fun F3 H3 g3 => ?_
    have g13 := g12.trans g3
    have s3 : SqT K F3 p xs := sqT_mono (g2.f.trans g3.f) s1
    have a3 := dpa_mono (g2.f.trans g3.f) a1
    have dc := DpAll.cut a b a3
    refine Or.inr ⟨p, xs, rfl, sqT_mono g3.i s3, fun hw => ?_, fun hw c hc => ?_⟩
    · rw [cut_whole hw] at dc
      exact q F3 _ _ g13 (.tup s3 dc)
    · have hf : F3 c = none := g3.i.free hc
      have g4 : Grow F3 H3 F3 (upd H3 c (.tup (cutV xs a b))) := Grow.new g3.i hc
      exact q _ _ _ ((g13.trans g4).frz (g13.h.free hc) hf upd_same) (.tup (.inl (.inl upd_same)) (dpa_mono (same_upd hf) dc))
  · cases e
theorem de_slO {i : Nat} {tl th : TO} {lo hi : OF} (hl : DO K tl lo) (hh : DO K th hi) : DE K (tSl (rSlL K) (tVar i) tl th) (eSlO i lo hi) := fun B F H σ env r S fh bh e Q q => by
  unfold eSlO at e
  split at e
  · rename_i ds hd
    obtain ⟨a, ea, e⟩ := bnd e
    obtain ⟨b, eb, e⟩ := bnd e
    cases e
    obtain ⟨p, xs, h1, h0, h2, h3, h4⟩ := S.own hd
    refine ⟨_, h1, ?_⟩
    refine hl B F H σ env a S fh bh ea _ fun F2 H2 g2 => ?_
    refine hh B F2 H2 σ env b (S.grow g2) g2.i (bh.trans g2.h) eb _ fun F3 H3 g3 => ?_
    have g13 := g2.trans g3
    refine ⟨p, xs, rfl, .inl (.inl (g13.h _ _ h3)), fun c hc => q F3 _ _ (g13.trans (Grow.new g3.i hc)) ?_⟩
    exact (newL g3.i hc (DpAll.cut a b (dpa_mono g13.f h4))).back g13
  · cases e
/-- in, not in a list -/
@[simp] noncomputable def gIn : PyData → PyData → Option R := fun d y => match y with
  | .list ds => if Shp d ∧ Shp (.list ds) then some (.val (.bool (memD d ds))) else none
  | _ => none
@[simp] noncomputable def gNotIn : PyData → PyData → Option R := fun d y => match y with
  | .list ds => if Shp d ∧ Shp (.list ds) then some (.val (.bool (!memD d ds))) else none
  | _ => none
theorem rv_in : RVD K (rInD K) gIn := fun F H x y dx dy r fh d1 d2 e Q q => by
  unfold gIn at e
  split at e
  · split at e
    · rename_i hh
      cases e
      exact ⟨dx, _, dp_mono fh d1, dp_mono fh d2, hh.1, hh.2, q F H _ (Grow.refl fh) (.bl _)⟩
    · cases e
  · cases e
theorem rv_notIn : RVD K (rNotInD K) gNotIn := fun F H x y dx dy r fh d1 d2 e Q q => by
  unfold gNotIn at e
  split at e
  · split at e
    · rename_i hh
      cases e
      exact ⟨dx, _, dp_mono fh d1, dp_mono fh d2, hh.1, hh.2, q F H _ (Grow.refl fh) (.bl _)⟩
    · cases e
  · cases e
end
end Dn
namespace Dn
open PySem PySem.Spec PyProof.Rows L2
section
variable {X : Cx} {e a b c o i : Expr} {es : List Expr} {pos p apos : Pos} {te ta tb tc : TE} {t : TA} {tt tu : TT} {f g h : EF} {af : AF} {u v : TF} {x y : Str}

theorem sv (i : Nat) {x : Str} {pos : Pos} (hN : X.N[i]? = some x := by rfl) (hv : Vis X.env.scope x := by first | exact Or.inl rfl | exact Or.inr (Or.inl rfl) | exact Or.inr (Or.inr rfl)) (hd : (x == ("__debug__" : Str)) = false := by decide)
    (hcd : (x == ("__classdict__" : Str)) = false := by decide) : SE X (.Name x pos) (tVar i) (eVar i) := ⟨pe_var hN hv hd hcd, de_var⟩
/-- x is True -/
@[simp] def gIsB : PyData → PyData → Option R
  | .bool a, .bool b => some (.val (.bool (decide (a = b))))
  | _, _ => none
theorem rv_isB {K : PySem.W.Frag} : RVD K rIsB gIsB := fun F H x y dx dy r fh d1 d2 e Q q => by
  unfold gIsB at e
  split at e
  · cases e
    rw [dp_bool d1, dp_bool d2]
    exact ⟨_, _, rfl, rfl, q F H _ (Grow.refl fh) (.bl _)⟩
  · cases e
theorem se_isB (h1 : SE X a ta f) (h2 : SE X b tb g) : SE X (.Compare a [.Is] [b] pos) (tOp rIsB ta tb) (eBin gIsB f g) := ⟨pe_cmpR op_isBl h1.pe h2.pe (nomark _), de_bin rv_isB h1.de h2.de⟩
/-- a name whose slot holds an owned list: PE alone -/
theorem ov (i : Nat) {x : Str} {pos : Pos} (hN : X.N[i]? = some x := by rfl) (hv : Vis X.env.scope x := by first | exact Or.inl rfl | exact Or.inr (Or.inl rfl) | exact Or.inr (Or.inr rfl)) (hd : (x == ("__debug__" : Str)) = false := by decide)
    (hcd : (x == ("__classdict__" : Str)) = false := by decide) : PE X (.Name x pos) (tVar i) := pe_var hN hv hd hcd
theorem se_int {i j pos} : SE X (.Constant (.int i) j pos) (tC (.int i)) (eC (.int i)) := ⟨pe_int, de_c fun _ => .int _⟩
theorem se_bl {b j pos} : SE X (.Constant (.bool b) j pos) (tC (.bl b)) (eC (.bool b)) := ⟨pe_bl, de_c fun _ => .bl _⟩
theorem se_non {j pos} : SE X (.Constant .none j pos) (tC .non) (eC .none) := ⟨pe_non, de_c fun _ => .non⟩
theorem se_str {x j pos} : SE X (.Constant (.str x) j pos) (tC (.str x)) (eC (.str x)) := ⟨pe_str, de_c fun _ => .str _⟩
/-- a constant of the module -/
theorem se_glob {v : V} {w : Value} {d : PyData} (hg : Gl X x) (hm : X.mg x = some w) (r : RelV v w) (hd : ∀ F, Dp X.K F v d) (hdb : (x == ("__debug__" : Str)) = false := by decide) : SE X (.Name x pos) (tC v) (eC d) := ⟨pe_glob hg hm r hdb, de_c hd⟩
theorem se_add {K : PySem.W.Frag} (h1 : SE X a ta f) (h2 : SE X b tb g) (hK : X.K = K := by rfl) : SE X (.BinOp a .Add b pos) (tOp (rAddG K) ta tb) (eBin gAdd f g) := by
  subst hK
  exact ⟨pe_op op_addG h1.pe h2.pe, de_bin rv_add h1.de h2.de⟩
theorem se_sub (h1 : SE X a ta f) (h2 : SE X b tb g) : SE X (.BinOp a .Sub b pos) (tOp (rI0 fun i j => .int (i - j)) ta tb) (eBin gSub f g) := ⟨pe_op op_sub h1.pe h2.pe, de_bin rv_sub h1.de h2.de⟩
theorem se_mul (h1 : SE X a ta f) (h2 : SE X b tb g) : SE X (.BinOp a .Mult b pos) (tOp (rI MulOk fun i j => .int (i * j)) ta tb) (eBin gMul f g) := ⟨pe_op op_mulG h1.pe h2.pe, de_bin rv_mul h1.de h2.de⟩
theorem se_fdiv (h1 : SE X a ta f) (h2 : SE X b tb g) : SE X (.BinOp a .FloorDiv b pos) (tOp (rI (fun _ j => j ≠ 0 ∧ j.natAbs < divLim) fun i j => .int (i.fdiv j)) ta tb) (eBin gFdiv f g) := ⟨pe_op op_fdivG h1.pe h2.pe, de_bin rv_fdiv h1.de h2.de⟩
theorem se_mod (h1 : SE X a ta f) (h2 : SE X b tb g) : SE X (.BinOp a .Mod b pos) (tOp (rI (fun _ j => j ≠ 0) fun i j => .int (i.fmod j)) ta tb) (eBin gMod f g) := ⟨pe_op op_modN h1.pe h2.pe, de_bin rv_mod h1.de h2.de⟩
theorem se_pow (h1 : SE X a ta f) (h2 : SE X b tb g) : SE X (.BinOp a .Pow b pos) (tOp (rI CPow fun i j => .int (i ^ j.toNat)) ta tb) (eBin gPow f g) := ⟨pe_op op_pow h1.pe h2.pe, de_bin rv_pow h1.de h2.de⟩
theorem se_neg (h1 : SE X a ta f) : SE X (.UnaryOp .USub a pos) (tUn (rU fun i => .int (-i)) ta) (eUn gNeg f) := ⟨pe_un un_neg h1.pe, de_un ru_neg h1.de⟩
theorem se_lt (h1 : SE X a ta f) (h2 : SE X b tb g) : SE X (.Compare a [.Lt] [b] pos) (tOp (rI0 fun i j => .bl (decide (i < j))) ta tb) (eBin gLt f g) := ⟨pe_cmpR op_lt h1.pe h2.pe (nomark _), de_bin rv_lt h1.de h2.de⟩
theorem se_le (h1 : SE X a ta f) (h2 : SE X b tb g) : SE X (.Compare a [.LtE] [b] pos) (tOp (rI0 fun i j => .bl (decide (i ≤ j))) ta tb) (eBin gLe f g) := ⟨pe_cmpR op_le h1.pe h2.pe (nomark _), de_bin rv_le h1.de h2.de⟩
theorem se_gt (h1 : SE X a ta f) (h2 : SE X b tb g) : SE X (.Compare a [.Gt] [b] pos) (tOp (rI0 fun i j => .bl (decide (j < i))) ta tb) (eBin gGt f g) := ⟨pe_cmpR op_gt h1.pe h2.pe (nomark _), de_bin rv_gt h1.de h2.de⟩
theorem se_ge (h1 : SE X a ta f) (h2 : SE X b tb g) : SE X (.Compare a [.GtE] [b] pos) (tOp (rI0 fun i j => .bl (decide (j ≤ i))) ta tb) (eBin gGe f g) := ⟨pe_cmpR op_ge h1.pe h2.pe (nomark _), de_bin rv_ge h1.de h2.de⟩
theorem se_eq {K : PySem.W.Frag} (hu : X.A.units + 64 < cLine) (h1 : SE X a ta f) (h2 : SE X b tb g) (hK : X.K = K := by rfl) : SE X (.Compare a [.Eq] [b] pos) (tOp (rEqD K) ta tb) (eBin gEq f g) := by
  subst hK
  exact ⟨pe_cmpR (op_eqD hu) h1.pe h2.pe (nomark _), de_bin rv_eq h1.de h2.de⟩
theorem se_ne {K : PySem.W.Frag} (hu : X.A.units + 64 < cLine) (h1 : SE X a ta f) (h2 : SE X b tb g) (hK : X.K = K := by rfl) : SE X (.Compare a [.NotEq] [b] pos) (tOp (rNeD K) ta tb) (eBin gNe f g) := by
  subst hK
  exact ⟨pe_cmpR (op_neD hu) h1.pe h2.pe (nomark _), de_bin rv_ne h1.de h2.de⟩
theorem se_in {K : PySem.W.Frag} (hu : X.A.units + 65 < cLine) (h1 : SE X a ta f) (h2 : SE X b tb g) (hm : behindInMarks .In b = false := by rfl) (hK : X.K = K := by rfl) : SE X (.Compare a [.In] [b] pos) (tOp (rInD K) ta tb) (eBin gIn f g) := by
  subst hK
  exact ⟨pe_cmpR (op_inD hu) h1.pe h2.pe hm, de_bin rv_in h1.de h2.de⟩
theorem se_notIn {K : PySem.W.Frag} (hu : X.A.units + 65 < cLine) (h1 : SE X a ta f) (h2 : SE X b tb g) (hm : behindInMarks .NotIn b = false := by rfl) (hK : X.K = K := by rfl) : SE X (.Compare a [.NotIn] [b] pos) (tOp (rNotInD K) ta tb) (eBin gNotIn f g) := by
  subst hK
  exact ⟨pe_cmpR (op_notInD hu) h1.pe h2.pe hm, de_bin rv_notIn h1.de h2.de⟩
/-- x is None -/
@[simp] def isNone : PyData → Bool
  | .none => true
  | _ => false
@[simp] def gIsN : PyData → PyData → Option R := fun d e => match e with
  | .none => some (.val (.bool (isNone d)))
  | _ => none
@[simp] def gNotN : PyData → PyData → Option R := fun d e => match e with
  | .none => some (.val (.bool (!isNone d)))
  | _ => none
theorem dp_isN {K : PySem.W.Frag} {F : Hp} {v : V} {d : PyData} (h : Dp K F v d) : decide (v = .non) = isNone d := by cases h <;> rfl
theorem rv_isN {K : PySem.W.Frag} : RVD K (fun x y H Q => y = .non ∧ Q (.bl (decide (x = .non))) H) gIsN := fun F H x y dx dy r fh d1 d2 e Q q => by
  unfold gIsN at e
  split at e
  · cases e
    cases d2
    refine ⟨rfl, q F H _ (Grow.refl fh) ?_⟩
    rw [dp_isN d1]
    cases dx <;> exact .bl _
  · cases e
theorem rv_notN {K : PySem.W.Frag} : RVD K (fun x y H Q => y = .non ∧ Q (.bl (!decide (x = .non))) H) gNotN := fun F H x y dx dy r fh d1 d2 e Q q => by
  unfold gNotN at e
  split at e
  · cases e
    cases d2
    refine ⟨rfl, q F H _ (Grow.refl fh) ?_⟩
    rw [dp_isN d1]
    cases dx <;> exact .bl _
  · cases e
theorem se_isN (h1 : SE X a ta f) {j pos'} : SE X (.Compare a [.Is] [.Constant .none j pos'] pos) (tOp (fun x y H Q => y = .non ∧ Q (.bl (decide (x = .non))) H) ta (tC .non)) (eBin gIsN f (eC .none)) := ⟨pe_cmpR op_isN h1.pe pe_non (nomark _), de_bin rv_isN h1.de (de_c fun _ => .non)⟩
theorem se_notN (h1 : SE X a ta f) {j pos'} : SE X (.Compare a [.IsNot] [.Constant .none j pos'] pos) (tOp (fun x y H Q => y = .non ∧ Q (.bl (!decide (x = .non))) H) ta (tC .non)) (eBin gNotN f (eC .none)) := ⟨pe_cmpR op_notN h1.pe pe_non (nomark _), de_bin rv_notN h1.de (de_c fun _ => .non)⟩
theorem se_ix {K : PySem.W.Frag} (h1 : SE X a ta f) (h2 : SE X b tb g) (hs : PlainIx b := by exact fun _ _ => rfl) (hK : X.K = K := by rfl) : SE X (.Subscript a b pos) (tOp (rIx K) ta tb) (eBin gIx f g) := by
  subst hK
  exact ⟨pe_ix ix_seq h1.pe h2.pe hs, de_bin rv_ix h1.de h2.de⟩
theorem se_ixO {K : PySem.W.Frag} {j : Nat} (h1 : PE X a (tVar j)) (h2 : SE X b tb g) (hs : PlainIx b := by exact fun _ _ => rfl) (hK : X.K = K := by rfl) : SE X (.Subscript a b pos) (tOp (rIx K) (tVar j) tb) (eIxO j g) := by
  subst hK
  exact ⟨pe_ix ix_seq h1 h2.pe hs, de_ixO h2.de⟩
structure SO (X : Cx) (e : Option Expr) (to : TO) (f : OF) : Prop where
  po : PO X e to
  d : DO X.K to f
theorem so_none : SO X none tNoPart oNone := ⟨po_none, do_none⟩
theorem so_some (h1 : SE X a ta f) : SO X (some a) (tPart ta) (oSome f) := ⟨po_some h1.pe, do_some h1.de⟩
theorem se_sl {K : PySem.W.Frag} {lo hi : Option Expr} {tl th : TO} {ol oh : OF} {p2 : Pos} (h1 : SE X a ta f) (hl : SO X lo tl ol) (hh : SO X hi th oh) (hK : X.K = K := by rfl) : SE X (.Subscript a (.Slice lo hi none p2) pos) (tSl (rSlLA K) ta tl th) (eSl f ol oh) := by
  subst hK
  exact ⟨pe_slice sl_la h1.pe hl.po hh.po, de_sl h1.de hl.d hh.d⟩
theorem se_slO {K : PySem.W.Frag} {j : Nat} {lo hi : Option Expr} {tl th : TO} {ol oh : OF} {p2 : Pos} (h1 : PE X a (tVar j)) (hl : SO X lo tl ol) (hh : SO X hi th oh) (hK : X.K = K := by rfl) : SE X (.Subscript a (.Slice lo hi none p2) pos) (tSl (rSlL K) (tVar j) tl th) (eSlO j ol oh) := by
  subst hK
  exact ⟨pe_slice sl_list h1 hl.po hh.po, de_slO hl.d hh.d⟩
theorem sa_nil : SA X [] tNil aNil := ⟨pa_nil, da_nil⟩
theorem sa_cons (h1 : SE X e te f) (h2 : SA X es t af) (hs : starEach (e :: es) X.env = (false, eval e X.env) :: starEach es X.env := by rfl) : SA X (e :: es) (tCons te t) (aCons f af) := ⟨pa_cons h1.pe h2.pa hs, da_cons h1.de h2.da⟩
theorem se_tup {x1} (h1 : SA X es t af) : SE X (.Tuple es x1 pos) (tTup t) (eTup af) := ⟨pe_tup h1.pa, de_tup h1.da⟩
theorem se_lst (h1 : SA X es t af) : SE X (.List es pos) (tLst t) (eLst af) := ⟨pe_lst h1.pa, de_lst h1.da⟩
theorem se_peek (h1 : SE X e te f) : SE X e te (ePeek f) := ⟨h1.pe, de_peek h1.de⟩
theorem st_peek (h1 : ST X e tt u) : ST X e tt (tPeek u) := ⟨h1.pt, dt_peek h1.dt⟩
/-- calls of built-ins -/
theorem se_cb {id : String} {r : List V → Hp → VK → Prop} {g : List PyData → Option R} (hc : CallR X (.builtin id) r) (hr : RCD X.K r g) (hg : Gl X x) (hm : X.mg x = none) (hv : bootBuiltins x = some (.builtin id)) (ha : SA X (e :: es) t af) (hn : x ≠ "__name__" := by decide) (hdb : (x == ("__debug__" : Str)) = false := by decide)
    (he : starEach (e :: es) X.env = (false, eval e X.env) :: starEach es X.env := by rfl) (hpl : (backTo pos (starEach es X.env)).any (·.1) = false := by rfl) : SE X (.Call (.Name x p) (e :: es) [] pos) (tCB r t) (eCall g af) :=
  ⟨pe_callB hc hg hm hv ha.pa hn hdb he hpl, de_cb hr ha.da⟩
theorem se_cty {T : String} {r : List V → Hp → VK → Prop} {g : List PyData → Option R} (hc : CallR X (.type T) r) (hr : RCD X.K r g) (hg : Gl X x) (hm : X.mg x = none) (hv : bootBuiltins x = some (.type T)) (ha : SA X (e :: es) t af) (hn : x ≠ "__name__" := by decide) (hdb : (x == ("__debug__" : Str)) = false := by decide)
    (he : starEach (e :: es) X.env = (false, eval e X.env) :: starEach es X.env := by rfl) (hpl : (backTo pos (starEach es X.env)).any (·.1) = false := by rfl) : SE X (.Call (.Name x p) (e :: es) [] pos) (tCB r t) (eCall g af) :=
  ⟨pe_callTy hc hg hm hv ha.pa hn hdb he hpl, de_cb hr ha.da⟩
/-- a function of a library's module, imported by its name -/
theorem se_cfun {id : String} {r : List V → Hp → VK → Prop} {g : List PyData → Option R} (hc : CallR X (.builtin id) r) (hr : RCD X.K r g) (hg : Gl X x) (hm : X.mg x = some (.builtin id)) (ha : SA X (e :: es) t af) (hdb : (x == ("__debug__" : Str)) = false := by decide)
    (he : starEach (e :: es) X.env = (false, eval e X.env) :: starEach es X.env := by rfl) (hpl : (backTo pos (starEach es X.env)).any (·.1) = false := by rfl) : SE X (.Call (.Name x p) (e :: es) [] pos) (tCB r t) (eCall g af) :=
  ⟨pe_callBfun hc hg hm ha.pa hdb he hpl, de_cb hr ha.da⟩
theorem se_c_len {K : PySem.W.Frag} (hg : Gl X x) (hm : X.mg x = none) (hv : bootBuiltins x = some (.builtin "len")) (ha : SA X (e :: es) t af) (hn : x ≠ "__name__" := by decide) (hdb : (x == ("__debug__" : Str)) = false := by decide)
    (he : starEach (e :: es) X.env = (false, eval e X.env) :: starEach es X.env := by rfl) (hpl : (backTo pos (starEach es X.env)).any (·.1) = false := by rfl) (hK : X.K = K := by rfl) : SE X (.Call (.Name x p) (e :: es) [] pos) (tCB (fun xs H Q => ∃ x n, xs = [x] ∧ LenV K x H n ∧ Q (.int n) H) t) (eCall gLen af) := by
  subst hK
  exact se_cb call_len rc_len hg hm hv ha hn hdb he hpl
theorem se_c_abs (hg : Gl X x) (hm : X.mg x = none) (hv : bootBuiltins x = some (.builtin "abs")) (ha : SA X (e :: es) t af) (hn : x ≠ "__name__" := by decide) (hdb : (x == ("__debug__" : Str)) = false := by decide)
    (he : starEach (e :: es) X.env = (false, eval e X.env) :: starEach es X.env := by rfl) (hpl : (backTo pos (starEach es X.env)).any (·.1) = false := by rfl) : SE X (.Call (.Name x p) (e :: es) [] pos) (tCB (fun xs H Q => ∃ i, xs = [.int i] ∧ Q (.int (if i < 0 then -i else i)) H) t) (eCall gAbs af) := se_cb call_abs rc_abs hg hm hv ha hn hdb he hpl
theorem se_c_all {K : PySem.W.Frag} (hg : Gl X x) (hm : X.mg x = none) (hv : bootBuiltins x = some (.builtin "all")) (ha : SA X (e :: es) t af) (hn : x ≠ "__name__" := by decide) (hdb : (x == ("__debug__" : Str)) = false := by decide)
    (he : starEach (e :: es) X.env = (false, eval e X.env) :: starEach es X.env := by rfl) (hpl : (backTo pos (starEach es X.env)).any (·.1) = false := by rfl) (hc : X.calm = true := by rfl) (hK : X.K = K := by rfl) : SE X (.Call (.Name x p) (e :: es) [] pos) (tCB (rAll K) t) (eCall gAll af) := by
  subst hK
  exact se_cb (cr_all hc) rc_all hg hm hv ha hn hdb he hpl
theorem se_c_any {K : PySem.W.Frag} (hg : Gl X x) (hm : X.mg x = none) (hv : bootBuiltins x = some (.builtin "any")) (ha : SA X (e :: es) t af) (hn : x ≠ "__name__" := by decide) (hdb : (x == ("__debug__" : Str)) = false := by decide)
    (he : starEach (e :: es) X.env = (false, eval e X.env) :: starEach es X.env := by rfl) (hpl : (backTo pos (starEach es X.env)).any (·.1) = false := by rfl) (hc : X.calm = true := by rfl) (hK : X.K = K := by rfl) : SE X (.Call (.Name x p) (e :: es) [] pos) (tCB (rAny K) t) (eCall gAny af) := by
  subst hK
  exact se_cb (cr_any hc) rc_any hg hm hv ha hn hdb he hpl
theorem se_c_sum {K : PySem.W.Frag} (hg : Gl X x) (hm : X.mg x = none) (hv : bootBuiltins x = some (.builtin "sum")) (ha : SA X (e :: es) t af) (hn : x ≠ "__name__" := by decide) (hdb : (x == ("__debug__" : Str)) = false := by decide)
    (he : starEach (e :: es) X.env = (false, eval e X.env) :: starEach es X.env := by rfl) (hpl : (backTo pos (starEach es X.env)).any (·.1) = false := by rfl) (hc : X.calm = true := by rfl) (hK : X.K = K := by rfl) : SE X (.Call (.Name x p) (e :: es) [] pos) (tCB (rSum K) t) (eCall gSum af) := by
  subst hK
  exact se_cb (cr_sum hc) rc_sum hg hm hv ha hn hdb he hpl
theorem se_c_int (hg : Gl X x) (hm : X.mg x = none) (hv : bootBuiltins x = some (.type "int")) (ha : SA X (e :: es) t af) (hn : x ≠ "__name__" := by decide) (hdb : (x == ("__debug__" : Str)) = false := by decide)
    (he : starEach (e :: es) X.env = (false, eval e X.env) :: starEach es X.env := by rfl) (hpl : (backTo pos (starEach es X.env)).any (·.1) = false := by rfl) : SE X (.Call (.Name x p) (e :: es) [] pos) (tCB (fun xs H Q => (∃ i, xs = [.int i] ∧ Q (.int i) H) ∨ ∃ k, xs = [.bl k] ∧ Q (.int (if k then 1 else 0)) H) t) (eCall gInt af) := se_cty call_int1 rc_int hg hm hv ha hn hdb he hpl
theorem se_c_str (hg : Gl X x) (hm : X.mg x = none) (hv : bootBuiltins x = some (.type "str")) (ha : SA X (e :: es) t af) (hn : x ≠ "__name__" := by decide) (hdb : (x == ("__debug__" : Str)) = false := by decide)
    (he : starEach (e :: es) X.env = (false, eval e X.env) :: starEach es X.env := by rfl) (hpl : (backTo pos (starEach es X.env)).any (·.1) = false := by rfl) : SE X (.Call (.Name x p) (e :: es) [] pos) (tCB (fun xs H Q => ∃ i, xs = [.int i] ∧ i.natAbs.log2 < 1920 ∧ Q (.str (toString i)) H) t) (eCall gStr af) := se_cty call_str_int rc_str hg hm hv ha hn hdb he hpl
theorem se_c_list {K : PySem.W.Frag} (hg : Gl X x) (hm : X.mg x = none) (hv : bootBuiltins x = some (.type "list")) (ha : SA X (e :: es) t af) (hn : x ≠ "__name__" := by decide) (hdb : (x == ("__debug__" : Str)) = false := by decide)
    (he : starEach (e :: es) X.env = (false, eval e X.env) :: starEach es X.env := by rfl) (hpl : (backTo pos (starEach es X.env)).any (·.1) = false := by rfl) (hK : X.K = K := by rfl) : SE X (.Call (.Name x p) (e :: es) [] pos) (tCB (fun xs H Q => ∃ p ys, xs = [.ref p] ∧ (SqL K H p ys ∨ SqT K H p ys) ∧ ∀ l, H l = none → Q (.ref l) (upd H l (.lst ys))) t) (eCall gList af) := by
  subst hK
  exact se_cty call_list_of rc_list hg hm hv ha hn hdb he hpl
/-- isinstance with a built-in class -/
@[simp] def eIsi (T : String) (f : EF) : EF := fun env => (f env).bind fun r => some (.val (.bool (isi T r.frz)))
theorem de_isi {K : PySem.W.Frag} {T : String} (hT : T ∈ ["int", "bool", "str", "tuple", "list"]) (h1 : DE K ta f) : DE K (tCB (rIsi K) (tCons ta (tCons (tC (.ty T)) tNil))) (eIsi T f) := fun B F H σ env r S fh bh e Q q => by
  obtain ⟨a, ea, e⟩ := bnd e
  cases e
  refine h1.z S fh bh ea fun F1 H1 x g1 d1 => ?_
  exact ⟨x, .ty T, _, _, _, rfl, .ty T, dp_ty (dp_mono g1.i d1), kit_isi hT, q F1 H1 _ g1 (.bl _)⟩
theorem se_isi {K : PySem.W.Frag} {T : String} {pT : Pos} {xT : Str} (hT : T ∈ ["int", "bool", "str", "tuple", "list"]) (hg : Gl X x) (hm : X.mg x = none) (hv : bootBuiltins x = some (.builtin "isinstance")) (hgT : Gl X xT) (hmT : X.mg xT = none) (hvT : bootBuiltins xT = some (.type T)) (h1 : SE X a ta f) (hn : x ≠ "__name__" := by decide) (hdb : (x == ("__debug__" : Str)) = false := by decide)
    (hnT : xT ≠ "__name__" := by decide) (hdT : (xT == ("__debug__" : Str)) = false := by decide)
    (he1 : starEach [.Name xT pT] X.env = (false, eval (.Name xT pT) X.env) :: starEach [] X.env := by rfl)
    (he : starEach [a, .Name xT pT] X.env = (false, eval a X.env) :: starEach [.Name xT pT] X.env := by rfl) (hpl : (backTo pos (starEach [.Name xT pT] X.env)).any (·.1) = false := by rfl) (hK : X.K = K := by rfl) : SE X (.Call (.Name x p) [a, .Name xT pT] [] pos) (tCB (rIsi K) (tCons ta (tCons (tC (.ty T)) tNil))) (eIsi T f) := by
  subst hK
  exact ⟨pe_callB call_isi hg hm hv (pa_cons h1.pe (pa_cons (pe_bltn (v := .ty T) hgT hmT hvT rfl hnT hdT) pa_nil he1) he) hn hdb he hpl, de_isi hT h1.de⟩

/-! tests -/
theorem st_lt (h1 : SE X a ta f) (h2 : SE X b tb g) : ST X (.Compare a [.Lt] [b] pos) (tTest (tOp (rI0 fun i j => .bl (decide (i < j))) ta tb)) (tE (eBin gLt f g)) := ⟨pt_cmpR op_lt h1.pe h2.pe (nomark _), dt_test (de_bin rv_lt h1.de h2.de)⟩
theorem st_le (h1 : SE X a ta f) (h2 : SE X b tb g) : ST X (.Compare a [.LtE] [b] pos) (tTest (tOp (rI0 fun i j => .bl (decide (i ≤ j))) ta tb)) (tE (eBin gLe f g)) := ⟨pt_cmpR op_le h1.pe h2.pe (nomark _), dt_test (de_bin rv_le h1.de h2.de)⟩
theorem st_gt (h1 : SE X a ta f) (h2 : SE X b tb g) : ST X (.Compare a [.Gt] [b] pos) (tTest (tOp (rI0 fun i j => .bl (decide (j < i))) ta tb)) (tE (eBin gGt f g)) := ⟨pt_cmpR op_gt h1.pe h2.pe (nomark _), dt_test (de_bin rv_gt h1.de h2.de)⟩
theorem st_ge (h1 : SE X a ta f) (h2 : SE X b tb g) : ST X (.Compare a [.GtE] [b] pos) (tTest (tOp (rI0 fun i j => .bl (decide (j ≤ i))) ta tb)) (tE (eBin gGe f g)) := ⟨pt_cmpR op_ge h1.pe h2.pe (nomark _), dt_test (de_bin rv_ge h1.de h2.de)⟩
theorem st_eq {K : PySem.W.Frag} (hu : X.A.units + 64 < cLine) (h1 : SE X a ta f) (h2 : SE X b tb g) (hK : X.K = K := by rfl) : ST X (.Compare a [.Eq] [b] pos) (tTest (tOp (rEqD K) ta tb)) (tE (eBin gEq f g)) := by
  subst hK
  exact ⟨pt_cmpR (op_eqD hu) h1.pe h2.pe (nomark _), dt_test (de_bin rv_eq h1.de h2.de)⟩
theorem st_ne {K : PySem.W.Frag} (hu : X.A.units + 64 < cLine) (h1 : SE X a ta f) (h2 : SE X b tb g) (hK : X.K = K := by rfl) : ST X (.Compare a [.NotEq] [b] pos) (tTest (tOp (rNeD K) ta tb)) (tE (eBin gNe f g)) := by
  subst hK
  exact ⟨pt_cmpR (op_neD hu) h1.pe h2.pe (nomark _), dt_test (de_bin rv_ne h1.de h2.de)⟩
theorem st_in {K : PySem.W.Frag} (hu : X.A.units + 65 < cLine) (h1 : SE X a ta f) (h2 : SE X b tb g) (hm : behindInMarks .In b = false := by rfl) (hK : X.K = K := by rfl) : ST X (.Compare a [.In] [b] pos) (tTest (tOp (rInD K) ta tb)) (tE (eBin gIn f g)) := by
  subst hK
  exact ⟨pt_cmpR (op_inD hu) h1.pe h2.pe hm, dt_test (de_bin rv_in h1.de h2.de)⟩
theorem st_notIn {K : PySem.W.Frag} (hu : X.A.units + 65 < cLine) (h1 : SE X a ta f) (h2 : SE X b tb g) (hm : behindInMarks .NotIn b = false := by rfl) (hK : X.K = K := by rfl) : ST X (.Compare a [.NotIn] [b] pos) (tTest (tOp (rNotInD K) ta tb)) (tE (eBin gNotIn f g)) := by
  subst hK
  exact ⟨pt_cmpR (op_notInD hu) h1.pe h2.pe hm, dt_test (de_bin rv_notIn h1.de h2.de)⟩
theorem st_isN (h1 : SE X a ta f) {j pos'} : ST X (.Compare a [.Is] [.Constant .none j pos'] pos) (tTest (tOp (fun x y H Q => y = .non ∧ Q (.bl (decide (x = .non))) H) ta (tC .non))) (tE (eBin gIsN f (eC .none))) := ⟨pt_cmpR op_isN h1.pe pe_non (nomark _), dt_test (de_bin rv_isN h1.de (de_c fun _ => .non))⟩
theorem st_notN (h1 : SE X a ta f) {j pos'} : ST X (.Compare a [.IsNot] [.Constant .none j pos'] pos) (tTest (tOp (fun x y H Q => y = .non ∧ Q (.bl (!decide (x = .non))) H) ta (tC .non))) (tE (eBin gNotN f (eC .none))) := ⟨pt_cmpR op_notN h1.pe pe_non (nomark _), dt_test (de_bin rv_notN h1.de (de_c fun _ => .non))⟩
/-- a call, a name, a constant that is True or False -/
theorem st_val (h1 : SE X e te f) (he : ∀ whole, isTrue e X.env whole = (do let v ← whole; standAt e.pos; holding [v] (truthy v)) := by intro _; rfl) : ST X e (tB te) (tE f) := ⟨pt_val h1.pe he, dt_B h1.de⟩
theorem sw_and1 (h1 : ST X a tt u) : SW X (.BoolOp .And [a] pos) tt u := ⟨pw_and1 h1.pt, h1.dt⟩
theorem sw_or1 (h1 : ST X a tt u) : SW X (.BoolOp .Or [a] pos) tt u := ⟨pw_or1 h1.pt, h1.dt⟩
theorem sw_and {rest : List Expr} (h1 : ST X a tt u) (h2 : SW X (.BoolOp .And (b :: rest) pos) tu v) : SW X (.BoolOp .And (a :: b :: rest) pos) (tAnd tt tu) (tAndD u v) := ⟨pw_and h1.pt h2.pw, dt_and h1.dt h2.dt⟩
theorem sw_or {rest : List Expr} (h1 : ST X a tt u) (h2 : SW X (.BoolOp .Or (b :: rest) pos) tu v) : SW X (.BoolOp .Or (a :: b :: rest) pos) (tOr tt tu) (tOrD u v) := ⟨pw_or h1.pt h2.pw, dt_or h1.dt h2.dt⟩
theorem st_not (h1 : ST X a tt u) : ST X (.UnaryOp .Not a pos) (tNot tt) (tNotD u) := ⟨pt_not h1.pt, dt_not h1.dt⟩
theorem se_one {op} (h1 : SE X a ta f) : SE X (.BoolOp op [a] pos) ta f := ⟨pe_one h1.pe, h1.de⟩
theorem se_and {rest : List Expr} (h1 : SE X a ta f) (h2 : SE X (.BoolOp .And (b :: rest) pos) tb g) : SE X (.BoolOp .And (a :: b :: rest) pos) (tAndV ta tb) (eIf (tE f) g (eC (.bool false))) := ⟨pe_and h1.pe h2.pe, de_andV h1.de h2.de⟩
theorem se_or {rest : List Expr} (h1 : SE X a ta f) (h2 : SE X (.BoolOp .Or (b :: rest) pos) tb g) : SE X (.BoolOp .Or (a :: b :: rest) pos) (tOrV ta tb) (eIf (tE f) (eC (.bool true)) g) := ⟨pe_or h1.pe h2.pe, de_orV h1.de h2.de⟩
theorem se_not (h1 : SE X a ta f) : SE X (.UnaryOp .Not a pos) (tNotV ta) (eT (tNotD (tE f))) := ⟨pe_not h1.pe, de_notV h1.de⟩
theorem se_if (hc : ST X c tt u) (h1 : SE X a ta f) (h2 : SE X b tb g) : SE X (.IfExp c a b pos) (tIf tt ta tb) (eIf u f g) := ⟨pe_ifExp hc.pt h1.pe h2.pe, de_ifE hc.dt h1.de h2.de⟩
/-! a chain of two comparisons -/
@[simp] def eChain (g1 g2 : PyData → PyData → Option R) (f g h : EF) : EF := fun env => (f env).bind fun a => (g env).bind fun b => (g1 a.frz b.frz).bind fun r => (toB r.frz).bind fun k => if k = true then (h env).bind fun c => g2 b.frz c.frz else some (.val (.bool false))
theorem de_chain {K : PySem.W.Frag} {r1 r2 : R2} {g1 g2 : PyData → PyData → Option R} (k1 : RVD K r1 g1) (k2 : RVD K r2 g2) (h1 : DE K ta f) (h2 : DE K tb g) (h3 : DE K tc h) : DE K (tChain r1 r2 ta tb tc) (eChain g1 g2 f g h) := fun B F H σ env r S fh bh e Q q => by
  obtain ⟨a, ea, e⟩ := bnd e
  obtain ⟨b, eb, e⟩ := bnd e
  obtain ⟨r0, er, e⟩ := bnd e
  obtain ⟨k, ek, e⟩ := bnd e
  refine h1.z S fh bh ea fun F1 H1 x G1 d1 => ?_
  refine h2.z (S.grow G1) G1.i (bh.trans G1.h) eb fun F2 H2 y G2 d2 => ?_
  refine k1 F2 H2 x y _ _ r0 G2.i (dp_mono G2.f d1) d2 er _ fun F3 H3 v G3 rr => ?_
  obtain ⟨F4, G4, s4, d4⟩ := rr.frz G3
  rw [toB_some ek] at d4
  rw [dp_bool d4]
  have g4 := (G1.trans G2).trans G4
  refine ⟨k, rfl, ?_⟩
  cases k with
  | true =>
    refine iteT ?_
    obtain ⟨c, ec, e⟩ := bnd e
    refine h3.z (S.grow g4) g4.i (bh.trans g4.h) ec fun F5 H5 z G5 d5 => ?_
    refine k2 F5 H5 y z _ _ r G5.i (dp_mono (G4.f.trans G5.f) d2) d5 e Q fun F6 H6 w G6 rr6 => ?_
    exact q F6 H6 w ((g4.trans G5).trans G6) (rr6.back (g4.trans G5))
  | false =>
    cases e
    exact iteF (q F4 H3 _ g4 (.bl false))
theorem se_chain {op op' : CmpOp} {r1 r2 : R2} {g1 g2 : PyData → PyData → Option R} (ho : OpR X (compareOp op) r1) (k1 : RVD X.K r1 g1) (ho' : OpR X (compareOp op') r2) (k2 : RVD X.K r2 g2) (h1 : SE X a ta f) (h2 : SE X b tb g) (h3 : SE X c tc h) (hm : lastMarks [op, op'] [b, c] = false := by with_unfolding_all rfl) :
    SE X (.Compare a [op, op'] [b, c] pos) (tChain r1 r2 ta tb tc) (eChain g1 g2 f g h) := ⟨pe_chain ho ho' h1.pe h2.pe h3.pe hm, de_chain k1 k2 h1.de h2.de h3.de⟩
theorem st_chain {op op' : CmpOp} {r1 r2 : R2} {g1 g2 : PyData → PyData → Option R} (ho : OpR X (compareOp op) r1) (k1 : RVD X.K r1 g1) (ho' : OpR X (compareOp op') r2) (k2 : RVD X.K r2 g2) (h1 : SE X a ta f) (h2 : SE X b tb g) (h3 : SE X c tc h) (hm : lastMarks [op, op'] [b, c] = false := by with_unfolding_all rfl) :
    ST X (.Compare a [op, op'] [b, c] pos) (tTest (tChain r1 r2 ta tb tc)) (tE (eChain g1 g2 f g h)) := ⟨pt_chain ho ho' h1.pe h2.pe h3.pe hm, dt_test (de_chain k1 k2 h1.de h2.de h3.de)⟩

/-! ### walks and comprehensions -/
structure SG (X : Cx) (tg : Expr) (ws : List Nat) (t : TG) (g : GF) : Prop where
  pg : PG X tg t
  d : DG X.K ws t g
structure SI (X : Cx) (tg iter : Expr) (wi : TI) (f : IF) : Prop where
  pi : PI X tg iter wi
  d : DI X.K wi f
theorem sg_name {i : Nat} (hN : X.N.Nodup) (hi : X.N[i]? = some x) (hx : Loc X.env.scope x) (hf : X.fn x = true ∨ X.env.scope.names.lookup x = some .local := by first | exact .inl rfl | exact .inr rfl | assumption) : SG X (.Name x pos) [i] (gName i) (gtName i) := ⟨pg_name hN hi hx hf, dg_name⟩
theorem sg_tup2 {K : PySem.W.Frag} {i j : Nat} {e1 e2 : Expr} {k : Nat} (hc : X.calm = true) (h : PGs X [e1, e2] (gCons (gName i) (gCons (gName j) gNil)))
    (hn : (assignEach [e1, e2] X.env).length = 2 := by rfl) (hst : (assignEach [e1, e2] X.env).findIdx? (·.1) = none := by rfl) (hK : X.K = K := by rfl) : SG X (.Tuple [e1, e2] k pos) [i, j] (gTup K 2 (gCons (gName i) (gCons (gName j) gNil))) (gtTup2 i j) := by
  subst hK
  exact ⟨pg_tup hc h hn hst, dg_tup2⟩
theorem sg_tup3 {K : PySem.W.Frag} {i j l : Nat} {e1 e2 e3 : Expr} {k : Nat} (hc : X.calm = true) (h : PGs X [e1, e2, e3] (gCons (gName i) (gCons (gName j) (gCons (gName l) gNil))))
    (hn : (assignEach [e1, e2, e3] X.env).length = 3 := by rfl) (hst : (assignEach [e1, e2, e3] X.env).findIdx? (·.1) = none := by rfl) (hK : X.K = K := by rfl) : SG X (.Tuple [e1, e2, e3] k pos) [i, j, l] (gTup K 3 (gCons (gName i) (gCons (gName j) (gCons (gName l) gNil)))) (gtTup3 i j l) := by
  subst hK
  exact ⟨pg_tup hc h hn hst, dg_tup3⟩
variable {tg iter elt : Expr} {wi : TI} {it : IF} {tG : TG} {gf : GF} {ws : List Nat} {body : List Stmt} {tS tS' : TS} {sf sg : SF} {st : Stmt}
theorem si_list {K : PySem.W.Frag} (h1 : SE X a ta f) (hK : X.K = K := by rfl) : SI X tg a (iList K ta) (iL f) := by
  subst hK
  exact ⟨pi_list h1.pe, di_list h1.de⟩
theorem si_tup {K : PySem.W.Frag} (h1 : SE X a ta f) (hK : X.K = K := by rfl) : SI X tg a (iTup K ta) (iT f) := by
  subst hK
  exact ⟨pi_tup h1.pe, di_tup h1.de⟩
theorem si_r1 {p pos : Pos} (hg : Gl X "range") (hm : X.mg "range" = none) (ha : SA X [a] t af) (hs : starEach [a] X.env = [(false, eval a X.env)] := by rfl) : SI X tg (.Call (.Name "range" p) [a] [] pos) (iRng1 t) (iR1 af) := ⟨pi_range1 hg hm ha.pa hs, di_r1 ha.da⟩
theorem si_r2 {p pos : Pos} (hg : Gl X "range") (hm : X.mg "range" = none) (ha : SA X [a, b] t af) (hs : starEach [a, b] X.env = [(false, eval a X.env), (false, eval b X.env)] := by rfl) (hs2 : starEach [b] X.env = [(false, eval b X.env)] := by rfl) : SI X tg (.Call (.Name "range" p) [a, b] [] pos) (iRng2 t) (iR2 af) := ⟨pi_range2 hg hm ha.pa hs hs2, di_r2 ha.da⟩
def iPeek (f : IF) : IF := fun env => (f (env.map unown)).bind fun ds => if ds.all flat = true then some ds else none
structure STs (X : Cx) (ifs : List Expr) (tt : TT) (f : TF) : Prop where
  pts : PTs X ifs tt
  dt : DT X.K tt f
theorem sts_nil : STs X [] tYes tYesD := ⟨pts_nil, dt_yes⟩
theorem sts_one (h1 : ST X c tt u) : STs X [c] tt u := ⟨pts_one h1.pt, h1.dt⟩
theorem se_lc {ifs : List Expr} {scope : Scope} {own : List (Str × Nat)} (hc : X.calm = true) (hN : X.N.Nodup) (hi : SI X tg iter wi it) (ok : BlkOk X.N X.env.scope scope own)
    (hg : ∀ (s : Shared) (H : Hp) (C : Addr) (cl : List (Str × Addr)) (fp : List Addr), SG (X.blk s H scope (compEnvC scope cl C X.env) fp) tg ws tG gf) (hw : ∀ i ∈ ws, i ∈ own.map (·.2))
    (ht : ∀ (s : Shared) (H : Hp) (C : Addr) (cl : List (Str × Addr)) (fp : List Addr), STs (X.blk s H scope (compEnvC scope cl C X.env) fp) ifs tt u)
    (he : ∀ (s : Shared) (H : Hp) (C : Addr) (cl : List (Str × Addr)) (fp : List Addr), SE (X.blk s H scope (compEnvC scope cl C X.env) fp) elt te f) (hs : ∀ x, foldedSetIterable iter X.env x = pure x := by intro _; rfl) :
    SE X (.ListComp elt [⟨tg, iter, ifs, 0⟩] scope pos) (tLc wi tG tt te (own.map (·.2))) (eLc (own.map (·.2)) it gf u f) :=
  ⟨pe_lc hc hN hi.pi ok (fun s H C cl fp => (hg s H C cl fp).pg) (fun s H C cl fp => (ht s H C cl fp).pts) (fun s H C cl fp => (he s H C cl fp).pe) hs,
   de_lc hi.d (hg X.s_0 X.H_0 0 [] []).d hw (ht X.s_0 X.H_0 0 [] []).dt (he X.s_0 X.H_0 0 [] []).de⟩
theorem ss_setLc {i : Nat} {y : Str} {py spos : Pos} {ifs : List Expr} {scope : Scope} {own : List (Str × Nat)} (hc : X.calm = true) (hN : X.N.Nodup) (hy : X.N[i]? = some y) (hyl : X.env.scope.names.lookup y = some .local)
    (hsw : swapsWith (.ListComp elt [⟨tg, iter, ifs, 0⟩] scope pos) (some (.Name y py)) spos.line X.env = pure true) (hi : SI X tg iter wi it) (ok : BlkOk X.N X.env.scope scope own)
    (hg : ∀ (s : Shared) (H : Hp) (C : Addr) (cl : List (Str × Addr)) (fp : List Addr), SG (X.blk s H scope (compEnvC scope cl C X.env) fp) tg ws tG gf) (hw : ∀ i ∈ ws, i ∈ own.map (·.2))
    (ht : ∀ (s : Shared) (H : Hp) (C : Addr) (cl : List (Str × Addr)) (fp : List Addr), STs (X.blk s H scope (compEnvC scope cl C X.env) fp) ifs tt u)
    (he : ∀ (s : Shared) (H : Hp) (C : Addr) (cl : List (Str × Addr)) (fp : List Addr), SE (X.blk s H scope (compEnvC scope cl C X.env) fp) elt te f) (hs : ∀ x, foldedSetIterable iter X.env x = pure x := by intro _; rfl) :
    SS X (.Assign [.Name y py] (.ListComp elt [⟨tg, iter, ifs, 0⟩] scope pos) spos) (tAsg (tLc wi tG tt te (own.map (·.2))) (gName i)) (sSet i (eLc (own.map (·.2)) it gf u f)) :=
  ⟨ps_setLc hc hN hy hyl hsw hi.pi ok (fun s H C cl fp => (hg s H C cl fp).pg) (fun s H C cl fp => (ht s H C cl fp).pts) (fun s H C cl fp => (he s H C cl fp).pe) hs,
   ds_set (de_lc hi.d (hg X.s_0 X.H_0 0 [] []).d hw (ht X.s_0 X.H_0 0 [] []).dt (he X.s_0 X.H_0 0 [] []).de)⟩

/-! ### statements -/
variable {rest : List Stmt}
theorem ss_nil : SSs X [] tNext sNext := ⟨pss_nil, ds_next⟩
theorem ss_one (h1 : SS X st tS sf) : SSs X [st] tS sf := ⟨pss_one h1.ps, h1.ds⟩
theorem ss_cons (h1 : SS X st tS sf) (h2 : SSs X rest tS' sg) : SSs X (st :: rest) (tSeq tS tS') (sSeq sf sg) := ⟨pss_cons h1.ps h2.ps, ds_seq h1.ds h2.ds⟩
/-- an owned list is frozen ahead of a statement -/
theorem ss_frz (i : Nat) (h1 : SS X st tS sf) : SS X st tS (sFrz i sf) := ⟨h1.ps, ds_frz h1.ds⟩
theorem ss_ret (h1 : SE X e te f) : SS X (.Return (some e) pos) (tRet te) (sRet f) := ⟨ps_ret h1.pe, ds_ret h1.de⟩
theorem ss_retN : SS X (.Return none pos) tRetN sRetN := ⟨ps_retN, ds_retN⟩
theorem ss_retO {i : Nat} (h1 : PE X e (tVar i)) : SS X (.Return (some e) pos) (tRet (tVar i)) (sRetOwn i) := ⟨ps_ret h1, ds_retOwn⟩
theorem ss_break : SS X (.Break pos) tBreak sBreak := ⟨ps_break, ds_break⟩
theorem ss_cont : SS X (.Continue pos) tCont sCont := ⟨ps_continue, ds_cont⟩
theorem ss_pass : SS X (.Pass pos) tNext sNext := ⟨ps_pass, ds_next⟩
theorem ss_if {b1 b2 : List Stmt} (hc : ST X c tt u) (h1 : SSs X b1 tS sf) (h2 : SSs X b2 tS' sg) : SS X (.If c b1 b2 pos) (tIfS tt tS tS') (sIf u sf sg) := ⟨ps_if hc.pt h1.ps h2.ps, ds_if hc.dt h1.ds h2.ds⟩
theorem ss_set {i : Nat} {pos' : Pos} (hN : X.N.Nodup) (hi : X.N[i]? = some x) (hx : Loc X.env.scope x) (h1 : SE X e te f) (hs : swapsWith e (some (.Name x pos')) pos.line X.env = pure false := by rfl) (hf : X.fn x = true ∨ X.env.scope.names.lookup x = some .local := by first | exact .inl rfl | exact .inr rfl | assumption) :
    SS X (.Assign [.Name x pos'] e pos) (tAsg te (gName i)) (sSet i f) := ⟨ps_set hN hi hx h1.pe hs hf, ds_set h1.de⟩
theorem ss_asg (h1 : SE X e te f) (hg : SG X tg ws tG gf) (hs : swapsWithSole [tg] e pos.line X.env = pure false := by rfl) (hw : swappedStores [tg] e X.env = pure none := by rfl)
    (h2 : (assignEach [tg] X.env).map (·.2) = [assign tg X.env] := by rfl) : SS X (.Assign [tg] e pos) (tAsg te tG) (sAsg gf f) := ⟨ps_asg h1.pe hg.pg hs hw h2, ds_asg h1.de hg.d⟩
theorem ss_put {j : Nat} {pk : Pos} (h1 : SE X e te f) (h0 : PE X o (tVar j)) (h2 : SE X i ta g)
    (ha : ∀ v, assign (.Subscript o i pk) X.env v = (do
      let ov ← holding [v] (eval o X.env)
      let iv ← holding [v, ov] (eval i X.env)
      standAt pk
      holding [v, ov, iv] (setItem ov iv v)
      release [v, ov, iv] []) := by intro _; rfl)
    (hs : swapsWithSole [.Subscript o i pk] e pos.line X.env = pure false := by rfl) (hw : swappedStores [.Subscript o i pk] e X.env = pure none := by rfl)
    (h3 : (assignEach [.Subscript o i pk] X.env).map (·.2) = [assign (.Subscript o i pk) X.env] := by rfl) : SS X (.Assign [.Subscript o i pk] e pos) (tAsg te (L2.gSub (tVar j) ta rSetL)) (sPut j g f) :=
  ⟨ps_asg h1.pe (pg_sub h0 h2.pe set_list ha) hs hw h3, ds_put h1.de h2.de⟩
theorem ss_drop (h1 : SE X e te f) (hs : swapsWith e none pos.line X.env = pure false := by rfl) : SS X (.Expr e pos) (tDrop te) (sDrop f) := ⟨ps_expr h1.pe hs, ds_drop h1.de⟩
theorem ss_append {j : Nat} {cpos : Pos} (h0 : PE X o (tVar j)) (h1 : SE X e te f) (hs : swapsWith (.Call (.Attribute o "append" apos) [e] [] cpos) none pos.line X.env = pure false := by rfl)
    (hbase : attributeBase o "append" X.env (eval o X.env) = eval o X.env := by rfl)
    (hfew : ((backTo cpos (starEach [e] X.env)).all (fun x => !x.1) && (backToKw cpos (keywordEach [] X.env)).all (fun x => x.1.isSome)
      && decide ([e].length + ([] : List Keyword).length + (if ([] : List Keyword).isEmpty then 0 else 1) < 30)) = true := by rfl)
    (hline : (apos.endLine == cpos.line) = true := by rfl) (hst : starEach [e] X.env = (false, eval e X.env) :: starEach [] X.env := by rfl) (hplain : (backTo cpos (starEach [] X.env)).any (·.1) = false := by rfl) :
    SS X (.Expr (.Call (.Attribute o "append" apos) [e] [] cpos) pos) (tDrop (tBM X.K "list" rAppend (tVar j) (tCons te tNil))) (sAppend j f) :=
  ⟨ps_expr (pe_bm PySem.F.plainAttrs_list PySem.F.slot_list_append PySem.F.type_list_append mt_append h0 (pa_cons h1.pe pa_nil hst) hbase hfew hline hst hplain) hs, ds_append h1.de⟩
theorem ss_for (hp : PassesOwn (model X.prog X.w) X.A X.env X.xe) (hc : X.calm = true) (hi : SI X tg iter wi it) (hg : SG X tg ws tG gf) (hb : SSs X body tS sf) (hs : ∀ x, foldedSetIterable iter X.env x = pure x := by intro _; rfl) :
    SS X (.For tg iter body [] pos) (tFor wi tG tS) (sFor it gf sf) := ⟨ps_for hp hc hi.pi hg.pg hb.ps hs, ds_for hi.d hg.d hb.ds⟩
theorem ss_while (n : Nat) (hp : PassesOwn (model X.prog X.w) X.A X.env X.xe) (hc : ST X c tt u) (hb : SSs X body tS sf) : SS X (.While c body [] pos) (tWhile tt tS) (whileD u sf n) := ⟨ps_while hp hc.pt hb.ps, ds_while n hc.dt hb.ds⟩
end

/-! ### defs -/
@[simp] def startD (N n : Nat) (ds : List PyData) : En := ds.map Sl.val ++ List.replicate (N - n) .no
def resO (o : Option Out) : Option R := match o with
  | some (.rt r) => some r
  | some (.nx _) => some (.val .none)
  | _ => none
@[simp] theorem resO_rt {r : R} : resO (some (.rt r)) = some r := rfl
@[simp] theorem resO_nx {e : En} : resO (some (.nx e)) = some (.val .none) := rfl
theorem resO_ite {c : Prop} [Decidable c] {x y : Option Out} : resO (if c then x else y) = if c then resO x else resO y := by split <;> rfl
@[irreducible] def fnD (N n : Nat) (f : SF) (ds : List PyData) : Option R := if ds.length = n then resO (f (startD N n ds)) else none
def spD (K : PySem.W.Frag) (n : Nat) (g : List PyData → Option R) : Sp := fun vs H Q _ => vs.length = n ∧ ∃ F ds r, Same F H ∧ DpAll K F vs ds ∧ g ds = some r ∧ ∀ F' H' v, Grow F H F' H' → RepR K F' H H' v r → Q v H'
section
variable {P : Program} {w : World} {K : PySem.W.Frag} {mg : Str → Option Value} {base : Heap}
theorem slots_start {F H : Hp} {vs : List V} {ds : List PyData} {N : List Str} {n : Nat} (h : DpAll K F vs ds) (hn : vs.length = n) : Slots K H F H (L2.start N vs) (startD N.length n ds) := by
  have hl := DpAll.len h
  refine ⟨by simp [L2.start, startD, hl, hn] <;> omega, fun _ => 0, fun i v s e1 e2 => ?_, fun i j es fs hij e1 _ => ?_⟩
  · unfold L2.start at e1
    unfold startD at e2
    by_cases hi : i < vs.length
    · rw [List.getElem?_append_left (by simpa using hi), List.getElem?_map] at e1
      rw [List.getElem?_append_left (by simpa using (hl ▸ hi)), List.getElem?_map] at e2
      cases q : ds[i]? with
      | none => rw [q] at e2; cases e2
      | some d =>
        obtain ⟨u, eu, du⟩ := DpAll.get h q
        rw [q] at e2
        rw [eu] at e1
        cases e1
        cases e2
        exact ⟨u, rfl, du⟩
    · rw [List.getElem?_append_right (by simp; omega)] at e2
      rw [List.getElem?_replicate] at e2
      split at e2
      · cases e2
        trivial
      · cases e2
  · unfold startD at e1
    by_cases hi : i < ds.length
    · rw [List.getElem?_append_left (by simpa using hi), List.getElem?_map, List.getElem?_eq_getElem hi] at e1
      cases e1
    · rw [List.getElem?_append_right (by simp; omega), List.getElem?_replicate] at e1
      split at e1 <;> cases e1
/-- THE RULE for a def: its body as a term of rules -/
theorem okD {x qual : Str} {st : Stmt} {f : Addr} {fd : FuncData} {N ps : List Str} {k : Nat} {b : SF} (F : Fun K x qual st f fd) (S : FnScope N ps (defScope st))
    (hbody : ∀ (cdv : Value) (A : Around) (outer : List PySem.Env) (s : Shared) (H : Hp) (E : XK), Room k (A.deeper (envOfC qual (defScope st) s.heap.objs.size f cdv)) → ∃ t, SSs (cxOf CX0 P w K mg base N qual (defScope st) f cdv A outer s H E).nox (defBody st) t b) :
    FnOk P w K mg base CX0 (k + 1) f fd ps (spD K ps.length (fnD N.length ps.length b)) := by
  refine F.ok S (fun vs H Q E h => h.1) (fun cdv A outer s H vs Q E hr h => ?_)
  obtain ⟨hn, F0, ds, r, fh, hd, er, q⟩ := h
  obtain ⟨t, ht⟩ := hbody cdv A outer s H E hr
  refine ⟨t, ht.ps, ?_⟩
  unfold fnD at er
  split at er
  case isFalse => cases er
  have S0 : Sta K F0 H F0 H (L2.start N vs) (startD N.length ps.length ds) := ⟨Grow.refl fh, slots_start hd hn⟩
  unfold resO at er
  split at er
  · rename_i r' eb
    cases er
    exact ht.ds F0 H F0 H _ _ _ S0 eb _ q
  · rename_i e' eb
    cases er
    exact ht.ds F0 H F0 H _ _ _ S0 eb _ fun F' H' σ' _ S' => q F' H' _ S'.g .non
  · cases er
end
section
variable {X : Cx} {x : Str} {p pos : Pos} {e : Expr} {es : List Expr} {t : TA} {af : AF}
theorem de_call {K : PySem.W.Frag} {n : Nat} {g : List PyData → Option R} (hn : ∀ ds r, g ds = some r → ds.length = n) (h : DA K t af) : DE K (tCall (spD K n g) [] E0 t) (eCall g af) := fun B F H σ env r S fh bh e Q q => by
  obtain ⟨ds, ea, e⟩ := bnd e
  refine h B F H σ env ds S fh bh ea _ fun F1 H1 vs g1 d1 => ?_
  rw [List.append_nil]
  exact ⟨by rw [DpAll.len d1, hn _ _ e], F1, ds, r, g1.i, d1, e, fun F2 H2 v g2 rr => q F2 H2 v (g1.trans g2) (rr.back g1)⟩
theorem fnD_len {N n : Nat} {f : SF} {ds : List PyData} {r : R} (h : fnD N n f ds = some r) : ds.length = n := by
  unfold fnD at h
  split at h
  · assumption
  · cases h
theorem se_call {k f N n : Nat} {K : PySem.W.Frag} {fd : FuncData} {ps : List Str} {b : SF} (G : FnOk X.prog X.w X.K X.mg X.base CX0 k f fd ps (spD X.K n (fnD N n b))) (hr : Room k X.A) (hg : Gl X x) (hm : X.mg x = some (.ref f)) (hk : PySem.W.keepIn X.K (.ref f) = true) (hb : Binds X.K fd ps [])
    (ha : SA X (e :: es) t af) (hdb : (x == ("__debug__" : Str)) = false := by decide) (he : starEach (e :: es) X.env = (false, eval e X.env) :: starEach es X.env := by rfl) (hpl : (backTo pos (starEach es X.env)).any (·.1) = false := by rfl) (hK : X.K = K := by rfl) :
    SE X (.Call (.Name x p) (e :: es) [] pos) (tCall (spD K n (fnD N n b)) [] E0 t) (eCall (fnD N n b) af) := by
  subst hK
  exact ⟨pe_call G hr hg hm hk hb .nil pass0 ha.pa hdb he hpl, de_call (fun _ _ => fnD_len) ha.da⟩
end
end Dn
namespace Dn
open PySem PySem.Spec PyProof.Rows L2
/-! a walk over a list or a tuple -/
theorem pi_or {X : Cx} {tg l : Expr} {w1 w2 : TI} (h1 : PI X tg l w1) (h2 : PI X tg l w2) : PI X tg l (fun σ H R => w1 σ H R ∨ w2 σ H R) := ⟨fun pins s σ H R I h => by
  rcases h with h | h
  · exact h1.run pins s σ H R I h
  · exact h2.run pins s σ H R I h⟩
@[simp] def iS (f : EF) : IF := fun env => (f env).bind fun r => match r.frz with
  | .list ds => some ds
  | .tuple ds => some ds
  | _ => none
section
variable {X : Cx} {tg a : Expr} {ta : TE} {f : EF}
theorem di_seq {K : PySem.W.Frag} (h : DE K ta f) : DI K (fun σ H R => iList K ta σ H R ∨ iTup K ta σ H R) (iS f) := fun B F H σ env ds S fh bh e R q => by
  obtain ⟨r, er, e⟩ := bnd e
  cases hr : r.frz with
  | list es =>
    rw [hr] at e
    exact .inl (di_list h B F H σ env ds S fh bh (by unfold iL; rw [er]; show (match r.frz with | .list ds => some ds | _ => none) = _; rw [hr]; exact e) R q)
  | tuple es =>
    rw [hr] at e
    exact .inr (di_tup h B F H σ env ds S fh bh (by unfold iT; rw [er]; show (match r.frz with | .tuple ds => some ds | _ => none) = _; rw [hr]; exact e) R q)
  | none => rw [hr] at e; cases e
  | bool _ => rw [hr] at e; cases e
  | int _ => rw [hr] at e; cases e
  | str _ => rw [hr] at e; cases e
  | dict _ => rw [hr] at e; cases e
theorem si_seq {K : PySem.W.Frag} (h1 : SE X a ta f) (hK : X.K = K := by rfl) : SI X tg a (fun σ H R => iList K ta σ H R ∨ iTup K ta σ H R) (iS f) := by
  subst hK
  exact ⟨pi_or (pi_list h1.pe) (pi_tup h1.pe), di_seq h1.de⟩
end
/-! the law's own end -/
def spLaw (K : PySem.W.Frag) : Sp := fun vs H Q _ => ∃ (a : Addr) (ns : List Int), vs = [.ref a] ∧ SqL K H a (ns.map V.int) ∧ ns.length ≤ 63 ∧ ∀ H', Q (.bl true) H'
theorem law_of {P : Program} {w : World} {K : PySem.W.Frag} {mg : Str → Option Value} {base : Heap} {k : Nat} {f : Addr} {fd : FuncData} {ps : List Str} {g : List PyData → Option R} (h : ∀ ns : List Int, ns.length ≤ 63 → g [.list (ns.map PyData.int)] = some (.val (.bool true)))
    (G : FnOk P w K mg base CX0 k f fd ps (spD K 1 g)) : FnOk P w K mg base CX0 k f fd ps (spLaw K) := G.imp fun vs H Q E ⟨a, ns, e, hs, hl, q⟩ => by
  subst e
  refine ⟨rfl, H, _, _, Same.refl H, .cons (.lst hs (DpAll.ints ns)) .nil, h ns hl, fun F' H' v _ rr => ?_⟩
  cases rr
  exact q H'
theorem _root_.L2.Room.units65 {k : Nat} {A : Around} (r : L2.Room k A) : A.units + 65 < cLine := by have := r.un; omega
theorem boot_isi : bootBuiltins "isinstance" = some (.builtin "isinstance") := by decide +kernel
theorem boot_len_ : bootBuiltins "len" = some (.builtin "len") := by decide +kernel
theorem boot_abs_ : bootBuiltins "abs" = some (.builtin "abs") := by decide +kernel
theorem boot_all_ : bootBuiltins "all" = some (.builtin "all") := by decide +kernel
theorem boot_any_ : bootBuiltins "any" = some (.builtin "any") := by decide +kernel
theorem boot_sum_ : bootBuiltins "sum" = some (.builtin "sum") := by decide +kernel
theorem boot_repr_ : bootBuiltins "repr" = some (.builtin "repr") := by decide +kernel
theorem boot_sorted_ : bootBuiltins "sorted" = some (.builtin "sorted") := by decide +kernel
theorem boot_int_ : bootBuiltins "int" = some (.type "int") := by decide +kernel
theorem boot_str_ : bootBuiltins "str" = some (.type "str") := by decide +kernel
theorem boot_bool_ : bootBuiltins "bool" = some (.type "bool") := by decide +kernel
theorem boot_list_ : bootBuiltins "list" = some (.type "list") := by decide +kernel
theorem boot_tuple_ : bootBuiltins "tuple" = some (.type "tuple") := by decide +kernel
end Dn
/-! Dg1: the law's own call, where it is known that no repr is going on (guards); repr of data. -/
namespace Dn
open PySem PySem.Spec PyProof.Rows L2

/-- the law's def at one place A -/
def CallAt (P : Program) (w : World) (A : Around) (outer : List Env) (H : Hp) (s : Shared) (f : Addr) (us : List Value) (Q : VK) : Prop :=
  codeAny (model P w) A (.call (.ref f) ⟨us, []⟩)
    (fun r s' => match r with
      | .ok (.ret u) => CE outer P w H s Q u s'
      | _ => False) s

section
variable {P : Program} {w : World} {K : PySem.W.Frag} {mg : Str → Option Value} {base : Heap}
theorem callAt {x qual : Str} {st : Stmt} {f : Addr} {fd : FuncData} {N ps : List Str} {k : Nat}
    {A : Around} {outer : List Env} {s : Shared} {H : Hp} {us : List Value} {vs : List V} {Q : VK}
    (F : Fun K x qual st f fd) (S : FnScope N ps (defScope st)) (hr : Room (k + 1) A) (ev : Env0 P w K mg base A outer s H)
    (bnds : BindsTo s fd ⟨us, []⟩ (ps.zip us)) (rv : Vals vs us) (hl : vs.length = ps.length)
    (body : ∀ (cdv : Value), Room k (A.deeper (envOfC qual (defScope st) s.heap.objs.size f cdv)) →
      ∃ t, PSs (cxOf CX0 P w K mg base N qual (defScope st) f cdv A outer s H E0).nox (defBody st) t ∧ t { nx := fun _ H' => Q .non H', rt := Q } (L2.start N vs) H) :
    CallAt P w A outer H s f us Q := by
  obtain ⟨oc, od, kV, doc, pm, an, cdv, ct, osl, rfl, lk, hcd⟩ := F.ex
  have old : ∀ b o, base.get? b = some o → s.heap.get? b = some o := fun b o e => (ev.bs b o e).1
  have inK : K.In s.heap := ev.mod.kin.keeps old
  have kinds : ∀ y ∈ ps.zip us, (defScope st).names.lookup y.1 = some .local ∨
      ((defScope st).names.lookup y.1 = some .cell ∧ ((cellsFrom (s.heap.objs.size + 1) (defScope st).names []).lookup y.1).isSome = true) := by
    rintro ⟨n, v⟩ hy
    rcases S.par n (List.of_mem_zip hy).1 with l | l
    · exact Or.inl l
    · exact Or.inr ⟨l, PySem.W.cellsFrom_some _ _ _ (Or.inl l)⟩
  unfold CallAt
  refine codeAny_call_function hr.depth
    (inK _ _ lk) rfl S.co S.gen rfl
    (PySem.W.codeRec_of inK hcd) (bnds _ _ _ _ ?_)
  refine wpAny_newFunctionEnv_cells S.kind kinds
    fun env he s1 xx => ?_
  subst he
  refine ⟨(ev.mod.nolimit.keeps old).keeps xx.toInCall.keep, codeAny_func ?_⟩
  obtain ⟨t, ht, hq⟩ := body cdv (hr.deeper _)
  have I0 := inv_start (CX := CX0) (E := E0) S hr.hd ev hl rv xx
  refine wpAny_mono (ht.nox.run [] s1 (L2.start N vs) H _ I0 hq)
    (fun fl s' hs => ?_) fun e s' hs => hs
  cases fl with
  | ret u =>
    obtain ⟨v, σ', H', J, r, q⟩ := hs
    exact ⟨v, H', J.os, J.bare, J.base, J.hok, r, q⟩
  | next =>
    obtain ⟨σ', H', J, q⟩ := hs
    exact ⟨V.non, H', J.os, J.bare, J.base, J.hok, rfl, q⟩
  | brk => obtain ⟨_, _, _, q⟩ := hs; exact q.elim
  | cont => obtain ⟨_, _, _, q⟩ := hs; exact q.elim
end

/-- the abstract heap at the head: the script alone, frozen, unless the module has it -/
noncomputable def headH (K : PySem.W.Frag) (a : Addr) (vs : List Value) (ns : List Int) : Hp := fun b =>
  if b = a ∧ K.lookup a = none then some (.frz { cls := .type "list", data := .seq vs.toArray } (.lst (ns.map V.int))) else none
theorem headH_some {K : PySem.W.Frag} {a b : Addr} {vs : List Value} {ns : List Int} {u : HO} (h : headH K a vs ns b = some u) :
    b = a ∧ K.lookup a = none ∧ u = .frz { cls := .type "list", data := .seq vs.toArray } (.lst (ns.map V.int)) := by
  unfold headH at h
  split at h
  · rename_i c
    cases h
    exact ⟨c.1, c.2, rfl⟩
  · cases h
theorem law_at {P : Program} {w : World} {K : PySem.W.Frag} {mg mb : Str → Option Value} {k : Nat} {fa a : Addr} {fd : FuncData} {N : List Str} {st : Stmt} {s₁ : Shared} {vs : List Value} {ns : List Int} {x qual : Str} {b : SF}
    (F : Fun K x qual st fa fd) (S : FnScope N ["script"] (defScope st))
    (KX : K.In s₁.heap) (gns : s₁.heap.Ns mainGlobals mg) (bns : s₁.heap.Ns builtinsNs mb) (boots : ∀ x : Str, x ≠ "__name__" → mb x = bootBuiltins x) (lim : s₁.heap.NoLimit) (gens : s₁.gens = #[])
    (ha : s₁.heap.get? a = some { cls := .type "list", data := .seq vs.toArray }) (hi : IntsAre vs ns) (hl : ns.length ≤ sizeLine) (hr : Room (k + 1) callerA)
    (bnd : ∀ (s : Shared) (u : Value), BindsTo s fd ⟨[u], []⟩ [("script", u)])
    (val : fnD N.length 1 b [.list (ns.map PyData.int)] = some (.val (.bool true)))
    (body : ∀ (base : Heap), K.In base → base.Ns mainGlobals mg → ∀ (cdv : Value) (s : Shared) (H : Hp), Room k (callerA.deeper (envOfC qual (defScope st) s.heap.objs.size fa cdv)) →
      ∃ t, SSs (cxOf CX0 P w K mg base N qual (defScope st) fa cdv callerA [] s H E0).nox (defBody st) t b) :
    codeAny (model P w) callerA (.call (.ref fa) ⟨[.ref a], []⟩) (fun r s' => r = .ok (.ret (.bool true)) ∧ OldK s₁.heap s'.heap ∧ s'.os = s₁.os ∧ AllBare s'.gens) s₁ := by
  have iv := vals_ints hi
  have il := hi.length
  generalize hH : headH K a vs ns = H
  have at_ : ∀ {b : Addr} {u : HO}, H b = some u → b = a ∧ K.lookup a = none ∧ u = .frz { cls := .type "list", data := .seq vs.toArray } (.lst (ns.map V.int)) := fun {b u} e => headH_some (hH ▸ e)
  have free : ∀ {b : Addr} {o : Obj}, s₁.heap.get? b = some o → (∀ es n, o.data ≠ .seq es n) → H b = none := fun {b o} e d => by
    cases q : H b with
    | none => rfl
    | some u =>
      obtain ⟨rfl, _, _⟩ := at_ q
      rw [ha] at e
      cases e
      exact absurd rfl (d _ _)
  have keepNs : ∀ {c : Addr} {m : Str → Option Value}, s₁.heap.Ns c m → (hidT s₁.heap H).Ns c m := fun {c m} ⟨o, es, ep, e, d, r⟩ =>
    ⟨o, es, ep, hidT_get e (free e fun _ _ z => by rw [d] at z; cases z), d, r⟩
  have KB : K.In (hidT s₁.heap H) := fun c o e => hidT_get (KX c o e) (by
    cases q : H c with
    | none => rfl
    | some u =>
      obtain ⟨rfl, n, _⟩ := at_ q
      rw [n] at e
      cases e)
  obtain ⟨mc, l1, l2⟩ := lim
  have md : Mod K mg (hidT s₁.heap H) := ⟨KB, keepNs gns, ⟨mb, keepNs bns, boots⟩, mc, keepNs l1, l2⟩
  have hok : HOk P w H s₁.heap := fun c u z => by
    obtain ⟨rfl, n, rfl⟩ := at_ z
    exact ⟨ha, by rw [List.length_map]; exact hl, vs, _, iv, ha⟩
  have e0 : Env0 P w K mg (hidT s₁.heap H) callerA [] s₁ H :=
    ⟨rfl, md, fun c o e => of_hidT e, Nat.le_of_eq (hidT_size _ _), trivial, fun c hc => (by cases hc), hok, .of_eq gens⟩
  have sq : SqL K H a (ns.map V.int) := by
    cases hk : K.lookup a with
    | some o =>
      have e := KX a o hk
      rw [ha] at e
      cases e
      exact Or.inr ⟨_, vs.toArray, _, hk, rfl, rfl, rfl, by rw [List.size_toArray, il]; exact hl, by simpa using iv⟩
    | none =>
      refine Or.inl (Or.inr ⟨{ cls := .type "list", data := .seq vs.toArray }, ?_⟩)
      rw [← hH]
      unfold headH
      rw [if_pos ⟨rfl, hk⟩]
  have run : CallAt P w callerA [] H s₁ fa [.ref a] (fun v _ => v = .bl true) := by
    refine callAt (vs := [.ref a]) F S hr e0 (bnd s₁ (.ref a)) (.cons rfl .nil) rfl fun cdv room => ?_
    obtain ⟨t, ht⟩ := body _ KB (keepNs gns) cdv s₁ H room
    refine ⟨t, ht.ps, ?_⟩
    unfold fnD at val
    rw [if_pos (show [PyData.list (ns.map PyData.int)].length = 1 from rfl)] at val
    have d0 : DpAll K H [V.ref a] [.list (ns.map PyData.int)] := .cons (.lst sq (DpAll.ints ns)) .nil
    have S0 : Sta K H H H H (L2.start N [V.ref a]) (startD N.length 1 [.list (ns.map PyData.int)]) := ⟨Grow.refl (Same.refl H), slots_start d0 rfl⟩
    unfold resO at val
    split at val
    · rename_i r' eb
      cases val
      refine ht.ds H H H H _ _ _ S0 eb _ ?_
      intro F' H' v g rr
      cases rr
      rfl
    · cases val
    · cases val
  unfold CallAt at run
  refine codeAny_mono run fun r s' h => ?_
  cases r with
  | error e => exact h.elim
  | ok fl =>
    cases fl with
    | next => exact h.elim
    | brk => exact h.elim
    | cont => exact h.elim
    | ret u =>
      obtain ⟨v, H', os, bare, un, hok', r', rfl⟩ := h
      obtain rfl : u = Value.bool true := r'
      refine ⟨rfl, OldK.of_keep fun c o e => ?_, os, bare⟩
      cases q : H c with
      | none => exact un.keep c o e q (fun z => by cases z) (fun z => by cases z)
      | some u =>
        obtain ⟨rfl, n, rfl⟩ := at_ q
        have z1 := (hok c _ q).1
        have z2 := (hok' c _ (un.frzs c _ _ q)).1
        rw [e] at z1
        cases z1
        exact z2
end Dn
namespace Dn
open PySem PySem.Spec PyProof.Rows L2

/-! ### repr of a list or a tuple -/
def Shw (d : PyData) : Prop := d.showable = true ∧ Shp d ∧ d.shown.length ≤ sizeLine
noncomputable instance (d : PyData) : Decidable (Shw d) := Classical.propDecidable _
noncomputable def gRepr : List PyData → Option R
  | [.list ds] => if Shw (.list ds) then some (.val (.str (PyData.shown (.list ds)))) else none
  | [.tuple ds] => if Shw (.tuple ds) then some (.val (.str (PyData.shown (.tuple ds)))) else none
  | _ => none
def rRepr (K : PySem.W.Frag) : List V → Hp → VK → Prop := fun xs H Q => ∃ (a : Addr) (d : PyData), xs = [.ref a] ∧ Dp K H (.ref a) d ∧ Shw d ∧ Q (.str d.shown) H
section
variable {X : Cx}
theorem call_reprD (hg : X.A.guards = some []) (hu : X.A.units + 66 < cLine) : CallR X (.builtin "repr") (rRepr X.K) := by
  intro pins s σ H xs us Q I r h
  obtain ⟨a, d, rfl, hd, ⟨h1, h2, h3⟩, q⟩ := h
  obtain ⟨u, rfl, ru⟩ := Vals.one r
  cases (show u = Value.ref a from ru)
  obtain ⟨as, rd⟩ := Dp.reads I d _ _ hd ru
  have h2 : SeqAt.shaped d = true := h2
  have dp := SeqAt.depth_of_shaped h2
  refine repr_of_reads' (h₀ := s.heap) rd h1 (PyData.noDict_hsm (PyData.hasDict_of_canLay d (SeqAt.canLay_of_shaped h2))) hg (by omega) (fun _ _ e => e) (fun h' u tk hk => ?_) h3
  exact ⟨.str d.shown, H, I.kept hk, ⟨_, rfl⟩, q⟩
end
theorem rc_repr {K : PySem.W.Frag} : RCD K (rRepr K) gRepr := fun F H vs ds r fh h e Q q => by
  unfold gRepr at e
  split at e
  · split at e
    · cases e
      rename_i hs
      obtain ⟨v, rfl, d⟩ := dpa1 h
      have d' := d
      obtain ⟨a, xs, rfl, s1, a1⟩ := dp_list d
      exact ⟨a, _, rfl, dp_mono fh d', hs, q F H _ (Grow.refl fh) (.str _)⟩
    · cases e
  · split at e
    · cases e
      rename_i hs
      obtain ⟨v, rfl, d⟩ := dpa1 h
      have d' := d
      obtain ⟨a, xs, rfl, s1, a1⟩ := dp_tuple d
      exact ⟨a, _, rfl, dp_mono fh d', hs, q F H _ (Grow.refl fh) (.str _)⟩
    · cases e
  · cases e

/-! ### == and != : texts by themselves, all else by data -/
noncomputable def gEqT : PyData → PyData → Option R := fun d e => match d, e with
  | .str a, .str b => some (.val (.bool (decide (a = b))))
  | d, e => gEq d e
noncomputable def gNeT : PyData → PyData → Option R := fun d e => match d, e with
  | .str a, .str b => some (.val (.bool (!decide (a = b))))
  | d, e => gNe d e
@[simp] theorem gEqT_str {a b : Str} : gEqT (.str a) (.str b) = some (.val (.bool (decide (a = b)))) := rfl
@[simp] theorem gNeT_str {a b : Str} : gNeT (.str a) (.str b) = some (.val (.bool (!decide (a = b)))) := rfl
theorem rv_eqT {K : PySem.W.Frag} : RVD K (fun x y H Q => rEq x y H Q ∨ rEqD K x y H Q) gEqT := fun F H x y dx dy r fh d1 d2 e Q q => by
  unfold gEqT at e
  split at e
  · cases e
    rw [dp_str d1, dp_str d2]
    refine .inl ⟨rfl, ?_⟩
    have := q F H _ (Grow.refl fh) (.bl _)
    rename_i a b
    rwa [show decide (V.str a = V.str b) = decide (a = b) by rw [decide_eq_decide]; exact ⟨fun z => by cases z; rfl, fun z => by rw [z]⟩]
  · exact .inr (rv_eq F H x y _ _ r fh d1 d2 e Q q)
theorem rv_neT {K : PySem.W.Frag} : RVD K (fun x y H Q => rNe x y H Q ∨ rNeD K x y H Q) gNeT := fun F H x y dx dy r fh d1 d2 e Q q => by
  unfold gNeT at e
  split at e
  · cases e
    rw [dp_str d1, dp_str d2]
    refine .inl ⟨rfl, ?_⟩
    have := q F H _ (Grow.refl fh) (.bl _)
    rename_i a b
    rwa [show decide (V.str a = V.str b) = decide (a = b) by rw [decide_eq_decide]; exact ⟨fun z => by cases z; rfl, fun z => by rw [z]⟩]
  · exact .inr (rv_ne F H x y _ _ r fh d1 d2 e Q q)
section
variable {X : Cx} {a b c e : Expr} {ta tb tc te : TE} {f g h : EF} {pos : Pos} {es : List Expr} {t : TA} {af : AF} {x : Str} {p : Pos}
theorem se_eqT {K : PySem.W.Frag} (hu : X.A.units + 64 < cLine) (h1 : SE X a ta f) (h2 : SE X b tb g) (hK : X.K = K := by rfl) : SE X (.Compare a [.Eq] [b] pos) (tOp (fun x y H Q => rEq x y H Q ∨ rEqD K x y H Q) ta tb) (eBin gEqT f g) := by
  subst hK
  exact ⟨pe_cmpR (op_eq.or (op_eqD hu)) h1.pe h2.pe (nomark _), de_bin rv_eqT h1.de h2.de⟩
theorem se_neT {K : PySem.W.Frag} (hu : X.A.units + 64 < cLine) (h1 : SE X a ta f) (h2 : SE X b tb g) (hK : X.K = K := by rfl) : SE X (.Compare a [.NotEq] [b] pos) (tOp (fun x y H Q => rNe x y H Q ∨ rNeD K x y H Q) ta tb) (eBin gNeT f g) := by
  subst hK
  exact ⟨pe_cmpR (op_ne.or (op_neD hu)) h1.pe h2.pe (nomark _), de_bin rv_neT h1.de h2.de⟩
theorem st_eqT {K : PySem.W.Frag} (hu : X.A.units + 64 < cLine) (h1 : SE X a ta f) (h2 : SE X b tb g) (hK : X.K = K := by rfl) : ST X (.Compare a [.Eq] [b] pos) (tTest (tOp (fun x y H Q => rEq x y H Q ∨ rEqD K x y H Q) ta tb)) (tE (eBin gEqT f g)) := by
  subst hK
  exact ⟨pt_cmpR (op_eq.or (op_eqD hu)) h1.pe h2.pe (nomark _), dt_test (de_bin rv_eqT h1.de h2.de)⟩
theorem st_neT {K : PySem.W.Frag} (hu : X.A.units + 64 < cLine) (h1 : SE X a ta f) (h2 : SE X b tb g) (hK : X.K = K := by rfl) : ST X (.Compare a [.NotEq] [b] pos) (tTest (tOp (fun x y H Q => rNe x y H Q ∨ rNeD K x y H Q) ta tb)) (tE (eBin gNeT f g)) := by
  subst hK
  exact ⟨pt_cmpR (op_ne.or (op_neD hu)) h1.pe h2.pe (nomark _), dt_test (de_bin rv_neT h1.de h2.de)⟩
theorem se_c_repr {K : PySem.W.Frag} (hgd : X.A.guards = some []) (hu : X.A.units + 66 < cLine) (hg : Gl X x) (hm : X.mg x = none) (hv : bootBuiltins x = some (.builtin "repr")) (ha : SA X (e :: es) t af) (hn : x ≠ "__name__" := by decide) (hdb : (x == ("__debug__" : Str)) = false := by decide)
    (he : starEach (e :: es) X.env = (false, eval e X.env) :: starEach es X.env := by rfl) (hpl : (backTo pos (starEach es X.env)).any (·.1) = false := by rfl) (hK : X.K = K := by rfl) : SE X (.Call (.Name x p) (e :: es) [] pos) (tCB (rRepr K) t) (eCall gRepr af) := by
  subst hK
  exact se_cb (call_reprD hgd hu) rc_repr hg hm hv ha hn hdb he hpl
/-! ### min, max of two ints -/
@[simp] def gMin2 : List PyData → Option R
  | [.int i, .int j] => some (.val (.int (if j < i then j else i)))
  | _ => none
@[simp] def gMax2 : List PyData → Option R
  | [.int i, .int j] => some (.val (.int (if j > i then j else i)))
  | _ => none
theorem rc_min2 {K : PySem.W.Frag} : RCD K (fun xs H Q => ∃ i j, xs = [.int i, .int j] ∧ Q (.int (if j < i then j else i)) H) gMin2 := fun F H vs ds r fh h e Q q => by
  unfold gMin2 at e
  split at e
  · cases e
    obtain ⟨v, w, rfl, d1, d2⟩ := dpa2 h
    rw [dp_int d1, dp_int d2]
    exact ⟨_, _, rfl, q F H _ (Grow.refl fh) (.int _)⟩
  · cases e
theorem rc_max2 {K : PySem.W.Frag} : RCD K (fun xs H Q => ∃ i j, xs = [.int i, .int j] ∧ Q (.int (if j > i then j else i)) H) gMax2 := fun F H vs ds r fh h e Q q => by
  unfold gMax2 at e
  split at e
  · cases e
    obtain ⟨v, w, rfl, d1, d2⟩ := dpa2 h
    rw [dp_int d1, dp_int d2]
    exact ⟨_, _, rfl, q F H _ (Grow.refl fh) (.int _)⟩
  · cases e
theorem se_c_min2 (hg : Gl X x) (hm : X.mg x = none) (hv : bootBuiltins x = some (.builtin "min")) (ha : SA X (e :: es) t af) (hn : x ≠ "__name__" := by decide) (hdb : (x == ("__debug__" : Str)) = false := by decide)
    (he : starEach (e :: es) X.env = (false, eval e X.env) :: starEach es X.env := by rfl) (hpl : (backTo pos (starEach es X.env)).any (·.1) = false := by rfl) (hc : X.calm = true := by rfl) :
    SE X (.Call (.Name x p) (e :: es) [] pos) (tCB (fun xs H Q => ∃ i j, xs = [.int i, .int j] ∧ Q (.int (if j < i then j else i)) H) t) (eCall gMin2 af) := se_cb (call_min2 hc) rc_min2 hg hm hv ha hn hdb he hpl
theorem se_c_max2 (hg : Gl X x) (hm : X.mg x = none) (hv : bootBuiltins x = some (.builtin "max")) (ha : SA X (e :: es) t af) (hn : x ≠ "__name__" := by decide) (hdb : (x == ("__debug__" : Str)) = false := by decide)
    (he : starEach (e :: es) X.env = (false, eval e X.env) :: starEach es X.env := by rfl) (hpl : (backTo pos (starEach es X.env)).any (·.1) = false := by rfl) (hc : X.calm = true := by rfl) :
    SE X (.Call (.Name x p) (e :: es) [] pos) (tCB (fun xs H Q => ∃ i j, xs = [.int i, .int j] ∧ Q (.int (if j > i then j else i)) H) t) (eCall gMax2 af) := se_cb (call_max2 hc) rc_max2 hg hm hv ha hn hdb he hpl
theorem boot_min_ : bootBuiltins "min" = some (.builtin "min") := by decide +kernel
theorem boot_max_ : bootBuiltins "max" = some (.builtin "max") := by decide +kernel
theorem boot_enumerate_ : bootBuiltins "enumerate" = some (.type "enumerate") := by decide +kernel
/-! ### [..] * n -/
@[simp] noncomputable def eRep (t : AF) (n : EF) : EF := fun env => (t env).bind fun ds => (n env).bind fun r => match r.frz with
  | .int k => if Few ds.length ∧ InR k ∧ Fits (ds.length * k.toNat) then some (.own (List.replicate k.toNat ds).flatten) else none
  | _ => none
theorem dpa_flatten {K : PySem.W.Frag} {F : Hp} {vs : List V} {ds : List PyData} (h : DpAll K F vs ds) : ∀ n : Nat, DpAll K F (List.replicate n vs).flatten (List.replicate n ds).flatten
  | 0 => .nil
  | n + 1 => by
    rw [List.replicate_succ, List.replicate_succ, List.flatten_cons, List.flatten_cons]
    exact DpAll.app h (dpa_flatten h n)
theorem de_rep {K : PySem.W.Frag} (h1 : DA K t af) (h2 : DE K tb g) : DE K (tOp rRep (tLst t) tb) (eRep af g) := fun B F H σ env r S fh bh e Q q => by
  obtain ⟨ds, ea, e⟩ := bnd e
  obtain ⟨n, en, e⟩ := bnd e
  split at e
  case h_2 => cases e
  rename_i k hk
  split at e
  case isFalse => cases e
  rename_i c
  cases e
  refine h1 B F H σ env ds S fh bh ea _ fun F1 H1 vs g1 d1 => ⟨by rw [DpAll.len d1]; exact sz1000 c.1, fun p hp => ?_⟩
  have gn : Grow F1 H1 F1 (upd H1 p (.lst vs)) := Grow.new g1.i hp
  have g2 := g1.trans gn
  refine h2.z (S.grow g2) g2.i (bh.trans g2.h) en fun F3 H3 y g3 d3 => ?_
  rw [hk] at d3
  rw [dp_int d3]
  refine ⟨p, k, vs, rfl, rfl, g3.h _ _ upd_same, by have := c.2.1.1; omega, by have := c.2.1.2; omega, ?_, fun p2 hp2 => ?_⟩
  · rw [DpAll.len d1]
    exact Nat.le_trans c.2.2 (by rw [sizeLine_eq]; decide)
  · have g4 := (g2.trans g3).trans (Grow.new (o := .lst (List.replicate k.toNat vs).flatten) g3.i hp2)
    exact q _ _ _ g4 ⟨p2, _, rfl, g3.i.free hp2, (g2.trans g3).h.free hp2, upd_same, dpa_mono g3.f (dpa_flatten d1 _)⟩
theorem se_rep {es : List Expr} {pos pos2 : Pos} (h1 : SA X es t af) (h2 : SE X b tb g) : SE X (.BinOp (.List es pos) .Mult b pos2) (tOp rRep (tLst t) tb) (eRep af g) := ⟨pe_op op_rep (pe_lst h1.pa) h2.pe, de_rep h1.da h2.de⟩
/-! ### xs.index(x) -/
def fstD (d : PyData) : List PyData → Option Nat
  | [] => none
  | z :: zs => if PyData.eqv z d = true then some 0 else (fstD d zs).map (· + 1)
theorem fstD_at {d : PyData} : ∀ {ds : List PyData} {j : Nat}, fstD d ds = some j → ∃ z, ds[j]? = some z ∧ PyData.eqv z d = true ∧ ∀ (m : Nat) (z' : PyData), m < j → ds[m]? = some z' → PyData.eqv z' d = false
  | [], _, h => by cases h
  | z :: zs, j, h => by
    unfold fstD at h
    split at h
    · cases h
      rename_i e
      exact ⟨z, rfl, e, fun m _ hm => absurd hm (Nat.not_lt_zero m)⟩
    · rename_i e
      cases q : fstD d zs with
      | none => rw [q] at h; cases h
      | some i =>
        rw [q] at h
        cases h
        obtain ⟨y, h1, h2, h3⟩ := fstD_at q
        refine ⟨y, h1, h2, fun m z' hm hz => ?_⟩
        cases m with
        | zero => cases hz; exact Bool.eq_false_iff.mpr e
        | succ m => exact h3 m z' (Nat.lt_of_succ_lt_succ hm) hz
@[simp] noncomputable def gIndex : PyData → PyData → Option R := fun y d => match y with
  | .list ds => if Shp (.list ds) ∧ Shp d then (fstD d ds).bind fun j => some (.val (.int (j : Nat))) else none
  | _ => none
theorem de_index {K : PySem.W.Frag} (h1 : DE K ta f) (h2 : DE K te g) : DE K (tBM K "list" (rIndexD K) ta (tCons te tNil)) (eBin gIndex f g) := fun B F H σ env r S fh bh e Q q => by
  obtain ⟨a, ea, e⟩ := bnd e
  obtain ⟨b, eb, e⟩ := bnd e
  unfold gIndex at e
  split at e
  case h_2 => cases e
  rename_i ds hds
  split at e
  case isFalse => cases e
  rename_i c
  obtain ⟨j, hj, e⟩ := bnd e
  cases e
  refine h1.z S fh bh ea fun F1 H1 x g1 d1 => ?_
  rw [hds] at d1
  have d1' := d1
  obtain ⟨p, xs, rfl, s1, a1⟩ := dp_list d1
  refine ⟨Or.inl ⟨rfl, _, sqL_mono g1.i s1⟩, ?_⟩
  refine h2.z (S.grow g1) g1.i (bh.trans g1.h) eb fun F2 H2 y g2 d2 => ?_
  obtain ⟨z, z1, z2, z3⟩ := fstD_at hj
  refine ⟨p, y, b.frz, ds, j, z, rfl, rfl, dp_mono (g2.f.trans g2.i) d1', dp_mono g2.i d2, c.1, c.2, z1, z2, z3, q F2 H2 _ (g1.trans g2) (.int _)⟩
theorem se_index {K : PySem.W.Frag} {o : Expr} {apos cpos : Pos} (hu : X.A.units + 65 < cLine) (h0 : SE X o ta f) (h1 : SE X e te g)
    (hbase : attributeBase o "index" X.env (eval o X.env) = eval o X.env := by rfl)
    (hfew : ((backTo cpos (starEach [e] X.env)).all (fun x => !x.1) && (backToKw cpos (keywordEach [] X.env)).all (fun x => x.1.isSome)
      && decide ([e].length + ([] : List Keyword).length + (if ([] : List Keyword).isEmpty then 0 else 1) < 30)) = true := by rfl)
    (hline : (apos.endLine == cpos.line) = true := by rfl) (hst : starEach [e] X.env = (false, eval e X.env) :: starEach [] X.env := by rfl) (hplain : (backTo cpos (starEach [] X.env)).any (·.1) = false := by rfl) (hK : X.K = K := by rfl) :
    SE X (.Call (.Attribute o "index" apos) [e] [] cpos) (tBM K "list" (rIndexD K) ta (tCons te tNil)) (eBin gIndex f g) := by
  subst hK
  exact ⟨pe_bm PySem.F.plainAttrs_list PySem.F.slot_list_index PySem.F.type_list_index (mt_indexD hu) h0.pe (pa_cons h1.pe pa_nil hst) hbase hfew hline hst hplain, de_index h0.de h1.de⟩
/-! ### the truth of a value -/
@[simp] def truD : PyData → Option Bool
  | .none => some false
  | .bool b => some b
  | .int i => some (i != 0)
  | .list ds => some (!ds.isEmpty)
  | .tuple ds => some (!ds.isEmpty)
  | _ => none
@[simp] def tTru (f : EF) : TF := fun env => (f env).bind fun r => truD r.frz
theorem empty_dp {K : PySem.W.Frag} {F : Hp} {vs : List V} {ds : List PyData} (h : DpAll K F vs ds) : (!ds.isEmpty) = !vs.isEmpty := by
  cases h <;> rfl
theorem dt_tru {K : PySem.W.Frag} (h : DE K ta f) : DT K (fun σ H Q => ta σ H fun x H' => ∃ k, TruV K x H' k ∧ Q k H') (tTru f) := fun B F H σ env b S fh bh e Q q => by
  obtain ⟨a, ea, e⟩ := bnd e
  refine h.z S fh bh ea fun F1 H1 x g1 d1 => ⟨b, ?_, q F1 H1 g1⟩
  cases hd : a.frz with
  | none => rw [hd] at e d1; cases d1; cases e; rfl
  | bool _ => rw [hd] at e d1; cases d1; cases e; rfl
  | int _ => rw [hd] at e d1; cases d1; cases e; rfl
  | str _ => rw [hd] at e; cases e
  | dict _ => rw [hd] at e; cases e
  | list ds =>
    rw [hd] at e d1
    obtain ⟨p, xs, rfl, s1, a1⟩ := dp_list d1
    cases e
    exact .inl ⟨xs, sqL_mono g1.i s1, empty_dp a1⟩
  | tuple ds =>
    rw [hd] at e d1
    obtain ⟨p, xs, rfl, s1, a1⟩ := dp_tuple d1
    cases e
    exact .inr (.inl ⟨xs, sqT_mono g1.i s1, empty_dp a1⟩)
theorem st_tru {K : PySem.W.Frag} (h1 : SE X a ta f) (he : ∀ whole, isTrue a X.env whole = (do let v ← whole; standAt a.pos; holding [v] (truthy v)) := by intro _; rfl) (hK : X.K = K := by rfl) : ST X a (fun σ H Q => ta σ H fun x H' => ∃ k, TruV K x H' k ∧ Q k H') (tTru f) := by
  subst hK
  exact ⟨pt_truth h1.pe he, dt_tru h1.de⟩
end
/-! ### simp rules -/
@[simp] theorem gEqT_int {i j : Int} : gEqT (.int i) (.int j) = some (.val (.bool (decide (i = j)))) := by
  show gEq _ _ = _
  unfold gEq
  rw [if_pos ⟨rfl, rfl⟩]
  show some (R.val (PyData.bool (i == j))) = _
  rw [Bool.beq_eq_decide_eq]
@[simp] theorem gNeT_int {i j : Int} : gNeT (.int i) (.int j) = some (.val (.bool (!decide (i = j)))) := by
  show gNe _ _ = _
  unfold gNe
  rw [if_pos ⟨rfl, rfl⟩]
  show some (R.val (PyData.bool (!(i == j)))) = _
  rw [Bool.beq_eq_decide_eq]
@[simp] theorem gEqT_bool {i j : Bool} : gEqT (.bool i) (.bool j) = some (.val (.bool (decide (i = j)))) := by
  show gEq _ _ = _
  unfold gEq
  rw [if_pos ⟨rfl, rfl⟩]
  cases i <;> cases j <;> rfl
@[simp] theorem gNeT_bool {i j : Bool} : gNeT (.bool i) (.bool j) = some (.val (.bool (!decide (i = j)))) := by
  show gNe _ _ = _
  unfold gNe
  rw [if_pos ⟨rfl, rfl⟩]
  cases i <;> cases j <;> rfl
@[simp] theorem gEqT_tup {a b : List PyData} : gEqT (.tuple a) (.tuple b) = gEq (.tuple a) (.tuple b) := rfl
@[simp] theorem gEqT_lst {a b : List PyData} : gEqT (.list a) (.list b) = gEq (.list a) (.list b) := rfl
@[simp] theorem gNeT_tup {a b : List PyData} : gNeT (.tuple a) (.tuple b) = gNe (.tuple a) (.tuple b) := rfl
@[simp] theorem gNeT_lst {a b : List PyData} : gNeT (.list a) (.list b) = gNe (.list a) (.list b) := rfl
end Dn
namespace Dn
open PySem PySem.Spec PyProof.Rows L2
/-- the law: its def, what it computes, and its derivation at the head -/
def LawG (P : Program) (w : World) (K : PySem.W.Frag) (mg : Str → Option Value) (k : Nat) (fa : Addr) : Prop :=
  ∃ (fd : FuncData) (N : List Str) (st : Stmt) (x qual : Str) (b : SF), Fun K x qual st fa fd ∧ FnScope N ["script"] (defScope st) ∧
    (∀ (s : Shared) (u : Value), BindsTo s fd ⟨[u], []⟩ [("script", u)]) ∧
    (∀ ns : List Int, ns.length ≤ 63 → fnD N.length 1 b [.list (ns.map PyData.int)] = some (.val (.bool true))) ∧
    ∀ (base : Heap), K.In base → base.Ns mainGlobals mg → ∀ (cdv : Value) (s : Shared) (H : Hp), Room k (callerA.deeper (envOfC qual (defScope st) s.heap.objs.size fa cdv)) →
      ∃ t, SSs (cxOf CX0 P w K mg base N qual (defScope st) fa cdv callerA [] s H E0).nox (defBody st) t b
theorem walkG {l : PySem.W.OpenLaw} {k : Nat} {q : Program} {loose : List Str} {XP : (Str → Option Value) → Heap → Prop} {YP : World → Heap → Prop} {d : DefRec} {K : Params → PySem.W.Frag}
    (hn : l.most = some 63) (hdf : d.params.defaults = []) (hr : Room (k + 1) callerA) (hY : ∀ (w : World) (h : Heap), YP w h → (K w.params).In h)
    (F : ∀ (w : World) (mg : Str → Option Value) (fa : Addr) (h : Heap), (K w.params).In h → h.Ns mainGlobals mg → mg d.name = some (.ref fa) → LawG l.prog w (K w.params) mg k fa) :
    PySem.W.WalkO q loose XP YP l.row.toRowW d [] (fun f vs => PySem.call f vs) :=
  Att.attach_call hn hdf fun w s₀ s₁ mg mb fa o pm cd doc a vs ns G Y ho hd hcd hmg hobj hints hlen hg => by
    have kin := hY w _ Y
    obtain ⟨fd, N, st, x, qual, b, F1, S, bnd, val, body⟩ := F w mg fa _ kin G.T.g hmg
    exact law_at F1 S kin G.T.g G.T.b G.T.builtins G.T.nolimit hg hobj hints (Nat.le_trans hlen (by rw [sizeLine_eq]; decide)) hr bnd (val ns hlen) body

theorem _root_.L2.Room.units66 {k : Nat} {A : Around} (r : L2.Room k A) : A.units + 66 < cLine := by have := r.un; omega

/-! ### a, b = x, y of plain names -/
@[simp] def sPar (i j : Nat) (t : AF) : SF := fun env => (t env).bind fun ds => match ds with
  | [a, b] => some (.nx ((env.set i (.val a)).set j (.val b)))
  | _ => none
theorem ds_par {K : PySem.W.Frag} {i j : Nat} {t : TA} {af : AF} (h : DA K t af) : DS K (tPar i j t) (sPar i j af) := fun F0 H0 F H σ env o S e D q => by
  obtain ⟨ds, ea, e⟩ := bnd e
  split at e
  case h_2 => cases e
  rename_i a b
  cases e
  refine h H0 F H σ env _ S.s S.g.i S.bh ea _ fun F1 H1 vs g d1 => ?_
  obtain ⟨v, w, rfl, d1, d2⟩ := dpa2 d1
  have S1 := S.grow g
  refine ⟨v, w, rfl, q F1 H1 _ g.f ⟨S1.g, ?_⟩⟩
  exact ((S1.s.put (r := .val a) S1.bh (Grow.refl S1.g.i) d1).put (r := .val b) S1.bh (Grow.refl S1.g.i) d2)
theorem ss_par {X : Cx} {i j : Nat} {x y : Str} {a b : Expr} {ta : TA} {af : AF} {px py pt pos : Pos} {kt k2 pt2} (hN : X.N.Nodup) (ha : SA X [a, b] ta af) (hc : X.calm = true := by rfl) (hi : X.N[i]? = some x := by rfl) (hj : X.N[j]? = some y := by rfl) (hij : i ≠ j := by decide)
    (hx : X.env.scope.names.lookup x = some .local := by rfl) (hy : X.env.scope.names.lookup y = some .local := by rfl)
    (hw : swappedStores [.Tuple [.Name x px, .Name y py] kt pt] (.Tuple [a, b] k2 pt2) X.env = pure (some [x, y]) := by rfl)
    (hs : swapsWithSole [.Tuple [.Name x px, .Name y py] kt pt] (.Tuple [a, b] k2 pt2) pos.line X.env = pure false := by rfl) :
    SS X (.Assign [.Tuple [.Name x px, .Name y py] kt pt] (.Tuple [a, b] k2 pt2) pos) (tPar i j ta) (sPar i j af) := ⟨ps_par hc hN hi hj hij hx hy ha.pa hw hs, ds_par ha.da⟩
/-! ### a tuple that the module's top has made -/
def constV : List Value → List PyData → Bool
  | [], [] => true
  | .int i _ :: vs, .int j :: ds => decide (i = j) && constV vs ds
  | .str x _ :: vs, .str y :: ds => decide (x = y) && constV vs ds
  | .bool x :: vs, .bool y :: ds => decide (x = y) && constV vs ds
  | .none :: vs, .none :: ds => constV vs ds
  | _, _ => false
theorem constV_ok {K : PySem.W.Frag} {F : Hp} : ∀ {vs : List Value} {ds : List PyData}, constV vs ds = true → ∃ xs, Vals xs vs ∧ DpAll K F xs ds
  | vs, ds, h => by
    unfold constV at h
    split at h
    · exact ⟨[], .nil, .nil⟩
    · rw [Bool.and_eq_true] at h
      obtain ⟨xs, h1, h2⟩ := constV_ok (K := K) (F := F) h.2
      have e := of_decide_eq_true h.1
      subst e
      exact ⟨V.int _ :: xs, .cons ⟨_, rfl⟩ h1, .cons (.int _) h2⟩
    · rw [Bool.and_eq_true] at h
      obtain ⟨xs, h1, h2⟩ := constV_ok (K := K) (F := F) h.2
      have e := of_decide_eq_true h.1
      subst e
      exact ⟨V.str _ :: xs, .cons ⟨_, rfl⟩ h1, .cons (.str _) h2⟩
    · rw [Bool.and_eq_true] at h
      obtain ⟨xs, h1, h2⟩ := constV_ok (K := K) (F := F) h.2
      have e := of_decide_eq_true h.1
      subst e
      exact ⟨V.bl _ :: xs, .cons rfl h1, .cons (.bl _) h2⟩
    · obtain ⟨xs, h1, h2⟩ := constV_ok (K := K) (F := F) h
      exact ⟨V.non :: xs, .cons rfl h1, .cons .non h2⟩
    · cases h
theorem tup_c {K : PySem.W.Frag} {a : Addr} {od : Option Addr} {its : Array Value} {n : Nat} {sl : Array (Option Value)} {ds : List PyData} (h : K.lookup a = some ⟨.type "tuple", od, .seq its n, sl⟩) (hv : (constV its.toList ds && decide (its.size ≤ 1000)) = true) : ∀ F, Dp K F (.ref a) (.tuple ds) := fun F => by
  rw [Bool.and_eq_true] at hv
  obtain ⟨xs, h1, h2⟩ := constV_ok (K := K) (F := F) hv.1
  exact .tup (.inr ⟨_, its, n, h, rfl, rfl, sz1000 (of_decide_eq_true hv.2), h1⟩) h2

/-! ### in a list or a tuple -/
def rInT (K : PySem.W.Frag) (k : Bool) : R2 := fun x y H Q => ∃ d ds, Dp K H x d ∧ Dp K H y (.tuple ds) ∧ SeqAt.shaped d = true ∧ SeqAt.shaped (.tuple ds) = true ∧ Q (.bl (if k then !memD d ds else memD d ds)) H
section
variable {X : Cx}
theorem op_inT (hu : X.A.units + 65 < cLine) : OpR X (compareOp .In) (rInT X.K false) := by
  intro pins s σ H x y v u Q I rx ry h
  obtain ⟨d, ds, hd, he, sd, se, q⟩ := h
  obtain ⟨as, r1⟩ := Dp.reads I d x v hd rx
  obtain ⟨bs, r2⟩ := Dp.reads I (.tuple ds) y u he ry
  have se' : SeqAt.shaped (.list ds) = true := se
  exact SeqAt.in_tuple_reads r2 r1 (SeqAt.canLay_of_shaped (d := .list ds) se') (SeqAt.canLay_of_shaped sd) (room_in_shaped sd hu) ⟨.bl _, H, I, rfl, q⟩
theorem op_notInT (hu : X.A.units + 65 < cLine) : OpR X (compareOp .NotIn) (rInT X.K true) := by
  intro pins s σ H x y v u Q I rx ry h
  obtain ⟨d, ds, hd, he, sd, se, q⟩ := h
  obtain ⟨as, r1⟩ := Dp.reads I d x v hd rx
  obtain ⟨bs, r2⟩ := Dp.reads I (.tuple ds) y u he ry
  have se' : SeqAt.shaped (.list ds) = true := se
  exact SeqAt.notIn_tuple_reads r2 r1 (SeqAt.canLay_of_shaped (d := .list ds) se') (SeqAt.canLay_of_shaped sd) (room_in_shaped sd hu) ⟨.bl _, H, I, rfl, q⟩
end
noncomputable def gInG : PyData → PyData → Option R := fun d y => match y with
  | .list ds => if Shp d ∧ Shp (.list ds) then some (.val (.bool (memD d ds))) else none
  | .tuple ds => if Shp d ∧ Shp (.tuple ds) then some (.val (.bool (memD d ds))) else none
  | _ => none
noncomputable def gNotInG : PyData → PyData → Option R := fun d y => match y with
  | .list ds => if Shp d ∧ Shp (.list ds) then some (.val (.bool (!memD d ds))) else none
  | .tuple ds => if Shp d ∧ Shp (.tuple ds) then some (.val (.bool (!memD d ds))) else none
  | _ => none
theorem rv_inG {K : PySem.W.Frag} : RVD K (fun x y H Q => rInD K x y H Q ∨ rInT K false x y H Q) gInG := fun F H x y dx dy r fh d1 d2 e Q q => by
  unfold gInG at e
  split at e
  · split at e
    · rename_i hh
      cases e
      exact .inl ⟨dx, _, dp_mono fh d1, dp_mono fh d2, hh.1, hh.2, q F H _ (Grow.refl fh) (.bl _)⟩
    · cases e
  · split at e
    · rename_i hh
      cases e
      exact .inr ⟨dx, _, dp_mono fh d1, dp_mono fh d2, hh.1, hh.2, q F H _ (Grow.refl fh) (.bl _)⟩
    · cases e
  · cases e
theorem rv_notInG {K : PySem.W.Frag} : RVD K (fun x y H Q => rNotInD K x y H Q ∨ rInT K true x y H Q) gNotInG := fun F H x y dx dy r fh d1 d2 e Q q => by
  unfold gNotInG at e
  split at e
  · split at e
    · rename_i hh
      cases e
      exact .inl ⟨dx, _, dp_mono fh d1, dp_mono fh d2, hh.1, hh.2, q F H _ (Grow.refl fh) (.bl _)⟩
    · cases e
  · split at e
    · rename_i hh
      cases e
      exact .inr ⟨dx, _, dp_mono fh d1, dp_mono fh d2, hh.1, hh.2, q F H _ (Grow.refl fh) (.bl _)⟩
    · cases e
  · cases e
section
variable {X : Cx} {a b : Expr} {ta tb : TE} {f g : EF} {pos : Pos}
theorem se_inG {K : PySem.W.Frag} (hu : X.A.units + 65 < cLine) (h1 : SE X a ta f) (h2 : SE X b tb g) (hm : behindInMarks .In b = false := by rfl) (hK : X.K = K := by rfl) : SE X (.Compare a [.In] [b] pos) (tOp (fun x y H Q => rInD K x y H Q ∨ rInT K false x y H Q) ta tb) (eBin gInG f g) := by
  subst hK
  exact ⟨pe_cmpR ((op_inD hu).or (op_inT hu)) h1.pe h2.pe hm, de_bin rv_inG h1.de h2.de⟩
theorem se_notInG {K : PySem.W.Frag} (hu : X.A.units + 65 < cLine) (h1 : SE X a ta f) (h2 : SE X b tb g) (hm : behindInMarks .NotIn b = false := by rfl) (hK : X.K = K := by rfl) : SE X (.Compare a [.NotIn] [b] pos) (tOp (fun x y H Q => rNotInD K x y H Q ∨ rInT K true x y H Q) ta tb) (eBin gNotInG f g) := by
  subst hK
  exact ⟨pe_cmpR ((op_notInD hu).or (op_notInT hu)) h1.pe h2.pe hm, de_bin rv_notInG h1.de h2.de⟩
theorem st_inG {K : PySem.W.Frag} (hu : X.A.units + 65 < cLine) (h1 : SE X a ta f) (h2 : SE X b tb g) (hm : behindInMarks .In b = false := by rfl) (hK : X.K = K := by rfl) : ST X (.Compare a [.In] [b] pos) (tTest (tOp (fun x y H Q => rInD K x y H Q ∨ rInT K false x y H Q) ta tb)) (tE (eBin gInG f g)) := by
  subst hK
  exact ⟨pt_cmpR ((op_inD hu).or (op_inT hu)) h1.pe h2.pe hm, dt_test (de_bin rv_inG h1.de h2.de)⟩
theorem st_notInG {K : PySem.W.Frag} (hu : X.A.units + 65 < cLine) (h1 : SE X a ta f) (h2 : SE X b tb g) (hm : behindInMarks .NotIn b = false := by rfl) (hK : X.K = K := by rfl) : ST X (.Compare a [.NotIn] [b] pos) (tTest (tOp (fun x y H Q => rNotInD K x y H Q ∨ rInT K true x y H Q) ta tb)) (tE (eBin gNotInG f g)) := by
  subst hK
  exact ⟨pt_cmpR ((op_notInD hu).or (op_notInT hu)) h1.pe h2.pe hm, dt_test (de_bin rv_notInG h1.de h2.de)⟩
end
end Dn
namespace Dn
open PySem PySem.Spec PyProof.Rows L2
/-! ### x += e for ints -/
@[simp] def gAddI : PyData → PyData → Option R := gI0 fun i j => .int (i + j)
@[simp] def sAug (i : Nat) (g : PyData → PyData → Option R) (f : EF) : SF := fun env => match env[i]? with
  | some (.val d) => (f env).bind fun r => (g d r.frz).bind fun z => some (.nx (env.set i z.sl))
  | _ => none
theorem rv_addI {K : PySem.W.Frag} : RVD K (rI0 fun i j => .int (i + j)) gAddI := fun F H x y dx dy r fh d1 d2 e Q q => by
  cases dx <;> cases dy <;> first | (cases e; done) | skip
  cases e
  rw [dp_int d1, dp_int d2]
  exact ⟨_, _, rfl, rfl, q F H _ (Grow.refl fh) (.int _)⟩
theorem ds_aug {K : PySem.W.Frag} {te : TE} {f : EF} {i : Nat} {r : R2} {g : PyData → PyData → Option R} (hr : RVD K r g) (h : DE K te f) : DS K (tAug i te r) (sAug i g f) := fun F0 H0 F H σ env o S e D q => by
  unfold sAug at e
  split at e
  · rename_i d hd
    obtain ⟨a, ea, e⟩ := bnd e
    obtain ⟨z, ez, e⟩ := bnd e
    cases e
    obtain ⟨v, h1, h2⟩ := S.s.val hd
    refine ⟨v, h1, h.atZ S ea fun F' H' y g1 dy => ?_⟩
    refine hr F' H' v y d _ z g1.i (dp_mono g1.f h2) dy ez _ fun F2 H2 w g2 rr => ?_
    exact q F2 H2 _ (g1.f.trans g2.f) ⟨S.g.trans (g1.trans g2), S.s.put S.bh (g1.trans g2) (rr.back g1)⟩
  · cases e
section
variable {X : Cx} {e : Expr} {te : TE} {f : EF} {pos pos' : Pos} {x : Str}
theorem ss_augI {i : Nat} (hN : X.N.Nodup) (h1 : SE X e te f) (hi : X.N[i]? = some x := by rfl) (hx : Loc X.env.scope x := by first | exact Or.inl rfl | exact Or.inr rfl) (hf : X.fn x = true ∨ X.env.scope.names.lookup x = some .local := by first | exact .inl rfl | exact .inr rfl) :
    SS X (.AugAssign (.Name x pos') .Add e pos) (tAug i te (rI0 fun i j => .int (i + j))) (sAug i gAddI f) := ⟨ps_aug hN hi hx h1.pe iop_add hf, ds_aug rv_addI h1.de⟩
end

/-! ### list(range(n)) -/
def rRng1 : List V → Hp → VK → Prop := fun vs H Q => ∃ j : Int, vs = [V.int j] ∧ ∀ p, H p = none → Q (.ref p) (upd H p (.rng 0 j))
def rListRng : List V → Hp → VK → Prop := fun xs H Q => ∃ (a : Addr) (j : Int), xs = [V.ref a] ∧ H a = some (.rng 0 j) ∧ -(2 ^ 62) ≤ j ∧ j < 2 ^ 62 ∧ j.toNat ≤ 100000 ∧
  ∀ l, H l = none → Q (.ref l) (upd H l (.lst ((List.range j.toNat).map fun k : Nat => V.int (k : Int))))
section
variable {X : Cx}
theorem cr_range1 : CallR X (.type "range") rRng1 := by
  intro pins s σ H vs us Q I r h
  obtain ⟨j, rfl, q⟩ := h
  obtain ⟨u, rfl, ru⟩ := Vals.one r
  obtain ⟨t, rfl⟩ := ru
  refine call_range_1 ⟨.ref s.heap.objs.size, upd H s.heap.objs.size (.rng 0 j), I.laid (t' := s.toks + 1 + 1) (fun b o e => Heap.get?_push_of_some _ e) (Nat.le_refl _) ?_, rfl, q _ (I.hok.fresh (Nat.le_refl _))⟩
  exact ⟨s.toks, t, s.toks + 1, Heap.get?_push_size _ rfl⟩
theorem vals_acc {n : Nat} : ∀ {acc : List Value}, acc.length = n → ∀ (lo : Nat), (∀ i v, acc[i]? = some v → ∃ t, v = Value.int ((lo + i : Nat) : Int) t) → Vals ((List.range n).map fun k : Nat => V.int ((lo + k : Nat) : Int)) acc := by
  induction n with
  | zero => intro acc h lo _; rw [List.eq_nil_of_length_eq_zero h]; exact .nil
  | succ n ih =>
    intro acc h lo hv
    cases acc with
    | nil => cases h
    | cons v acc =>
      rw [List.range_succ_eq_map, List.map_cons, List.map_map]
      refine .cons ?_ ?_
      · obtain ⟨t, e⟩ := hv 0 v rfl
        exact ⟨t, e⟩
      · have := ih (acc := acc) (by simpa using h) (lo + 1) fun i w hw => by
          obtain ⟨t, e⟩ := hv (i + 1) w (by simpa using hw)
          exact ⟨t, by rw [e, Nat.add_assoc, Nat.add_comm 1 i]⟩
        have e : ((fun k : Nat => V.int ((lo + k : Nat) : Int)) ∘ Nat.succ) = fun k : Nat => V.int ((lo + 1 + k : Nat) : Int) := by
          funext k
          show V.int ((lo + (k + 1) : Nat) : Int) = _
          rw [Nat.add_assoc, Nat.add_comm 1 k]
        rw [e]
        exact this
theorem call_list_rng (hc : X.calm = true) : CallR X (.type "list") rListRng := by
  intro pins s σ H xs us Q I r h
  obtain ⟨a, j, rfl, ha, b1, b2, hl, q⟩ := h
  obtain ⟨u, rfl, ru⟩ := Vals.one r
  cases (show u = Value.ref a from ru)
  obtain ⟨t, u, v, ho⟩ := I.hok a _ ha
  have hsz : Builtin.Range.rangeSize 0 j 1 = (j.toNat : Int) := by rw [rangeSize_one]; split <;> omega
  have hl24 : j.toNat ≤ 2 ^ 24 := Nat.le_trans hl (by decide)
  refine call_list_range (A := X.A) (n := j.toNat) (I.ok.hd hc) ho (small_one (by decide) (by decide) b1 b2) hsz hl24 fun h' tk acc' c' hk hS hacc => ?_
  refine ⟨.ref s.heap.objs.size, _, I.laid (t' := tk) (o := .lst ((List.range j.toNat).map fun k : Nat => V.int (k : Int))) hk (Nat.le_refl _) ?_, rfl, q _ (I.hok.fresh (Nat.le_refl _))⟩
  refine ⟨by rw [List.length_map, List.length_range, sizeLine_eq]; omega, acc'.toList, c', ?_, by simpa using hS⟩
  have := vals_acc (n := j.toNat) (acc := acc'.toList) (by have := hacc.1; simpa using this) 0 fun i v hv => by
    obtain ⟨t, e⟩ := hacc.2 i v (by simpa using hv)
    exact ⟨t, by rw [e]; simp⟩
  simpa using this
end
@[simp] noncomputable def eListR (f : EF) : EF := fun env => (f env).bind fun r => match r.frz with
  | .int n => if InR n ∧ Fits n.toNat then some (.own (intsFrom 0 n.toNat)) else none
  | _ => none
theorem dpa_range {K : PySem.W.Frag} {F : Hp} (n : Nat) : DpAll K F ((List.range n).map fun k : Nat => V.int (k : Int)) (intsFrom 0 n) := by
  have e : intsFrom 0 n = ((List.range n).map fun k : Nat => (k : Int)).map PyData.int := by
    refine List.ext_getElem? fun i => ?_
    rw [List.map_map, List.getElem?_map]
    by_cases h : i < n
    · rw [intsFrom_get n 0 i h, List.getElem?_range h, Int.zero_add]
      rfl
    · rw [List.getElem?_eq_none (by rw [intsFrom_len]; omega), List.getElem?_eq_none (by rw [List.length_range]; omega)]
      rfl
  rw [e]
  have := DpAll.ints (K := K) (H := F) ((List.range n).map fun k : Nat => (k : Int))
  rwa [List.map_map] at this
theorem boot_range_ : bootBuiltins "range" = some (.type "range") := by decide +kernel
section
variable {X : Cx} {e : Expr} {te : TE} {f : EF} {pos pos' : Pos} {x y : Str} {p p' : Pos}
theorem de_listR {K : PySem.W.Frag} (h : DE K te f) : DE K (tCB rListRng (tCons (tCB rRng1 (tCons te tNil)) tNil)) (eListR f) := fun B F H σ env r S fh bh e Q q => by
  obtain ⟨a, ea, e⟩ := bnd e
  split at e
  case h_2 => cases e
  rename_i n hn
  split at e
  case isFalse => cases e
  rename_i c
  cases e
  refine h.z S fh bh ea fun F1 H1 x g1 d1 => ?_
  rw [hn] at d1
  rw [dp_int d1]
  refine ⟨n, rfl, fun p hp => ⟨p, n, rfl, upd_same, c.1.1, c.1.2, c.2, fun l hl => ?_⟩⟩
  have g2 := g1.trans (Grow.new (o := .rng 0 n) g1.i hp)
  have g3 := g2.trans (Grow.new (o := .lst ((List.range n.toNat).map fun k : Nat => V.int (k : Int))) g2.i hl)
  exact q F1 _ _ g3 ⟨l, _, rfl, g2.i.free hl, g2.h.free hl, upd_same, dpa_range n.toNat⟩
theorem se_listR (hg : Gl X "list") (hm : X.mg "list" = none) (hg2 : Gl X "range") (hm2 : X.mg "range" = none) (h1 : SE X e te f) (hc : X.calm = true := by rfl)
    (he2 : starEach [e] X.env = (false, eval e X.env) :: starEach [] X.env := by rfl) (hpl2 : (backTo pos' (starEach [] X.env)).any (·.1) = false := by rfl)
    (he : starEach [.Call (.Name "range" p') [e] [] pos'] X.env = (false, eval (.Call (.Name "range" p') [e] [] pos') X.env) :: starEach [] X.env := by rfl) (hpl : (backTo pos (starEach [] X.env)).any (·.1) = false := by rfl) :
    SE X (.Call (.Name "list" p) [.Call (.Name "range" p') [e] [] pos'] [] pos) (tCB rListRng (tCons (tCB rRng1 (tCons te tNil)) tNil)) (eListR f) :=
  ⟨pe_callTy (call_list_rng hc) hg hm boot_list_ (pa_cons (pe_callTy cr_range1 hg2 hm2 boot_range_ (pa_cons h1.pe pa_nil he2) (by decide) (by decide) he2 hpl2) pa_nil he) (by decide) (by decide) he hpl, de_listR h1.de⟩
end
end Dn
/-! Dg5: three new lists in a new tuple come back, and each is owned again. -/
namespace Dn
open PySem PySem.Spec PyProof.Rows L2
@[simp] def sRetT3 (i j k : Nat) : SF := fun env => match env[i]?, env[j]?, env[k]? with
  | some (.own as), some (.own bs), some (.own cs) => some (.rt (.own3 as bs cs))
  | _, _, _ => none
@[simp] def sAsg3 (i j k : Nat) (f : EF) : SF := fun env => (f env).bind fun r => match r with
  | .own3 as bs cs => some (.nx (((env.set i (.own as)).set j (.own bs)).set k (.own cs)))
  | _ => none
section
variable {K : PySem.W.Frag}
theorem ds_retT3 {i j k : Nat} (hij : i ≠ j) (hik : i ≠ k) (hjk : j ≠ k) : DS K (tRet (tTup (tCons (tVar i) (tCons (tVar j) (tCons (tVar k) tNil))))) (sRetT3 i j k) := fun F0 H0 F H σ env o S e D q => by
  unfold sRetT3 at e
  split at e
  · rename_i as bs cs ha hb hc
    cases e
    obtain ⟨l, ad, h1, h2⟩ := S.s
    have get : ∀ m ds, env[m]? = some (Sl.own ds) → ∃ xs, σ[m]? = some (some (.ref (ad m))) ∧ H0 (ad m) = none ∧ F (ad m) = none ∧ H (ad m) = some (.lst xs) ∧ DpAll K F xs ds := fun m ds e => by
      have hi : m < env.length := (List.getElem?_eq_some_iff.mp e).1
      have hs : σ[m]? = some σ[m] := List.getElem?_eq_getElem (by omega)
      obtain ⟨xs, e1, h⟩ := h1 m _ _ hs e
      exact ⟨xs, by rw [hs, e1], h⟩
    obtain ⟨xs, x1, x0, x2, x3, x4⟩ := get i as ha
    obtain ⟨ys, y1, y0, y2, y3, y4⟩ := get j bs hb
    obtain ⟨zs, z1, z0, z2, z3, z4⟩ := get k cs hc
    refine ⟨_, x1, _, y1, _, z1, sz1000 (n := 3) (by decide), fun p hp => ?_⟩
    refine q F _ _ (S.g.trans (Grow.new S.fh hp)) ?_
    have ne : ∀ a xs, H a = some (.lst xs) → a ≠ p := fun a xs e z => by rw [z, hp] at e; cases e
    refine ⟨p, ad i, ad j, ad k, xs, ys, zs, rfl, S.fh.free hp, S.bh.free hp, upd_same, ⟨x2, x0, ?_, x4⟩, ⟨y2, y0, ?_, y4⟩, ⟨z2, z0, ?_, z4⟩, h2 i j _ _ hij ha hb, h2 i k _ _ hik ha hc, h2 j k _ _ hjk hb hc⟩
    · rw [upd_ne (ne _ _ x3)]; exact x3
    · rw [upd_ne (ne _ _ y3)]; exact y3
    · rw [upd_ne (ne _ _ z3)]; exact z3
  · cases e
/-- a slot gets an owned list that no other slot holds -/
theorem Slots.putO {B F H : Hp} {σ : L2.St} {env : En} {i : Nat} {q : Addr} {xs : List V} {ds : List PyData} (S : Slots K B F H σ env) (hB : B q = none) (hF : F q = none) (hH : H q = some (.lst xs)) (hd : DpAll K F xs ds)
    (hn : ∀ (m : Nat) (zs : List PyData), env[m]? = some (Sl.own zs) → σ[m]? ≠ some (some (V.ref q))) : Slots K B F H (σ.set i (some (V.ref q))) (env.set i (.own ds)) := by
  obtain ⟨l, ad, h1, h2⟩ := S
  have old : ∀ (m : Nat) (zs : List PyData), env[m]? = some (Sl.own zs) → ad m ≠ q := fun m zs e z => by
    have hi : m < env.length := (List.getElem?_eq_some_iff.mp e).1
    have hs : σ[m]? = some σ[m] := List.getElem?_eq_getElem (by omega)
    obtain ⟨ys, e1, _⟩ := h1 m _ _ hs e
    exact hn m zs e (by rw [hs, e1, z])
  refine ⟨by simp [l], fun m => if m = i then q else ad m, fun j w s e1 e2 => ?_, fun j k es fs hjk e1 e2 => ?_⟩
  · by_cases hj : i = j
    · subst hj
      rw [List.getElem?_set] at e1 e2
      simp at e1 e2
      obtain ⟨_, rfl⟩ := e1
      obtain ⟨_, rfl⟩ := e2
      show SlOk K B F H _ (if i = i then q else ad i) _
      rw [if_pos rfl]
      exact ⟨xs, rfl, hB, hF, hH, hd⟩
    · rw [List.getElem?_set_ne hj] at e1 e2
      show SlOk K B F H _ (if j = i then q else ad j) _
      rw [if_neg (fun z => hj z.symm)]
      exact h1 j w s e1 e2
  · show (if j = i then q else ad j) ≠ (if k = i then q else ad k)
    by_cases hj : j = i
    · have hk : k ≠ i := fun z => hjk (hj.trans z.symm)
      rw [if_pos hj, if_neg hk]
      rw [List.getElem?_set_ne (fun z => hk z.symm)] at e2
      exact (old k _ e2).symm
    · rw [if_neg hj]
      rw [List.getElem?_set_ne (fun z => hj z.symm)] at e1
      by_cases hk : k = i
      · rw [if_pos hk]
        exact old j _ e1
      · rw [if_neg hk]
        rw [List.getElem?_set_ne (fun z => hk z.symm)] at e2
        exact h2 j k _ _ hjk e1 e2
theorem fresh_set {σ : L2.St} {env : En} {i : Nat} {a q : Addr} {s : Sl} (haq : a ≠ q) (hn : ∀ (m : Nat) (zs : List PyData), env[m]? = some (Sl.own zs) → σ[m]? ≠ some (some (V.ref q))) :
    ∀ (m : Nat) (zs : List PyData), (env.set i s)[m]? = some (Sl.own zs) → (σ.set i (some (V.ref a)))[m]? ≠ some (some (V.ref q)) := fun m zs e z => by
  by_cases hm : i = m
  · subst hm
    rw [List.getElem?_set] at z
    simp at z
    exact haq z.2
  · rw [List.getElem?_set_ne hm] at e z
    exact hn m zs e z
theorem ds_asg3 {te : TE} {f : EF} {i j k : Nat} (h : DE K te f) : DS K (tAsg te (gTup K 3 (gCons (gName i) (gCons (gName j) (gCons (gName k) gNil))))) (sAsg3 i j k f) := fun F0 H0 F H σ env o S e D q => by
  obtain ⟨r, er, e⟩ := bnd e
  cases r with
  | val d => cases e
  | own ds => cases e
  | own3 as bs cs =>
    cases e
    refine h.at S er fun F' H' v g rr => ?_
    obtain ⟨p, a, b, c, xs, ys, zs, rfl, p1, p2, p3, ⟨a1, a2, a3, a4⟩, ⟨b1, b2, b3, b4⟩, ⟨c1, c2, c3, c4⟩, ab, ac, bc⟩ := rr
    have S' := S.grow g
    have fr : ∀ q, H q = none → ∀ (m : Nat) (zs : List PyData), env[m]? = some (Sl.own zs) → σ[m]? ≠ some (some (V.ref q)) := fun q hq m zs e z => by
      obtain ⟨p', ws, w1, _, _, w3, _⟩ := S.s.own e
      rw [z] at w1
      cases w1
      rw [hq] at w3
      cases w3
    have T1 := S'.s.putO (i := i) (S.bh.free a2) a1 a3 a4 (fr a a2)
    have T2 := T1.putO (i := j) (S.bh.free b2) b1 b3 b4 (fresh_set ab (fr b b2))
    have T3 := T2.putO (i := k) (S.bh.free c2) c1 c3 c4 (fresh_set bc (fresh_set ac (fr c c2)))
    exact ⟨_, _, rfl, .inl (.inl p3), rfl, _, _, rfl, _, _, rfl, _, _, rfl, rfl, q F' H' _ g.f ⟨S'.g, T3⟩⟩
end
theorem ss_retT3 {X : Cx} {i j k : Nat} {es : List Expr} {x1} {pos pos2 : Pos} (h1 : PA X es (tCons (tVar i) (tCons (tVar j) (tCons (tVar k) tNil)))) (hij : i ≠ j := by decide) (hik : i ≠ k := by decide) (hjk : j ≠ k := by decide) :
    SS X (.Return (some (.Tuple es x1 pos2)) pos) (tRet (tTup (tCons (tVar i) (tCons (tVar j) (tCons (tVar k) tNil))))) (sRetT3 i j k) := ⟨ps_ret (pe_tup h1), ds_retT3 hij hik hjk⟩
theorem ss_asg3 {X : Cx} {K : PySem.W.Frag} {e : Expr} {te : TE} {f : EF} {i j l : Nat} {e1 e2 e3 : Expr} {k : Nat} {pos pos2 : Pos} (h1 : SE X e te f) (hc : X.calm = true) (h : PGs X [e1, e2, e3] (gCons (gName i) (gCons (gName j) (gCons (gName l) gNil))))
    (hn : (assignEach [e1, e2, e3] X.env).length = 3 := by rfl) (hst : (assignEach [e1, e2, e3] X.env).findIdx? (·.1) = none := by rfl) (hK : X.K = K := by rfl)
    (hs : swapsWithSole [.Tuple [e1, e2, e3] k pos2] e pos.line X.env = pure false := by rfl) (hw : swappedStores [.Tuple [e1, e2, e3] k pos2] e X.env = pure none := by rfl)
    (h2 : (assignEach [.Tuple [e1, e2, e3] k pos2] X.env).map (·.2) = [assign (.Tuple [e1, e2, e3] k pos2) X.env] := by rfl) :
    SS X (.Assign [.Tuple [e1, e2, e3] k pos2] e pos) (tAsg te (gTup K 3 (gCons (gName i) (gCons (gName j) (gCons (gName l) gNil))))) (sAsg3 i j l f) := by
  subst hK
  exact ⟨ps_asg h1.pe (pg_tup hc h hn hst) hs hw h2, ds_asg3 h1.de⟩
end Dn
/-! Dg6: texts: f-strings, join, extend. -/
namespace Dn
open PySem PySem.Spec PyProof.Rows L2
noncomputable def gFmt : PyData → Option R
  | .str y => if Fits y.length then some (.val (.str y)) else none
  | .int i => if StrOk i then some (.val (.str (toString i))) else none
  | _ => none
@[simp] noncomputable def eFmt (f : EF) : EF := fun env => (f env).bind fun r => gFmt r.frz
noncomputable def jsD : Str → List PyData → Option Str
  | acc, [] => some acc
  | acc, .str y :: r => if Fits (acc.length + y.length) then jsD (acc ++ y) r else none
  | _, _ :: _ => none
@[simp] noncomputable def eJs (t : AF) : EF := fun env => (t env).bind fun ds => (jsD Str.empty ds).bind fun y => some (.val (.str y))
def strsD : List PyData → Option (List Str)
  | [] => some []
  | .str y :: r => (strsD r).bind fun ys => some (y :: ys)
  | _ :: _ => none
/-- the room that a joined text takes -/
def JFits (a : Str) (ys : List Str) : Prop := (ys.map (·.length)).sum + ys.length * a.length ≤ 100000
noncomputable instance (a : Str) (ys : List Str) : Decidable (JFits a ys) := Classical.propDecidable _
noncomputable def gJoin : PyData → PyData → Option R
  | .str a, .list ds => (strsD ds).bind fun ys => if JFits a ys then some (.val (.str (Txt.join a ys))) else none
  | _, _ => none
@[simp] noncomputable def eJoin (f g : EF) : EF := fun env => (f env).bind fun a => (g env).bind fun b => gJoin a.frz b.frz
@[simp] noncomputable def sExtend (i : Nat) (f : EF) : SF := fun env => match env[i]? with
  | some (.own ds) => (f env).bind fun r => match r with
    | .own es => if Fits (ds.length + es.length) then some (.nx (env.set i (.own (ds ++ es)))) else none
    | _ => none
  | _ => none
section
variable {K : PySem.W.Frag}
theorem app_len {a b : Str} : (a ++ b).length = a.length + b.length := by
  show (a.cps ++ b.cps).size = _
  exact Array.size_append
theorem de_fmt {te : TE} {f : EF} (h : DE K te f) : DE K (tFmt te) (eFmt f) := fun B F H σ env r S fh bh e Q q => by
  obtain ⟨r0, e0, e⟩ := bnd e
  refine h.z S fh bh e0 fun F1 H1 v g1 d1 => ?_
  unfold gFmt at e
  split at e
  · rename_i y hy
    split at e
    · rename_i hl
      cases e
      rw [hy] at d1
      rw [dp_str d1]
      exact .inl ⟨y, rfl, szL hl, q F1 H1 _ g1 (.str _)⟩
    · cases e
  · rename_i i hi
    split at e
    · rename_i hl
      cases e
      rw [hi] at d1
      rw [dp_int d1]
      exact .inr ⟨i, rfl, Nat.lt_of_lt_of_le (PySem.Flt.log2_lt_of (by decide : 0 < 1000) (show i.natAbs < 2 ^ 1000 from hl)) (by decide), q F1 H1 _ g1 (.str _)⟩
    · cases e
  · cases e
def DJ (K : PySem.W.Frag) (ts : List TE) (af : AF) : Prop := ∀ (B F H : Hp) (σ : L2.St) (env : En) (ds : List PyData) (acc out : Str), Slots K B F H σ env → Same F H → Same B H → af env = some ds → jsD acc ds = some out →
  ∀ Q : Str → Hp → Prop, (∀ F' H', Grow F H F' H' → Q out H') → tJs ts acc σ H Q
theorem dj_nil : DJ K [] aNil := fun B F H σ env ds acc out S fh bh e j Q q => by
  cases e
  cases j
  exact q F H (Grow.refl fh)
theorem dj_cons {te : TE} {ts : List TE} {f : EF} {g : AF} (h1 : DE K te f) (h2 : DJ K ts g) : DJ K (te :: ts) (aCons f g) := fun B F H σ env ds acc out S fh bh e j Q q => by
  obtain ⟨a, ea, e⟩ := bnd e
  obtain ⟨b, eb, e⟩ := bnd e
  cases e
  refine h1.z S fh bh ea fun F1 H1 x g1 d1 => ?_
  generalize a.frz = z at d1 j
  cases z with
  | str y =>
    have j : (if Fits (acc.length + y.length) then jsD (acc ++ y) b else none) = some out := j
    split at j
    · rename_i hl
      rw [dp_str d1]
      refine ⟨y, rfl, by rw [app_len]; exact szL hl, ?_⟩
      exact h2 B F1 H1 σ env b _ out (S.grow g1) g1.i (bh.trans g1.h) eb j Q fun F2 H2 g2 => q F2 H2 (g1.trans g2)
    · cases j
  | _ => cases j
theorem de_js {ts : List TE} {af : AF} (h : DJ K ts af) : DE K (fun σ H Q => tJs ts Str.empty σ H fun out H1 => Q (.str out) H1) (eJs af) := fun B F H σ env r S fh bh e Q q => by
  obtain ⟨ds, e0, e⟩ := bnd e
  obtain ⟨y, e1, e⟩ := bnd e
  cases e
  exact h B F H σ env ds Str.empty y S fh bh e0 e1 _ fun F' H' g => q F' H' _ g (.str _)
theorem strs_dp {F : Hp} : ∀ {vs : List V} {ds : List PyData} {ys : List Str}, DpAll K F vs ds → strsD ds = some ys → vs = ys.map V.str
  | _, [], _, h, e => by cases h; cases e; rfl
  | _, .str y :: r, _, h, e => by
    obtain ⟨zs, e0, e⟩ := bnd e
    cases e
    cases h with
    | cons d t => rw [dp_str d, strs_dp t e0]; rfl
  | _, .none :: _, _, _, e => by cases e
  | _, .bool _ :: _, _, _, e => by cases e
  | _, .int _ :: _, _, _, e => by cases e
  | _, .list _ :: _, _, _, e => by cases e
  | _, .tuple _ :: _, _, _, e => by cases e
  | _, .dict _ :: _, _, _, e => by cases e
theorem de_join {to te : TE} {f g : EF} (h1 : DE K to f) (h2 : DE K te g) : DE K (tM1 (fun x xs H Q => ∃ a p, ∃ ys : List Str, x = .str a ∧ xs = [.ref p] ∧ (SqL K H p (ys.map V.str) ∨ SqT K H p (ys.map V.str)) ∧
      (ys.map (·.length)).sum + ys.length * a.length ≤ 16777216 ∧ Q (.str (Txt.join a ys)) H) to te) (eJoin f g) := fun B F H σ env r S fh bh e Q q => by
  obtain ⟨a, ea, e⟩ := bnd e
  obtain ⟨b, eb, e⟩ := bnd e
  unfold gJoin at e
  split at e
  · rename_i x ds hx hd
    obtain ⟨ys, ey, e⟩ := bnd e
    split at e
    · rename_i hl
      cases e
      refine h1.z S fh bh ea fun F1 H1 v g1 d1 => ?_
      rw [hx] at d1
      refine ⟨⟨x, dp_str d1⟩, ?_⟩
      refine h2.z (S.grow g1) g1.i (bh.trans g1.h) eb fun F2 H2 w g2 d2 => ?_
      rw [hd] at d2
      obtain ⟨p, xs, rfl, sq, ax⟩ := dp_list d2
      rw [strs_dp ax ey] at sq
      refine ⟨x, p, ys, dp_str d1, rfl, .inl (sqL_mono g2.i sq), ?_, q F2 H2 _ (g1.trans g2) (.str _)⟩
      have hl : _ ≤ 100000 := hl
      exact Nat.le_trans hl (by decide)
    · cases e
  · cases e
theorem ds_extend {te : TE} {f : EF} {i : Nat} (h : DE K te f) : DS K (tDrop (tBM K "list" rExtend (tVar i) (tCons te tNil))) (sExtend i f) := fun F0 H0 F H σ env o S e D q => by
  unfold sExtend at e
  split at e
  · rename_i ds hd
    obtain ⟨r, er, e⟩ := bnd e
    split at e
    · rename_i es
      split at e
      · rename_i hl
        cases e
        obtain ⟨p, xs, h1, h0, h2, h3, h4⟩ := S.s.own hd
        refine ⟨_, h1, Or.inl ⟨rfl, _, .inl (.inl h3)⟩, h.at S er fun F' H' v g rr => ?_⟩
        obtain ⟨b, zs, rfl, b1, b2, b3, b4⟩ := rr
        have S' := S.grow g
        refine ⟨p, b, xs, zs, rfl, rfl, g.h _ _ h3, b3, by rw [DpAll.len h4, DpAll.len b4]; exact szL hl, ?_⟩
        exact q F' _ _ g.f (S'.turn hd h1 (DpAll.app (dpa_mono g.f h4) b4))
      · cases e
    · cases e
  · cases e
end
section
variable {X : Cx} {e o : Expr} {es : List Expr} {te to : TE} {ts : List TE} {f g : EF} {af : AF} {pos apos : Pos}
theorem se_fmt (h : SE X e te f) : SE X (.FormattedValue e (-1) none pos) (tFmt te) (eFmt f) := ⟨pe_fmt h.pe, de_fmt h.de⟩
structure SJ (X : Cx) (es : List Expr) (ts : List TE) (af : AF) : Prop where
  pj : PJ X es ts
  dj : DJ X.K ts af
theorem sj_nil : SJ X [] [] aNil := ⟨.nil, dj_nil⟩
theorem sj_cons (h1 : SE X e te f) (h2 : SJ X es ts af) : SJ X (e :: es) (te :: ts) (aCons f af) := ⟨.cons h1.pe h2.pj, dj_cons h1.de h2.dj⟩
theorem se_js {v1 v2 : Expr} {rest : List Expr} (h : SJ X (v1 :: v2 :: rest) ts af) : SE X (.JoinedStr (v1 :: v2 :: rest) pos) (fun σ H Q => tJs ts Str.empty σ H fun out H1 => Q (.str out) H1) (eJs af) := ⟨pe_joined h.pj, de_js h.dj⟩
theorem se_join {K : PySem.W.Frag} (h1 : SE X o to f) (h2 : SE X e te g) (hs : starEach [e] X.env = [(false, eval e X.env)] := by rfl) (hbase : attributeBase o "join" X.env (eval o X.env) = eval o X.env := by rfl) (hline : (apos.endLine == pos.line) = true := by rfl) (hK : X.K = K := by rfl) :
    SE X (.Call (.Attribute o "join" apos) [e] [] pos) (tM1 (fun x xs H Q => ∃ a p, ∃ ys : List Str, x = .str a ∧ xs = [.ref p] ∧ (SqL K H p (ys.map V.str) ∨ SqT K H p (ys.map V.str)) ∧
      (ys.map (·.length)).sum + ys.length * a.length ≤ 16777216 ∧ Q (.str (Txt.join a ys)) H) to te) (eJoin f g) := by
  subst hK
  exact ⟨pe_join h1.pe h2.pe hs hbase hline, de_join h1.de h2.de⟩
theorem ss_extend {j : Nat} {cpos : Pos} (h0 : PE X o (tVar j)) (h1 : SE X e te f) (hs : swapsWith (.Call (.Attribute o "extend" apos) [e] [] cpos) none pos.line X.env = pure false := by rfl)
    (hbase : attributeBase o "extend" X.env (eval o X.env) = eval o X.env := by rfl)
    (hfew : ((backTo cpos (starEach [e] X.env)).all (fun x => !x.1) && (backToKw cpos (keywordEach [] X.env)).all (fun x => x.1.isSome)
      && decide ([e].length + ([] : List Keyword).length + (if ([] : List Keyword).isEmpty then 0 else 1) < 30)) = true := by rfl)
    (hline : (apos.endLine == cpos.line) = true := by rfl) (hst : starEach [e] X.env = (false, eval e X.env) :: starEach [] X.env := by rfl) (hplain : (backTo cpos (starEach [] X.env)).any (·.1) = false := by rfl) :
    SS X (.Expr (.Call (.Attribute o "extend" apos) [e] [] cpos) pos) (tDrop (tBM X.K "list" rExtend (tVar j) (tCons te tNil))) (sExtend j f) :=
  ⟨ps_expr (pe_bm PySem.F.plainAttrs_list PySem.F.slot_list_extend PySem.F.type_list_extend mt_extend h0 (pa_cons h1.pe pa_nil hst) hbase hfew hline hst hplain) hs, ds_extend h1.de⟩
end
end Dn
/-! Dg7: texts that are read: partition, prefixes, digits, int(text), a text's truth. -/
namespace Dn
open PySem PySem.Spec PyProof.Rows L2
@[simp] noncomputable def gRmPre : PyData → PyData → Option R
  | .str a, .str b => if Fits a.length then some (.val (.str (Txt.removeprefix a b))) else none
  | _, _ => none
@[simp] noncomputable def gStarts : PyData → PyData → Option R
  | .str a, .str b => some (.val (.bool (Txt.startswith a b)))
  | _, _ => none
@[simp] noncomputable def gPart : PyData → PyData → Option R
  | .str a, .str b => if Fits a.length ∧ (b.length == 0) = false then some (.val (.tuple [.str (Txt.partition a b).1, .str (Txt.partition a b).2.1, .str (Txt.partition a b).2.2])) else none
  | _, _ => none
@[simp] def gAscii : PyData → Option R
  | .str a => some (.val (.bool (Txt.isascii a)))
  | _ => none
@[simp] def gDigit : PyData → Option R
  | .str a => some (.val (.bool (Txt.isdigit a)))
  | _ => none
@[simp] noncomputable def gIntS : List PyData → Option R
  | [.str a] => (PySem.intText? a).bind fun n => if Fits (a.length + 99360) then some (.val (.int n)) else none
  | _ => none
@[simp] noncomputable def truS : PyData → Option Bool
  | .str y => if Fits y.length then some ((y.length : Int) != 0) else none
  | _ => none
@[simp] noncomputable def tTruS (f : EF) : TF := fun env => (f env).bind fun r => truS r.frz
@[simp] def eM0 (g : PyData → Option R) (f : EF) : EF := fun env => (f env).bind fun a => g a.frz
@[simp] def eM1 (g : PyData → PyData → Option R) (f h : EF) : EF := fun env => (f env).bind fun a => (h env).bind fun b => g a.frz b.frz
section
variable {K : PySem.W.Frag}
/-- what a text's method of one text gives -/
def RM1 (K : PySem.W.Frag) (r : V → List V → Hp → VK → Prop) (g : PyData → PyData → Option R) : Prop := ∀ (F H : Hp) (x y : V) (dx dy : PyData) (r' : R), Same F H → Dp K F x dx → Dp K F y dy → g dx dy = some r' →
  (∃ a, x = .str a) ∧ ∀ Q : VK, (∀ F' H' v, Grow F H F' H' → RepR K F' H H' v r' → Q v H') → r x [y] H Q
def RM0 (K : PySem.W.Frag) (r : V → List V → Hp → VK → Prop) (g : PyData → Option R) : Prop := ∀ (F H : Hp) (x : V) (dx : PyData) (r' : R), Same F H → Dp K F x dx → g dx = some r' →
  (∃ a, x = .str a) ∧ ∀ Q : VK, (∀ F' H' v, Grow F H F' H' → RepR K F' H H' v r' → Q v H') → r x [] H Q
theorem de_m0 {r : V → List V → Hp → VK → Prop} {g : PyData → Option R} {to : TE} {f : EF} (hr : RM0 K r g) (h : DE K to f) : DE K (tM0 r to) (eM0 g f) := fun B F H σ env r' S fh bh e Q q => by
  obtain ⟨a, ea, e⟩ := bnd e
  refine h.z S fh bh ea fun F1 H1 x g1 d1 => ?_
  obtain ⟨s, t⟩ := hr F1 H1 x _ r' g1.i d1 e
  exact ⟨s, t Q fun F3 H3 v g3 rr => q F3 H3 v (g1.trans g3) (rr.back g1)⟩
/-- the second text is there ahead: its reading changes nothing that the first one's text says -/
theorem de_m1 {r : V → List V → Hp → VK → Prop} {g : PyData → PyData → Option R} {to te : TE} {f h : EF} (hs : ∀ dx dy r', g dx dy = some r' → ∃ a, dx = .str a) (hr : RM1 K r g) (h1 : DE K to f) (h2 : DE K te h) : DE K (tM1 r to te) (eM1 g f h) := fun B F H σ env r' S fh bh e Q q => by
  obtain ⟨a, ea, e⟩ := bnd e
  obtain ⟨b, eb, e⟩ := bnd e
  refine h1.z S fh bh ea fun F1 H1 x g1 d1 => ?_
  obtain ⟨y, hy⟩ := hs _ _ _ e
  have dd := d1
  rw [hy] at dd
  refine ⟨⟨y, dp_str dd⟩, ?_⟩
  refine h2.z (S.grow g1) g1.i (bh.trans g1.h) eb fun F2 H2 w g2 d2 => ?_
  exact (hr F2 H2 x w _ _ r' g2.i (dp_mono g2.f d1) d2 e).2 Q fun F3 H3 v g3 rr => q F3 H3 v ((g1.trans g2).trans g3) (rr.back (g1.trans g2))
abbrev rRmPre : V → List V → Hp → VK → Prop := fun x xs H Q => ∃ a b, x = .str a ∧ xs = [.str b] ∧ a.length ≤ sizeLine ∧ Q (.str (Txt.removeprefix a b)) H
abbrev rStarts : V → List V → Hp → VK → Prop := fun x xs H Q => ∃ a b, x = .str a ∧ xs = [.str b] ∧ Q (.bl (Txt.startswith a b)) H
abbrev rPart : V → List V → Hp → VK → Prop := fun x xs H Q => ∃ a b, x = .str a ∧ xs = [.str b] ∧ (b.length == 0) = false ∧ a.length ≤ sizeLine ∧
      ∀ p, H p = none → Q (.ref p) (upd H p (.tup [.str (Txt.partition a b).1, .str (Txt.partition a b).2.1, .str (Txt.partition a b).2.2]))
abbrev rAscii : V → List V → Hp → VK → Prop := fun x xs H Q => ∃ a, x = .str a ∧ xs = [] ∧ True ∧ Q (.bl (Txt.isascii a)) H
abbrev rDigit : V → List V → Hp → VK → Prop := fun x xs H Q => ∃ a, x = .str a ∧ xs = [] ∧ True ∧ Q (.bl (Txt.isdigit a)) H
theorem rm_pre : RM1 K rRmPre gRmPre := fun F H x y dx dy r' fh d1 d2 e => by
  unfold gRmPre at e
  split at e
  · split at e
    · rename_i hl
      cases e
      rw [dp_str d1, dp_str d2]
      exact ⟨⟨_, rfl⟩, fun Q q => ⟨_, _, rfl, rfl, szL hl, q F H _ (Grow.refl fh) (.str _)⟩⟩
    · cases e
  · cases e
theorem rm_starts : RM1 K rStarts gStarts := fun F H x y dx dy r' fh d1 d2 e => by
  unfold gStarts at e
  split at e
  · cases e
    rw [dp_str d1, dp_str d2]
    exact ⟨⟨_, rfl⟩, fun Q q => ⟨_, _, rfl, rfl, q F H _ (Grow.refl fh) (.bl _)⟩⟩
  · cases e
theorem rm_part : RM1 K rPart gPart := fun F H x y dx dy r' fh d1 d2 e => by
  unfold gPart at e
  split at e
  · split at e
    · rename_i hl
      cases e
      rw [dp_str d1, dp_str d2]
      refine ⟨⟨_, rfl⟩, fun Q q => ⟨_, _, rfl, rfl, hl.2, szL hl.1, fun p hp => ?_⟩⟩
      obtain ⟨g, rr⟩ := newT fh hp (DpAll.cons (.str _) (DpAll.cons (.str _) (DpAll.cons (.str _) .nil)))
      exact q _ _ _ g rr
    · cases e
  · cases e
theorem rm_ascii : RM0 K rAscii gAscii := fun F H x dx r' fh d1 e => by
  unfold gAscii at e
  split at e
  · cases e
    rw [dp_str d1]
    exact ⟨⟨_, rfl⟩, fun Q q => ⟨_, rfl, rfl, trivial, q F H _ (Grow.refl fh) (.bl _)⟩⟩
  · cases e
theorem rm_digit : RM0 K rDigit gDigit := fun F H x dx r' fh d1 e => by
  unfold gDigit at e
  split at e
  · cases e
    rw [dp_str d1]
    exact ⟨⟨_, rfl⟩, fun Q q => ⟨_, rfl, rfl, trivial, q F H _ (Grow.refl fh) (.bl _)⟩⟩
  · cases e
theorem hs_pre : ∀ dx dy r', gRmPre dx dy = some r' → ∃ a, dx = .str a := fun dx dy r' e => by
  unfold gRmPre at e
  split at e
  · exact ⟨_, rfl⟩
  · cases e
theorem hs_starts : ∀ dx dy r', gStarts dx dy = some r' → ∃ a, dx = .str a := fun dx dy r' e => by
  unfold gStarts at e
  split at e
  · exact ⟨_, rfl⟩
  · cases e
theorem hs_part : ∀ dx dy r', gPart dx dy = some r' → ∃ a, dx = .str a := fun dx dy r' e => by
  unfold gPart at e
  split at e
  · exact ⟨_, rfl⟩
  · cases e
theorem rc_intS : RCD K (fun xs H Q => ∃ a n, xs = [.str a] ∧ PySem.intText? a = some n ∧ a.length ≤ 640 ∧ Q (.int n) H) gIntS := fun F H vs ds r fh h e Q q => by
  unfold gIntS at e
  split at e
  · obtain ⟨n, hn, e⟩ := bnd e
    split at e
    · rename_i hl
      cases e
      obtain ⟨v, rfl, d⟩ := dpa1 h
      rw [dp_str d]
      have hl : _ ≤ 100000 := hl
      exact ⟨_, _, rfl, hn, by omega, q F H _ (Grow.refl fh) (.int _)⟩
    · cases e
  · cases e
theorem dt_truS {ta : TE} {f : EF} (h : DE K ta f) : DT K (fun σ H Q => ta σ H fun x H' => ∃ k, TruV K x H' k ∧ Q k H') (tTruS f) := fun B F H σ env b S fh bh e Q q => by
  obtain ⟨r, er, e⟩ := bnd e
  refine h.z S fh bh er fun F1 H1 x g1 d1 => ?_
  unfold truS at e
  split at e
  · rename_i y hy
    split at e
    · rename_i hl
      cases e
      rw [hy] at d1
      rw [dp_str d1]
      exact ⟨_, ⟨szL hl, rfl⟩, q F1 H1 g1⟩
    · cases e
  · cases e
end
section
variable {X : Cx} {e o a : Expr} {es : List Expr} {te to ta : TE} {t : TA} {f g : EF} {af : AF} {pos apos p : Pos} {x : Str}
theorem se_rmpre (h1 : SE X o to f) (h2 : SE X e te g) (hs : starEach [e] X.env = [(false, eval e X.env)] := by rfl) (hbase : attributeBase o "removeprefix" X.env (eval o X.env) = eval o X.env := by rfl) (hline : (apos.endLine == pos.line) = true := by rfl) :
    SE X (.Call (.Attribute o "removeprefix" apos) [e] [] pos) (tM1 rRmPre to te) (eM1 gRmPre f g) := ⟨pe_m1 PySem.F.slot_str_removeprefix PySem.F.type_str_removeprefix mt_removeprefix h1.pe h2.pe hs hbase hline, de_m1 hs_pre rm_pre h1.de h2.de⟩
theorem se_starts (h1 : SE X o to f) (h2 : SE X e te g) (hs : starEach [e] X.env = [(false, eval e X.env)] := by rfl) (hbase : attributeBase o "startswith" X.env (eval o X.env) = eval o X.env := by rfl) (hline : (apos.endLine == pos.line) = true := by rfl) :
    SE X (.Call (.Attribute o "startswith" apos) [e] [] pos) (tM1 rStarts to te) (eM1 gStarts f g) := ⟨pe_m1 PySem.F.slot_str_startswith PySem.F.type_str_startswith mt_startswith h1.pe h2.pe hs hbase hline, de_m1 hs_starts rm_starts h1.de h2.de⟩
theorem se_part (h1 : SE X o to f) (h2 : SE X e te g) (hs : starEach [e] X.env = [(false, eval e X.env)] := by rfl) (hbase : attributeBase o "partition" X.env (eval o X.env) = eval o X.env := by rfl) (hline : (apos.endLine == pos.line) = true := by rfl) :
    SE X (.Call (.Attribute o "partition" apos) [e] [] pos) (tM1 rPart to te) (eM1 gPart f g) := ⟨pe_partition h1.pe h2.pe hs hbase hline, de_m1 hs_part rm_part h1.de h2.de⟩
theorem se_ascii (h1 : SE X o to f) (hbase : attributeBase o "isascii" X.env (eval o X.env) = eval o X.env := by rfl) (hline : (apos.endLine == pos.line) = true := by rfl) :
    SE X (.Call (.Attribute o "isascii" apos) [] [] pos) (tM0 rAscii to) (eM0 gAscii f) := ⟨pe_m0 PySem.F.slot_str_isascii PySem.F.type_str_isascii mt_isascii h1.pe hbase hline, de_m0 rm_ascii h1.de⟩
theorem se_digit (h1 : SE X o to f) (hbase : attributeBase o "isdigit" X.env (eval o X.env) = eval o X.env := by rfl) (hline : (apos.endLine == pos.line) = true := by rfl) :
    SE X (.Call (.Attribute o "isdigit" apos) [] [] pos) (tM0 rDigit to) (eM0 gDigit f) := ⟨pe_m0 PySem.F.slot_str_isdigit PySem.F.type_str_isdigit mt_isdigit h1.pe hbase hline, de_m0 rm_digit h1.de⟩
theorem se_c_intS (hg : Gl X x) (hm : X.mg x = none) (hv : bootBuiltins x = some (.type "int")) (ha : SA X (e :: es) t af) (hn : x ≠ "__name__" := by decide) (hdb : (x == ("__debug__" : Str)) = false := by decide)
    (he : starEach (e :: es) X.env = (false, eval e X.env) :: starEach es X.env := by rfl) (hpl : (backTo pos (starEach es X.env)).any (·.1) = false := by rfl) : SE X (.Call (.Name x p) (e :: es) [] pos) (tCB (fun xs H Q => ∃ a n, xs = [.str a] ∧ PySem.intText? a = some n ∧ a.length ≤ 640 ∧ Q (.int n) H) t) (eCall gIntS af) := se_cty call_int_str rc_intS hg hm hv ha hn hdb he hpl
theorem st_truS {K : PySem.W.Frag} (h1 : SE X a ta f) (he : ∀ whole, isTrue a X.env whole = (do let v ← whole; standAt a.pos; holding [v] (truthy v)) := by intro _; rfl) (hK : X.K = K := by rfl) : ST X a (fun σ H Q => ta σ H fun x H' => ∃ k, TruV K x H' k ∧ Q k H') (tTruS f) := by
  subst hK
  exact ⟨pt_truth h1.pe he, dt_truS h1.de⟩
end
end Dn
/-! Dg8: zip of two lists, enumerate of a list, where a tuple target takes them apart. -/
namespace Dn
open PySem PySem.Spec PyProof.Rows L2
def zipD (xs ys : List PyData) : List PyData := List.zipWith (fun x y => .tuple [x, y]) xs ys
def enumD (xs : List PyData) : List PyData := xs.zipIdx.map fun p => .tuple [.int (p.2 : Nat), p.1]
@[simp] def iZ (t : AF) : IF := fun env => (t env).bind fun ds => match ds with
  | [.list xs, .list ys] => some (zipD xs ys)
  | _ => none
@[simp] def iEn (t : AF) : IF := fun env => (t env).bind fun ds => match ds with
  | [.list xs] => some (enumD xs)
  | _ => none
section
variable {K : PySem.W.Frag}
theorem zipD_get {xs ys : List PyData} {i : Nat} {d : PyData} (e : (zipD xs ys)[i]? = some d) : ∃ x y, xs[i]? = some x ∧ ys[i]? = some y ∧ d = .tuple [x, y] := by
  unfold zipD at e
  rw [List.getElem?_zipWith] at e
  cases hx : xs[i]? with
  | none => rw [hx] at e; cases e
  | some x =>
    cases hy : ys[i]? with
    | none => rw [hx, hy] at e; cases e
    | some y =>
      rw [hx, hy] at e
      cases e
      exact ⟨x, y, rfl, rfl, rfl⟩
theorem walks_zip {F H : Hp} {a b : Addr} {vs ws : List V} {xs ys : List PyData} (fh : Same F H) (h1 : SqL K F a vs) (h2 : SqL K F b ws) (d1 : DpAll K F vs xs) (d2 : DpAll K F ws ys) : Walks K F (Itz K a b) (zipD xs ys) := fun i F1 H1 s1 s2 => by
  have l1 := DpAll.len d1
  have l2 := DpAll.len d2
  have q1 := sqL_mono (s1.trans s2) h1
  have q2 := sqL_mono (s1.trans s2) h2
  refine ⟨fun _ e => ⟨vs, ws, q1, q2, ?_⟩, fun d e => ?_⟩
  · unfold zipD at e
    rw [List.length_zipWith] at e
    omega
  · obtain ⟨x, y, ex, ey, rfl⟩ := zipD_get e
    obtain ⟨v, e1, k1⟩ := DpAll.get d1 ex
    obtain ⟨w, e2, k2⟩ := DpAll.get d2 ey
    refine ⟨⟨vs, ws, v, w, q1, q2, e1, e2⟩, fun z H2 yl => ?_⟩
    obtain ⟨T, v', w', rfl, hT, rfl, z1, z2⟩ := yl
    have z1 := z1 _ q1
    have z2 := z2 _ q2
    rw [e1] at z1
    rw [e2] at z2
    cases z1
    cases z2
    have fT : F1 T = none := s2.free hT
    exact ⟨upd F1 T (.tup [v, w]), (Grow.new s2 hT).frz hT fT upd_same, .tup (.inl (.inl upd_same)) (.cons (dp_mono (s1.trans (same_upd fT)) k1) (.cons (dp_mono (s1.trans (same_upd fT)) k2) .nil))⟩
theorem walks_enum {F H : Hp} {a : Addr} {vs : List V} {xs : List PyData} (fh : Same F H) (h1 : SqL K F a vs) (d1 : DpAll K F vs xs) : Walks K F (Ite K a) (enumD xs) := fun i F1 H1 s1 s2 => by
  have l1 := DpAll.len d1
  have q1 := sqL_mono (s1.trans s2) h1
  refine ⟨fun _ e => ⟨vs, q1, ?_⟩, fun d e => ?_⟩
  · unfold enumD at e
    rw [List.length_map, List.length_zipIdx] at e
    omega
  · unfold enumD at e
    rw [List.getElem?_map, List.getElem?_zipIdx] at e
    cases ex : xs[i]? with
    | none => rw [ex] at e; cases e
    | some x =>
      rw [ex] at e
      cases e
      obtain ⟨v, e1, k1⟩ := DpAll.get d1 ex
      refine ⟨⟨vs, v, q1, e1⟩, fun z H2 yl => ?_⟩
      obtain ⟨T, v', rfl, hT, rfl, z1⟩ := yl
      have z1 := z1 _ q1
      rw [e1] at z1
      cases z1
      have fT : F1 T = none := s2.free hT
      rw [show (0 + i) = i from Nat.zero_add i]
      exact ⟨upd F1 T (.tup [.int (i : Nat), v]), (Grow.new s2 hT).frz hT fT upd_same, .tup (.inl (.inl upd_same)) (.cons (.int _) (.cons (dp_mono (s1.trans (same_upd fT)) k1) .nil))⟩
theorem di_zip {ta : TA} {t : AF} (h : DA K ta t) : DI K (iZip K ta) (iZ t) := fun B F H σ env ds S fh bh e R q => by
  obtain ⟨as, ea, e⟩ := bnd e
  split at e
  · cases e
    refine h B F H σ env _ S fh bh ea _ fun F1 H1 vs g d => ?_
    obtain ⟨v, w, rfl, d1, d2⟩ := dpa2 d
    obtain ⟨a, xs, rfl, s1, a1⟩ := dp_list d1
    obtain ⟨b, ys, rfl, s2, a2⟩ := dp_list d2
    exact ⟨a, b, xs, ys, rfl, sqL_mono g.i s1, sqL_mono g.i s2, q F1 H1 _ g (walks_zip g.i s1 s2 a1 a2)⟩
  · cases e
theorem di_enum {ta : TA} {t : AF} (h : DA K ta t) : DI K (iEnum K ta) (iEn t) := fun B F H σ env ds S fh bh e R q => by
  obtain ⟨as, ea, e⟩ := bnd e
  split at e
  · cases e
    refine h B F H σ env _ S fh bh ea _ fun F1 H1 vs g d => ?_
    obtain ⟨v, rfl, d1⟩ := dpa1 d
    obtain ⟨a, xs, rfl, s1, a1⟩ := dp_list d1
    exact ⟨a, xs, rfl, sqL_mono g.i s1, q F1 H1 _ g (walks_enum g.i s1 a1)⟩
  · cases e
end
section
variable {X : Cx} {e e2 : Expr} {ta : TA} {af : AF} {p pos tpos : Pos} {elts : List Expr} {kk : Nat}
theorem si_zip {K : PySem.W.Frag} (hg : Gl X "zip") (hm : X.mg "zip" = none) (ha : SA X [e, e2] ta af)
    (hs : starEach [e, e2] X.env = (false, eval e X.env) :: starEach [e2] X.env := by rfl) (hpl : (backTo pos (starEach [e2] X.env)).any (·.1) = false := by rfl) (hK : X.K = K := by rfl) :
    SI X (.Tuple elts kk tpos) (.Call (.Name "zip" p) [e, e2] [] pos) (iZip K ta) (iZ af) := by
  subst hK
  exact ⟨pi_zip hg hm ha.pa hs hpl, di_zip ha.da⟩
theorem si_enum {K : PySem.W.Frag} (hg : Gl X "enumerate") (hm : X.mg "enumerate" = none) (ha : SA X [e] ta af) (hs : starEach [e] X.env = [(false, eval e X.env)] := by rfl) (hK : X.K = K := by rfl) :
    SI X (.Tuple elts kk tpos) (.Call (.Name "enumerate" p) [e] [] pos) (iEnum K ta) (iEn af) := by
  subst hK
  exact ⟨pi_enum hg hm ha.pa hs, di_enum ha.da⟩
end
end Dn
/-! Dg9: xs[::-1]. -/
namespace Dn
open PySem PySem.Spec PyProof.Rows L2
@[simp] def eRev (f : EF) : EF := fun env => (f env).bind fun r => match r.frz with
  | .list ds => some (.own ds.reverse)
  | _ => none
theorem DpAll.rev {K : PySem.W.Frag} {H : Hp} : ∀ {vs : List V} {ds : List PyData}, DpAll K H vs ds → DpAll K H vs.reverse ds.reverse
  | _, _, .nil => .nil
  | _, _, .cons h t => by
    rw [List.reverse_cons, List.reverse_cons]
    exact DpAll.app (DpAll.rev t) (.cons h .nil)
theorem de_rev {K : PySem.W.Frag} {te : TE} {f : EF} (h : DE K te f) : DE K (tRevL K te) (eRev f) := fun B F H σ env r S fh bh e Q q => by
  obtain ⟨a, ea, e⟩ := bnd e
  refine h.z S fh bh ea fun F1 H1 v g d => ?_
  split at e
  · rename_i ds hd
    cases e
    rw [hd] at d
    obtain ⟨p, xs, rfl, s, ax⟩ := dp_list d
    refine ⟨p, xs, rfl, sqL_mono g.i s, fun l hl => ?_⟩
    exact q F1 _ _ (g.trans (Grow.new g.i hl)) (RepR.back g (newL g.i hl (DpAll.rev ax)))
  · cases e
theorem se_rev {X : Cx} {K : PySem.W.Frag} {e : Expr} {te : TE} {f : EF} {k : Nat} {p1 p2 p3 pos : Pos} (h : SE X e te f) (hK : X.K = K := by rfl) : SE X (.Subscript e (.Slice none none (some (.UnaryOp .USub (.Constant (.int 1) k p1) p2)) p3) pos) (tRevL K te) (eRev f) := by
  subst hK
  exact ⟨pe_revL h.pe, de_rev h.de⟩
end Dn
/-! Ds1: expressions that change an owned list (handed to a def that stores into it), or raise. -/
namespace Dn
open PySem PySem.Spec PyProof.Rows L2
/-- an own exception: its class by name, its fields -/
structure Xn where
  cls : Str
  fs : List (Str × PyData)
inductive Ans (α : Type) where
  | ok (a : α) (env : En)
  | ex (e : Xn) (env : En)
abbrev EM := En → Option (Ans R)
abbrev TM := En → Option (Ans Bool)
abbrev AM := En → Option (Ans (List PyData))
def bM {α β : Type} (m : Option (Ans α)) (k : α → En → Option (Ans β)) : Option (Ans β) := match m with
  | some (.ok a e) => k a e
  | some (.ex x e) => some (.ex x e)
  | none => none
section
variable {α β : Type} {a : α} {e : En} {x : Xn} {k : α → En → Option (Ans β)}
@[simp] theorem bM_ok : bM (some (.ok a e)) k = k a e := rfl
@[simp] theorem bM_ex : bM (some (.ex x e)) k = some (.ex x e) := rfl
@[simp] theorem bM_no : bM none k = none := rfl
theorem bM_ite {c : Prop} [Decidable c] {x y : Option (Ans α)} : bM (if c then x else y) k = if c then bM x k else bM y k := by split <;> rfl
end

/-! ### what may change: the owned lists -/
def ers (H : Hp) (p : Addr) : Hp := fun a => if a = p then none else H a
theorem ers_ne {H : Hp} {p a : Addr} (h : a ≠ p) : ers H p a = H a := if_neg h
theorem ers_same {H : Hp} {p : Addr} : ers H p p = none := if_pos rfl
theorem ers_some {H : Hp} {p a : Addr} {o : HO} (h : ers H p a = some o) : a ≠ p ∧ H a = some o := by
  unfold ers at h
  split at h
  · cases h
  · exact ⟨by assumption, h⟩
/-- a is the place of no owned list -/
def Free (σ : L2.St) (env : En) (a : Addr) : Prop := ∀ (k : Nat) (ds : List PyData), env[k]? = some (.own ds) → σ[k]? ≠ some (some (.ref a))
def OwnIn (H : Hp) (σ : L2.St) (env : En) : Prop := ∀ (k : Nat) (ds : List PyData) (q : Addr), env[k]? = some (.own ds) → σ[k]? = some (some (.ref q)) → H q ≠ none
structure Gm (F H : Hp) (σ : L2.St) (env : En) (F' H' : Hp) (env' : En) : Prop where
  f : Same F F'
  h : ∀ (a : Addr) (o : HO), H a = some o → Free σ env a → H' a = some o
  d : ∀ a : Addr, H a ≠ none → H' a ≠ none
  n : ∀ a : Addr, H a ≠ none → F a = none → F' a = none
  o : ∀ (k : Nat) (ds : List PyData), env'[k]? = some (.own ds) → ∃ es, env[k]? = some (.own es)
section
variable {F H F1 H1 F2 H2 : Hp} {σ : L2.St} {env env1 env2 : En}
theorem Gm.refl : Gm F H σ env F H env := ⟨Same.refl F, fun _ _ h _ => h, fun _ h => h, fun _ _ h => h, fun _ ds h => ⟨ds, h⟩⟩
theorem Free.back {a : Addr} (o : ∀ (k : Nat) (ds : List PyData), env1[k]? = some (.own ds) → ∃ es, env[k]? = some (.own es)) (h : Free σ env a) : Free σ env1 a := fun k ds e => by
  obtain ⟨es, q⟩ := o k ds e
  exact h k es q
theorem Gm.trans (a : Gm F H σ env F1 H1 env1) (b : Gm F1 H1 σ env1 F2 H2 env2) : Gm F H σ env F2 H2 env2 :=
  ⟨a.f.trans b.f, fun x o h hf => b.h x o (a.h x o h hf) (hf.back a.o), fun x h => b.d x (a.d x h), fun x h hf => b.n x (a.d x h) (a.n x h hf), fun k ds h => by
    obtain ⟨es, q⟩ := b.o k ds h
    exact a.o k es q⟩
theorem Gm.of {F' H' : Hp} (g : Grow F H F' H') : Gm F H σ env F' H' env := ⟨g.f, fun x o h _ => g.h x o h, fun x h => same_ne g.h h, g.n, fun _ ds h => ⟨ds, h⟩⟩
theorem Gm.gone {a : Addr} (g : Gm F H σ env F1 H1 env1) (h : H1 a = none) : H a = none := by
  cases q : H a with
  | none => rfl
  | some o => exact absurd h (g.d a (by rw [q]; exact Option.some_ne_none o))
end
section
variable {K : PySem.W.Frag} {B F H F' H' F0 H0 : Hp} {σ : L2.St} {env env' : En}
theorem Slots.ownIn (S : Slots K B F H σ env) : OwnIn H σ env := fun k ds q e1 e2 => by
  obtain ⟨p, xs, h1, _, _, h2, _⟩ := S.own e1
  rw [e2] at h1
  cases h1
  rw [h2]
  exact Option.some_ne_none _
theorem Gm.ownIn (g : Gm F H σ env F' H' env') (h : OwnIn H σ env) : OwnIn H σ env' := fun k ds q e1 e2 => by
  obtain ⟨es, q1⟩ := g.o k ds e1
  exact h k es q q1 e2
/-- a slot gets what has come; Hx: what stood when it was asked -/
theorem Slots.putM {Hx : Hp} {i : Nat} {v : V} {r : R} (S : Slots K B F' H' σ env') (bx : Same B Hx) (w : OwnIn Hx σ env') (h : RepR K F' Hx H' v r) : Slots K B F' H' (σ.set i (some v)) (env'.set i r.sl) := by
  have w' : ∀ (m : Nat) (zs : List PyData), env'[m]? = some (Sl.own zs) → ∀ q, Hx q = none → σ[m]? ≠ some (some (.ref q)) := fun m zs e q hq z => w m zs q e z hq
  obtain ⟨l, ad, h1, h2⟩ := S
  cases r with
  | val d =>
    refine ⟨by simp [l], ad, fun j w s e1 e2 => ?_, fun j k ds es hjk e1 e2 => ?_⟩
    · by_cases hj : i = j
      · subst hj
        rw [List.getElem?_set] at e1 e2
        simp at e1 e2
        obtain ⟨_, rfl⟩ := e1
        obtain ⟨_, rfl⟩ := e2
        exact ⟨v, rfl, h⟩
      · rw [List.getElem?_set_ne hj] at e1 e2
        exact h1 j w s e1 e2
    · have q : ∀ m zs, (env'.set i (R.val d).sl)[m]? = some (Sl.own zs) → env'[m]? = some (Sl.own zs) := fun m zs e => by
        by_cases hm : i = m
        · subst hm
          rw [List.getElem?_set] at e
          simp at e
        · rw [List.getElem?_set_ne hm] at e
          exact e
      exact h2 j k ds es hjk (q _ _ e1) (q _ _ e2)
  | own3 as bs cs =>
    refine ⟨by simp [l], ad, fun j w s e1 e2 => ?_, fun j k ds es hjk e1 e2 => ?_⟩
    · by_cases hj : i = j
      · subst hj
        rw [List.getElem?_set] at e1 e2
        simp at e1 e2
        obtain ⟨_, rfl⟩ := e2
        trivial
      · rw [List.getElem?_set_ne hj] at e1 e2
        exact h1 j w s e1 e2
    · have q : ∀ m zs, (env'.set i (R.own3 as bs cs).sl)[m]? = some (Sl.own zs) → env'[m]? = some (Sl.own zs) := fun m zs e => by
        by_cases hm : i = m
        · subst hm
          rw [List.getElem?_set] at e
          simp [R.sl] at e
        · rw [List.getElem?_set_ne hm] at e
          exact e
      exact h2 j k ds es hjk (q _ _ e1) (q _ _ e2)
  | own ds =>
    obtain ⟨p, xs, rfl, f1, f2, f3, f4⟩ := h
    have old : ∀ m zs, env'[m]? = some (Sl.own zs) → ad m ≠ p := fun m zs e z => by
      have hi : m < env'.length := (List.getElem?_eq_some_iff.mp e).1
      have hs : σ[m]? = some σ[m] := List.getElem?_eq_getElem (by omega)
      obtain ⟨ys, e0, _⟩ := h1 m _ _ hs e
      exact w' m zs e p f2 (by rw [hs, e0, z])
    refine ⟨by simp [l], fun m => if m = i then p else ad m, fun j w s e1 e2 => ?_, fun j k es fs hjk e1 e2 => ?_⟩
    · by_cases hj : i = j
      · subst hj
        rw [List.getElem?_set] at e1 e2
        simp at e1 e2
        obtain ⟨_, rfl⟩ := e1
        obtain ⟨_, rfl⟩ := e2
        show SlOk K B F' H' _ (if i = i then p else ad i) _
        rw [if_pos rfl]
        exact ⟨xs, rfl, bx.free f2, f1, f3, f4⟩
      · rw [List.getElem?_set_ne hj] at e1 e2
        show SlOk K B F' H' _ (if j = i then p else ad j) _
        rw [if_neg (fun z => hj z.symm)]
        exact h1 j w s e1 e2
    · show (if j = i then p else ad j) ≠ (if k = i then p else ad k)
      by_cases hj : j = i
      · have hk : k ≠ i := fun z => hjk (hj.trans z.symm)
        rw [if_pos hj, if_neg hk]
        rw [List.getElem?_set_ne (fun z => hk z.symm)] at e2
        exact (old k _ e2).symm
      · rw [if_neg hj]
        rw [List.getElem?_set_ne (fun z => hj z.symm)] at e1
        by_cases hk : k = i
        · rw [if_pos hk]
          exact old j _ e1
        · rw [if_neg hk]
          rw [List.getElem?_set_ne (fun z => hk z.symm)] at e2
          exact h2 j k _ _ hjk e1 e2
/-- a def has stored into the owned list of slot i -/
theorem Slots.state {i : Nat} {p : Addr} {ds es : List PyData} {ys : List V} (S : Slots K B F H σ env) (e : env[i]? = some (.own ds)) (hp : σ[i]? = some (some (.ref p)))
    (gf : Same F F') (gh : Same (ers H p) H') (gn : ∀ a : Addr, ers H p a ≠ none → F a = none → F' a = none) (hy : H' p = some (.lst ys)) (fy : F' p = none) (dy : DpAll K F' ys es) : Slots K B F' H' σ (env.set i (.own es)) := by
  obtain ⟨l, ad, h1, h2⟩ := S
  obtain ⟨xs, e1, b0, b1, b2, b3⟩ := h1 i _ _ hp e
  have ep : p = ad i := by
    have := Option.some.inj e1
    cases this
    rfl
  have q : ∀ m zs, (env.set i (.own es))[m]? = some (Sl.own zs) → ∃ ws, env[m]? = some (Sl.own ws) := fun m zs g => by
    by_cases hm : i = m
    · subst hm
      exact ⟨ds, e⟩
    · rw [List.getElem?_set_ne hm] at g
      exact ⟨zs, g⟩
  refine ⟨by simp [l], ad, fun j w s g1 g2 => ?_, fun j k fs gs hjk g1 g2 => ?_⟩
  · by_cases hj : i = j
    · subst hj
      rw [hp] at g1
      cases g1
      rw [List.getElem?_set] at g2
      simp at g2
      obtain ⟨_, rfl⟩ := g2
      exact ⟨ys, by rw [ep], by rw [← ep]; exact ep ▸ b0, by rw [← ep]; exact fy, by rw [← ep]; exact hy, dy⟩
    · rw [List.getElem?_set_ne hj] at g2
      have o := h1 j w s g1 g2
      cases s with
      | no => trivial
      | val d =>
        obtain ⟨x, c1, c2⟩ := o
        exact ⟨x, c1, dp_mono gf c2⟩
      | own zs =>
        obtain ⟨xs', c1, c0, c2, c3, c4⟩ := o
        have ne : ad j ≠ p := by rw [ep]; exact h2 j i _ _ (fun z => hj z.symm) g2 e
        have c3' : ers H p (ad j) = some (.lst xs') := by rw [ers_ne ne]; exact c3
        exact ⟨xs', c1, c0, gn _ (by rw [c3']; exact Option.some_ne_none _) c2, gh _ _ c3', dpa_mono gf c4⟩
  · obtain ⟨w1, r1⟩ := q _ _ g1
    obtain ⟨w2, r2⟩ := q _ _ g2
    exact h2 j k _ _ hjk r1 r2
theorem Slots.refreeze {F2 : Hp} (S : Slots K B F H σ env) (s : Same F F2) (h : ∀ (k : Nat) (ds : List PyData) (q : Addr), env[k]? = some (.own ds) → σ[k]? = some (some (.ref q)) → F q = none → F2 q = none) : Slots K B F2 H σ env := by
  obtain ⟨l, ad, h1, h2⟩ := S
  refine ⟨l, ad, fun j w t e1 e2 => ?_, h2⟩
  have o := h1 j w t e1 e2
  cases t with
  | no => trivial
  | val d =>
    obtain ⟨x, c1, c2⟩ := o
    exact ⟨x, c1, dp_mono s c2⟩
  | own zs =>
    obtain ⟨xs', c1, c0, c2, c3, c4⟩ := o
    exact ⟨xs', c1, c0, h j zs _ e2 (by rw [e1, c1]) c2, c3, dpa_mono s c4⟩
/-- a result may be frozen -/
theorem RepR.frzM {v : V} {r : R} (i : Same F' H') (d : ∀ a : Addr, H a ≠ none → H' a ≠ none) (h : RepR K F' H H' v r) : ∃ F2, Same F' F2 ∧ Same F2 H' ∧ (∀ a : Addr, H a ≠ none → F' a = none → F2 a = none) ∧ Dp K F2 v r.frz := by
  let Hr : Hp := fun a => if H a = none then none else H' a
  have hn : ∀ a, H a = none → Hr a = none := fun a q => if_pos q
  have g : Grow F' Hr F' H' := ⟨Same.refl F', fun a o q => by
    have q : (if H a = none then none else H' a) = some o := q
    split at q
    · cases q
    · exact q, i, fun _ _ q => q⟩
  have rr : RepR K F' Hr H' v r := by
    cases r with
    | val d => exact h
    | own ds =>
      obtain ⟨p, xs, e, a, b, c, d⟩ := h
      exact ⟨p, xs, e, a, hn _ b, c, d⟩
    | own3 as bs cs =>
      obtain ⟨p, a, b, c, xs, ys, zs, e, p1, p2, p3, ⟨a1, a2, a3, a4⟩, ⟨b1, b2, b3, b4⟩, ⟨c1, c2, c3, c4⟩, n⟩ := h
      exact ⟨p, a, b, c, xs, ys, zs, e, p1, hn _ p2, p3, ⟨a1, hn _ a2, a3, a4⟩, ⟨b1, hn _ b2, b3, b4⟩, ⟨c1, hn _ c2, c3, c4⟩, n⟩
  obtain ⟨F2, g2, s2, dv⟩ := rr.frz g
  refine ⟨F2, s2, g2.i, fun a ha hf => g2.n a ?_ hf, dv⟩
  show (if H a = none then none else H' a) ≠ none
  rw [if_neg ha]
  exact d a ha
theorem RepR.backM {Hx : Hp} {v : V} {r : R} (d : ∀ a : Addr, Hx a ≠ none → H a ≠ none) (h : RepR K F' H H' v r) : RepR K F' Hx H' v r := by
  have n : ∀ a, H a = none → Hx a = none := fun a e => by
    cases q : Hx a with
    | none => rfl
    | some o => exact absurd e (d a (by rw [q]; exact Option.some_ne_none o))
  cases r with
  | val d => exact h
  | own ds =>
    obtain ⟨p, xs, e, a, b, c, d⟩ := h
    exact ⟨p, xs, e, a, n _ b, c, d⟩
  | own3 as bs cs =>
    obtain ⟨p, a, b, c, xs, ys, zs, rfl, p1, p2, p3, ⟨a1, a2, a3, a4⟩, ⟨b1, b2, b3, b4⟩, ⟨c1, c2, c3, c4⟩, z⟩ := h
    exact ⟨p, a, b, c, xs, ys, zs, rfl, p1, n _ p2, p3, ⟨a1, n _ a2, a3, a4⟩, ⟨b1, n _ b2, b3, b4⟩, ⟨c1, n _ c2, c3, c4⟩, z⟩
/-- the state is left as it is, but for what is frozen -/
theorem Sta.refreeze {F2 Hx : Hp} (S : Sta K F0 H0 F H σ env) (s : Same F F2) (i : Same F2 H) (b : Same H0 Hx) (w : OwnIn Hx σ env) (n : ∀ a : Addr, Hx a ≠ none → F a = none → F2 a = none) : Sta K F0 H0 F2 H σ env :=
  ⟨⟨S.g.f.trans s, S.g.h, i, fun a ha hf => n a (same_ne b ha) (S.g.n a ha hf)⟩, S.s.refreeze s fun k ds q e1 e2 hq => n q (w k ds q e1 e2) hq⟩
theorem Gm.refreeze {F2 : Hp} (g : Gm F H σ env F' H' env') (s : Same F' F2) (n : ∀ a : Addr, H a ≠ none → F' a = none → F2 a = none) : Gm F H σ env F2 H' env' :=
  ⟨g.f.trans s, g.h, g.d, fun a ha hf => n a ha (g.n a ha hf), g.o⟩
end
/-- an exception of an own class -/
def XnOk (mg : Str → Option Value) (K : PySem.W.Frag) (F : Hp) (e : Xn) (cls : Value) (d : Option Addr) : Prop :=
  mg e.cls = some cls ∧ ((e.fs = [] ∧ d = none) ∨ ∃ (dd : Addr) (vs : List (Str × V)), d = some dd ∧ F dd = some (.xd vs) ∧ vs.map Prod.fst = e.fs.map Prod.fst ∧ DpAll K F (vs.map Prod.snd) (e.fs.map Prod.snd))
theorem XnOk.mono {mg : Str → Option Value} {K : PySem.W.Frag} {F F' : Hp} {e : Xn} {cls : Value} {d : Option Addr} (s : Same F F') (h : XnOk mg K F e cls d) : XnOk mg K F' e cls d := by
  obtain ⟨h1, h2 | ⟨dd, vs, a, b, c, g⟩⟩ := h
  · exact ⟨h1, .inl h2⟩
  · exact ⟨h1, .inr ⟨dd, vs, a, s _ _ b, c, dpa_mono s g⟩⟩

/-! ### what a reading computes -/
section
variable (mg : Str → Option Value) (K : PySem.W.Frag) (W : WX)
def ExOk (F0 H0 F H : Hp) (σ : L2.St) (env : En) (e : Xn) (env' : En) : Prop := ∀ F' H' cls d, Gm F H σ env F' H' env' → Sta K F0 H0 F' H' σ env' → XnOk mg K F' e cls d → W cls d σ H'
def EmOk (F0 H0 F H : Hp) (σ : L2.St) (env : En) (Q : VK) : Ans R → Prop
  | .ok r env' => ∀ F' H' v, Gm F H σ env F' H' env' → Sta K F0 H0 F' H' σ env' → RepR K F' H H' v r → Q v H'
  | .ex e env' => ExOk mg K W F0 H0 F H σ env e env'
def TmOk (F0 H0 F H : Hp) (σ : L2.St) (env : En) (Q : Bool → Hp → Prop) : Ans Bool → Prop
  | .ok b env' => ∀ F' H', Gm F H σ env F' H' env' → Sta K F0 H0 F' H' σ env' → Q b H'
  | .ex e env' => ExOk mg K W F0 H0 F H σ env e env'
def AmOk (F0 H0 F H : Hp) (σ : L2.St) (env : En) (Q : List V → Hp → Prop) : Ans (List PyData) → Prop
  | .ok ds env' => ∀ F' H' vs, Gm F H σ env F' H' env' → Sta K F0 H0 F' H' σ env' → DpAll K F' vs ds → Q vs H'
  | .ex e env' => ExOk mg K W F0 H0 F H σ env e env'
def DEM (te : TE) (f : EM) : Prop := ∀ (F0 H0 F H : Hp) (σ : L2.St) (env : En) (a : Ans R), Sta K F0 H0 F H σ env → f env = some a → ∀ Q : VK, EmOk mg K W F0 H0 F H σ env Q a → te σ H Q
def DTM (tt : TT) (f : TM) : Prop := ∀ (F0 H0 F H : Hp) (σ : L2.St) (env : En) (a : Ans Bool), Sta K F0 H0 F H σ env → f env = some a → ∀ Q : Bool → Hp → Prop, TmOk mg K W F0 H0 F H σ env Q a → tt σ H Q
def DAM (ta : TA) (f : AM) : Prop := ∀ (F0 H0 F H : Hp) (σ : L2.St) (env : En) (a : Ans (List PyData)), Sta K F0 H0 F H σ env → f env = some a → ∀ Q : List V → Hp → Prop, AmOk mg K W F0 H0 F H σ env Q a → ta σ H Q
end
section
variable {mg : Str → Option Value} {K : PySem.W.Frag} {W : WX} {F0 H0 F H : Hp} {σ : L2.St} {env : En}
theorem ExOk.on {F1 H1 : Hp} {env1 env' : En} {e : Xn} (g : Gm F H σ env F1 H1 env1) (h : ExOk mg K W F0 H0 F H σ env e env') : ExOk mg K W F0 H0 F1 H1 σ env1 e env' := fun F' H' cls d g1 S x => h F' H' cls d (g.trans g1) S x
/-- an expression, frozen: the two ways out -/
theorem DEM.z {te : TE} {f : EM} (h : DEM mg K W te f) (S : Sta K F0 H0 F H σ env) {r : R} {env' : En} (e : f env = some (.ok r env')) {Q : VK} (q : ∀ F' H' v, Gm F H σ env F' H' env' → Sta K F0 H0 F' H' σ env' → Dp K F' v r.frz → Q v H') : te σ H Q :=
  h F0 H0 F H σ env _ S e Q fun F' H' v g S' rr => by
    obtain ⟨F2, s, i, n, d⟩ := rr.frzM S'.fh g.d
    exact q F2 H' v (g.refreeze s n) (S'.refreeze s i S.bh (g.ownIn S.s.ownIn) n) d
theorem DEM.x {te : TE} {f : EM} (h : DEM mg K W te f) (S : Sta K F0 H0 F H σ env) {x : Xn} {env' : En} (e : f env = some (.ex x env')) {Q : VK} (q : ExOk mg K W F0 H0 F H σ env x env') : te σ H Q := h F0 H0 F H σ env _ S e Q q
theorem bMd {α β : Type} {m : Option (Ans α)} {k : α → En → Option (Ans β)} {a : Ans β} (h : bM m k = some a) : (∃ x e, m = some (.ok x e) ∧ k x e = some a) ∨ ∃ x e, m = some (.ex x e) ∧ a = .ex x e := by
  cases m with
  | none => cases h
  | some z =>
    cases z with
    | ok x e => exact .inl ⟨x, e, rfl, h⟩
    | ex x e =>
      cases h
      exact .inr ⟨x, e, rfl, rfl⟩
/-- nothing changes -/
@[simp] def mP (f : EF) : EM := fun env => (f env).bind fun r => some (.ok r env)
@[simp] def mPT (f : TF) : TM := fun env => (f env).bind fun r => some (.ok r env)
@[simp] def mPA (f : AF) : AM := fun env => (f env).bind fun r => some (.ok r env)
theorem dem_p {te : TE} {f : EF} (h : DE K te f) : DEM mg K W te (mP f) := fun F0 H0 F H σ env a S e Q q => by
  obtain ⟨r, er, e⟩ := bnd e
  cases e
  exact h.at S er fun F' H' v g rr => q F' H' v (.of g) (S.grow g) rr
theorem dtm_p {te : TT} {f : TF} (h : DT K te f) : DTM mg K W te (mPT f) := fun F0 H0 F H σ env a S e Q q => by
  obtain ⟨r, er, e⟩ := bnd e
  cases e
  exact h H0 F H σ env r S.s S.fh S.bh er Q fun F' H' g => q F' H' (.of g) (S.grow g)
theorem dam_p {te : TA} {f : AF} (h : DA K te f) : DAM mg K W te (mPA f) := fun F0 H0 F H σ env a S e Q q => by
  obtain ⟨r, er, e⟩ := bnd e
  cases e
  exact h H0 F H σ env r S.s S.fh S.bh er Q fun F' H' vs g d => q F' H' vs (.of g) (S.grow g) d
@[simp] def mBin (g : PyData → PyData → Option R) (f1 f2 : EM) : EM := fun env => bM (f1 env) fun a e1 => bM (f2 e1) fun b e2 => (g a.frz b.frz).bind fun r => some (.ok r e2)
@[simp] def mUn (g : PyData → Option R) (f : EM) : EM := fun env => bM (f env) fun a e1 => (g a.frz).bind fun r => some (.ok r e1)
theorem dem_bin {r : R2} {g : PyData → PyData → Option R} {ta tb : TE} {f1 f2 : EM} (hr : RVD K r g) (h1 : DEM mg K W ta f1) (h2 : DEM mg K W tb f2) : DEM mg K W (tOp r ta tb) (mBin g f1 f2) := fun F0 H0 F H σ env ans S e Q q => by
  rcases bMd e with ⟨a, e1, ea, e⟩ | ⟨x, e1, ea, rfl⟩
  case inr => exact h1.x S ea q
  refine h1.z S ea fun F1 H1 x g1 S1 d1 => ?_
  rcases bMd e with ⟨b, e2, eb, e⟩ | ⟨x, e2, eb, rfl⟩
  case inr => exact h2.x S1 eb (ExOk.on g1 q)
  obtain ⟨r', er, e⟩ := bnd e
  cases e
  refine h2.z S1 eb fun F2 H2 y g2 S2 d2 => ?_
  refine hr F2 H2 x y _ _ r' S2.fh (dp_mono g2.f d1) d2 er Q fun F3 H3 v g3 rr => ?_
  exact q F3 H3 v ((g1.trans g2).trans (.of g3)) (S2.grow g3) (rr.backM fun a h => g2.d a (g1.d a h))
theorem dem_un {r : V → Hp → VK → Prop} {g : PyData → Option R} {ta : TE} {f : EM} (hr : RUD K r g) (h1 : DEM mg K W ta f) : DEM mg K W (tUn r ta) (mUn g f) := fun F0 H0 F H σ env ans S e Q q => by
  rcases bMd e with ⟨a, e1, ea, e⟩ | ⟨x, e1, ea, rfl⟩
  case inr => exact h1.x S ea q
  obtain ⟨r', er, e⟩ := bnd e
  cases e
  refine h1.z S ea fun F1 H1 x g1 S1 d1 => ?_
  exact hr F1 H1 x _ r' S1.fh d1 er Q fun F3 H3 v g3 rr => q F3 H3 v (g1.trans (.of g3)) (S1.grow g3) (rr.backM g1.d)
@[simp] def mCons (f : EM) (t : AM) : AM := fun env => bM (f env) fun a e1 => bM (t e1) fun ds e2 => some (.ok (a.frz :: ds) e2)
theorem dam_cons {te : TE} {t : TA} {f : EM} {g : AM} (h1 : DEM mg K W te f) (h2 : DAM mg K W t g) : DAM mg K W (tCons te t) (mCons f g) := fun F0 H0 F H σ env ans S e Q q => by
  rcases bMd e with ⟨a, e1, ea, e⟩ | ⟨x, e1, ea, rfl⟩
  case inr => exact h1.x S ea q
  refine h1.z S ea fun F1 H1 x g1 S1 d1 => ?_
  rcases bMd e with ⟨b, e2, eb, e⟩ | ⟨x, e2, eb, rfl⟩
  case inr => exact h2 F0 H0 F1 H1 σ e1 _ S1 eb _ (ExOk.on g1 q)
  cases e
  exact h2 F0 H0 F1 H1 σ e1 _ S1 eb _ fun F2 H2 vs g2 S2 d2 => q F2 H2 (x :: vs) (g1.trans g2) S2 (.cons (dp_mono g2.f d1) d2)
/-- new objects made of arguments -/
theorem DAM.run {t : TA} {g : AM} (h : DAM mg K W t g) (S : Sta K F0 H0 F H σ env) {ds : List PyData} {e1 : En} (e : g env = some (.ok ds e1)) {Q : List V → Hp → Prop} (q : ∀ F' H' vs, Gm F H σ env F' H' e1 → Sta K F0 H0 F' H' σ e1 → DpAll K F' vs ds → Q vs H') : t σ H Q := h F0 H0 F H σ env _ S e Q q
@[simp] noncomputable def mTup (t : AM) : EM := fun env => bM (t env) fun ds e1 => if Few ds.length then some (.ok (.val (.tuple ds)) e1) else none
@[simp] noncomputable def mLst (t : AM) : EM := fun env => bM (t env) fun ds e1 => if Few ds.length then some (.ok (.own ds) e1) else none
theorem dem_tup {t : TA} {g : AM} (h : DAM mg K W t g) : DEM mg K W (tTup t) (mTup g) := fun F0 H0 F H σ env ans S e Q q => by
  rcases bMd e with ⟨ds, e1, ea, e⟩ | ⟨x, e1, ea, rfl⟩
  case inr => exact h F0 H0 F H σ env _ S ea _ q
  split at e
  · rename_i hl
    cases e
    refine h.run S ea fun F1 H1 vs g1 S1 d1 => ⟨by rw [DpAll.len d1]; exact sz1000 hl, fun p hp => ?_⟩
    have hf : F1 p = none := S1.fh.free hp
    have g2 : Grow F1 H1 (upd F1 p (.tup vs)) (upd H1 p (.tup vs)) := (Grow.new S1.fh hp).frz hp hf upd_same
    exact q _ _ _ (g1.trans (.of g2)) (S1.grow g2) (.tup (.inl (.inl upd_same)) (dpa_mono (same_upd hf) d1))
  · cases e
theorem dem_lst {t : TA} {g : AM} (h : DAM mg K W t g) : DEM mg K W (tLst t) (mLst g) := fun F0 H0 F H σ env ans S e Q q => by
  rcases bMd e with ⟨ds, e1, ea, e⟩ | ⟨x, e1, ea, rfl⟩
  case inr => exact h F0 H0 F H σ env _ S ea _ q
  split at e
  · rename_i hl
    cases e
    refine h.run S ea fun F1 H1 vs g1 S1 d1 => ⟨by rw [DpAll.len d1]; exact sz1000 hl, fun p hp => ?_⟩
    have g2 : Grow F1 H1 F1 (upd H1 p (.lst vs)) := Grow.new S1.fh hp
    exact q _ _ _ (g1.trans (.of g2)) (S1.grow g2) ⟨p, vs, rfl, S1.fh.free hp, g1.gone hp, upd_same, d1⟩
  · cases e
@[simp] def mCall (g : List PyData → Option R) (t : AM) : EM := fun env => bM (t env) fun ds e1 => (g ds).bind fun r => some (.ok r e1)
theorem dem_cb {r : List V → Hp → VK → Prop} {g : List PyData → Option R} {t : TA} {a : AM} (hr : RCD K r g) (h : DAM mg K W t a) : DEM mg K W (tCB r t) (mCall g a) := fun F0 H0 F H σ env ans S e Q q => by
  rcases bMd e with ⟨ds, e1, ea, e⟩ | ⟨x, e1, ea, rfl⟩
  case inr => exact h F0 H0 F H σ env _ S ea _ q
  obtain ⟨r', er, e⟩ := bnd e
  cases e
  refine h.run S ea fun F1 H1 vs g1 S1 d1 => ?_
  exact hr F1 H1 vs ds r' S1.fh d1 er Q fun F3 H3 v g3 rr => q F3 H3 v (g1.trans (.of g3)) (S1.grow g3) (rr.backM g1.d)
theorem dem_call {n : Nat} {g : List PyData → Option R} {t : TA} {af : AM} (hn : ∀ ds r, g ds = some r → ds.length = n) (h : DAM mg K W t af) : DEM mg K W (L2.tCall (spD K n g) [] E0 t) (mCall g af) := fun F0 H0 F H σ env ans S e Q q => by
  rcases bMd e with ⟨ds, e1, ea, e⟩ | ⟨x, e1, ea, rfl⟩
  case inr => exact h F0 H0 F H σ env _ S ea _ q
  obtain ⟨r', er, e⟩ := bnd e
  cases e
  refine h.run S ea fun F1 H1 vs g1 S1 d1 => ?_
  rw [List.append_nil]
  exact ⟨by rw [DpAll.len d1, hn _ _ er], F1, ds, r', S1.fh, d1, er, fun F2 H2 v g2 rr => q F2 H2 v (g1.trans (.of g2)) (S1.grow g2) (rr.backM g1.d)⟩
/-! tests -/
@[simp] def mTE (f : EM) : TM := fun env => bM (f env) fun a e1 => (toB a.frz).bind fun b => some (.ok b e1)
@[simp] def mAnd (f g : TM) : TM := fun env => bM (f env) fun a e1 => if a = true then g e1 else some (.ok false e1)
@[simp] def mOr (f g : TM) : TM := fun env => bM (f env) fun a e1 => if a = true then some (.ok true e1) else g e1
@[simp] def mNot (f : TM) : TM := fun env => bM (f env) fun a e1 => some (.ok (!a) e1)
@[simp] def mT (f : TM) : EM := fun env => bM (f env) fun b e1 => some (.ok (.val (.bool b)) e1)
@[simp] def mIf (c : TM) (f g : EM) : EM := fun env => bM (c env) fun b e1 => if b = true then f e1 else g e1
theorem dtm_test {te : TE} {f : EM} (h : DEM mg K W te f) : DTM mg K W (tTest te) (mTE f) := fun F0 H0 F H σ env ans S e Q q => by
  rcases bMd e with ⟨a, e1, ea, e⟩ | ⟨x, e1, ea, rfl⟩
  case inr => exact h.x S ea q
  obtain ⟨b, eb, e⟩ := bnd e
  cases e
  refine h.z S ea fun F1 H1 x g1 S1 d1 => ?_
  rw [toB_some eb] at d1
  cases d1
  exact ⟨b, rfl, q F1 H1 g1 S1⟩
theorem dtm_B {te : TE} {f : EM} (h : DEM mg K W te f) : DTM mg K W (tB te) (mTE f) := dtm_test h
theorem TmOk.on {F1 H1 : Hp} {env1 : En} {a : Ans Bool} {Q : Bool → Hp → Prop} (g : Gm F H σ env F1 H1 env1) (h : TmOk mg K W F0 H0 F H σ env Q a) : TmOk mg K W F0 H0 F1 H1 σ env1 Q a := by
  cases a with
  | ok b e => exact fun F' H' g' S' => h F' H' (g.trans g') S'
  | ex x e => exact ExOk.on g h
theorem EmOk.on {F1 H1 : Hp} {env1 : En} {a : Ans R} {Q : VK} (g : Gm F H σ env F1 H1 env1) (h : EmOk mg K W F0 H0 F H σ env Q a) : EmOk mg K W F0 H0 F1 H1 σ env1 Q a := by
  cases a with
  | ok b e => exact fun F' H' v g' S' rr => h F' H' v (g.trans g') S' (rr.backM g.d)
  | ex x e => exact ExOk.on g h
theorem dtm_and {t u : TT} {f g : TM} (h1 : DTM mg K W t f) (h2 : DTM mg K W u g) : DTM mg K W (tAnd t u) (mAnd f g) := fun F0 H0 F H σ env ans S e Q q => by
  rcases bMd e with ⟨a, e1, ea, e⟩ | ⟨x, e1, ea, rfl⟩
  case inr => exact h1 F0 H0 F H σ env _ S ea _ q
  refine h1 F0 H0 F H σ env _ S ea _ fun F1 H1 g1 S1 => ?_
  cases a with
  | true => exact iteT (h2 F0 H0 F1 H1 σ e1 _ S1 e Q (q.on g1))
  | false =>
    cases e
    exact iteF (q F1 H1 g1 S1)
theorem dtm_or {t u : TT} {f g : TM} (h1 : DTM mg K W t f) (h2 : DTM mg K W u g) : DTM mg K W (tOr t u) (mOr f g) := fun F0 H0 F H σ env ans S e Q q => by
  rcases bMd e with ⟨a, e1, ea, e⟩ | ⟨x, e1, ea, rfl⟩
  case inr => exact h1 F0 H0 F H σ env _ S ea _ q
  refine h1 F0 H0 F H σ env _ S ea _ fun F1 H1 g1 S1 => ?_
  cases a with
  | false => exact iteF (h2 F0 H0 F1 H1 σ e1 _ S1 e Q (q.on g1))
  | true =>
    cases e
    exact iteT (q F1 H1 g1 S1)
theorem dtm_not {t : TT} {f : TM} (h1 : DTM mg K W t f) : DTM mg K W (tNot t) (mNot f) := fun F0 H0 F H σ env ans S e Q q => by
  rcases bMd e with ⟨a, e1, ea, e⟩ | ⟨x, e1, ea, rfl⟩
  case inr => exact h1 F0 H0 F H σ env _ S ea _ q
  cases e
  exact h1 F0 H0 F H σ env _ S ea _ fun F1 H1 g1 S1 => q F1 H1 g1 S1
theorem dem_ifE {c : TT} {ta tb : TE} {t : TM} {f g : EM} (hc : DTM mg K W c t) (h1 : DEM mg K W ta f) (h2 : DEM mg K W tb g) : DEM mg K W (tIf c ta tb) (mIf t f g) := fun F0 H0 F H σ env ans S e Q q => by
  rcases bMd e with ⟨a, e1, ea, e⟩ | ⟨x, e1, ea, rfl⟩
  case inr => exact hc F0 H0 F H σ env _ S ea _ q
  refine hc F0 H0 F H σ env _ S ea _ fun F1 H1 g1 S1 => ?_
  cases a with
  | true => exact iteT (h1 F0 H0 F1 H1 σ e1 _ S1 e Q (q.on g1))
  | false => exact iteF (h2 F0 H0 F1 H1 σ e1 _ S1 e Q (q.on g1))
theorem dem_andV {ta tb : TE} {f g : EM} (h1 : DEM mg K W ta f) (h2 : DEM mg K W tb g) : DEM mg K W (tAndV ta tb) (mIf (mTE f) g (mP (eC (.bool false)))) := fun F0 H0 F H σ env ans S e Q q => by
  rcases bMd e with ⟨a, e1, ea, e⟩ | ⟨x, e1, ea, rfl⟩
  case inr =>
    rcases bMd ea with ⟨b, e2, eb, ea⟩ | ⟨x', e2, eb, ez⟩
    · obtain ⟨c, _, ea⟩ := bnd ea
      cases ea
    · cases ez
      exact h1.x S eb q
  rcases bMd ea with ⟨b, e2, eb, ea⟩ | ⟨x', e2, eb, ez⟩
  case inr => cases ez
  obtain ⟨c, ec, ea⟩ := bnd ea
  cases ea
  refine h1.z S eb fun F1 H1 x g1 S1 d1 => ?_
  rw [toB_some ec] at d1
  cases d1
  refine ⟨a, rfl, ?_⟩
  cases a with
  | true => exact iteT (h2 F0 H0 F1 H1 σ e1 _ S1 e Q (q.on g1))
  | false =>
    cases e
    exact iteF (q F1 H1 _ g1 S1 (.bl false))
theorem dem_orV {ta tb : TE} {f g : EM} (h1 : DEM mg K W ta f) (h2 : DEM mg K W tb g) : DEM mg K W (tOrV ta tb) (mIf (mTE f) (mP (eC (.bool true))) g) := fun F0 H0 F H σ env ans S e Q q => by
  rcases bMd e with ⟨a, e1, ea, e⟩ | ⟨x, e1, ea, rfl⟩
  case inr =>
    rcases bMd ea with ⟨b, e2, eb, ea⟩ | ⟨x', e2, eb, ez⟩
    · obtain ⟨c, _, ea⟩ := bnd ea
      cases ea
    · cases ez
      exact h1.x S eb q
  rcases bMd ea with ⟨b, e2, eb, ea⟩ | ⟨x', e2, eb, ez⟩
  case inr => cases ez
  obtain ⟨c, ec, ea⟩ := bnd ea
  cases ea
  refine h1.z S eb fun F1 H1 x g1 S1 d1 => ?_
  rw [toB_some ec] at d1
  cases d1
  refine ⟨a, rfl, ?_⟩
  cases a with
  | false => exact iteF (h2 F0 H0 F1 H1 σ e1 _ S1 e Q (q.on g1))
  | true =>
    cases e
    exact iteT (q F1 H1 _ g1 S1 (.bl true))
theorem dem_notV {ta : TE} {f : EM} (h1 : DEM mg K W ta f) : DEM mg K W (tNotV ta) (mT (mNot (mTE f))) := fun F0 H0 F H σ env ans S e Q q => by
  rcases bMd e with ⟨a, e1, ea, e⟩ | ⟨x, e1, ea, rfl⟩
  case inr =>
    rcases bMd ea with ⟨b, e2, eb, ea⟩ | ⟨x', e2, eb, ez⟩
    · cases ea
    · cases ez
      rcases bMd eb with ⟨b, e2, eb, ea⟩ | ⟨x', e2, eb, ez⟩
      · obtain ⟨c, _, ea⟩ := bnd ea
        cases ea
      · cases ez
        exact h1.x S eb q
  cases e
  rcases bMd ea with ⟨b, e2, eb, ea⟩ | ⟨x', e2, eb, ez⟩
  case inr => cases ez
  cases ea
  rcases bMd eb with ⟨b, e2, eb, ea⟩ | ⟨x', e2, eb, ez⟩
  case inr => cases ez
  obtain ⟨c, ec, ea⟩ := bnd ea
  cases ea
  refine h1.z S eb fun F1 H1 x g1 S1 d1 => ?_
  rw [toB_some ec] at d1
  cases d1
  exact ⟨_, rfl, q F1 H1 _ g1 S1 (.bl _)⟩
end
end Dn
/-! Ds2: statements that change an owned list by a def, or raise. -/
namespace Dn
open PySem PySem.Spec PyProof.Rows L2
inductive OutM where
  | nx (env : En)
  | rt (r : R) (o : Option En)
  | bk (env : En)
  | ct (env : En)
  | ex (e : Xn) (env : En)
abbrev SFm := En → Option OutM
/-- the slots of I hold what they held -/
def Pin (I : List Nat) (z : Nat → Option (Option V)) (σ : L2.St) : Prop := ∀ i ∈ I, σ[i]? = z i
def Apart (σ : L2.St) (env : En) (v : V) (r : R) : Prop := ∀ (k : Nat) (es ds : List PyData), r = .own ds → env[k]? = some (.own es) → σ[k]? ≠ some (some v)
section
variable (mg : Str → Option Value) (K : PySem.W.Frag) (W : WX) (I : List Nat)
def EndOkM (z : Nat → Option (Option V)) (F0 H0 G : Hp) (D : Ends) : OutM → Prop
  | .nx env => ∀ F H σ, Same G F → Sta K F0 H0 F H σ env → Pin I z σ → D.nx σ H
  | .rt r none => ∀ F H v, Grow F0 H0 F H → RepR K F H0 H v r → D.rt v H
  | .rt r (some env) => ∀ F H σ v, Sta K F0 H0 F H σ env → Pin I z σ → RepR K F H0 H v r → Apart σ env v r → D.rt v H
  | .bk env => ∀ F H σ, Same G F → Sta K F0 H0 F H σ env → Pin I z σ → D.bk σ H
  | .ct env => ∀ F H σ, Same G F → Sta K F0 H0 F H σ env → Pin I z σ → D.ct σ H
  | .ex e env => ∀ F H σ cls d, Same G F → Sta K F0 H0 F H σ env → Pin I z σ → XnOk mg K F e cls d → W cls d σ H
def DSM (ts : TS) (f : SFm) : Prop := ∀ (z : Nat → Option (Option V)) (F0 H0 F H : Hp) (σ : L2.St) (env : En) (o : OutM), Sta K F0 H0 F H σ env → Pin I z σ → f env = some o → ∀ D : Ends, EndOkM mg K W I z F0 H0 F D o → ts D σ H
end
def bX {α : Type} (m : Option (Ans α)) (k : α → En → Option OutM) : Option OutM := match m with
  | some (.ok a e) => k a e
  | some (.ex x e) => some (.ex x e)
  | none => none
section
variable {α : Type} {a : α} {e : En} {x : Xn} {k : α → En → Option OutM}
@[simp] theorem bX_ok : bX (some (.ok a e)) k = k a e := rfl
@[simp] theorem bX_ex : bX (some (.ex x e)) k = some (.ex x e) := rfl
@[simp] theorem bX_no : bX none k = none := rfl
theorem bX_ite {c : Prop} [Decidable c] {x y : Option (Ans α)} : bX (if c then x else y) k = if c then bX x k else bX y k := by split <;> rfl
theorem bXd {m : Option (Ans α)} {o : OutM} (h : bX m k = some o) : (∃ x e, m = some (.ok x e) ∧ k x e = some o) ∨ ∃ x e, m = some (.ex x e) ∧ o = .ex x e := by
  cases m with
  | none => cases h
  | some z =>
    cases z with
    | ok x e => exact .inl ⟨x, e, rfl, h⟩
    | ex x e =>
      cases h
      exact .inr ⟨x, e, rfl, rfl⟩
end
def bindM (o : Option OutM) (g : SFm) : Option OutM := match o with
  | some (.nx e) => g e
  | o => o
def turnM (o : Option OutM) (k : SFm) : Option OutM := match o with
  | some (.nx e) => k e
  | some (.ct e) => k e
  | some (.bk e) => some (.nx e)
  | some (.rt r q) => some (.rt r q)
  | some (.ex x e) => some (.ex x e)
  | none => none
section
variable {g k : SFm} {e : En} {r : R} {q : Option En} {x : Xn}
@[simp] theorem bindM_nx : bindM (some (.nx e)) g = g e := rfl
@[simp] theorem bindM_rt : bindM (some (.rt r q)) g = some (.rt r q) := rfl
@[simp] theorem bindM_bk : bindM (some (.bk e)) g = some (.bk e) := rfl
@[simp] theorem bindM_ct : bindM (some (.ct e)) g = some (.ct e) := rfl
@[simp] theorem bindM_ex : bindM (some (.ex x e)) g = some (.ex x e) := rfl
@[simp] theorem bindM_no : bindM none g = none := rfl
theorem bindM_ite {c : Prop} [Decidable c] {x y : Option OutM} : bindM (if c then x else y) g = if c then bindM x g else bindM y g := by split <;> rfl
@[simp] theorem turnM_nx : turnM (some (.nx e)) k = k e := rfl
@[simp] theorem turnM_ct : turnM (some (.ct e)) k = k e := rfl
@[simp] theorem turnM_bk : turnM (some (.bk e)) k = some (.nx e) := rfl
@[simp] theorem turnM_rt : turnM (some (.rt r q)) k = some (.rt r q) := rfl
@[simp] theorem turnM_ex : turnM (some (.ex x e)) k = some (.ex x e) := rfl
@[simp] theorem turnM_no : turnM none k = none := rfl
theorem turnM_ite {c : Prop} [Decidable c] {x y : Option OutM} : turnM (if c then x else y) k = if c then turnM x k else turnM y k := by split <;> rfl
end
@[simp] def mNext : SFm := fun env => some (.nx env)
@[simp] def mSeq (f g : SFm) : SFm := fun env => bindM (f env) g
@[simp] def mRet (f : EM) : SFm := fun env => bX (f env) fun r e => some (.rt r (some e))
@[simp] def mRetN : SFm := fun env => some (.rt (.val .none) (some env))
@[simp] def mRetOwn (i : Nat) : SFm := fun env => match env[i]? with
  | some (.own ds) => some (.rt (.own ds) (some (env.set i .no)))
  | _ => none
@[simp] def mBreak : SFm := fun env => some (.bk env)
@[simp] def mCont : SFm := fun env => some (.ct env)
@[simp] def mIfS (c : TM) (f g : SFm) : SFm := fun env => bX (c env) fun b e => if b = true then f e else g e
@[simp] def mSet (i : Nat) (f : EM) : SFm := fun env => bX (f env) fun r e => some (.nx (e.set i r.sl))
@[simp] def mDrop (f : EM) : SFm := fun env => bX (f env) fun _ e => some (.nx e)
@[simp] noncomputable def mAppend (i : Nat) (f : EM) : SFm := fun env => match env[i]? with
  | some (.own _) => bX (f env) fun r e => match e[i]? with
    | some (.own ds) => if Fits (ds.length + 1) then some (.nx (e.set i (.own (ds ++ [r.frz])))) else none
    | _ => none
  | _ => none
@[simp] def mPut (i : Nat) (fi : EF) (fv : EM) : SFm := fun env => bX (fv env) fun r e => match e[i]? with
  | some (.own ds) => (fi e).bind fun k => match k.frz with
    | .int k => (ixN ds.length k).bind fun j => some (.nx (e.set i (.own (ds.set j r.frz))))
    | _ => none
  | _ => none
@[simp] def mFrz (i : Nat) (f : SFm) : SFm := fun env => f (frzAt i env)
@[simp] def mAsg (g : GF) (f : EM) : SFm := fun env => bX (f env) fun r e => (g r.frz e).bind fun e2 => some (.nx e2)
/-- a statement that changes nothing so, in a def without a state -/
def liftO : Out → OutM
  | .nx e => .nx e
  | .rt r => .rt r none
  | .bk e => .bk e
  | .ct e => .ct e
@[simp] theorem liftO_nx {e : En} : liftO (.nx e) = .nx e := rfl
@[simp] theorem liftO_rt {r : R} : liftO (.rt r) = .rt r none := rfl
@[simp] theorem liftO_bk {e : En} : liftO (.bk e) = .bk e := rfl
@[simp] theorem liftO_ct {e : En} : liftO (.ct e) = .ct e := rfl
@[simp] def mS (f : SF) : SFm := fun env => (f env).bind fun o => some (liftO o)

theorem wipe_get {σ : L2.St} {k : Nat} : ∀ {vs : List Nat}, k ∉ vs → (L2.wipe σ vs)[k]? = σ[k]?
  | [], _ => rfl
  | v :: vs, h => by
    show ((L2.wipe σ vs).set v none)[k]? = _
    rw [List.getElem?_set_ne (fun z => h (by rw [z]; exact List.mem_cons_self)), wipe_get fun z => h (List.mem_cons_of_mem _ z)]
theorem wipeD_get {env : En} {k : Nat} : ∀ {vs : List Nat}, k ∉ vs → (wipeD env vs)[k]? = env[k]?
  | [], _ => rfl
  | v :: vs, h => by
    show ((wipeD env vs).set v .no)[k]? = _
    rw [List.getElem?_set_ne (fun z => h (by rw [z]; exact List.mem_cons_self)), wipeD_get fun z => h (List.mem_cons_of_mem _ z)]
theorem wipeD_no {env : En} {k : Nat} : ∀ {vs : List Nat}, k ∈ vs → ∀ ds, (wipeD env vs)[k]? ≠ some (.own ds)
  | [], h, _ => by cases h
  | v :: vs, h, ds => by
    show ((wipeD env vs).set v .no)[k]? ≠ _
    by_cases e : v = k
    · subst e
      rw [List.getElem?_set]
      simp
    · rw [List.getElem?_set_ne e]
      exact wipeD_no (by cases h with | head => exact absurd rfl e | tail _ h => exact h) ds
section
variable {mg : Str → Option Value} {K : PySem.W.Frag} {W : WX} {I : List Nat} {z : Nat → Option (Option V)} {F0 H0 F H G : Hp} {σ : L2.St} {env : En}
theorem Pin.set {i : Nat} {v : Option V} (h : Pin I z σ) (hi : i ∉ I) : Pin I z (σ.set i v) := fun k hk => by
  rw [List.getElem?_set_ne (fun e => hi (by rw [e]; exact hk))]
  exact h k hk
theorem EndOkM.mono {G' : Hp} {D : Ends} {o : OutM} (s : Same G G') (h : EndOkM mg K W I z F0 H0 G D o) : EndOkM mg K W I z F0 H0 G' D o := by
  cases o with
  | nx env => exact fun F H σ a b c => h F H σ (s.trans a) b c
  | rt r q => cases q <;> exact h
  | bk env => exact fun F H σ a b c => h F H σ (s.trans a) b c
  | ct env => exact fun F H σ a b c => h F H σ (s.trans a) b c
  | ex e env => exact fun F H σ cls d a b c x => h F H σ cls d (s.trans a) b c x
theorem exOf {x : Xn} {e1 : En} {D : Ends} (p : Pin I z σ) (q : EndOkM mg K W I z F0 H0 F D (.ex x e1)) : ExOk mg K W F0 H0 F H σ env x e1 := fun F' H' cls d g S xx => q F' H' σ cls d g.f S p xx
theorem dsm_next : DSM mg K W I tNext mNext := fun z F0 H0 F H σ env o S p e D q => by
  cases e
  exact q F H σ (Same.refl F) S p
theorem dsm_seq {t u : TS} {f g : SFm} (h1 : DSM mg K W I t f) (h2 : DSM mg K W I u g) : DSM mg K W I (tSeq t u) (mSeq f g) := fun z F0 H0 F H σ env o S p e D q => by
  unfold mSeq at e
  cases e1 : f env with
  | none =>
    rw [e1, bindM_no] at e
    cases e
  | some o1 =>
    rw [e1] at e
    refine h1 z F0 H0 F H σ env o1 S p e1 _ ?_
    cases o1 with
    | nx env1 => exact fun F1 H1 σ1 s1 S1 p1 => h2 z F0 H0 F1 H1 σ1 env1 o S1 p1 e D (q.mono s1)
    | rt r w =>
      rw [bindM_rt] at e
      cases e
      cases w <;> exact q
    | bk env1 =>
      rw [bindM_bk] at e
      cases e
      exact q
    | ct env1 =>
      rw [bindM_ct] at e
      cases e
      exact q
    | ex x e1 =>
      rw [bindM_ex] at e
      cases e
      exact q
theorem dsm_s {ts : TS} {f : SF} (h : DS K ts f) : DSM mg K W [] ts (mS f) := fun z F0 H0 F H σ env o S p e D q => by
  obtain ⟨o', eo, e⟩ := bnd e
  cases e
  have hp : ∀ τ, Pin [] z τ := fun τ i hi => by cases hi
  refine h F0 H0 F H σ env o' S eo D ?_
  cases o' with
  | nx e => exact fun F H σ a b => q F H σ a b (hp σ)
  | rt r => exact q
  | bk e => exact fun F H σ a b => q F H σ a b (hp σ)
  | ct e => exact fun F H σ a b => q F H σ a b (hp σ)
theorem Apart.of {H' : Hp} {e' : En} {v : V} {r : R} {F' Hx : Hp} (w : OwnIn Hx σ e') (rr : RepR K F' Hx H' v r) : Apart σ e' v r := fun k es ds er e1 e2 => by
  subst er
  obtain ⟨p, xs, rfl, _, h2, _⟩ := rr
  exact w k es p e1 e2 h2
theorem dsm_ret {te : TE} {f : EM} (h : DEM mg K W te f) : DSM mg K W I (tRet te) (mRet f) := fun z F0 H0 F H σ env o S p e D q => by
  rcases bXd e with ⟨r, e1, er, e⟩ | ⟨x, e1, er, rfl⟩
  case inr => exact h.x S er (exOf p q)
  cases e
  exact h F0 H0 F H σ env _ S er D.rt fun F' H' v g S' rr => q F' H' σ v S' p (rr.backM fun a ha => same_ne S.bh ha) (.of (g.ownIn S.s.ownIn) rr)
theorem dsm_retN : DSM mg K W I tRetN mRetN := fun z F0 H0 F H σ env o S p e D q => by
  cases e
  exact q F H σ _ S p .non fun _ _ _ er => by cases er
theorem Slots.drop {B : Hp} {i : Nat} (S : Slots K B F H σ env) : Slots K B F H σ (env.set i .no) := by
  obtain ⟨l, ad, h1, h2⟩ := S
  have q : ∀ m s, (env.set i .no)[m]? = some s → s = .no ∨ (m ≠ i ∧ env[m]? = some s) := fun m s e => by
    by_cases hm : i = m
    · subst hm
      rw [List.getElem?_set] at e
      simp at e
      exact .inl e.2.symm
    · rw [List.getElem?_set_ne hm] at e
      exact .inr ⟨fun z => hm z.symm, e⟩
  refine ⟨by simp [l], ad, fun j w s e1 e2 => ?_, fun j k ds es hjk e1 e2 => ?_⟩
  · rcases q j s e2 with rfl | ⟨_, e2⟩
    · trivial
    · exact h1 j w s e1 e2
  · rcases q j _ e1 with e | ⟨_, e1⟩
    · cases e
    rcases q k _ e2 with e | ⟨_, e2⟩
    · cases e
    exact h2 j k ds es hjk e1 e2
theorem dsm_retOwn {i : Nat} : DSM mg K W I (tRet (tVar i)) (mRetOwn i) := fun z F0 H0 F H σ env o S p e D q => by
  unfold mRetOwn at e
  split at e
  · rename_i ds hd
    cases e
    obtain ⟨l, ad, h1, h2⟩ := S.s
    have hi : i < env.length := (List.getElem?_eq_some_iff.mp hd).1
    have hs : σ[i]? = some σ[i] := List.getElem?_eq_getElem (by omega)
    obtain ⟨xs, c1, c0, c2, c3, c4⟩ := h1 i _ _ hs hd
    refine ⟨_, by rw [hs, c1], q F H σ _ ⟨S.g, S.s.drop⟩ p ⟨ad i, xs, rfl, c2, c0, c3, c4⟩ fun k es ds' er e1 e2 => ?_⟩
    by_cases hk : i = k
    · subst hk
      rw [List.getElem?_set] at e1
      simp at e1
    · rw [List.getElem?_set_ne hk] at e1
      have hk2 : k < env.length := (List.getElem?_eq_some_iff.mp e1).1
      have hs2 : σ[k]? = some σ[k] := List.getElem?_eq_getElem (by omega)
      obtain ⟨ys, d1, _⟩ := h1 k _ _ hs2 e1
      rw [hs2, d1] at e2
      injection e2 with e2
      injection e2 with e2
      injection e2 with e2
      exact h2 k i _ _ (fun z => hk z.symm) e1 hd e2
  · cases e
theorem dsm_break : DSM mg K W I tBreak mBreak := fun z F0 H0 F H σ env o S p e D q => by
  cases e
  exact q F H σ (Same.refl F) S p
theorem dsm_cont : DSM mg K W I tCont mCont := fun z F0 H0 F H σ env o S p e D q => by
  cases e
  exact q F H σ (Same.refl F) S p
theorem dsm_if {c : TT} {t u : TS} {b : TM} {f g : SFm} (hc : DTM mg K W c b) (h1 : DSM mg K W I t f) (h2 : DSM mg K W I u g) : DSM mg K W I (tIfS c t u) (mIfS b f g) := fun z F0 H0 F H σ env o S p e D q => by
  rcases bXd e with ⟨a, e1, er, e⟩ | ⟨x, e1, er, rfl⟩
  case inr => exact hc F0 H0 F H σ env _ S er _ (exOf p q)
  refine hc F0 H0 F H σ env _ S er _ fun F1 H1 g1 S1 => ?_
  cases a with
  | true => exact iteT (h1 z F0 H0 F1 H1 σ e1 o S1 p e D (q.mono g1.f))
  | false => exact iteF (h2 z F0 H0 F1 H1 σ e1 o S1 p e D (q.mono g1.f))
theorem Sta.putM {F' H' : Hp} {env' : En} {i : Nat} {v : V} {r : R} (S : Sta K F0 H0 F H σ env) (g : Gm F H σ env F' H' env') (S' : Sta K F0 H0 F' H' σ env') (rr : RepR K F' H H' v r) : Sta K F0 H0 F' H' (σ.set i (some v)) (env'.set i r.sl) :=
  ⟨S'.g, S'.s.putM S.bh (g.ownIn S.s.ownIn) rr⟩
theorem dsm_set {te : TE} {f : EM} {i : Nat} (h : DEM mg K W te f) (hi : i ∉ I := by decide) : DSM mg K W I (tAsg te (gName i)) (mSet i f) := fun z F0 H0 F H σ env o S p e D q => by
  rcases bXd e with ⟨r, e1, er, e⟩ | ⟨x, e1, er, rfl⟩
  case inr => exact h.x S er (exOf p q)
  cases e
  exact h F0 H0 F H σ env _ S er _ fun F' H' v g S' rr => q F' H' _ g.f (S.putM g S' rr) (p.set hi)
theorem dsm_drop {te : TE} {f : EM} (h : DEM mg K W te f) : DSM mg K W I (tDrop te) (mDrop f) := fun z F0 H0 F H σ env o S p e D q => by
  rcases bXd e with ⟨r, e1, er, e⟩ | ⟨x, e1, er, rfl⟩
  case inr => exact h.x S er (exOf p q)
  cases e
  exact h F0 H0 F H σ env _ S er _ fun F' H' v g S' rr => q F' H' _ g.f S' p
theorem dsm_append {te : TE} {f : EM} {i : Nat} (h : DEM mg K W te f) : DSM mg K W I (tDrop (tBM K "list" rAppend (tVar i) (tCons te tNil))) (mAppend i f) := fun z F0 H0 F H σ env o S p e D q => by
  unfold mAppend at e
  split at e
  case h_2 => cases e
  rename_i ds0 hd0
  obtain ⟨p0, xs0, h1, _, _, h3, _⟩ := S.s.own hd0
  refine ⟨_, h1, Or.inl ⟨rfl, _, .inl (.inl h3)⟩, ?_⟩
  rcases bXd e with ⟨r, e1, er, e⟩ | ⟨x, e1, er, rfl⟩
  case inr => exact h.x S er (exOf p q)
  split at e
  case h_2 => cases e
  rename_i ds hd
  split at e
  case isFalse => cases e
  rename_i hl
  cases e
  refine h.z S er fun F' H' v g S' dv => ?_
  obtain ⟨p1, xs, k1, _, k2, k3, k4⟩ := S'.s.own hd
  rw [h1] at k1
  cases k1
  refine ⟨p0, xs, v, rfl, rfl, k3, by rw [DpAll.len k4]; exact Nat.lt_of_lt_of_le hl (by decide), ?_⟩
  exact q F' _ _ g.f (S'.turn hd h1 (DpAll.app k4 (.cons dv .nil))) p
theorem dsm_put {te ti : TE} {fi : EF} {fv : EM} {i : Nat} (hv : DEM mg K W te fv) (hi : DE K ti fi) : DSM mg K W I (tAsg te (L2.gSub (tVar i) ti rSetL)) (mPut i fi fv) := fun z F0 H0 F H σ env o S p e D q => by
  rcases bXd e with ⟨r, e1, er, e⟩ | ⟨x, e1, er, rfl⟩
  case inr => exact hv.x S er (exOf p q)
  split at e
  case h_2 => cases e
  rename_i ds hd
  obtain ⟨k, ek, e⟩ := bnd e
  split at e
  case h_2 => cases e
  rename_i k' hk
  obtain ⟨j, ej, e⟩ := bnd e
  cases e
  refine hv.z S er fun F1 H1 v g1 S1 dv => ?_
  obtain ⟨p0, xs, h1, h0, h2, h3, h4⟩ := S1.s.own hd
  refine ⟨_, h1, ?_⟩
  refine hi.atZ S1 ek fun F2 H2 kv g2 dk => ?_
  have S2 := S1.grow g2
  rw [hk] at dk
  cases dk
  refine ⟨p0, xs, _, j, rfl, rfl, g2.h _ _ h3, by rw [DpAll.len h4]; exact ej, ?_⟩
  exact q F2 _ _ (g1.f.trans g2.f) (S2.turn hd h1 (DpAll.set j (dpa_mono g2.f h4) (dp_mono g2.f dv))) p
end
end Dn
/-! Ds3: targets, loops, comprehensions whose parts change an owned list by a def, or raise. -/
namespace Dn
open PySem PySem.Spec PyProof.Rows L2
/-- what a target stores into -/
def GO (ws : List Nat) (g : GF) : Prop := ∀ (d : PyData) (env env' : En), g d env = some env' → (∀ k, k ∉ ws → env'[k]? = env[k]?) ∧ ∀ k ∈ ws, ∀ ds, env'[k]? ≠ some (.own ds)
theorem set_own {env : En} {i k : Nat} {d : PyData} {ds : List PyData} (h : (env.set i (.val d))[k]? = some (.own ds)) : k ≠ i ∧ env[k]? = some (.own ds) := by
  by_cases e : i = k
  · subst e
    rw [List.getElem?_set] at h
    simp at h
  · rw [List.getElem?_set_ne e] at h
    exact ⟨fun z => e z.symm, h⟩
theorem go_name {i : Nat} : GO [i] (gtName i) := fun d env env' e => by
  cases e
  refine ⟨fun k hk => List.getElem?_set_ne (fun z => hk (by simp [z])), fun k hk ds h => ?_⟩
  cases List.mem_singleton.mp hk
  exact (set_own h).1 rfl
theorem go_tup2 {i j : Nat} : GO [i, j] (gtTup2 i j) := fun d env env' e => by
  unfold gtTup2 at e
  split at e
  · cases e
    refine ⟨fun k hk => ?_, fun k hk ds h => ?_⟩
    · rw [List.getElem?_set_ne (fun z => hk (by simp [z])), List.getElem?_set_ne (fun z => hk (by simp [z]))]
    · obtain ⟨h1, h⟩ := set_own h
      obtain ⟨h2, h⟩ := set_own h
      simp at hk
      omega
  · cases e
theorem go_tup3 {i j l : Nat} : GO [i, j, l] (gtTup3 i j l) := fun d env env' e => by
  unfold gtTup3 at e
  split at e
  · cases e
    refine ⟨fun k hk => ?_, fun k hk ds h => ?_⟩
    · rw [List.getElem?_set_ne (fun z => hk (by simp [z])), List.getElem?_set_ne (fun z => hk (by simp [z])), List.getElem?_set_ne (fun z => hk (by simp [z]))]
    · obtain ⟨h1, h⟩ := set_own h
      obtain ⟨h2, h⟩ := set_own h
      obtain ⟨h3, h⟩ := set_own h
      simp at hk
      omega
  · cases e
theorem wipe_out {σ σ' : L2.St} {ws : List Nat} (h : ∀ vs, (∀ i ∈ ws, i ∈ vs) → L2.wipe σ' vs = L2.wipe σ vs) {k : Nat} (hk : k ∉ ws) : σ'[k]? = σ[k]? := by
  have e := h ws fun _ q => q
  rw [← wipe_get (vs := ws) hk, e, wipe_get hk]
section
variable {mg : Str → Option Value} {K : PySem.W.Frag} {W : WX} {I : List Nat} {z : Nat → Option (Option V)} {F0 H0 F H G : Hp} {σ : L2.St} {env : En}
theorem Pin.out {σ' : L2.St} {ws : List Nat} (h : ∀ vs, (∀ i ∈ ws, i ∈ vs) → L2.wipe σ' vs = L2.wipe σ vs) (hw : ∀ i ∈ ws, i ∉ I) (p : Pin I z σ) : Pin I z σ' := fun i hi => by
  rw [wipe_out h fun e => hw i e hi]
  exact p i hi
theorem dsm_asg {te : TE} {f : EM} {t : TG} {g : GF} {ws : List Nat} (h : DEM mg K W te f) (hg : DG K ws t g) (hw : ∀ i ∈ ws, i ∉ I := by decide) : DSM mg K W I (tAsg te t) (mAsg g f) := fun z F0 H0 F H σ env o S p e D q => by
  rcases bXd e with ⟨r, e1, er, e⟩ | ⟨x, e1, er, rfl⟩
  case inr => exact h.x S er (exOf p q)
  obtain ⟨e2, ee, e⟩ := bnd e
  cases e
  refine h.z S er fun F' H' v g1 S' dv => hg H0 F' H' σ e1 e2 v _ S'.s S'.fh S'.bh dv ee _ fun F2 H2 σ2 g2 S2 hw2 => ?_
  exact q F2 H2 σ2 (g1.f.trans g2.f) ⟨S'.g.trans g2, S2⟩ (p.out hw2 hw)
theorem dsm_frz {t : TS} {f : SFm} {i : Nat} (h : DSM mg K W I t f) : DSM mg K W I t (mFrz i f) := fun z F0 H0 F H σ env o S p e D q => by
  unfold mFrz frzAt at e
  split at e
  · rename_i ds hd
    obtain ⟨F', a, b, c, d⟩ := S.s.freeze S.fh hd
    exact h z F0 H0 F' H σ _ o ⟨⟨S.g.f.trans a, S.g.h, b, fun x hx hf => c x hx (S.g.n x hx hf)⟩, d⟩ p e D (q.mono a)
  · exact h z F0 H0 F H σ _ o S p e D q
@[simp] def mPar (i j : Nat) (t : AM) : SFm := fun env => bX (t env) fun ds e => match ds with
  | [a, b] => some (.nx ((e.set i (.val a)).set j (.val b)))
  | _ => none
theorem dsm_par {i j : Nat} {t : TA} {af : AM} (h : DAM mg K W t af) (hi : i ∉ I := by decide) (hj : j ∉ I := by decide) : DSM mg K W I (tPar i j t) (mPar i j af) := fun z F0 H0 F H σ env o S p e D q => by
  rcases bXd e with ⟨ds, e1, ea, e⟩ | ⟨x, e1, er, rfl⟩
  case inr => exact h F0 H0 F H σ env _ S er _ (exOf p q)
  split at e
  case h_2 => cases e
  rename_i a b
  cases e
  refine h.run S ea fun F1 H1 vs g S1 d1 => ?_
  obtain ⟨v, w, rfl, d1, d2⟩ := dpa2 d1
  refine ⟨v, w, rfl, q F1 H1 _ g.f ⟨S1.g, ?_⟩ ((p.set hi).set hj)⟩
  exact ((S1.s.put (r := .val a) S1.bh (Grow.refl S1.g.i) d1).put (r := .val b) S1.bh (Grow.refl S1.g.i) d2)
@[simp] def mAug (i : Nat) (g : PyData → PyData → Option R) (f : EM) : SFm := fun env => match env[i]? with
  | some (.val d) => bX (f env) fun r e => (g d r.frz).bind fun z => some (.nx (e.set i z.sl))
  | _ => none
theorem dsm_aug {te : TE} {f : EM} {i : Nat} {r : R2} {g : PyData → PyData → Option R} (hr : RVD K r g) (h : DEM mg K W te f) (hi : i ∉ I := by decide) : DSM mg K W I (tAug i te r) (mAug i g f) := fun z F0 H0 F H σ env o S p e D q => by
  unfold mAug at e
  split at e
  case h_2 => cases e
  rename_i d hd
  obtain ⟨v, h1, h2⟩ := S.s.val hd
  refine ⟨v, h1, ?_⟩
  rcases bXd e with ⟨a, e1, ea, e⟩ | ⟨x, e1, er, rfl⟩
  case inr => exact h.x S er (exOf p q)
  obtain ⟨z, ez, e⟩ := bnd e
  cases e
  refine h.z S ea fun F' H' y g1 S1 dy => ?_
  refine hr F' H' v y d _ z S1.fh (dp_mono g1.f h2) dy ez _ fun F2 H2 w g2 rr => ?_
  exact q F2 H2 _ (g1.f.trans g2.f) ⟨S1.g.trans g2, S1.s.put S1.bh g2 rr⟩ (p.set hi)

/-! ### what is walked -/
abbrev IM := En → Option (Ans (List PyData))
def DIM (mg : Str → Option Value) (K : PySem.W.Frag) (W : WX) (wi : TI) (f : IM) : Prop := ∀ (F0 H0 F H : Hp) (σ : L2.St) (env : En) (a : Ans (List PyData)), Sta K F0 H0 F H σ env → f env = some a → ∀ R : It → Hp → Prop,
  (match a with
    | .ok ds env' => ∀ F' H' J, Gm F H σ env F' H' env' → Sta K F0 H0 F' H' σ env' → Walks K F' J ds → R J H'
    | .ex e env' => ExOk mg K W F0 H0 F H σ env e env') → wi σ H R
@[simp] def mPI (f : IF) : IM := fun env => (f env).bind fun ds => some (.ok ds env)
theorem dim_p {wi : TI} {f : IF} (h : DI K wi f) : DIM mg K W wi (mPI f) := fun F0 H0 F H σ env a S e R q => by
  obtain ⟨ds, ed, e⟩ := bnd e
  cases e
  exact h H0 F H σ env ds S.s S.fh S.bh ed R fun F' H' J g w => q F' H' J (.of g) (S.grow g) w
@[simp] noncomputable def iR1M (t : AM) : IM := fun env => bM (t env) fun ds e => match ds with
  | [.int n] => if InR n then some (.ok (intsFrom 0 n.toNat) e) else none
  | _ => none
theorem dim_r1 {ta : TA} {t : AM} (h : DAM mg K W ta t) : DIM mg K W (iRng1 ta) (iR1M t) := fun F0 H0 F H σ env a S e R q => by
  rcases bMd e with ⟨ds, e1, ea, e⟩ | ⟨x, e1, ea, rfl⟩
  case inr => exact h F0 H0 F H σ env _ S ea _ q
  split at e
  case h_2 => cases e
  rename_i n
  split at e
  case isFalse => cases e
  rename_i hn
  cases e
  refine h.run S ea fun F1 H1 vs g S1 d => ?_
  cases d with
  | cons d1 d2 =>
    cases d1
    cases d2
    exact ⟨n, rfl, hn.1, hn.2, q F1 H1 _ g S1 (walks_rng 0 n.toNat)⟩
@[simp] def iSM (f : EM) : IM := fun env => bM (f env) fun r e => match r.frz with
  | .list ds => some (.ok ds e)
  | .tuple ds => some (.ok ds e)
  | _ => none
theorem dim_seq {ta : TE} {f : EM} (h : DEM mg K W ta f) : DIM mg K W (fun σ H R => iList K ta σ H R ∨ iTup K ta σ H R) (iSM f) := fun F0 H0 F H σ env a S e R q => by
  rcases bMd e with ⟨r, e1, ea, e⟩ | ⟨x, e1, ea, rfl⟩
  case inr => exact .inl (h.x S ea q)
  split at e
  · rename_i es he
    cases e
    refine .inl (h.z S ea fun F1 H1 v g S1 d => ?_)
    rw [he] at d
    cases d with
    | lst hs ha =>
      refine ⟨_, rfl, ⟨_, sqL_mono S1.fh hs⟩, q F1 H1 _ g S1 fun i F2 H2 s1 s2 => ?_⟩
      have hl := DpAll.len ha
      refine ⟨fun _ e => ⟨_, sqL_mono (s1.trans s2) hs, by omega⟩, fun d e => ?_⟩
      obtain ⟨w, e1, h1⟩ := DpAll.get ha e
      refine ⟨⟨_, w, sqL_mono (s1.trans s2) hs, e1⟩, fun x H3 y => ?_⟩
      obtain ⟨rfl, y⟩ := y
      have e2 := y _ (sqL_mono (s1.trans s2) hs)
      rw [e1] at e2
      cases e2
      exact ⟨F2, Grow.refl s2, dp_mono s1 h1⟩
  · rename_i es he
    cases e
    refine .inr (h.z S ea fun F1 H1 v g S1 d => ?_)
    rw [he] at d
    cases d with
    | tup hs ha =>
      refine ⟨_, rfl, ⟨_, sqT_mono S1.fh hs⟩, q F1 H1 _ g S1 fun i F2 H2 s1 s2 => ?_⟩
      have hl := DpAll.len ha
      refine ⟨fun _ e => ⟨_, sqT_mono (s1.trans s2) hs, by omega⟩, fun d e => ?_⟩
      obtain ⟨w, e1, h1⟩ := DpAll.get ha e
      refine ⟨⟨_, w, sqT_mono (s1.trans s2) hs, e1⟩, fun x H3 y => ?_⟩
      obtain ⟨rfl, y⟩ := y
      have e2 := y _ (sqT_mono (s1.trans s2) hs)
      rw [e1] at e2
      cases e2
      exact ⟨F2, Grow.refl s2, dp_mono s1 h1⟩
  · cases e
/-! ### loops -/
@[simp] def forM (g : GF) (body : SFm) : List PyData → SFm
  | [], env => some (.nx env)
  | d :: ds, env => (g d env).bind fun e1 => turnM (body e1) (forM g body ds)
@[simp] def mFor (it : IM) (g : GF) (body : SFm) : SFm := fun env => bX (it env) fun ds e => forM g body ds e
theorem dsm_for {wi : TI} {it : IM} {t : TG} {g : GF} {ws : List Nat} {tb : TS} {body : SFm} (hi : DIM mg K W wi it) (hg : DG K ws t g) (hb : DSM mg K W I tb body) (hw : ∀ i ∈ ws, i ∉ I := by decide) : DSM mg K W I (tFor wi t tb) (mFor it g body) := fun z F0 H0 F H σ env o S p e D q => by
  rcases bXd e with ⟨ds, e0, ed, e⟩ | ⟨x, e1, er, rfl⟩
  case inr => exact hi F0 H0 F H σ env _ S er _ (exOf p q)
  refine hi F0 H0 F H σ env _ S ed _ fun F1 H1 J g1 S1 wk => ?_
  refine ⟨fun i m σ2 H2 => ∃ F2 e2, Same F1 F2 ∧ Sta K F0 H0 F2 H2 σ2 e2 ∧ Pin I z σ2 ∧ forM g body (ds.drop i) e2 = some o ∧ i + m = ds.length, ⟨ds.length, F1, e0, Same.refl F1, S1, p, e, by omega⟩, ?_⟩
  rintro i m σ2 H2 ⟨F2, e2, s2, S2, p2, eq, em⟩
  obtain ⟨wn, wg⟩ := wk i F2 H2 s2 S2.fh
  cases hd : ds[i]? with
  | none =>
    have hl : ds.length ≤ i := List.getElem?_eq_none_iff.mp hd
    rw [List.drop_eq_nil_of_le hl] at eq
    cases eq
    exact .inl ⟨wn hd (by omega), q F2 H2 σ2 (g1.f.trans s2) S2 p2⟩
  | some d =>
    obtain ⟨go, yl⟩ := wg d hd
    have hi : i < ds.length := (List.getElem?_eq_some_iff.mp hd).1
    have hdr : ds.drop i = d :: ds.drop (i + 1) := by
      rw [List.drop_eq_getElem_cons hi]
      rw [List.getElem?_eq_getElem hi] at hd
      cases hd
      rfl
    rw [hdr] at eq
    obtain ⟨e3, ee, eq⟩ := bnd eq
    refine .inr ⟨go, fun σ' H' => ∃ F' e', Same F1 F' ∧ Sta K F0 H0 F' H' σ' e' ∧ Pin I z σ' ∧ forM g body (ds.drop (i + 1)) e' = some o, fun σ' H' ⟨F', e', a, b, pp, c⟩ => ⟨m - 1, by omega, F', e', a, b, pp, c, by omega⟩, fun x H' hy => ?_⟩
    obtain ⟨F3, g3, dx⟩ := yl x H' hy
    have S3 := S2.grow g3
    refine hg H0 F3 H' σ2 e2 e3 x d S3.s g3.i S3.bh dx ee _ fun F4 H4 σ4 g4 S4 hw4 => ?_
    have S5 : Sta K F0 H0 F4 H4 σ4 e3 := ⟨S3.g.trans g4, S4⟩
    have p4 : Pin I z σ4 := p2.out hw4 hw
    have s4 : Same F1 F4 := (s2.trans g3.f).trans g4.f
    cases eb : body e3 with
    | none =>
      rw [eb, turnM_no] at eq
      cases eq
    | some ob =>
      rw [eb] at eq
      refine hb z F0 H0 F4 H4 σ4 e3 ob S5 p4 eb _ ?_
      cases ob with
      | nx e4 => exact fun F5 H5 σ5 s5 S5 p5 => ⟨F5, e4, s4.trans s5, S5, p5, eq⟩
      | ct e4 => exact fun F5 H5 σ5 s5 S5 p5 => ⟨F5, e4, s4.trans s5, S5, p5, eq⟩
      | bk e4 =>
        rw [turnM_bk] at eq
        cases eq
        exact fun F5 H5 σ5 s5 S5 p5 => q F5 H5 σ5 (g1.f.trans (s4.trans s5)) S5 p5
      | rt r w =>
        rw [turnM_rt] at eq
        cases eq
        cases w <;> exact q
      | ex x e4 =>
        rw [turnM_ex] at eq
        cases eq
        exact fun F5 H5 σ5 cls d s5 S5 p5 xx => q F5 H5 σ5 cls d (g1.f.trans (s4.trans s5)) S5 p5 xx
def whileM (c : TM) (body : SFm) : Nat → SFm
  | 0, _ => none
  | n + 1, env => bX (c env) fun b e => if b = true then turnM (body e) (whileM c body n) else some (.nx e)
theorem dsm_whileN {c : TT} {cf : TM} {tb : TS} {body : SFm} (n : Nat) (hc : DTM mg K W c cf) (hb : DSM mg K W I tb body) : DSM mg K W I (tWhile c tb) (whileM cf body n) := fun z F0 H0 F H σ env o S p e D q => by
  refine ⟨fun m σ2 H2 => ∃ F2 e2, Same F F2 ∧ Sta K F0 H0 F2 H2 σ2 e2 ∧ Pin I z σ2 ∧ whileM cf body m e2 = some o, ⟨n, F, env, Same.refl F, S, p, e⟩, ?_⟩
  rintro m σ2 H2 ⟨F2, e2, s2, S2, p2, eq⟩
  cases m with
  | zero => cases eq
  | succ m =>
    rcases bXd eq with ⟨b, e3, eb, eq⟩ | ⟨x, e3, eb, rfl⟩
    case inr => exact hc F0 H0 F2 H2 σ2 e2 _ S2 eb _ (exOf p2 (q.mono s2))
    refine hc F0 H0 F2 H2 σ2 e2 _ S2 eb _ fun F3 H3 g3 S3 => ?_
    cases b with
    | false =>
      cases eq
      exact iteF (q F3 H3 σ2 (s2.trans g3.f) S3 p2)
    | true =>
      rw [if_pos rfl] at eq
      refine iteT ⟨fun σ' H' => ∃ F' e', Same F F' ∧ Sta K F0 H0 F' H' σ' e' ∧ Pin I z σ' ∧ whileM cf body m e' = some o, fun σ' H' w => ⟨m, Nat.lt_succ_self m, w⟩, ?_⟩
      cases ebd : body e3 with
      | none =>
        rw [ebd, turnM_no] at eq
        cases eq
      | some ob =>
        rw [ebd] at eq
        refine hb z F0 H0 F3 H3 σ2 e3 ob S3 p2 ebd _ ?_
        have s4 := s2.trans g3.f
        cases ob with
        | nx e4 => exact fun F5 H5 σ5 s5 S5 p5 => ⟨F5, e4, s4.trans s5, S5, p5, eq⟩
        | ct e4 => exact fun F5 H5 σ5 s5 S5 p5 => ⟨F5, e4, s4.trans s5, S5, p5, eq⟩
        | bk e4 =>
          rw [turnM_bk] at eq
          cases eq
          exact fun F5 H5 σ5 s5 S5 p5 => q F5 H5 σ5 (s4.trans s5) S5 p5
        | rt r w =>
          rw [turnM_rt] at eq
          cases eq
          cases w <;> exact q
        | ex x e4 =>
          rw [turnM_ex] at eq
          cases eq
          exact fun F5 H5 σ5 cls d s5 S5 p5 xx => q F5 H5 σ5 cls d (s4.trans s5) S5 p5 xx
open Classical in
/-- as many turns as it takes -/
noncomputable def mWhile (c : TM) (body : SFm) : SFm := fun env => if h : ∃ n o, whileM c body n env = some o then whileM c body h.choose env else none
theorem dsm_while {c : TT} {cf : TM} {tb : TS} {body : SFm} (hc : DTM mg K W c cf) (hb : DSM mg K W I tb body) : DSM mg K W I (tWhile c tb) (mWhile cf body) := fun z F0 H0 F H σ env o S p e D q => by
  unfold mWhile at e
  split at e
  case isFalse => cases e
  exact dsm_whileN _ hc hb z F0 H0 F H σ env o S p e D q
theorem whileM_mono {c : TM} {body : SFm} : ∀ {n m : Nat} {env : En} {o : OutM}, n ≤ m → whileM c body n env = some o → whileM c body m env = some o
  | 0, _, _, _, _, h => by cases h
  | n + 1, m, env, o, hm, h => by
    obtain ⟨k, rfl⟩ : ∃ k, m = k + 1 := ⟨m - 1, by omega⟩
    unfold whileM at h ⊢
    cases hc : c env with
    | none => rw [hc] at h; cases h
    | some a =>
      rw [hc] at h
      cases a with
      | ex x e => exact h
      | ok b e =>
        rw [bX_ok] at h ⊢
        split at h
        · rename_i hb
          rw [if_pos hb]
          cases hbd : body e with
          | none => rw [hbd] at h; cases h
          | some ob =>
            rw [hbd] at h
            cases ob with
            | nx e4 => exact whileM_mono (by omega) h
            | ct e4 => exact whileM_mono (by omega) h
            | bk e4 => exact h
            | rt r w => exact h
            | ex x e4 => exact h
        · rename_i hb
          rw [if_neg hb]
          exact h
theorem mWhile_eq {c : TM} {body : SFm} {n : Nat} {env : En} {o : OutM} (h : whileM c body n env = some o) : mWhile c body env = some o := by
  unfold mWhile
  have hx : ∃ n o, whileM c body n env = some o := ⟨n, o, h⟩
  rw [dif_pos hx]
  obtain ⟨o', h'⟩ := hx.choose_spec
  rw [h']
  have h1 := whileM_mono (Nat.le_max_left n hx.choose) h
  have h2 := whileM_mono (Nat.le_max_right n hx.choose) h'
  rw [h1] at h2
  exact h2.symm
end
section
open Classical in
/-- a while without a bound that is written out -/
noncomputable def sWhile (c : TF) (body : SF) : SF := fun env => if h : ∃ n o, whileD c body n env = some o then whileD c body h.choose env else none
theorem ds_whileU {K : PySem.W.Frag} {c : TT} {cf : TF} {tb : TS} {body : SF} (hc : DT K c cf) (hb : DS K tb body) : DS K (tWhile c tb) (sWhile cf body) := fun F0 H0 F H σ env o S e D q => by
  unfold sWhile at e
  split at e
  case isFalse => cases e
  exact ds_while _ hc hb F0 H0 F H σ env o S e D q
theorem whileD_mono {c : TF} {body : SF} : ∀ {n m : Nat} {env : En} {o : Out}, n ≤ m → whileD c body n env = some o → whileD c body m env = some o
  | 0, _, _, _, _, h => by cases h
  | n + 1, m, env, o, hm, h => by
    obtain ⟨k, rfl⟩ : ∃ k, m = k + 1 := ⟨m - 1, by omega⟩
    unfold whileD at h ⊢
    cases hc : c env with
    | none => rw [hc] at h; cases h
    | some b =>
      rw [hc, Option.bind_some] at h
      rw [Option.bind_some]
      split at h
      · rename_i hb
        rw [if_pos hb]
        cases hbd : body env with
        | none => rw [hbd] at h; cases h
        | some ob =>
          rw [hbd] at h
          cases ob with
          | nx e4 => exact whileD_mono (by omega) h
          | ct e4 => exact whileD_mono (by omega) h
          | bk e4 => exact h
          | rt r => exact h
      · rename_i hb
        rw [if_neg hb]
        exact h
theorem sWhile_eq {c : TF} {body : SF} {n : Nat} {env : En} {o : Out} (h : whileD c body n env = some o) : sWhile c body env = some o := by
  unfold sWhile
  have hx : ∃ n o, whileD c body n env = some o := ⟨n, o, h⟩
  rw [dif_pos hx]
  obtain ⟨o', h'⟩ := hx.choose_spec
  rw [h']
  have h1 := whileD_mono (Nat.le_max_left n hx.choose) h
  have h2 := whileD_mono (Nat.le_max_right n hx.choose) h'
  rw [h1] at h2
  exact h2.symm
theorem ss_whileU {X : Cx} {c : Expr} {body : List Stmt} {tt : TT} {u : TF} {tS : TS} {sf : SF} {pos : Pos} (hp : PassesOwn (model X.prog X.w) X.A X.env X.xe) (hc : ST X c tt u) (hb : SSs X body tS sf) : SS X (.While c body [] pos) (tWhile tt tS) (sWhile u sf) := ⟨ps_while hp hc.pt hb.ps, ds_whileU hc.dt hb.ds⟩
end
end Dn
/-! Ds4: comprehensions; defs with a state, defs that raise; their calls; the law's own end. -/
namespace Dn
open PySem PySem.Spec PyProof.Rows L2
def WF : WX := fun _ _ _ _ => False
/-- behind a comprehension its own names hold what they held, but for owned lists -/
@[simp] def restD (env0 : En) : List Nat → En → En
  | [], e => e
  | v :: vs, e => (restD env0 vs e).set v (match env0[v]? with
    | some (.val d) => .val d
    | _ => .no)
theorem restD_out {env0 e : En} {k : Nat} : ∀ {vs : List Nat}, k ∉ vs → (restD env0 vs e)[k]? = e[k]?
  | [], _ => rfl
  | v :: vs, h => by
    show ((restD env0 vs e).set v _)[k]? = _
    rw [List.getElem?_set_ne (fun z => h (by rw [z]; exact List.mem_cons_self)), restD_out fun z => h (List.mem_cons_of_mem _ z)]
theorem restD_len {env0 e : En} : ∀ {vs : List Nat}, (restD env0 vs e).length = e.length
  | [] => rfl
  | v :: vs => by
    show ((restD env0 vs e).set v _).length = _
    rw [List.length_set, restD_len]
theorem restD_in {env0 e : En} {k : Nat} {s : Sl} : ∀ {vs : List Nat}, k ∈ vs → (restD env0 vs e)[k]? = some s → s = .no ∨ ∃ d, s = .val d ∧ env0[k]? = some (.val d)
  | [], h, _ => by cases h
  | v :: vs, h, q => by
    have q : ((restD env0 vs e).set v _)[k]? = some s := q
    by_cases hv : v = k
    · subst hv
      rw [List.getElem?_set] at q
      simp at q
      obtain ⟨_, q⟩ := q
      split at q
      · rename_i d hd
        exact .inr ⟨d, q.symm, hd⟩
      · exact .inl q.symm
    · rw [List.getElem?_set_ne hv] at q
      exact restD_in (by cases h with | head => exact absurd rfl hv | tail _ h => exact h) q
noncomputable def lcM (vs : List Nat) (g : GF) (c : TM) (f : EM) : List PyData → En → Option (List PyData × En)
  | [], e => some ([], e)
  | d :: ds, e => (g d e).bind fun e1 => match c e1 with
    | some (.ok b e2) => if b = true then match f e2 with
        | some (.ok r e3) => (lcM vs g c f ds (wipeD e3 vs)).bind fun p => some (r.frz :: p.1, p.2)
        | _ => none
      else lcM vs g c f ds (wipeD e2 vs)
    | _ => none
@[simp] noncomputable def mLc (vs : List Nat) (it : IM) (g : GF) (c : TM) (f : EM) : EM := fun env => bM (it env) fun ds e0 => if Fits ds.length then (lcM vs g c f ds (wipeD e0 vs)).bind fun p => some (.ok (.own p.1) (restD e0 vs p.2)) else none
theorem Slots.rest {K : PySem.W.Frag} {B F H F' H' : Hp} {σ : L2.St} {env env' : En} {vs : List Nat} (S : Slots K B F H σ env) (S' : Slots K B F' H' (L2.wipe σ vs) env') (s : Same F F') : Slots K B F' H' σ (restD env vs env') := by
  obtain ⟨l', ad, h1, h2⟩ := S'
  obtain ⟨l, ad0, g1, g2⟩ := S
  have wl : (L2.wipe σ vs).length = σ.length := by
    clear h1 h2 l' g1 g2 l
    induction vs with
    | nil => rfl
    | cons v vs ih =>
      show ((L2.wipe σ vs).set v none).length = _
      rw [List.length_set, ih]
  have own_out : ∀ k ds, (restD env vs env')[k]? = some (.own ds) → k ∉ vs ∧ env'[k]? = some (.own ds) := fun k ds e => by
    by_cases hk : k ∈ vs
    · rcases restD_in hk e with z | ⟨d, z, _⟩ <;> cases z
    · exact ⟨hk, by rw [restD_out hk] at e; exact e⟩
  refine ⟨by rw [restD_len, ← l', wl], ad, fun i v s0 e1 e2 => ?_, fun i j ds es hij e1 e2 => ?_⟩
  · by_cases hk : i ∈ vs
    · rcases restD_in hk e2 with rfl | ⟨d, rfl, hd⟩
      · trivial
      · obtain ⟨x, c1, c2⟩ := g1 i v _ e1 hd
        exact ⟨x, c1, dp_mono s c2⟩
    · rw [restD_out hk] at e2
      exact h1 i v s0 (by rw [wipe_get hk]; exact e1) e2
  · obtain ⟨_, e1⟩ := own_out i ds e1
    obtain ⟨_, e2⟩ := own_out j es e2
    exact h2 i j ds es hij e1 e2
theorem wipe_wiped {σ : L2.St} : ∀ {vs : List Nat}, L2.wipe (L2.wipe σ vs) vs = L2.wipe σ vs := fun {vs} => by
  have w2 : ∀ (us : List Nat) (τ : L2.St), (∀ i ∈ us, ∀ y, τ[i]? = some y → y = none) → L2.wipe τ us = τ := fun us => by
    induction us with
    | nil => exact fun τ _ => rfl
    | cons u us ih =>
      intro τ h
      unfold L2.wipe
      rw [ih τ (fun i hi => h i (List.mem_cons_of_mem _ hi))]
      refine List.ext_getElem? fun j => ?_
      by_cases hj : u = j
      · subst hj
        cases hy : τ[u]? with
        | none => rw [List.getElem?_eq_none (by rw [List.length_set]; exact List.getElem?_eq_none_iff.mp hy)]
        | some y =>
          rw [h u List.mem_cons_self y hy, List.getElem?_set_self (List.getElem?_eq_some_iff.mp hy).1]
      · rw [List.getElem?_set_ne hj]
  refine w2 vs _ fun i hi y hy => ?_
  have w3 : ∀ (us : List Nat), i ∈ us → ∀ y, (L2.wipe σ us)[i]? = some y → y = none := fun us => by
    induction us with
    | nil => intro h; cases h
    | cons u us ih =>
      intro h y hy
      unfold L2.wipe at hy
      by_cases hj : u = i
      · subst hj
        rw [List.getElem?_set] at hy
        simp at hy
        exact hy.2.symm
      · rw [List.getElem?_set_ne hj] at hy
        exact ih (by cases h with
          | head => exact absurd rfl hj
          | tail _ h => exact h) y hy
  exact w3 vs hi y hy
section
variable {mg : Str → Option Value} {K : PySem.W.Frag} {W : WX} {F0 H0 F H : Hp} {σ : L2.St} {env : En}
/-- what is free at a slot list is free where fewer are owned -/
theorem Free.to {σ' : L2.St} {env' : En} {a : Addr} (h : Free σ env a) (o : ∀ (k : Nat) (ds : List PyData), env'[k]? = some (Sl.own ds) → (∃ es, env[k]? = some (Sl.own es)) ∧ σ'[k]? = σ[k]?) : Free σ' env' a := fun k ds e => by
  obtain ⟨⟨es, q⟩, s⟩ := o k ds e
  rw [s]
  exact h k es q
theorem dem_lc {wi : TI} {it : IM} {t : TG} {g : GF} {ws vs : List Nat} {tt : TT} {c : TM} {te : TE} {f : EM} (hi : DIM mg K W wi it) (hg : DG K ws t g) (ho : GO ws g) (hw : ∀ i ∈ ws, i ∈ vs) (hc : DTM mg K WF tt c) (he : DEM mg K WF te f) : DEM mg K W (tLc wi t tt te vs) (mLc vs it g c f) := fun F0 H0 F H σ env ans S e Q q => by
  rcases bMd e with ⟨ds, e0, ed, e⟩ | ⟨x, e1, ea, rfl⟩
  case inr => exact hi F0 H0 F H σ env _ S ea _ q
  split at e
  case isFalse => cases e
  rename_i hlen
  obtain ⟨⟨rs, ee⟩, er, e⟩ := bnd e
  cases e
  refine hi F0 H0 F H σ env _ S ed _ fun F1 H1 J g1 S1 wk => ?_
  intro D hD
  have hFD : F1 D = none := S1.fh.free hD
  have gD : Grow F1 H1 F1 (upd H1 D (.lst [])) := Grow.new S1.fh hD
  have oe0 : ∀ k ds, (wipeD e0 vs)[k]? = some (.own ds) → k ∉ vs ∧ e0[k]? = some (.own ds) := fun k ds e => by
    by_cases hk : k ∈ vs
    · exact absurd e (wipeD_no hk ds)
    · exact ⟨hk, by rw [wipeD_get hk] at e; exact e⟩
  refine ⟨fun i m H2 => ∃ F2 e2 acc bs rs', Gm F1 H1 σ e0 F2 H2 e2 ∧ Sta K F0 H0 F2 H2 (L2.wipe σ vs) e2 ∧ (∀ k ds, e2[k]? = some (.own ds) → k ∉ vs ∧ ∃ es, e0[k]? = some (.own es)) ∧ H2 D = some (.lst acc) ∧ F2 D = none ∧ DpAll K F2 acc bs ∧ bs.length ≤ i ∧ lcM vs g c f (ds.drop i) e2 = some (rs', ee) ∧ bs ++ rs' = rs ∧ i + m = ds.length,
    ⟨ds.length, F1, wipeD e0 vs, [], [], rs, ?_, ?_, fun k ds e => ⟨(oe0 k ds e).1, ds, (oe0 k ds e).2⟩, upd_same, hFD, .nil, Nat.le_refl _, er, rfl, by omega⟩, ?_⟩
  · have gm := Gm.of (σ := σ) (env := e0) gD
    exact ⟨gm.f, gm.h, gm.d, gm.n, fun k ds e => ⟨ds, (oe0 k ds e).2⟩⟩
  · have S2 := S1.grow gD
    exact ⟨S2.g, S2.s.wipe vs⟩
  rintro i m H2 ⟨F2, e2, acc, bs, rs', G2, S2, O2, hA, hF2, dA, hbl, el, eb, em⟩
  have la := DpAll.len dA
  obtain ⟨wn, wg⟩ := wk i F2 H2 G2.f S2.fh
  cases hd : ds[i]? with
  | none =>
    have hl : ds.length ≤ i := List.getElem?_eq_none_iff.mp hd
    rw [List.drop_eq_nil_of_le hl] at el
    cases el
    rw [List.append_nil] at eb
    subst eb
    refine .inl ⟨wn hd (by omega), ?_⟩
    have gm : Gm F1 H1 σ e0 F2 H2 (restD e0 vs ee) := ⟨G2.f, G2.h, G2.d, G2.n, fun k ds e => by
      by_cases hk : k ∈ vs
      · rcases restD_in hk e with z | ⟨d, z, _⟩ <;> cases z
      · rw [restD_out hk] at e
        exact (O2 k ds e).2⟩
    exact q F2 H2 _ (g1.trans gm) ⟨S2.g, S1.s.rest S2.s G2.f⟩ ⟨D, acc, rfl, hF2, g1.gone hD, hA, dA⟩
  | some d =>
    obtain ⟨go, yl⟩ := wg d hd
    have hi2 : i < ds.length := (List.getElem?_eq_some_iff.mp hd).1
    have hdr : ds.drop i = d :: ds.drop (i + 1) := by
      rw [List.drop_eq_getElem_cons hi2]
      rw [List.getElem?_eq_getElem hi2] at hd
      cases hd
      rfl
    rw [hdr] at el
    obtain ⟨e3, ee3, el⟩ := bnd el
    refine .inr ⟨go, fun H' => ∃ F' e' acc bs rs', Gm F1 H1 σ e0 F' H' e' ∧ Sta K F0 H0 F' H' (L2.wipe σ vs) e' ∧ (∀ k ds, e'[k]? = some (.own ds) → k ∉ vs ∧ ∃ es, e0[k]? = some (.own es)) ∧ H' D = some (.lst acc) ∧ F' D = none ∧ DpAll K F' acc bs ∧ bs.length ≤ i + 1 ∧ lcM vs g c f (ds.drop (i + 1)) e' = some (rs', ee) ∧ bs ++ rs' = rs,
      fun H' ⟨F', e', acc, bs, rs', a1, a2, a3, a4, a5, a6, a7, a8, a9⟩ => ⟨m - 1, by omega, F', e', acc, bs, rs', a1, a2, a3, a4, a5, a6, a7, a8, a9, by omega⟩, fun x H' hy => ?_⟩
    obtain ⟨F3, g3, dx⟩ := yl x H' hy
    have S3 := S2.grow g3
    refine hg H0 F3 H' _ _ e3 x d S3.s g3.i S3.bh dx ee3 _ fun F4 H4 σ4 g4 S4 hw4 => ⟨?_, ?_⟩
    · rw [hw4 vs hw]
      exact wipe_wiped
    · have Sa : Sta K F0 H0 F4 H4 σ4 e3 := ⟨S3.g.trans g4, S4⟩
      have g34 := g3.trans g4
      have hD2 : H2 D ≠ none := by rw [hA]; exact Option.some_ne_none _
      -- the owned slots of e3
      have O3 : ∀ k ds, e3[k]? = some (.own ds) → k ∉ vs ∧ (∃ es, e2[k]? = some (.own es)) ∧ σ4[k]? = σ[k]? := fun k ds e => by
        have hk : k ∉ ws := fun hk => (ho d e2 e3 ee3).2 k hk ds e
        have e' := e
        rw [(ho d e2 e3 ee3).1 k hk] at e'
        have hv := (O2 k ds e').1
        refine ⟨hv, ⟨ds, e'⟩, ?_⟩
        rw [wipe_out hw4 hk, wipe_get hv]
      -- what a turn leaves, seen from the comprehension's start
      have far : ∀ {F5 H5 : Hp} {e5 : En}, Gm F4 H4 σ4 e3 F5 H5 e5 → Sta K F0 H0 F5 H5 σ4 e5 → Gm F1 H1 σ e0 F5 H5 (wipeD e5 vs) ∧ Sta K F0 H0 F5 H5 (L2.wipe σ vs) (wipeD e5 vs) ∧
          (∀ k ds, (wipeD e5 vs)[k]? = some (.own ds) → k ∉ vs ∧ ∃ es, e0[k]? = some (.own es)) ∧ H5 D = some (.lst acc) ∧ F5 D = none ∧ Same F2 F5 := fun {F5 H5 e5} g5 S5 => by
        have O5 : ∀ k ds, (wipeD e5 vs)[k]? = some (.own ds) → k ∉ vs ∧ ∃ es, e0[k]? = some (.own es) := fun k ds e => by
          by_cases hk : k ∈ vs
          · exact absurd e (wipeD_no hk ds)
          · rw [wipeD_get hk] at e
            obtain ⟨es, e⟩ := g5.o k ds e
            obtain ⟨_, ⟨es, e⟩, _⟩ := O3 k es e
            exact ⟨hk, (O2 k es e).2⟩
        have fr : ∀ a, Free σ e0 a → Free σ4 e3 a := fun a h => Free.to h fun k ds e => by
          obtain ⟨_, ⟨es, e'⟩, s⟩ := O3 k ds e
          exact ⟨(O2 k es e').2, s⟩
        have s5 : Same F2 F5 := g34.f.trans g5.f
        have frD : Free σ4 e3 D := fun k ds e s => by
          obtain ⟨_, _, s'⟩ := O3 k ds e
          obtain ⟨_, ⟨es, e'⟩, _⟩ := O3 k ds e
          obtain ⟨es', e''⟩ := (O2 k es e').2
          obtain ⟨p, xs, k1, _, _, k2, _⟩ := S1.s.own e''
          rw [← s', s] at k1
          injection k1 with k1
          injection k1 with k1
          injection k1 with k1
          rw [k1] at hD
          rw [hD] at k2
          cases k2
        refine ⟨⟨G2.f.trans s5, fun a o h hf => g5.h a o (g34.h _ _ (G2.h a o h hf)) (fr a hf), fun a h => g5.d a (same_ne g34.h (G2.d a h)), fun a h hf => g5.n a (same_ne g34.h (G2.d a h)) (g34.n a (G2.d a h) (G2.n a h hf)), fun k ds e => (O5 k ds e).2⟩, ⟨S5.g, ?_⟩, O5, g5.h D _ (g34.h _ _ hA) frD, g5.n D (same_ne g34.h hD2) (g34.n D hD2 hF2), s5⟩
        have w := S5.s.wipe vs
        have we : L2.wipe σ4 vs = L2.wipe σ vs := by rw [hw4 vs hw]; exact wipe_wiped
        rw [we] at w
        exact w
      cases hcv : c e3 with
      | none => rw [hcv] at el; cases el
      | some ca =>
        rw [hcv] at el
        cases ca with
        | ex x e5 => cases el
        | ok b e5 =>
          refine hc F0 H0 F4 H4 σ4 e3 _ Sa hcv _ fun F5 H5 g5 S5 => ?_
          cases b with
          | false =>
            have el : lcM vs g c f (ds.drop (i + 1)) (wipeD e5 vs) = some (rs', ee) := el
            rw [if_neg Bool.false_ne_true]
            obtain ⟨a1, a2, a3, a4, a5, a6⟩ := far g5 S5
            exact ⟨F5, wipeD e5 vs, acc, bs, rs', a1, a2, a3, a4, a5, dpa_mono a6 dA, by omega, el, eb⟩
          | true =>
            rw [if_pos rfl]
            cases hfv : f e5 with
            | none => simp only [hfv, if_true] at el; cases el
            | some fa =>
              cases fa with
              | ex x e6 => simp only [hfv, if_true] at el; cases el
              | ok r1 e6 =>
                have el : ((lcM vs g c f (ds.drop (i + 1)) (wipeD e6 vs)).bind fun p => some (r1.frz :: p.1, p.2)) = some (rs', ee) := by
                  simp only [hfv, if_true] at el
                  exact el
                obtain ⟨⟨rs1, ee1⟩, er2, el⟩ := bnd el
                cases el
                refine he.z S5 hfv fun F6 H6 y g6 S6 dy => ?_
                obtain ⟨a1, a2, a3, a4, a5, a6⟩ := far (g5.trans g6) S6
                have hHD : H1 D = none := hD
                refine ⟨acc, a4, by rw [la]; exact Nat.lt_of_le_of_lt (Nat.le_trans hbl (Nat.le_trans (Nat.le_of_lt hi2) hlen)) (by decide), F6, wipeD e6 vs, acc ++ [y], bs ++ [r1.frz], rs1, ?_, ?_, a3, upd_same, a5, DpAll.app (dpa_mono a6 dA) (.cons dy .nil), by rw [List.length_append]; exact Nat.succ_le_succ hbl, er2, by rw [List.append_assoc]; exact eb⟩
                · refine ⟨a1.f, fun a o h hf => ?_, fun a h => ?_, a1.n, a1.o⟩
                  · rw [upd_ne (ne_of_none h hD)]
                    exact a1.h a o h hf
                  · by_cases ha : a = D
                    · subst ha
                      rw [upd_same]
                      exact Option.some_ne_none _
                    · rw [upd_ne ha]
                      exact a1.d a h
                · -- the list that is made is no owned one
                  obtain ⟨l, ad, k1, k2⟩ := a2.s
                  have hB : H0 D = none := by
                    cases qq : H0 D with
                    | none => rfl
                    | some o =>
                      have := S1.bh D o qq
                      rw [hD] at this
                      cases this
                  refine ⟨⟨a2.g.f, same_updF a2.g.h hB, same_updF a2.g.i a5, a2.g.n⟩, l, ad, fun j w s0 u1 u2 => ?_, k2⟩
                  have o := k1 j w s0 u1 u2
                  cases s0 with
                  | no => trivial
                  | val d => exact o
                  | own zs =>
                    obtain ⟨xs', c1, c0, c2, c3, c4⟩ := o
                    have hne : ad j ≠ D := fun zz => by
                      obtain ⟨hk, es, e''⟩ := a3 j zs u2
                      have hj : σ[j]? = some w := by rw [← wipe_get (vs := vs) hk]; exact u1
                      obtain ⟨p, xs, k1', _, _, k2', _⟩ := S1.s.own e''
                      rw [hj, c1] at k1'
                      injection k1' with k1'
                      injection k1' with k1'
                      injection k1' with k1'
                      rw [← k1', zz, hD] at k2'
                      cases k2'
                    exact ⟨xs', c1, c0, c2, by rw [upd_ne hne]; exact c3, c4⟩
end
end Dn
/-! Ds5: defs with a state, defs that raise; their calls; the law's own end. -/
namespace Dn
open PySem PySem.Spec PyProof.Rows L2
/-- what a def with a state does: its result, the state behind it -/
inductive FR where
  | rt (r : R) (st : List PyData)
  | ex (e : Xn) (st : List PyData)
/-- what a def that may raise does -/
inductive FX where
  | rt (r : R)
  | ex (e : Xn)
def stOf (env : En) : Option (List PyData) := match env[0]? with
  | some (Sl.own ds) => some ds
  | _ => none
def flatRes : R → Bool
  | .own3 _ _ _ => false
  | _ => true
def resS (o : Option OutM) : Option FR := match o with
  | some (.rt r (some env)) => if flatRes r = true then (stOf env).bind fun ds => some (.rt r ds) else none
  | some (.nx env) => (stOf env).bind fun ds => some (.rt (.val .none) ds)
  | some (.ex e env) => (stOf env).bind fun ds => some (.ex e ds)
  | _ => none
def resX (o : Option OutM) : Option FX := match o with
  | some (.rt r _) => some (.rt r)
  | some (.nx _) => some (.rt (.val .none))
  | some (.ex e _) => some (.ex e)
  | _ => none
@[simp] theorem resS_rt {r : R} {env : En} : resS (some (.rt r (some env))) = if flatRes r = true then (stOf env).bind fun ds => some (.rt r ds) else none := rfl
@[simp] theorem resS_nx {env : En} : resS (some (.nx env)) = (stOf env).bind fun ds => some (.rt (.val .none) ds) := rfl
@[simp] theorem resS_ex {e : Xn} {env : En} : resS (some (.ex e env)) = (stOf env).bind fun ds => some (.ex e ds) := rfl
@[simp] theorem resX_rt {r : R} {o : Option En} : resX (some (.rt r o)) = some (.rt r) := by cases o <;> rfl
@[simp] theorem resX_nx {env : En} : resX (some (.nx env)) = some (.rt (.val .none)) := rfl
@[simp] theorem resX_ex {e : Xn} {env : En} : resX (some (.ex e env)) = some (.ex e) := rfl
theorem resS_ite {c : Prop} [Decidable c] {x y : Option OutM} : resS (if c then x else y) = if c then resS x else resS y := by split <;> rfl
theorem resX_ite {c : Prop} [Decidable c] {x y : Option OutM} : resX (if c then x else y) = if c then resX x else resX y := by split <;> rfl
@[simp] def startS (N n : Nat) (st : List PyData) (ds : List PyData) : En := .own st :: ds.map Sl.val ++ List.replicate (N - n) .no
/-- a def whose first parameter is the state; N names, n parameters -/
@[irreducible] def fnS (N n : Nat) (f : SFm) (st : List PyData) (ds : List PyData) : Option FR := if ds.length + 1 = n then resS (f (startS N n st ds)) else none
@[irreducible] def fnX (N n : Nat) (f : SFm) (ds : List PyData) : Option FX := if ds.length = n then resX (f (startD N n ds)) else none
section
variable (mg : Str → Option Value) (K : PySem.W.Frag)
def SdOk (p : Addr) (F H : Hp) (Q : VK) (E : XK) : FR → Prop
  | .rt r es => ∀ F' H' v ys, Grow F (ers H p) F' H' → (∀ a : Addr, H a ≠ none → H' a ≠ none) → F' p = none → H' p = some (.lst ys) → DpAll K F' ys es → RepR K F' H H' v r → Q v H'
  | .ex e es => ∀ F' H' cls d ys, Grow F (ers H p) F' H' → (∀ a : Addr, H a ≠ none → H' a ≠ none) → F' p = none → H' p = some (.lst ys) → DpAll K F' ys es → XnOk mg K F' e cls d → E cls d H'
def XdOk (F H : Hp) (Q : VK) (E : XK) : FX → Prop
  | .rt r => ∀ F' H' v, Grow F H F' H' → RepR K F' H H' v r → Q v H'
  | .ex e => ∀ F' H' cls d, Grow F H F' H' → XnOk mg K F' e cls d → E cls d H'
def spS (n : Nat) (g : List PyData → List PyData → Option FR) : Sp := fun vs H Q E => vs.length = n ∧ ∃ p ws F xs st ds a, vs = .ref p :: ws ∧ Same F H ∧ F p = none ∧ H p = some (.lst xs) ∧ DpAll K F xs st ∧ DpAll K F ws ds ∧ g st ds = some a ∧ SdOk mg K p F H Q E a
def spX (n : Nat) (g : List PyData → Option FX) : Sp := fun vs H Q E => vs.length = n ∧ ∃ F ds a, Same F H ∧ DpAll K F vs ds ∧ g ds = some a ∧ XdOk mg K F H Q E a
end
structure SEM (X : Cx) (W : WX) (e : Expr) (te : TE) (f : EM) : Prop where
  pe : PE X e te
  de : DEM X.mg X.K W te f
structure STM (X : Cx) (W : WX) (e : Expr) (tt : TT) (f : TM) : Prop where
  pt : PT X e tt
  dt : DTM X.mg X.K W tt f
structure SWM (X : Cx) (W : WX) (e : Expr) (tt : TT) (f : TM) : Prop where
  pw : PW X e tt
  dt : DTM X.mg X.K W tt f
structure SAM (X : Cx) (W : WX) (es : List Expr) (ta : TA) (f : AM) : Prop where
  pa : PA X es ta
  da : DAM X.mg X.K W ta f
structure SSm (X : Cx) (W : WX) (I : List Nat) (st : Stmt) (ts : TS) (f : SFm) : Prop where
  ps : PS X st ts
  ds : DSM X.mg X.K W I ts f
structure SSsm (X : Cx) (W : WX) (I : List Nat) (st : List Stmt) (ts : TS) (f : SFm) : Prop where
  ps : PSs X st ts
  ds : DSM X.mg X.K W I ts f
theorem SWM.st {X : Cx} {W : WX} {e : Expr} {tt : TT} {f : TM} (h : SWM X W e tt f) : STM X W e tt f := ⟨h.pw.pt, h.dt⟩
/-! ### calls -/
@[simp] def mCallS (m : List PyData → List PyData → Option FR) (i : Nat) (t : AM) : EM := fun env => match env[i]? with
  | some (.own _) => bM (t env) fun ds e1 => match e1[i]? with
    | some (.own st) => match m st ds with
      | some (.rt r es) => some (.ok r (e1.set i (.own es)))
      | some (.ex e es) => some (.ex e (e1.set i (.own es)))
      | none => none
    | _ => none
  | _ => none
@[simp] def mCallX (m : List PyData → Option FX) (t : AM) : EM := fun env => bM (t env) fun ds e1 => match m ds with
    | some (.rt r) => some (.ok r e1)
    | some (.ex e) => some (.ex e e1)
    | none => none
section
variable {mg : Str → Option Value} {K : PySem.W.Frag} {W : WX} {F0 H0 F H : Hp} {σ : L2.St} {env : En}
/-- behind a def that has stored into the owned list of slot i -/
theorem Sta.state {F' H' : Hp} {i : Nat} {p : Addr} {ds es : List PyData} {ys : List V} (S : Sta K F0 H0 F H σ env) (e : env[i]? = some (.own ds)) (hp : σ[i]? = some (some (.ref p))) (g : Grow F (ers H p) F' H') (hy : H' p = some (.lst ys)) (fy : F' p = none) (dy : DpAll K F' ys es) :
    Sta K F0 H0 F' H' σ (env.set i (.own es)) := by
  obtain ⟨p', xs, h1, h0, h2, h3, h4⟩ := S.s.own e
  rw [hp] at h1
  cases h1
  refine ⟨⟨S.g.f.trans g.f, fun a o ha => ?_, g.i, fun a ha hf => ?_⟩, S.s.state e hp g.f g.h g.n hy fy dy⟩
  · have hne : a ≠ p := fun z => by rw [z, h0] at ha; cases ha
    exact g.h a o (by rw [ers_ne hne]; exact S.g.h _ _ ha)
  · have hne : a ≠ p := fun z => ha (by rw [z]; exact h0)
    exact g.n a (by rw [ers_ne hne]; exact same_ne S.g.h ha) (S.g.n a ha hf)
theorem gm_state {F' H' : Hp} {i : Nat} {p : Addr} {ds es : List PyData} (e : env[i]? = some (.own ds)) (hp : σ[i]? = some (some (.ref p))) (g : Grow F (ers H p) F' H') (hd : ∀ a : Addr, H a ≠ none → H' a ≠ none) (fp : F' p = none) :
    Gm F H σ env F' H' (env.set i (.own es)) := by
  refine ⟨g.f, fun a o ha hf => ?_, hd, fun a ha hf => ?_, fun k fs q => ?_⟩
  · have hne : a ≠ p := fun z => hf i ds e (by rw [z]; exact hp)
    exact g.h a o (by rw [ers_ne hne]; exact ha)
  · by_cases hne : a = p
    · rw [hne]; exact fp
    · exact g.n a (by rw [ers_ne hne]; exact ha) hf
  · by_cases hk : i = k
    · subst hk
      exact ⟨ds, e⟩
    · rw [List.getElem?_set_ne hk] at q
      exact ⟨fs, q⟩
theorem dem_callS {n i : Nat} {m : List PyData → List PyData → Option FR} {t : TA} {af : AM} (hn : ∀ st ds r, m st ds = some r → ds.length + 1 = n) (h : DAM mg K W t af) : DEM mg K W (tCallSD (spS mg K n m) [] (WE W) (tCons (tVar i) t)) (mCallS m i af) := fun F0 H0 F H σ env ans S e Q q => by
  unfold mCallS at e
  split at e
  case h_2 => cases e
  rename_i ds0 hd0
  obtain ⟨p, xs0, h1, _⟩ := S.s.own hd0
  refine ⟨_, h1, ?_⟩
  rcases bMd e with ⟨ds, e1, ea, e⟩ | ⟨x, e1, ea, rfl⟩
  case inr => exact h F0 H0 F H σ env _ S ea _ q
  split at e
  case h_2 => cases e
  rename_i st hst
  refine h.run S ea fun F1 H1 vs g1 S1 d1 => ?_
  show spS mg K n m ((V.ref p :: vs) ++ []) H1 Q (WE W σ)
  rw [List.append_nil]
  obtain ⟨p', xs, k1, k0, k2, k3, k4⟩ := S1.s.own hst
  rw [h1] at k1
  cases k1
  have hm : ∃ a, m st ds = some a := by
    cases q : m st ds with
    | none => rw [q] at e; cases e
    | some a => exact ⟨a, rfl⟩
  obtain ⟨a, em⟩ := hm
  rw [em] at e
  refine ⟨by rw [List.length_cons, DpAll.len d1, hn _ _ _ em], p, vs, F1, xs, st, ds, a, rfl, S1.fh, k2, k3, k4, d1, em, ?_⟩
  cases a with
  | rt r es =>
    cases e
    intro F2 H2 v ys g hd fp hy dy rr
    exact q F2 H2 v (g1.trans (gm_state hst h1 g hd fp)) (S1.state hst h1 g hy fp dy) (rr.backM g1.d)
  | ex x es =>
    cases e
    intro F2 H2 cls d ys g hd fp hy dy xx
    exact q F2 H2 cls d (g1.trans (gm_state hst h1 g hd fp)) (S1.state hst h1 g hy fp dy) xx
theorem dem_callX {n : Nat} {m : List PyData → Option FX} {t : TA} {af : AM} (hn : ∀ ds r, m ds = some r → ds.length = n) (h : DAM mg K W t af) : DEM mg K W (tCallSD (spX mg K n m) [] (WE W) t) (mCallX m af) := fun F0 H0 F H σ env ans S e Q q => by
  rcases bMd e with ⟨ds, e1, ea, e⟩ | ⟨x, e1, ea, rfl⟩
  case inr => exact h F0 H0 F H σ env _ S ea _ q
  refine h.run S ea fun F1 H1 vs g1 S1 d1 => ?_
  rw [List.append_nil]
  have hm : ∃ a, m ds = some a := by
    cases q : m ds with
    | none => rw [q] at e; cases e
    | some a => exact ⟨a, rfl⟩
  obtain ⟨a, em⟩ := hm
  rw [em] at e
  refine ⟨by rw [DpAll.len d1, hn _ _ em], F1, ds, a, S1.fh, d1, em, ?_⟩
  cases a with
  | rt r =>
    cases e
    intro F2 H2 v g rr
    exact q F2 H2 v (g1.trans (.of g)) (S1.grow g) (rr.backM g1.d)
  | ex x =>
    cases e
    intro F2 H2 cls d g xx
    exact q F2 H2 cls d (g1.trans (.of g)) (S1.grow g) xx
theorem fnS_len {N n : Nat} {f : SFm} {st ds : List PyData} {r : FR} (h : fnS N n f st ds = some r) : ds.length + 1 = n := by
  unfold fnS at h
  split at h
  · assumption
  · cases h
theorem fnX_len {N n : Nat} {f : SFm} {ds : List PyData} {r : FX} (h : fnX N n f ds = some r) : ds.length = n := by
  unfold fnX at h
  split at h
  · assumption
  · cases h
end
section
variable {X : Cx} {W : WX} {x : Str} {p pos : Pos} {o e : Expr} {es : List Expr} {t : TA} {af : AM}
theorem me_callS {k f N n i : Nat} {K : PySem.W.Frag} {mg : Str → Option Value} {fd : FuncData} {ps : List Str} {b : SFm} (G : FnOk X.prog X.w X.K X.mg X.base (L2.CX X.prog X.w) k f fd ps (spS X.mg X.K n (fnS N n b))) (hr : Room k X.A) (hg : Gl X x) (hm : X.mg x = some (.ref f)) (hk : PySem.W.keepIn X.K (.ref f) = true) (hb : Binds X.K fd ps []) (tk : Takes X W)
    (ho : PE X o (tVar i)) (ha : SAM X W es t af) (hdb : (x == ("__debug__" : Str)) = false := by decide) (he : starEach (o :: es) X.env = (false, eval o X.env) :: starEach es X.env := by rfl) (hpl : (backTo pos (starEach es X.env)).any (·.1) = false := by rfl) (hK : X.K = K := by rfl) (hM : X.mg = mg := by rfl) :
    SEM X W (.Call (.Name x p) (o :: es) [] pos) (tCallSD (spS mg K n (fnS N n b)) [] (WE W) (tCons (tVar i) t)) (mCallS (fnS N n b) i af) := by
  subst hK hM
  exact ⟨pe_callSD G hr hg hm hk hb .nil (fun σ => passAt tk σ) (pa_cons ho ha.pa he) hdb he hpl, dem_callS (fun _ _ _ => fnS_len) ha.da⟩
theorem me_callX {k f N n : Nat} {K : PySem.W.Frag} {mg : Str → Option Value} {fd : FuncData} {ps : List Str} {b : SFm} (G : FnOk X.prog X.w X.K X.mg X.base (L2.CX X.prog X.w) k f fd ps (spX X.mg X.K n (fnX N n b))) (hr : Room k X.A) (hg : Gl X x) (hm : X.mg x = some (.ref f)) (hk : PySem.W.keepIn X.K (.ref f) = true) (hb : Binds X.K fd ps []) (tk : Takes X W)
    (ha : SAM X W (e :: es) t af) (hdb : (x == ("__debug__" : Str)) = false := by decide) (he : starEach (e :: es) X.env = (false, eval e X.env) :: starEach es X.env := by rfl) (hpl : (backTo pos (starEach es X.env)).any (·.1) = false := by rfl) (hK : X.K = K := by rfl) (hM : X.mg = mg := by rfl) :
    SEM X W (.Call (.Name x p) (e :: es) [] pos) (tCallSD (spX mg K n (fnX N n b)) [] (WE W) t) (mCallX (fnX N n b) af) := by
  subst hK hM
  exact ⟨pe_callSD G hr hg hm hk hb .nil (fun σ => passAt tk σ) ha.pa hdb he hpl, dem_callX (fun _ _ => fnX_len) ha.da⟩
theorem me_call {k f N n : Nat} {K : PySem.W.Frag} {fd : FuncData} {ps : List Str} {b : SF} (G : FnOk X.prog X.w X.K X.mg X.base CX0 k f fd ps (spD X.K n (fnD N n b))) (hr : Room k X.A) (hg : Gl X x) (hm : X.mg x = some (.ref f)) (hk : PySem.W.keepIn X.K (.ref f) = true) (hb : Binds X.K fd ps [])
    (ha : SAM X W (e :: es) t af) (hdb : (x == ("__debug__" : Str)) = false := by decide) (he : starEach (e :: es) X.env = (false, eval e X.env) :: starEach es X.env := by rfl) (hpl : (backTo pos (starEach es X.env)).any (·.1) = false := by rfl) (hK : X.K = K := by rfl) :
    SEM X W (.Call (.Name x p) (e :: es) [] pos) (L2.tCall (spD K n (fnD N n b)) [] E0 t) (mCall (fnD N n b) af) := by
  subst hK
  exact ⟨pe_call G hr hg hm hk hb .nil pass0 ha.pa hdb he hpl, dem_call (fun _ _ => fnD_len) ha.da⟩
end

/-! ### defs -/
section
variable {P : Program} {w : World} {K : PySem.W.Frag} {mg : Str → Option Value} {base : Heap}
abbrev WD (E : XK) : WX := fun cls d _ H => E cls d H
theorem same_ers {H : Hp} {p : Addr} : Same (ers H p) H := fun a o e => (ers_some e).2
theorem slots_startS {F H : Hp} {p : Addr} {xs : List V} {ws : List V} {st ds : List PyData} {N : List Str} {n : Nat} (h : DpAll K F ws ds) (hn : ws.length + 1 = n) (fp : F p = none) (hp : H p = some (.lst xs)) (hx : DpAll K F xs st) :
    Slots K (ers H p) F H (L2.start N (.ref p :: ws)) (startS N.length n st ds) := by
  have hl := DpAll.len h
  have e1 : ∀ i s, (startS N.length n st ds)[i]? = some s → (i = 0 ∧ s = .own st) ∨ (∃ j d, i = j + 1 ∧ ds[j]? = some d ∧ s = .val d) ∨ s = .no := fun i s e => by
    cases i with
    | zero =>
      cases e
      exact .inl ⟨rfl, rfl⟩
    | succ j =>
      have e : (ds.map Sl.val ++ List.replicate (N.length - n) .no)[j]? = some s := e
      by_cases hj : j < ds.length
      · rw [List.getElem?_append_left (by simpa using hj), List.getElem?_map, List.getElem?_eq_getElem hj] at e
        cases e
        exact .inr (.inl ⟨j, _, rfl, List.getElem?_eq_getElem hj, rfl⟩)
      · rw [List.getElem?_append_right (by simp; omega), List.getElem?_replicate] at e
        split at e
        · cases e
          exact .inr (.inr rfl)
        · cases e
  have z0 : (L2.start N (.ref p :: ws))[0]? = some (some (.ref p)) := rfl
  have zs : ∀ j v, ws[j]? = some v → (L2.start N (.ref p :: ws))[j + 1]? = some (some v) := fun j v e => by
    unfold L2.start
    have hj : j < ws.length := (List.getElem?_eq_some_iff.mp e).1
    rw [List.getElem?_append_left (by simp; omega), List.getElem?_map, List.getElem?_cons_succ, e]
    rfl
  refine ⟨by simp [L2.start, startS, hl] at hn ⊢ <;> omega, fun _ => p, fun i v s q1 q2 => ?_, fun i j es fs hij q1 q2 => ?_⟩
  · rcases e1 i s q2 with ⟨rfl, rfl⟩ | ⟨j, d, rfl, hd, rfl⟩ | rfl
    · rw [z0] at q1
      cases q1
      exact ⟨xs, rfl, ers_same, fp, hp, hx⟩
    · obtain ⟨u, eu, du⟩ := DpAll.get h hd
      rw [zs j u eu] at q1
      cases q1
      exact ⟨u, rfl, du⟩
    · trivial
  · exfalso
    rcases e1 i _ q1 with ⟨rfl, _⟩ | ⟨_, _, _, _, z⟩ | z
    · rcases e1 j _ q2 with ⟨rfl, _⟩ | ⟨_, _, _, _, z⟩ | z
      · exact hij rfl
      · cases z
      · cases z
    · cases z
    · cases z
theorem stOf_some {env : En} {ds : List PyData} (h : stOf env = some ds) : env[0]? = some (.own ds) := by
  unfold stOf at h
  split at h
  · rename_i e
    cases h
    exact e
  · cases h
/-- THE RULE for a def whose first parameter is a state -/
theorem okS {x qual : Str} {st : Stmt} {f : Addr} {fd : FuncData} {N ps : List Str} {k : Nat} {b : SFm} (F : Fun K x qual st f fd) (S : FnScope N ps (defScope st))
    (hbody : ∀ (cdv : Value) (A : Around) (outer : List PySem.Env) (s : Shared) (H : Hp) (E : XK), Room k (A.deeper (envOfC qual (defScope st) s.heap.objs.size f cdv)) → ∃ t, SSsm (cxOf (L2.CX P w) P w K mg base N qual (defScope st) f cdv A outer s H E) (WD E) [0] (defBody st) t b) :
    FnOk P w K mg base (L2.CX P w) (k + 1) f fd ps (spS mg K ps.length (fnS N.length ps.length b)) := by
  refine F.okX S (fun vs H Q E h => h.1) (fun cdv A outer s H vs Q E hr h => ?_)
  obtain ⟨hn, p, ws, F0, xs, st0, ds, a, rfl, fh, fp, hp, hx, hd, er, q⟩ := h
  obtain ⟨t, ht⟩ := hbody cdv A outer s H E hr
  refine ⟨t, ht.ps, ?_⟩
  unfold fnS at er
  split at er
  case isFalse => cases er
  have gr : Grow F0 (ers H p) F0 H := ⟨Same.refl F0, same_ers, fh, fun _ _ h => h⟩
  have S0 : Sta K F0 (ers H p) F0 H (L2.start N (.ref p :: ws)) (startS N.length ps.length st0 ds) := ⟨gr, slots_startS hd (by simpa using hn) fp hp hx⟩
  have hdom : ∀ (F' H' : Hp) (ys : List V), Same (ers H p) H' → H' p = some (.lst ys) → ∀ a : Addr, H a ≠ none → H' a ≠ none := fun F' H' ys g hy a ha => by
    by_cases e : a = p
    · rw [e, hy]; exact Option.some_ne_none _
    · exact same_ne g (by rw [ers_ne e]; exact ha)
  have pin0 : Pin [0] (fun i => if i = 0 then some (some (V.ref p)) else none) (L2.start N (.ref p :: ws)) := fun i hi => by
    cases List.mem_singleton.mp hi
    rfl
  have get : ∀ {F' H' : Hp} {σ' : L2.St} {env' : En} {ds' : List PyData}, Sta K F0 (ers H p) F' H' σ' env' → Pin [0] (fun i => if i = 0 then some (some (V.ref p)) else none) σ' → stOf env' = some ds' →
      σ'[0]? = some (some (.ref p)) ∧ ∃ ys, F' p = none ∧ H' p = some (.lst ys) ∧ DpAll K F' ys ds' := fun {F' H' σ' env' ds'} S' p' e => by
    obtain ⟨p2, ys, k1, k0, k2, k3, k4⟩ := S'.s.own (stOf_some e)
    have k5 : σ'[0]? = some (some (.ref p)) := p' 0 (List.mem_singleton.mpr rfl)
    rw [k5] at k1
    cases k1
    exact ⟨k5, ys, k2, k3, k4⟩
  cases eb : b (startS N.length ps.length st0 ds) with
  | none => rw [eb] at er; cases er
  | some o =>
    rw [eb] at er
    refine ht.ds _ F0 (ers H p) F0 H _ _ _ S0 pin0 eb _ ?_
    cases o with
    | nx env =>
      obtain ⟨ds', e1, er⟩ := bnd er
      cases er
      intro F' H' σ' _ S' p'
      obtain ⟨_, ys, h1, h2, h3⟩ := get S' p' e1
      exact q F' H' _ ys S'.g (hdom F' H' ys S'.g.h h2) h1 h2 h3 .non
    | rt r w =>
      cases w with
      | none => cases er
      | some env =>
        rw [resS_rt] at er
        split at er
        case isFalse => cases er
        rename_i hfl
        obtain ⟨ds', e1, er⟩ := bnd er
        cases er
        intro F' H' σ' v S' p' rr ap
        obtain ⟨h0, ys, h1, h2, h3⟩ := get S' p' e1
        refine q F' H' v ys S'.g (hdom F' H' ys S'.g.h h2) h1 h2 h3 ?_
        cases r with
        | val d => exact rr
        | own es =>
          obtain ⟨p2, zs, rfl, a1, a2, a3, a4⟩ := rr
          have hne : p2 ≠ p := fun z => ap 0 ds' es rfl (stOf_some e1) (by rw [z]; exact h0)
          refine ⟨p2, zs, rfl, a1, ?_, a3, a4⟩
          rw [ers_ne hne] at a2
          exact a2
        | own3 _ _ _ => cases hfl
    | bk env => cases er
    | ct env => cases er
    | ex e env =>
      obtain ⟨ds', e1, er⟩ := bnd er
      cases er
      intro F' H' σ' cls d _ S' p' xx
      obtain ⟨_, ys, h1, h2, h3⟩ := get S' p' e1
      exact q F' H' cls d ys S'.g (hdom F' H' ys S'.g.h h2) h1 h2 h3 xx
theorem okX {x qual : Str} {st : Stmt} {f : Addr} {fd : FuncData} {N ps : List Str} {k : Nat} {b : SFm} (F : Fun K x qual st f fd) (S : FnScope N ps (defScope st))
    (hbody : ∀ (cdv : Value) (A : Around) (outer : List PySem.Env) (s : Shared) (H : Hp) (E : XK), Room k (A.deeper (envOfC qual (defScope st) s.heap.objs.size f cdv)) → ∃ t, SSsm (cxOf (L2.CX P w) P w K mg base N qual (defScope st) f cdv A outer s H E) (WD E) [] (defBody st) t b) :
    FnOk P w K mg base (L2.CX P w) (k + 1) f fd ps (spX mg K ps.length (fnX N.length ps.length b)) := by
  refine F.okX S (fun vs H Q E h => h.1) (fun cdv A outer s H vs Q E hr h => ?_)
  obtain ⟨hn, F0, ds, a, fh, hd, er, q⟩ := h
  obtain ⟨t, ht⟩ := hbody cdv A outer s H E hr
  refine ⟨t, ht.ps, ?_⟩
  unfold fnX at er
  split at er
  case isFalse => cases er
  have S0 : Sta K F0 H F0 H (L2.start N vs) (startD N.length ps.length ds) := ⟨Grow.refl fh, slots_start hd hn⟩
  have pin0 : Pin [] (fun _ => none) (L2.start N vs) := fun i hi => by cases hi
  cases eb : b (startD N.length ps.length ds) with
  | none => rw [eb] at er; cases er
  | some o =>
    rw [eb] at er
    refine ht.ds _ F0 H F0 H _ _ _ S0 pin0 eb _ ?_
    cases o with
    | nx env =>
      cases er
      exact fun F' H' σ' _ S' _ => q F' H' _ S'.g .non
    | rt r w =>
      rw [resX_rt] at er
      cases er
      cases w with
      | none => exact fun F' H' v g rr => q F' H' v g rr
      | some env => exact fun F' H' σ' v S' _ rr _ => q F' H' v S'.g rr
    | bk env => cases er
    | ct env => cases er
    | ex e env =>
      cases er
      exact fun F' H' σ' cls d _ S' _ xx => q F' H' cls d S'.g xx
end

/-! ### the law's own end -/
theorem law_atM {P : Program} {w : World} {K : PySem.W.Frag} {mg mb : Str → Option Value} {k : Nat} {fa a : Addr} {fd : FuncData} {N : List Str} {st : Stmt} {s₁ : Shared} {vs : List Value} {ns : List Int} {x qual : Str} {b : SFm}
    (F : Fun K x qual st fa fd) (S : FnScope N ["script"] (defScope st))
    (KX : K.In s₁.heap) (gns : s₁.heap.Ns mainGlobals mg) (bns : s₁.heap.Ns builtinsNs mb) (boots : ∀ x : Str, x ≠ "__name__" → mb x = bootBuiltins x) (lim : s₁.heap.NoLimit) (gens : s₁.gens = #[])
    (ha : s₁.heap.get? a = some { cls := .type "list", data := .seq vs.toArray }) (hi : IntsAre vs ns) (hl : ns.length ≤ sizeLine) (hr : Room (k + 1) callerA)
    (bnd : ∀ (s : Shared) (u : Value), BindsTo s fd ⟨[u], []⟩ [("script", u)])
    (val : fnX N.length 1 b [.list (ns.map PyData.int)] = some (.rt (.val (.bool true))))
    (body : ∀ (base : Heap), K.In base → base.Ns mainGlobals mg → ∀ (cdv : Value) (s : Shared) (H : Hp), Room k (callerA.deeper (envOfC qual (defScope st) s.heap.objs.size fa cdv)) →
      ∃ t, SSsm (cxOf CX0 P w K mg base N qual (defScope st) fa cdv callerA [] s H E0).nox WF [] (defBody st) t b) :
    codeAny (model P w) callerA (.call (.ref fa) ⟨[.ref a], []⟩) (fun r s' => r = .ok (.ret (.bool true)) ∧ OldK s₁.heap s'.heap ∧ s'.os = s₁.os ∧ AllBare s'.gens) s₁ := by
  have iv := vals_ints hi
  have il := hi.length
  generalize hH : headH K a vs ns = H
  have at_ : ∀ {b : Addr} {u : HO}, H b = some u → b = a ∧ K.lookup a = none ∧ u = .frz { cls := .type "list", data := .seq vs.toArray } (.lst (ns.map V.int)) := fun {b u} e => headH_some (hH ▸ e)
  have free : ∀ {b : Addr} {o : Obj}, s₁.heap.get? b = some o → (∀ es n, o.data ≠ .seq es n) → H b = none := fun {b o} e d => by
    cases q : H b with
    | none => rfl
    | some u =>
      obtain ⟨rfl, _, _⟩ := at_ q
      rw [ha] at e
      cases e
      exact absurd rfl (d _ _)
  have keepNs : ∀ {c : Addr} {m : Str → Option Value}, s₁.heap.Ns c m → (hidT s₁.heap H).Ns c m := fun {c m} ⟨o, es, ep, e, d, r⟩ =>
    ⟨o, es, ep, hidT_get e (free e fun _ _ z => by rw [d] at z; cases z), d, r⟩
  have KB : K.In (hidT s₁.heap H) := fun c o e => hidT_get (KX c o e) (by
    cases q : H c with
    | none => rfl
    | some u =>
      obtain ⟨rfl, n, _⟩ := at_ q
      rw [n] at e
      cases e)
  obtain ⟨mc, l1, l2⟩ := lim
  have md : Mod K mg (hidT s₁.heap H) := ⟨KB, keepNs gns, ⟨mb, keepNs bns, boots⟩, mc, keepNs l1, l2⟩
  have hok : HOk P w H s₁.heap := fun c u z => by
    obtain ⟨rfl, n, rfl⟩ := at_ z
    exact ⟨ha, by rw [List.length_map]; exact hl, vs, _, iv, ha⟩
  have e0 : Env0 P w K mg (hidT s₁.heap H) callerA [] s₁ H :=
    ⟨rfl, md, fun c o e => of_hidT e, Nat.le_of_eq (hidT_size _ _), trivial, fun c hc => (by cases hc), hok, .of_eq gens⟩
  have sq : SqL K H a (ns.map V.int) := by
    cases hk : K.lookup a with
    | some o =>
      have e := KX a o hk
      rw [ha] at e
      cases e
      exact Or.inr ⟨_, vs.toArray, _, hk, rfl, rfl, rfl, by rw [List.size_toArray, il]; exact hl, by simpa using iv⟩
    | none =>
      refine Or.inl (Or.inr ⟨{ cls := .type "list", data := .seq vs.toArray }, ?_⟩)
      rw [← hH]
      unfold headH
      rw [if_pos ⟨rfl, hk⟩]
  have run : CallAt P w callerA [] H s₁ fa [.ref a] (fun v _ => v = .bl true) := by
    refine callAt (vs := [.ref a]) F S hr e0 (bnd s₁ (.ref a)) (.cons rfl .nil) rfl fun cdv room => ?_
    obtain ⟨t, ht⟩ := body _ KB (keepNs gns) cdv s₁ H room
    refine ⟨t, ht.ps, ?_⟩
    unfold fnX at val
    rw [if_pos (show [PyData.list (ns.map PyData.int)].length = 1 from rfl)] at val
    have d0 : DpAll K H [V.ref a] [.list (ns.map PyData.int)] := .cons (.lst sq (DpAll.ints ns)) .nil
    have S0 : Sta K H H H H (L2.start N [V.ref a]) (startD N.length 1 [.list (ns.map PyData.int)]) := ⟨Grow.refl (Same.refl H), slots_start d0 rfl⟩
    have pin0 : Pin [] (fun _ => none) (L2.start N [V.ref a]) := fun i hi => by cases hi
    cases eb : b (startD N.length 1 [.list (ns.map PyData.int)]) with
    | none => rw [eb] at val; cases val
    | some o =>
      rw [eb] at val
      refine ht.ds _ H H H H _ _ _ S0 pin0 eb _ ?_
      cases o with
      | nx env => cases val
      | bk env => cases val
      | ct env => cases val
      | ex e env => cases val
      | rt r w =>
        rw [resX_rt] at val
        cases val
        cases w with
        | none =>
          intro F' H' v g rr
          cases rr
          rfl
        | some env =>
          intro F' H' σ' v S' _ rr _
          cases rr
          rfl
  unfold CallAt at run
  refine codeAny_mono run fun r s' h => ?_
  cases r with
  | error e => exact h.elim
  | ok fl =>
    cases fl with
    | next => exact h.elim
    | brk => exact h.elim
    | cont => exact h.elim
    | ret u =>
      obtain ⟨v, H', os, bare, un, hok', r', rfl⟩ := h
      obtain rfl : u = Value.bool true := r'
      refine ⟨rfl, OldK.of_keep fun c o e => ?_, os, bare⟩
      cases q : H c with
      | none => exact un.keep c o e q (fun z => by cases z) (fun z => by cases z)
      | some u =>
        obtain ⟨rfl, n, rfl⟩ := at_ q
        have z1 := (hok c _ q).1
        have z2 := (hok' c _ (un.frzs c _ _ q)).1
        rw [e] at z1
        cases z1
        exact z2
def LawM (P : Program) (w : World) (K : PySem.W.Frag) (mg : Str → Option Value) (k : Nat) (fa : Addr) : Prop :=
  ∃ (fd : FuncData) (N : List Str) (st : Stmt) (x qual : Str) (b : SFm), Fun K x qual st fa fd ∧ FnScope N ["script"] (defScope st) ∧
    (∀ (s : Shared) (u : Value), BindsTo s fd ⟨[u], []⟩ [("script", u)]) ∧
    (∀ ns : List Int, ns.length ≤ 63 → fnX N.length 1 b [.list (ns.map PyData.int)] = some (.rt (.val (.bool true)))) ∧
    ∀ (base : Heap), K.In base → base.Ns mainGlobals mg → ∀ (cdv : Value) (s : Shared) (H : Hp), Room k (callerA.deeper (envOfC qual (defScope st) s.heap.objs.size fa cdv)) →
      ∃ t, SSsm (cxOf CX0 P w K mg base N qual (defScope st) fa cdv callerA [] s H E0).nox WF [] (defBody st) t b
theorem walkM {l : PySem.W.OpenLaw} {k : Nat} {q : Program} {loose : List Str} {XP : (Str → Option Value) → Heap → Prop} {YP : World → Heap → Prop} {d : DefRec} {K : Params → PySem.W.Frag}
    (hn : l.most = some 63) (hdf : d.params.defaults = []) (hr : Room (k + 1) callerA) (hY : ∀ (w : World) (h : Heap), YP w h → (K w.params).In h)
    (F : ∀ (w : World) (mg : Str → Option Value) (fa : Addr) (h : Heap), (K w.params).In h → h.Ns mainGlobals mg → mg d.name = some (.ref fa) → LawM l.prog w (K w.params) mg k fa) :
    PySem.W.WalkO q loose XP YP l.row.toRowW d [] (fun f vs => PySem.call f vs) :=
  Att.attach_call hn hdf fun w s₀ s₁ mg mb fa o pm cd doc a vs ns G Y ho hd hcd hmg hobj hints hlen hg => by
    have kin := hY w _ Y
    obtain ⟨fd, N, st, x, qual, b, F1, S, bnd, val, body⟩ := F w mg fa _ kin G.T.g hmg
    exact law_atM F1 S kin G.T.g G.T.b G.T.builtins G.T.nolimit hg hobj hints (Nat.le_trans hlen (by rw [sizeLine_eq]; decide)) hr bnd (val ns hlen) body
end Dn
/-! Ds6: the rules, construct by construct. -/
namespace Dn
open PySem PySem.Spec PyProof.Rows L2
section
variable {X : Cx} {W : WX} {I : List Nat} {e a b c o i : Expr} {es : List Expr} {pos p apos : Pos} {te ta tb tc : TE} {t : TA} {tt tu : TT} {f g h : EM} {af : AM} {u v : TM} {x y : Str}
theorem me_p {fp : EF} (h1 : SE X e te fp) : SEM X W e te (mP fp) := ⟨h1.pe, dem_p h1.de⟩
theorem mt_p {fp : TF} (h1 : ST X e tt fp) : STM X W e tt (mPT fp) := ⟨h1.pt, dtm_p h1.dt⟩
theorem mw_p {fp : TF} (h1 : SW X e tt fp) : SWM X W e tt (mPT fp) := ⟨h1.pw, dtm_p h1.dt⟩
theorem ma_p {fp : AF} (h1 : SA X es t fp) : SAM X W es t (mPA fp) := ⟨h1.pa, dam_p h1.da⟩
theorem ma_cons (h1 : SEM X W e te f) (h2 : SAM X W es t af) (hs : starEach (e :: es) X.env = (false, eval e X.env) :: starEach es X.env := by rfl) : SAM X W (e :: es) (tCons te t) (mCons f af) := ⟨pa_cons h1.pe h2.pa hs, dam_cons h1.de h2.da⟩
theorem me_tup {x1} (h1 : SAM X W es t af) : SEM X W (.Tuple es x1 pos) (tTup t) (mTup af) := ⟨pe_tup h1.pa, dem_tup h1.da⟩
theorem me_lst (h1 : SAM X W es t af) : SEM X W (.List es pos) (tLst t) (mLst af) := ⟨pe_lst h1.pa, dem_lst h1.da⟩
theorem me_add {K : PySem.W.Frag} (h1 : SEM X W a ta f) (h2 : SEM X W b tb g) (hK : X.K = K := by rfl) : SEM X W (.BinOp a .Add b pos) (tOp (rAddG K) ta tb) (mBin gAdd f g) := by
  subst hK
  exact ⟨pe_op op_addG h1.pe h2.pe, dem_bin rv_add h1.de h2.de⟩
theorem me_sub (h1 : SEM X W a ta f) (h2 : SEM X W b tb g) : SEM X W (.BinOp a .Sub b pos) (tOp (rI0 fun i j => .int (i - j)) ta tb) (mBin gSub f g) := ⟨pe_op op_sub h1.pe h2.pe, dem_bin rv_sub h1.de h2.de⟩
theorem me_mul (h1 : SEM X W a ta f) (h2 : SEM X W b tb g) : SEM X W (.BinOp a .Mult b pos) (tOp (rI MulOk fun i j => .int (i * j)) ta tb) (mBin gMul f g) := ⟨pe_op op_mulG h1.pe h2.pe, dem_bin rv_mul h1.de h2.de⟩
theorem me_fdiv (h1 : SEM X W a ta f) (h2 : SEM X W b tb g) : SEM X W (.BinOp a .FloorDiv b pos) (tOp (rI (fun _ j => j ≠ 0 ∧ j.natAbs < divLim) fun i j => .int (i.fdiv j)) ta tb) (mBin gFdiv f g) := ⟨pe_op op_fdivG h1.pe h2.pe, dem_bin rv_fdiv h1.de h2.de⟩
theorem me_mod (h1 : SEM X W a ta f) (h2 : SEM X W b tb g) : SEM X W (.BinOp a .Mod b pos) (tOp (rI (fun _ j => j ≠ 0) fun i j => .int (i.fmod j)) ta tb) (mBin gMod f g) := ⟨pe_op op_modN h1.pe h2.pe, dem_bin rv_mod h1.de h2.de⟩
theorem me_neg (h1 : SEM X W a ta f) : SEM X W (.UnaryOp .USub a pos) (tUn (rU fun i => .int (-i)) ta) (mUn gNeg f) := ⟨pe_un un_neg h1.pe, dem_un ru_neg h1.de⟩
theorem me_lt (h1 : SEM X W a ta f) (h2 : SEM X W b tb g) : SEM X W (.Compare a [.Lt] [b] pos) (tOp (rI0 fun i j => .bl (decide (i < j))) ta tb) (mBin gLt f g) := ⟨pe_cmpR op_lt h1.pe h2.pe (nomark _), dem_bin rv_lt h1.de h2.de⟩
theorem me_le (h1 : SEM X W a ta f) (h2 : SEM X W b tb g) : SEM X W (.Compare a [.LtE] [b] pos) (tOp (rI0 fun i j => .bl (decide (i ≤ j))) ta tb) (mBin gLe f g) := ⟨pe_cmpR op_le h1.pe h2.pe (nomark _), dem_bin rv_le h1.de h2.de⟩
theorem me_gt (h1 : SEM X W a ta f) (h2 : SEM X W b tb g) : SEM X W (.Compare a [.Gt] [b] pos) (tOp (rI0 fun i j => .bl (decide (j < i))) ta tb) (mBin gGt f g) := ⟨pe_cmpR op_gt h1.pe h2.pe (nomark _), dem_bin rv_gt h1.de h2.de⟩
theorem me_ge (h1 : SEM X W a ta f) (h2 : SEM X W b tb g) : SEM X W (.Compare a [.GtE] [b] pos) (tOp (rI0 fun i j => .bl (decide (j ≤ i))) ta tb) (mBin gGe f g) := ⟨pe_cmpR op_ge h1.pe h2.pe (nomark _), dem_bin rv_ge h1.de h2.de⟩
theorem me_eqT {K : PySem.W.Frag} (hu : X.A.units + 64 < cLine) (h1 : SEM X W a ta f) (h2 : SEM X W b tb g) (hK : X.K = K := by rfl) : SEM X W (.Compare a [.Eq] [b] pos) (tOp (fun x y H Q => rEq x y H Q ∨ rEqD K x y H Q) ta tb) (mBin gEqT f g) := by
  subst hK
  exact ⟨pe_cmpR (OpR.or op_eq (op_eqD hu)) h1.pe h2.pe (nomark _), dem_bin rv_eqT h1.de h2.de⟩
theorem me_neT {K : PySem.W.Frag} (hu : X.A.units + 64 < cLine) (h1 : SEM X W a ta f) (h2 : SEM X W b tb g) (hK : X.K = K := by rfl) : SEM X W (.Compare a [.NotEq] [b] pos) (tOp (fun x y H Q => rNe x y H Q ∨ rNeD K x y H Q) ta tb) (mBin gNeT f g) := by
  subst hK
  exact ⟨pe_cmpR (OpR.or op_ne (op_neD hu)) h1.pe h2.pe (nomark _), dem_bin rv_neT h1.de h2.de⟩
theorem me_inG {K : PySem.W.Frag} (hu : X.A.units + 65 < cLine) (h1 : SEM X W a ta f) (h2 : SEM X W b tb g) (hm : behindInMarks .In b = false := by rfl) (hK : X.K = K := by rfl) : SEM X W (.Compare a [.In] [b] pos) (tOp (fun x y H Q => rInD K x y H Q ∨ rInT K false x y H Q) ta tb) (mBin gInG f g) := by
  subst hK
  exact ⟨pe_cmpR ((op_inD hu).or (op_inT hu)) h1.pe h2.pe hm, dem_bin rv_inG h1.de h2.de⟩
theorem me_notInG {K : PySem.W.Frag} (hu : X.A.units + 65 < cLine) (h1 : SEM X W a ta f) (h2 : SEM X W b tb g) (hm : behindInMarks .NotIn b = false := by rfl) (hK : X.K = K := by rfl) : SEM X W (.Compare a [.NotIn] [b] pos) (tOp (fun x y H Q => rNotInD K x y H Q ∨ rInT K true x y H Q) ta tb) (mBin gNotInG f g) := by
  subst hK
  exact ⟨pe_cmpR ((op_notInD hu).or (op_notInT hu)) h1.pe h2.pe hm, dem_bin rv_notInG h1.de h2.de⟩
theorem me_isN (h1 : SEM X W a ta f) {j pos'} : SEM X W (.Compare a [.Is] [.Constant .none j pos'] pos) (tOp (fun x y H Q => y = .non ∧ Q (.bl (decide (x = .non))) H) ta (tC .non)) (mBin gIsN f (mP (eC .none))) := ⟨pe_cmpR op_isN h1.pe pe_non (nomark _), dem_bin rv_isN h1.de (dem_p (de_c fun _ => .non))⟩
theorem me_notN (h1 : SEM X W a ta f) {j pos'} : SEM X W (.Compare a [.IsNot] [.Constant .none j pos'] pos) (tOp (fun x y H Q => y = .non ∧ Q (.bl (!decide (x = .non))) H) ta (tC .non)) (mBin gNotN f (mP (eC .none))) := ⟨pe_cmpR op_notN h1.pe pe_non (nomark _), dem_bin rv_notN h1.de (dem_p (de_c fun _ => .non))⟩
theorem me_isB (h1 : SEM X W a ta f) (h2 : SEM X W b tb g) : SEM X W (.Compare a [.Is] [b] pos) (tOp rIsB ta tb) (mBin gIsB f g) := ⟨pe_cmpR op_isBl h1.pe h2.pe (nomark _), dem_bin rv_isB h1.de h2.de⟩
theorem me_ix {K : PySem.W.Frag} (h1 : SEM X W a ta f) (h2 : SEM X W b tb g) (hs : PlainIx b := by exact fun _ _ => rfl) (hK : X.K = K := by rfl) : SEM X W (.Subscript a b pos) (tOp (rIx K) ta tb) (mBin gIx f g) := by
  subst hK
  exact ⟨pe_ix ix_seq h1.pe h2.pe hs, dem_bin rv_ix h1.de h2.de⟩
theorem me_cb {id : String} {r : List V → Hp → VK → Prop} {gp : List PyData → Option R} (hc : CallR X (.builtin id) r) (hr : RCD X.K r gp) (hg : Gl X x) (hm : X.mg x = none) (hv : bootBuiltins x = some (.builtin id)) (ha : SAM X W (e :: es) t af) (hn : x ≠ "__name__" := by decide) (hdb : (x == ("__debug__" : Str)) = false := by decide)
    (he : starEach (e :: es) X.env = (false, eval e X.env) :: starEach es X.env := by rfl) (hpl : (backTo pos (starEach es X.env)).any (·.1) = false := by rfl) : SEM X W (.Call (.Name x p) (e :: es) [] pos) (tCB r t) (mCall gp af) :=
  ⟨pe_callB hc hg hm hv ha.pa hn hdb he hpl, dem_cb hr ha.da⟩
theorem me_cty {T : String} {r : List V → Hp → VK → Prop} {gp : List PyData → Option R} (hc : CallR X (.type T) r) (hr : RCD X.K r gp) (hg : Gl X x) (hm : X.mg x = none) (hv : bootBuiltins x = some (.type T)) (ha : SAM X W (e :: es) t af) (hn : x ≠ "__name__" := by decide) (hdb : (x == ("__debug__" : Str)) = false := by decide)
    (he : starEach (e :: es) X.env = (false, eval e X.env) :: starEach es X.env := by rfl) (hpl : (backTo pos (starEach es X.env)).any (·.1) = false := by rfl) : SEM X W (.Call (.Name x p) (e :: es) [] pos) (tCB r t) (mCall gp af) :=
  ⟨pe_callTy hc hg hm hv ha.pa hn hdb he hpl, dem_cb hr ha.da⟩
theorem me_c_int (hg : Gl X x) (hm : X.mg x = none) (hv : bootBuiltins x = some (.type "int")) (ha : SAM X W (e :: es) t af) (hn : x ≠ "__name__" := by decide) (hdb : (x == ("__debug__" : Str)) = false := by decide)
    (he : starEach (e :: es) X.env = (false, eval e X.env) :: starEach es X.env := by rfl) (hpl : (backTo pos (starEach es X.env)).any (·.1) = false := by rfl) : SEM X W (.Call (.Name x p) (e :: es) [] pos) (tCB (fun xs H Q => (∃ i, xs = [.int i] ∧ Q (.int i) H) ∨ ∃ k, xs = [.bl k] ∧ Q (.int (if k then 1 else 0)) H) t) (mCall gInt af) := me_cty call_int1 rc_int hg hm hv ha hn hdb he hpl
theorem me_c_len {K : PySem.W.Frag} (hg : Gl X x) (hm : X.mg x = none) (hv : bootBuiltins x = some (.builtin "len")) (ha : SAM X W (e :: es) t af) (hn : x ≠ "__name__" := by decide) (hdb : (x == ("__debug__" : Str)) = false := by decide)
    (he : starEach (e :: es) X.env = (false, eval e X.env) :: starEach es X.env := by rfl) (hpl : (backTo pos (starEach es X.env)).any (·.1) = false := by rfl) (hK : X.K = K := by rfl) : SEM X W (.Call (.Name x p) (e :: es) [] pos) (tCB (fun xs H Q => ∃ x n, xs = [x] ∧ LenV K x H n ∧ Q (.int n) H) t) (mCall gLen af) := by
  subst hK
  exact me_cb call_len rc_len hg hm hv ha hn hdb he hpl
/-! tests -/
theorem mt_cmp (h1 : SEM X W e te f) (hp : PE X e te → PT X e tt) (hd : ∀ {ff : EM}, DEM X.mg X.K W te ff → DTM X.mg X.K W tt (mTE ff)) : STM X W e tt (mTE f) := ⟨hp h1.pe, hd h1.de⟩
theorem mt_lt (h1 : SEM X W a ta f) (h2 : SEM X W b tb g) : STM X W (.Compare a [.Lt] [b] pos) (tTest (tOp (rI0 fun i j => .bl (decide (i < j))) ta tb)) (mTE (mBin gLt f g)) := ⟨pt_cmpR op_lt h1.pe h2.pe (nomark _), dtm_test (dem_bin rv_lt h1.de h2.de)⟩
theorem mt_le (h1 : SEM X W a ta f) (h2 : SEM X W b tb g) : STM X W (.Compare a [.LtE] [b] pos) (tTest (tOp (rI0 fun i j => .bl (decide (i ≤ j))) ta tb)) (mTE (mBin gLe f g)) := ⟨pt_cmpR op_le h1.pe h2.pe (nomark _), dtm_test (dem_bin rv_le h1.de h2.de)⟩
theorem mt_gt (h1 : SEM X W a ta f) (h2 : SEM X W b tb g) : STM X W (.Compare a [.Gt] [b] pos) (tTest (tOp (rI0 fun i j => .bl (decide (j < i))) ta tb)) (mTE (mBin gGt f g)) := ⟨pt_cmpR op_gt h1.pe h2.pe (nomark _), dtm_test (dem_bin rv_gt h1.de h2.de)⟩
theorem mt_ge (h1 : SEM X W a ta f) (h2 : SEM X W b tb g) : STM X W (.Compare a [.GtE] [b] pos) (tTest (tOp (rI0 fun i j => .bl (decide (j ≤ i))) ta tb)) (mTE (mBin gGe f g)) := ⟨pt_cmpR op_ge h1.pe h2.pe (nomark _), dtm_test (dem_bin rv_ge h1.de h2.de)⟩
theorem mt_eqT {K : PySem.W.Frag} (hu : X.A.units + 64 < cLine) (h1 : SEM X W a ta f) (h2 : SEM X W b tb g) (hK : X.K = K := by rfl) : STM X W (.Compare a [.Eq] [b] pos) (tTest (tOp (fun x y H Q => rEq x y H Q ∨ rEqD K x y H Q) ta tb)) (mTE (mBin gEqT f g)) := by
  subst hK
  exact ⟨pt_cmpR (OpR.or op_eq (op_eqD hu)) h1.pe h2.pe (nomark _), dtm_test (dem_bin rv_eqT h1.de h2.de)⟩
theorem mt_neT {K : PySem.W.Frag} (hu : X.A.units + 64 < cLine) (h1 : SEM X W a ta f) (h2 : SEM X W b tb g) (hK : X.K = K := by rfl) : STM X W (.Compare a [.NotEq] [b] pos) (tTest (tOp (fun x y H Q => rNe x y H Q ∨ rNeD K x y H Q) ta tb)) (mTE (mBin gNeT f g)) := by
  subst hK
  exact ⟨pt_cmpR (OpR.or op_ne (op_neD hu)) h1.pe h2.pe (nomark _), dtm_test (dem_bin rv_neT h1.de h2.de)⟩
theorem mt_inG {K : PySem.W.Frag} (hu : X.A.units + 65 < cLine) (h1 : SEM X W a ta f) (h2 : SEM X W b tb g) (hm : behindInMarks .In b = false := by rfl) (hK : X.K = K := by rfl) : STM X W (.Compare a [.In] [b] pos) (tTest (tOp (fun x y H Q => rInD K x y H Q ∨ rInT K false x y H Q) ta tb)) (mTE (mBin gInG f g)) := by
  subst hK
  exact ⟨pt_cmpR ((op_inD hu).or (op_inT hu)) h1.pe h2.pe hm, dtm_test (dem_bin rv_inG h1.de h2.de)⟩
theorem mt_notInG {K : PySem.W.Frag} (hu : X.A.units + 65 < cLine) (h1 : SEM X W a ta f) (h2 : SEM X W b tb g) (hm : behindInMarks .NotIn b = false := by rfl) (hK : X.K = K := by rfl) : STM X W (.Compare a [.NotIn] [b] pos) (tTest (tOp (fun x y H Q => rNotInD K x y H Q ∨ rInT K true x y H Q) ta tb)) (mTE (mBin gNotInG f g)) := by
  subst hK
  exact ⟨pt_cmpR ((op_notInD hu).or (op_notInT hu)) h1.pe h2.pe hm, dtm_test (dem_bin rv_notInG h1.de h2.de)⟩
theorem mt_isN (h1 : SEM X W a ta f) {j pos'} : STM X W (.Compare a [.Is] [.Constant .none j pos'] pos) (tTest (tOp (fun x y H Q => y = .non ∧ Q (.bl (decide (x = .non))) H) ta (tC .non))) (mTE (mBin gIsN f (mP (eC .none)))) := ⟨pt_cmpR op_isN h1.pe pe_non (nomark _), dtm_test (dem_bin rv_isN h1.de (dem_p (de_c fun _ => .non)))⟩
theorem mt_notN (h1 : SEM X W a ta f) {j pos'} : STM X W (.Compare a [.IsNot] [.Constant .none j pos'] pos) (tTest (tOp (fun x y H Q => y = .non ∧ Q (.bl (!decide (x = .non))) H) ta (tC .non))) (mTE (mBin gNotN f (mP (eC .none)))) := ⟨pt_cmpR op_notN h1.pe pe_non (nomark _), dtm_test (dem_bin rv_notN h1.de (dem_p (de_c fun _ => .non)))⟩
theorem mt_val (h1 : SEM X W e te f) (he : ∀ whole, isTrue e X.env whole = (do let v ← whole; standAt e.pos; holding [v] (truthy v)) := by intro _; rfl) : STM X W e (tB te) (mTE f) := ⟨pt_val h1.pe he, dtm_B h1.de⟩
theorem mw_and1 (h1 : STM X W a tt u) : SWM X W (.BoolOp .And [a] pos) tt u := ⟨pw_and1 h1.pt, h1.dt⟩
theorem mw_or1 (h1 : STM X W a tt u) : SWM X W (.BoolOp .Or [a] pos) tt u := ⟨pw_or1 h1.pt, h1.dt⟩
theorem mw_and {rest : List Expr} (h1 : STM X W a tt u) (h2 : SWM X W (.BoolOp .And (b :: rest) pos) tu v) : SWM X W (.BoolOp .And (a :: b :: rest) pos) (tAnd tt tu) (mAnd u v) := ⟨pw_and h1.pt h2.pw, dtm_and h1.dt h2.dt⟩
theorem mw_or {rest : List Expr} (h1 : STM X W a tt u) (h2 : SWM X W (.BoolOp .Or (b :: rest) pos) tu v) : SWM X W (.BoolOp .Or (a :: b :: rest) pos) (tOr tt tu) (mOr u v) := ⟨pw_or h1.pt h2.pw, dtm_or h1.dt h2.dt⟩
theorem mt_not (h1 : STM X W a tt u) : STM X W (.UnaryOp .Not a pos) (tNot tt) (mNot u) := ⟨pt_not h1.pt, dtm_not h1.dt⟩
theorem me_one {op} (h1 : SEM X W a ta f) : SEM X W (.BoolOp op [a] pos) ta f := ⟨pe_one h1.pe, h1.de⟩
theorem me_and {rest : List Expr} (h1 : SEM X W a ta f) (h2 : SEM X W (.BoolOp .And (b :: rest) pos) tb g) : SEM X W (.BoolOp .And (a :: b :: rest) pos) (tAndV ta tb) (mIf (mTE f) g (mP (eC (.bool false)))) := ⟨pe_and h1.pe h2.pe, dem_andV h1.de h2.de⟩
theorem me_or {rest : List Expr} (h1 : SEM X W a ta f) (h2 : SEM X W (.BoolOp .Or (b :: rest) pos) tb g) : SEM X W (.BoolOp .Or (a :: b :: rest) pos) (tOrV ta tb) (mIf (mTE f) (mP (eC (.bool true))) g) := ⟨pe_or h1.pe h2.pe, dem_orV h1.de h2.de⟩
theorem me_not (h1 : SEM X W a ta f) : SEM X W (.UnaryOp .Not a pos) (tNotV ta) (mT (mNot (mTE f))) := ⟨pe_not h1.pe, dem_notV h1.de⟩
theorem me_if (hc : STM X W c tt u) (h1 : SEM X W a ta f) (h2 : SEM X W b tb g) : SEM X W (.IfExp c a b pos) (tIf tt ta tb) (mIf u f g) := ⟨pe_ifExp hc.pt h1.pe h2.pe, dem_ifE hc.dt h1.de h2.de⟩
/-! walks -/
structure SIM (X : Cx) (W : WX) (tg iter : Expr) (wi : TI) (f : IM) : Prop where
  pi : PI X tg iter wi
  d : DIM X.mg X.K W wi f
variable {tg iter elt : Expr} {wi : TI} {it : IM} {tG : TG} {gf : GF} {ws : List Nat} {body : List Stmt} {tS tS' : TS} {sf sg : SFm} {st : Stmt}
theorem mi_p {fp : IF} (h1 : SI X tg iter wi fp) : SIM X W tg iter wi (mPI fp) := ⟨h1.pi, dim_p h1.d⟩
theorem mi_r1 {p pos : Pos} (hg : Gl X "range") (hm : X.mg "range" = none) (ha : SAM X W [a] t af) (hs : starEach [a] X.env = [(false, eval a X.env)] := by rfl) : SIM X W tg (.Call (.Name "range" p) [a] [] pos) (iRng1 t) (iR1M af) := ⟨pi_range1 hg hm ha.pa hs, dim_r1 ha.da⟩
theorem mi_seq {K : PySem.W.Frag} (h1 : SEM X W a ta f) (hK : X.K = K := by rfl) : SIM X W tg a (fun σ H R => iList K ta σ H R ∨ iTup K ta σ H R) (iSM f) := by
  subst hK
  exact ⟨pi_or (pi_list h1.pe) (pi_tup h1.pe), dim_seq h1.de⟩
structure STsM (X : Cx) (W : WX) (ifs : List Expr) (tt : TT) (f : TM) : Prop where
  pts : PTs X ifs tt
  dt : DTM X.mg X.K W tt f
theorem mts_p {ifs : List Expr} {fp : TF} (h1 : STs X ifs tt fp) : STsM X W ifs tt (mPT fp) := ⟨h1.pts, dtm_p h1.dt⟩
theorem mts_one (h1 : STM X W c tt u) : STsM X W [c] tt u := ⟨pts_one h1.pt, h1.dt⟩
theorem me_lc {ifs : List Expr} {scope : Scope} {own : List (Str × Nat)} (hc : X.calm = true) (hN : X.N.Nodup) (hi : SIM X W tg iter wi it) (ok : BlkOk X.N X.env.scope scope own)
    (hg : ∀ (s : Shared) (H : Hp) (C : Addr) (cl : List (Str × Addr)) (fp : List Addr), SG (X.blk s H scope (compEnvC scope cl C X.env) fp) tg ws tG gf) (hG : GO ws gf) (hw : ∀ i ∈ ws, i ∈ own.map (·.2))
    (ht : ∀ (s : Shared) (H : Hp) (C : Addr) (cl : List (Str × Addr)) (fp : List Addr), STsM (X.blk s H scope (compEnvC scope cl C X.env) fp) WF ifs tt u)
    (he : ∀ (s : Shared) (H : Hp) (C : Addr) (cl : List (Str × Addr)) (fp : List Addr), SEM (X.blk s H scope (compEnvC scope cl C X.env) fp) WF elt te f) (hs : ∀ x, foldedSetIterable iter X.env x = pure x := by intro _; rfl) :
    SEM X W (.ListComp elt [⟨tg, iter, ifs, 0⟩] scope pos) (tLc wi tG tt te (own.map (·.2))) (mLc (own.map (·.2)) it gf u f) :=
  ⟨pe_lc hc hN hi.pi ok (fun s H C cl fp => (hg s H C cl fp).pg) (fun s H C cl fp => (ht s H C cl fp).pts) (fun s H C cl fp => (he s H C cl fp).pe) hs,
   dem_lc hi.d (hg X.s_0 X.H_0 0 [] []).d hG hw (ht X.s_0 X.H_0 0 [] []).dt (he X.s_0 X.H_0 0 [] []).de⟩
theorem sm_setLc {i : Nat} {y : Str} {py spos : Pos} {ifs : List Expr} {scope : Scope} {own : List (Str × Nat)} (hc : X.calm = true) (hN : X.N.Nodup) (hy : X.N[i]? = some y) (hyl : X.env.scope.names.lookup y = some .local)
    (hsw : swapsWith (.ListComp elt [⟨tg, iter, ifs, 0⟩] scope pos) (some (.Name y py)) spos.line X.env = pure true) (hi : SIM X W tg iter wi it) (ok : BlkOk X.N X.env.scope scope own)
    (hg : ∀ (s : Shared) (H : Hp) (C : Addr) (cl : List (Str × Addr)) (fp : List Addr), SG (X.blk s H scope (compEnvC scope cl C X.env) fp) tg ws tG gf) (hG : GO ws gf) (hw : ∀ i ∈ ws, i ∈ own.map (·.2))
    (ht : ∀ (s : Shared) (H : Hp) (C : Addr) (cl : List (Str × Addr)) (fp : List Addr), STsM (X.blk s H scope (compEnvC scope cl C X.env) fp) WF ifs tt u)
    (he : ∀ (s : Shared) (H : Hp) (C : Addr) (cl : List (Str × Addr)) (fp : List Addr), SEM (X.blk s H scope (compEnvC scope cl C X.env) fp) WF elt te f) (hI : i ∉ I := by decide) (hs : ∀ x, foldedSetIterable iter X.env x = pure x := by intro _; rfl) :
    SSm X W I (.Assign [.Name y py] (.ListComp elt [⟨tg, iter, ifs, 0⟩] scope pos) spos) (tAsg (tLc wi tG tt te (own.map (·.2))) (gName i)) (mSet i (mLc (own.map (·.2)) it gf u f)) :=
  ⟨ps_setLc hc hN hy hyl hsw hi.pi ok (fun s H C cl fp => (hg s H C cl fp).pg) (fun s H C cl fp => (ht s H C cl fp).pts) (fun s H C cl fp => (he s H C cl fp).pe) hs,
   dsm_set (dem_lc hi.d (hg X.s_0 X.H_0 0 [] []).d hG hw (ht X.s_0 X.H_0 0 [] []).dt (he X.s_0 X.H_0 0 [] []).de) hI⟩
/-! statements -/
variable {rest : List Stmt}
theorem sm_nil : SSsm X W I [] tNext mNext := ⟨pss_nil, dsm_next⟩
theorem sm_one (h1 : SSm X W I st tS sf) : SSsm X W I [st] tS sf := ⟨pss_one h1.ps, h1.ds⟩
theorem sm_cons (h1 : SSm X W I st tS sf) (h2 : SSsm X W I rest tS' sg) : SSsm X W I (st :: rest) (tSeq tS tS') (mSeq sf sg) := ⟨pss_cons h1.ps h2.ps, dsm_seq h1.ds h2.ds⟩
theorem sm_s {fp : SF} (h1 : SS X st tS fp) : SSm X W [] st tS (mS fp) := ⟨h1.ps, dsm_s h1.ds⟩
theorem sm_frz (i : Nat) (h1 : SSm X W I st tS sf) : SSm X W I st tS (mFrz i sf) := ⟨h1.ps, dsm_frz h1.ds⟩
theorem sm_ret (h1 : SEM X W e te f) : SSm X W I (.Return (some e) pos) (tRet te) (mRet f) := ⟨ps_ret h1.pe, dsm_ret h1.de⟩
theorem sm_retN : SSm X W I (.Return none pos) tRetN mRetN := ⟨ps_retN, dsm_retN⟩
theorem sm_retO {i : Nat} (h1 : PE X e (tVar i)) : SSm X W I (.Return (some e) pos) (tRet (tVar i)) (mRetOwn i) := ⟨ps_ret h1, dsm_retOwn⟩
theorem sm_break : SSm X W I (.Break pos) tBreak mBreak := ⟨ps_break, dsm_break⟩
theorem sm_cont : SSm X W I (.Continue pos) tCont mCont := ⟨ps_continue, dsm_cont⟩
theorem sm_pass : SSm X W I (.Pass pos) tNext mNext := ⟨ps_pass, dsm_next⟩
theorem sm_if {b1 b2 : List Stmt} (hc : STM X W c tt u) (h1 : SSsm X W I b1 tS sf) (h2 : SSsm X W I b2 tS' sg) : SSm X W I (.If c b1 b2 pos) (tIfS tt tS tS') (mIfS u sf sg) := ⟨ps_if hc.pt h1.ps h2.ps, dsm_if hc.dt h1.ds h2.ds⟩
theorem sm_set {i : Nat} {pos' : Pos} (hN : X.N.Nodup) (hi : X.N[i]? = some x) (hx : Loc X.env.scope x) (h1 : SEM X W e te f) (hI : i ∉ I := by decide) (hs : swapsWith e (some (.Name x pos')) pos.line X.env = pure false := by rfl) (hf : X.fn x = true ∨ X.env.scope.names.lookup x = some .local := by first | exact .inl rfl | exact .inr rfl | assumption) :
    SSm X W I (.Assign [.Name x pos'] e pos) (tAsg te (gName i)) (mSet i f) := ⟨ps_set hN hi hx h1.pe hs hf, dsm_set h1.de hI⟩
theorem sm_asg (h1 : SEM X W e te f) (hg : SG X tg ws tG gf) (hI : ∀ i ∈ ws, i ∉ I := by decide) (hs : swapsWithSole [tg] e pos.line X.env = pure false := by rfl) (hw : swappedStores [tg] e X.env = pure none := by rfl)
    (h2 : (assignEach [tg] X.env).map (·.2) = [assign tg X.env] := by rfl) : SSm X W I (.Assign [tg] e pos) (tAsg te tG) (mAsg gf f) := ⟨ps_asg h1.pe hg.pg hs hw h2, dsm_asg h1.de hg.d hI⟩
theorem sm_put {j : Nat} {pk : Pos} {fi : EF} (h1 : SEM X W e te f) (h0 : PE X o (tVar j)) (h2 : SE X i ta fi)
    (ha : ∀ v, assign (.Subscript o i pk) X.env v = (do
      let ov ← holding [v] (eval o X.env)
      let iv ← holding [v, ov] (eval i X.env)
      standAt pk
      holding [v, ov, iv] (setItem ov iv v)
      release [v, ov, iv] []) := by intro _; rfl)
    (hs : swapsWithSole [.Subscript o i pk] e pos.line X.env = pure false := by rfl) (hw : swappedStores [.Subscript o i pk] e X.env = pure none := by rfl)
    (h3 : (assignEach [.Subscript o i pk] X.env).map (·.2) = [assign (.Subscript o i pk) X.env] := by rfl) : SSm X W I (.Assign [.Subscript o i pk] e pos) (tAsg te (L2.gSub (tVar j) ta rSetL)) (mPut j fi f) :=
  ⟨ps_asg h1.pe (pg_sub h0 h2.pe set_list ha) hs hw h3, dsm_put h1.de h2.de⟩
theorem sm_drop (h1 : SEM X W e te f) (hs : swapsWith e none pos.line X.env = pure false := by rfl) : SSm X W I (.Expr e pos) (tDrop te) (mDrop f) := ⟨ps_expr h1.pe hs, dsm_drop h1.de⟩
theorem sm_append {j : Nat} {cpos : Pos} (h0 : PE X o (tVar j)) (h1 : SEM X W e te f) (hs : swapsWith (.Call (.Attribute o "append" apos) [e] [] cpos) none pos.line X.env = pure false := by rfl)
    (hbase : attributeBase o "append" X.env (eval o X.env) = eval o X.env := by rfl)
    (hfew : ((backTo cpos (starEach [e] X.env)).all (fun x => !x.1) && (backToKw cpos (keywordEach [] X.env)).all (fun x => x.1.isSome)
      && decide ([e].length + ([] : List Keyword).length + (if ([] : List Keyword).isEmpty then 0 else 1) < 30)) = true := by rfl)
    (hline : (apos.endLine == cpos.line) = true := by rfl) (hst : starEach [e] X.env = (false, eval e X.env) :: starEach [] X.env := by rfl) (hplain : (backTo cpos (starEach [] X.env)).any (·.1) = false := by rfl) :
    SSm X W I (.Expr (.Call (.Attribute o "append" apos) [e] [] cpos) pos) (tDrop (tBM X.K "list" rAppend (tVar j) (tCons te tNil))) (mAppend j f) :=
  ⟨ps_expr (pe_bm PySem.F.plainAttrs_list PySem.F.slot_list_append PySem.F.type_list_append mt_append h0 (pa_cons h1.pe pa_nil hst) hbase hfew hline hst hplain) hs, dsm_append h1.de⟩
theorem sm_for (hp : PassesOwn (model X.prog X.w) X.A X.env X.xe) (hc : X.calm = true) (hi : SIM X W tg iter wi it) (hg : SG X tg ws tG gf) (hb : SSsm X W I body tS sf) (hI : ∀ i ∈ ws, i ∉ I := by decide) (hs : ∀ x, foldedSetIterable iter X.env x = pure x := by intro _; rfl) :
    SSm X W I (.For tg iter body [] pos) (tFor wi tG tS) (mFor it gf sf) := ⟨ps_for hp hc hi.pi hg.pg hb.ps hs, dsm_for hi.d hg.d hb.ds hI⟩
theorem sm_while (hp : PassesOwn (model X.prog X.w) X.A X.env X.xe) (hc : STM X W c tt u) (hb : SSsm X W I body tS sf) : SSm X W I (.While c body [] pos) (tWhile tt tS) (mWhile u sf) := ⟨ps_while hp hc.pt hb.ps, dsm_while hc.dt hb.ds⟩
theorem sm_par {i j : Nat} {px py pt : Pos} {kt k2 pt2} (hN : X.N.Nodup) (ha : SAM X W [a, b] t af) (hc : X.calm = true := by rfl) (hi : X.N[i]? = some x := by rfl) (hj : X.N[j]? = some y := by rfl) (hij : i ≠ j := by decide)
    (hx : X.env.scope.names.lookup x = some .local := by rfl) (hy : X.env.scope.names.lookup y = some .local := by rfl) (hI : i ∉ I := by decide) (hJ : j ∉ I := by decide)
    (hw : swappedStores [.Tuple [.Name x px, .Name y py] kt pt] (.Tuple [a, b] k2 pt2) X.env = pure (some [x, y]) := by rfl)
    (hs : swapsWithSole [.Tuple [.Name x px, .Name y py] kt pt] (.Tuple [a, b] k2 pt2) pos.line X.env = pure false := by rfl) :
    SSm X W I (.Assign [.Tuple [.Name x px, .Name y py] kt pt] (.Tuple [a, b] k2 pt2) pos) (tPar i j t) (mPar i j af) := ⟨ps_par hc hN hi hj hij hx hy ha.pa hw hs, dsm_par ha.da hI hJ⟩
theorem sm_augI {i : Nat} {pos' : Pos} (hN : X.N.Nodup) (h1 : SEM X W e te f) (hI : i ∉ I := by decide) (hi : X.N[i]? = some x := by rfl) (hx : Loc X.env.scope x := by first | exact Or.inl rfl | exact Or.inr rfl) (hf : X.fn x = true ∨ X.env.scope.names.lookup x = some .local := by first | exact .inl rfl | exact .inr rfl) :
    SSm X W I (.AugAssign (.Name x pos') .Add e pos) (tAug i te (rI0 fun i j => .int (i + j))) (mAug i gAddI f) := ⟨ps_aug hN hi hx h1.pe iop_add hf, dsm_aug rv_addI h1.de hI⟩
end
end Dn
/-! Ds7: calls with keywords. -/
namespace Dn
open PySem PySem.Spec PyProof.Rows L2
/-- n positional values, m keywords in the order of the parameters -/
def gK (n m : Nat) {α : Type} (us ws : List α) : List α := if us.length = n ∧ ws.length = m then us ++ ws else []
theorem gK_rel {n m : Nat} {vs : List V} {us : List Value} {zs : List V} {ws : List Value} (h : Vals vs us) (h' : Vals zs ws) : Vals (gK n m vs zs) (gK n m us ws) := by
  unfold gK
  rw [h.length, h'.length]
  split
  · exact h.append h'
  · exact .nil
/-- how a call with all keyword-only parameters, in their order, binds -/
abbrev BindsK (K : PySem.W.Frag) (fd : FuncData) (ps ks : List Str) (n j : Nat) : Prop := KBinds K fd ps ks (gK n j) (gK n j)
theorem _root_.L2.Fun.bindsK {K : PySem.W.Frag} {x qual : Str} {st : Stmt} {f : Addr} {fd : FuncData} {ps ks : List Str} {n j : Nat} (F : Fun K x qual st f fd) (hp : ps ≠ []) (hj : ks.length = j)
    (h : ∀ (kV doc pm : Value) (an : Option Addr) (cdv ct : Value) (us ws : List Value), us.length = n → ws.length = ks.length → bindArgs (PySem.W.fnOf x qual (defArgs st) (defBody st) (defScope st) .none kV doc pm an cdv ct) ⟨us, ks.zip ws⟩ = pure (ps.zip (us ++ ws))) : BindsK K fd ps ks n j := by
  subst hj
  obtain ⟨oc, od, kV, doc, pm, an, cdv, ct, osl, rfl, lk, hcd⟩ := F.ex
  refine ⟨fun s us ws X hl => ?_, gK_rel⟩
  unfold gK at hl ⊢
  split at hl
  · rename_i hc
    rw [if_pos hc]
    exact .of_eq (h kV doc pm an cdv ct us ws hc.1 hc.2)
  · exact absurd (List.length_eq_zero_iff.mp hl.symm) hp
section
variable {X : Cx} {CX : CXT} {k : Nat} {f : Addr} {fd : FuncData} {ps ks : List Str} {sp : Sp} {E : L2.St → XK} {x : Str} {p pos apos : Pos} {e o : Expr} {es : List Expr} {kws : List Keyword} {ta : TE} {t tk : TA}
variable {g : List Value → List Value → List Value} {gV : List V → List V → List V}
def tCallKS (sp : Sp) (gV : List V → List V → List V) (E : L2.St → XK) (t tk : TA) : TE := fun σ H Q => t σ H fun vs H1 => tk σ H1 fun zs H2 => sp (gV vs zs) H2 Q (E σ)
theorem run_fnkS {pins : List (Addr × Obj)} {σ : L2.St} {H : Hp} {s : Shared} {Q : VK} {us ws : List Value} {vs zs : List V} (F : FnOk X.prog X.w X.K X.mg X.base CX k f fd ps sp) (hr : Room k X.A) (hb : KBinds X.K fd ps ks g gV) (hx : PassesAt CX X σ (E σ))
    (I : Inv X pins σ H s) (r : Vals vs us) (rz : Vals zs ws) (h : sp (gV vs zs) H Q (E σ)) : wpAny (model X.prog X.w) X.A (call (.ref f) us (ks.zip ws)) (EP X pins σ Q) X.xe s := by
  have r2 := hb.rel r rz
  have hl : (g us ws).length = ps.length := by rw [← r2.length]; exact F.len _ _ _ _ h
  refine wpAny_call (codeAny_mono (F.run X.A X.stack s H ⟨us, ks.zip ws⟩ (g us ws) (gV vs zs) Q (E σ) hr I.env0 (hb.to s us ws I.kIn hl) r2 h) fun r s' hq => ?_)
  cases r with
  | error e => exact hx pins H s e s' I hq
  | ok fl =>
    cases fl with
    | ret u => exact I.after hq
    | next => exact False.elim hq
    | brk => exact False.elim hq
    | cont => exact False.elim hq
theorem pe_callKS (F : FnOk X.prog X.w X.K X.mg X.base CX k f fd ps sp) (hr : Room k X.A) (hg : Gl X x) (hm : X.mg x = some (.ref f)) (hk : PySem.W.keepIn X.K (.ref f) = true) (hb : KBinds X.K fd ps ks g gV) (hx : ∀ σ, PassesAt CX X σ (E σ))
    (ha : PA X (e :: es) t) (hkw : PK X kws tk) (hall : (backToKw pos (keywordEach kws X.env)).all (·.1.isSome) = true := by rfl) (hks : (backToKw pos (keywordEach kws X.env)).filterMap (·.1) = ks := by rfl)
    (hdb : (x == ("__debug__" : Str)) = false := by decide) (he : starEach (e :: es) X.env = (false, eval e X.env) :: starEach es X.env := by rfl)
    (hpl : ((backTo pos (starEach (e :: es) X.env)).any (·.1) || (backToKw pos (keywordEach kws X.env)).any (·.1.isNone)) = false := by rfl) :
    PE X (.Call (.Name x p) (e :: es) kws pos) (tCallKS sp gV E t tk) := by
  refine ⟨fun pins s σ H Q I h => ?_⟩
  refine wpAny_Call_Name_kw (ld_glob I hg hm ?_ hdb)
  refine PySem.W.callWith_KW (h₀ := X.base) I.ok.mod.kin hk hall (thn (ha.run pos pins s σ H _ I h) fun us s1 ⟨vs, H1, I1, r, q⟩ => ?_) hpl he
  refine thn (hkw.run pos pins s1 σ H1 _ I1 q) fun ws s2 ⟨zs, H2, I2, rz, q2⟩ => ⟨I2.kIn, ?_⟩
  rw [hks]
  exact run_fnkS F hr hb (hx σ) I2 r rz q2
end
/-! over data -/
structure SK (X : Cx) (kws : List Keyword) (ta : TA) (f : AF) : Prop where
  pk : PK X kws ta
  da : DA X.K ta f
structure SKM (X : Cx) (W : WX) (kws : List Keyword) (ta : TA) (f : AM) : Prop where
  pk : PK X kws ta
  da : DAM X.mg X.K W ta f
theorem gK_some {n m : Nat} {α : Type} {us ws : List α} {l : Nat} (h : (gK n m us ws).length = l) (hl : l ≠ 0) : us.length = n ∧ ws.length = m := by
  unfold gK at h
  split at h
  · assumption
  · exact absurd h.symm hl
/-- arguments, then keywords -/
@[simp] def aApp (f g : AF) : AF := fun env => (f env).bind fun as => (g env).bind fun bs => some (as ++ bs)
@[simp] def eCallK (m : List PyData → Option R) (n j : Nat) (f g : AF) : EF := fun env => (f env).bind fun as => (g env).bind fun bs => if as.length = n ∧ bs.length = j then m (as ++ bs) else none
@[simp] def mCallK (m : List PyData → Option R) (n j : Nat) (f g : AM) : EM := fun env => bM (f env) fun as e1 => bM (g e1) fun bs e2 => if as.length = n ∧ bs.length = j then (m (as ++ bs)).bind fun r => some (.ok r e2) else none
@[simp] def mCallKX (m : List PyData → Option FX) (n j : Nat) (f g : AM) : EM := fun env => bM (f env) fun as e1 => bM (g e1) fun bs e2 => if as.length = n ∧ bs.length = j then (match m (as ++ bs) with
    | some (.rt r) => some (.ok r e2)
    | some (.ex e) => some (.ex e e2)
    | none => none) else none
section
variable {K : PySem.W.Frag} {mg : Str → Option Value} {W : WX} {n j N : Nat} {m : List PyData → Option R} {t tk : TA} {f g : AF} {fm gm : AM}
theorem de_callK (hn : ∀ ds r, m ds = some r → ds.length = N) (h1 : DA K t f) (h2 : DA K tk g) : DE K (tCallKS (spD K N m) (gK n j) (fun _ => E0) t tk) (eCallK m n j f g) := fun B F H σ env r S fh bh e Q q => by
  obtain ⟨as, ea, e⟩ := bnd e
  obtain ⟨bs, eb, e⟩ := bnd e
  split at e
  case isFalse => cases e
  rename_i hc
  refine h1 B F H σ env as S fh bh ea _ fun F1 H1 vs g1 d1 => ?_
  refine h2 B F1 H1 σ env bs (S.grow g1) g1.i (bh.trans g1.h) eb _ fun F2 H2 zs g2 d2 => ?_
  have hl : vs.length = n ∧ zs.length = j := ⟨by rw [DpAll.len d1]; exact hc.1, by rw [DpAll.len d2]; exact hc.2⟩
  show spD K N m (gK n j vs zs) H2 Q E0
  unfold gK
  rw [if_pos hl]
  have dd := DpAll.app (dpa_mono g2.f d1) d2
  exact ⟨by rw [DpAll.len dd, hn _ _ e], F2, as ++ bs, r, g2.i, dd, e, fun F3 H3 v g3 rr => q F3 H3 v ((g1.trans g2).trans g3) (rr.back (g1.trans g2))⟩
theorem dem_callK (hn : ∀ ds r, m ds = some r → ds.length = N) (h1 : DAM mg K W t fm) (h2 : DAM mg K W tk gm) : DEM mg K W (tCallKS (spD K N m) (gK n j) (fun _ => E0) t tk) (mCallK m n j fm gm) := fun F0 H0 F H σ env ans S e Q q => by
  rcases bMd e with ⟨as, e1, ea, e⟩ | ⟨x, e1, ea, rfl⟩
  case inr => exact h1 F0 H0 F H σ env _ S ea _ q
  refine h1.run S ea fun F1 H1 vs g1 S1 d1 => ?_
  rcases bMd e with ⟨bs, e2, eb, e⟩ | ⟨x, e2, eb, rfl⟩
  case inr => exact h2 F0 H0 F1 H1 σ e1 _ S1 eb _ (ExOk.on g1 q)
  split at e
  case isFalse => cases e
  rename_i hc
  obtain ⟨r', er, e⟩ := bnd e
  cases e
  refine h2.run S1 eb fun F2 H2 zs g2 S2 d2 => ?_
  have hl : vs.length = n ∧ zs.length = j := ⟨by rw [DpAll.len d1]; exact hc.1, by rw [DpAll.len d2]; exact hc.2⟩
  show spD K N m (gK n j vs zs) H2 Q E0
  unfold gK
  rw [if_pos hl]
  have dd := DpAll.app (dpa_mono g2.f d1) d2
  exact ⟨by rw [DpAll.len dd, hn _ _ er], F2, as ++ bs, r', S2.fh, dd, er, fun F3 H3 v g3 rr => q F3 H3 v ((g1.trans g2).trans (.of g3)) (S2.grow g3) (rr.backM fun a h => g2.d a (g1.d a h))⟩
theorem dem_callKX {m : List PyData → Option FX} (hn : ∀ ds r, m ds = some r → ds.length = N) (h1 : DAM mg K W t fm) (h2 : DAM mg K W tk gm) : DEM mg K W (tCallKS (spX mg K N m) (gK n j) (WE W) t tk) (mCallKX m n j fm gm) := fun F0 H0 F H σ env ans S e Q q => by
  rcases bMd e with ⟨as, e1, ea, e⟩ | ⟨x, e1, ea, rfl⟩
  case inr => exact h1 F0 H0 F H σ env _ S ea _ q
  refine h1.run S ea fun F1 H1 vs g1 S1 d1 => ?_
  rcases bMd e with ⟨bs, e2, eb, e⟩ | ⟨x, e2, eb, rfl⟩
  case inr => exact h2 F0 H0 F1 H1 σ e1 _ S1 eb _ (ExOk.on g1 q)
  split at e
  case isFalse => cases e
  rename_i hc
  refine h2.run S1 eb fun F2 H2 zs g2 S2 d2 => ?_
  have hl : vs.length = n ∧ zs.length = j := ⟨by rw [DpAll.len d1]; exact hc.1, by rw [DpAll.len d2]; exact hc.2⟩
  show spX mg K N m (gK n j vs zs) H2 Q (WE W σ)
  unfold gK
  rw [if_pos hl]
  have dd := DpAll.app (dpa_mono g2.f d1) d2
  have hm : ∃ a, m (as ++ bs) = some a := by
    cases q : m (as ++ bs) with
    | none => rw [q] at e; cases e
    | some a => exact ⟨a, rfl⟩
  obtain ⟨a, em⟩ := hm
  rw [em] at e
  refine ⟨by rw [DpAll.len dd, hn _ _ em], F2, as ++ bs, a, S2.fh, dd, em, ?_⟩
  cases a with
  | rt r =>
    cases e
    intro F3 H3 v g rr
    exact q F3 H3 v ((g1.trans g2).trans (.of g)) (S2.grow g) (rr.backM fun a h => g2.d a (g1.d a h))
  | ex x =>
    cases e
    intro F3 H3 cls d g xx
    exact q F3 H3 cls d ((g1.trans g2).trans (.of g)) (S2.grow g) xx
end
section
variable {X : Cx} {W : WX} {x : Str} {p pos kpos : Pos} {o e : Expr} {es : List Expr} {kws : List Keyword} {nm : Option Str} {te : TE} {t tk : TA} {f : EF} {fm : EM} {af kf : AF} {am km : AM}
theorem sk_nil : SK X [] tNil aNil := ⟨pk_nil, da_nil⟩
theorem sk_cons (h1 : SE X e te f) (h2 : SK X kws tk kf) : SK X (⟨nm, e, kpos⟩ :: kws) (tCons te tk) (aCons f kf) := ⟨pk_cons h1.pe h2.pk, da_cons h1.de h2.da⟩
theorem mk_p (h : SK X kws tk kf) : SKM X W kws tk (mPA kf) := ⟨h.pk, dam_p h.da⟩
theorem mk_cons (h1 : SEM X W e te fm) (h2 : SKM X W kws tk km) : SKM X W (⟨nm, e, kpos⟩ :: kws) (tCons te tk) (mCons fm km) := ⟨pk_cons h1.pe h2.pk, dam_cons h1.de h2.da⟩
theorem se_callK {k f N M n j : Nat} {K : PySem.W.Frag} {fd : FuncData} {ps ks : List Str} {b : SF} (G : FnOk X.prog X.w X.K X.mg X.base CX0 k f fd ps (spD X.K N (fnD M N b))) (hr : Room k X.A) (hg : Gl X x) (hm : X.mg x = some (.ref f)) (hk : PySem.W.keepIn X.K (.ref f) = true) (hb : BindsK X.K fd ps ks n j)
    (ha : SA X (e :: es) t af) (hkw : SK X kws tk kf) (hall : (backToKw pos (keywordEach kws X.env)).all (·.1.isSome) = true := by rfl) (hks : (backToKw pos (keywordEach kws X.env)).filterMap (·.1) = ks := by rfl)
    (hdb : (x == ("__debug__" : Str)) = false := by decide) (he : starEach (e :: es) X.env = (false, eval e X.env) :: starEach es X.env := by rfl)
    (hpl : ((backTo pos (starEach (e :: es) X.env)).any (·.1) || (backToKw pos (keywordEach kws X.env)).any (·.1.isNone)) = false := by rfl) (hK : X.K = K := by rfl) :
    SE X (.Call (.Name x p) (e :: es) kws pos) (tCallKS (spD K N (fnD M N b)) (gK n j) (fun _ => E0) t tk) (eCallK (fnD M N b) n j af kf) := by
  subst hK
  exact ⟨pe_callKS G hr hg hm hk hb (fun σ pins H s e s' I h => h.elim) ha.pa hkw.pk hall hks hdb he hpl, de_callK (fun _ _ => fnD_len) ha.da hkw.da⟩
theorem me_callK {k f N M n j : Nat} {K : PySem.W.Frag} {fd : FuncData} {ps ks : List Str} {b : SF} (G : FnOk X.prog X.w X.K X.mg X.base CX0 k f fd ps (spD X.K N (fnD M N b))) (hr : Room k X.A) (hg : Gl X x) (hm : X.mg x = some (.ref f)) (hk : PySem.W.keepIn X.K (.ref f) = true) (hb : BindsK X.K fd ps ks n j)
    (ha : SAM X W (e :: es) t am) (hkw : SKM X W kws tk km) (hall : (backToKw pos (keywordEach kws X.env)).all (·.1.isSome) = true := by rfl) (hks : (backToKw pos (keywordEach kws X.env)).filterMap (·.1) = ks := by rfl)
    (hdb : (x == ("__debug__" : Str)) = false := by decide) (he : starEach (e :: es) X.env = (false, eval e X.env) :: starEach es X.env := by rfl)
    (hpl : ((backTo pos (starEach (e :: es) X.env)).any (·.1) || (backToKw pos (keywordEach kws X.env)).any (·.1.isNone)) = false := by rfl) (hK : X.K = K := by rfl) :
    SEM X W (.Call (.Name x p) (e :: es) kws pos) (tCallKS (spD K N (fnD M N b)) (gK n j) (fun _ => E0) t tk) (mCallK (fnD M N b) n j am km) := by
  subst hK
  exact ⟨pe_callKS G hr hg hm hk hb (fun σ pins H s e s' I h => h.elim) ha.pa hkw.pk hall hks hdb he hpl, dem_callK (fun _ _ => fnD_len) ha.da hkw.da⟩
theorem me_callKX {k f N M n j : Nat} {K : PySem.W.Frag} {mg : Str → Option Value} {fd : FuncData} {ps ks : List Str} {b : SFm} (G : FnOk X.prog X.w X.K X.mg X.base (L2.CX X.prog X.w) k f fd ps (spX X.mg X.K N (fnX M N b))) (hr : Room k X.A) (hg : Gl X x) (hm : X.mg x = some (.ref f)) (hk : PySem.W.keepIn X.K (.ref f) = true) (hb : BindsK X.K fd ps ks n j) (tkk : Takes X W)
    (ha : SAM X W (e :: es) t am) (hkw : SKM X W kws tk km) (hall : (backToKw pos (keywordEach kws X.env)).all (·.1.isSome) = true := by rfl) (hks : (backToKw pos (keywordEach kws X.env)).filterMap (·.1) = ks := by rfl)
    (hdb : (x == ("__debug__" : Str)) = false := by decide) (he : starEach (e :: es) X.env = (false, eval e X.env) :: starEach es X.env := by rfl)
    (hpl : ((backTo pos (starEach (e :: es) X.env)).any (·.1) || (backToKw pos (keywordEach kws X.env)).any (·.1.isNone)) = false := by rfl) (hK : X.K = K := by rfl) (hM : X.mg = mg := by rfl) :
    SEM X W (.Call (.Name x p) (e :: es) kws pos) (tCallKS (spX mg K N (fnX M N b)) (gK n j) (WE W) t tk) (mCallKX (fnX M N b) n j am km) := by
  subst hK hM
  exact ⟨pe_callKS G hr hg hm hk hb (fun σ => passAt tkk σ) ha.pa hkw.pk hall hks hdb he hpl, dem_callKX (fun _ _ => fnX_len) ha.da hkw.da⟩
end
/-! ### math.lcm -/
def LcmOk (a b : Int) : Prop := a.natAbs < 2 ^ 64 ∧ b.natAbs < 2 ^ 64
noncomputable instance (a b : Int) : Decidable (LcmOk a b) := Classical.propDecidable _
theorem LcmOk.fits {a b : Int} (h : LcmOk a b) : ((((Nat.lcm 1 a.natAbs).lcm b.natAbs : Nat) : Int)).natAbs.log2 < bitsLine := by
  have h1 : Nat.lcm 1 a.natAbs = a.natAbs := Nat.lcm_one_left _
  rw [h1, Int.natAbs_natCast]
  have h2 : a.natAbs.lcm b.natAbs ≤ a.natAbs * b.natAbs := by
    by_cases h0 : a.natAbs * b.natAbs = 0
    · rw [h0]
      rcases Nat.mul_eq_zero.mp h0 with z | z <;> rw [z] <;> simp
    · exact Nat.le_of_dvd (Nat.pos_of_ne_zero h0) (Nat.lcm_dvd_mul _ _)
  have h3 : a.natAbs * b.natAbs < 2 ^ 64 * 2 ^ 64 := Nat.mul_lt_mul'' h.1 h.2
  have h4 : a.natAbs.lcm b.natAbs < 2 ^ 128 := Nat.lt_of_le_of_lt h2 (Nat.lt_of_lt_of_le h3 (by decide))
  exact Nat.lt_of_lt_of_le (PySem.Flt.log2_lt_of (by decide : 0 < 128) h4) (by decide)
def rLcm : List V → Hp → VK → Prop := fun vs H Q => ∃ a b : Int, vs = [.int a, .int b] ∧ LcmOk a b ∧ Q (.int (((Nat.lcm 1 a.natAbs).lcm b.natAbs : Nat) : Int)) H
theorem cr_lcm {X : Cx} : CallR X (.builtin "math.lcm") rLcm := by
  intro pins s σ H vs us Q I r h
  obtain ⟨a, b, rfl, hc, q⟩ := h
  obtain ⟨t, u, rfl⟩ := Vals.int2 r
  exact PySem.W.mg_lcm hc.1 hc.2 hc.fits ⟨.int _, H, I.tok _, ⟨_, rfl⟩, q⟩
noncomputable def gLcm : List PyData → Option R
  | [.int a, .int b] => if LcmOk a b then some (.val (.int (a.natAbs.lcm b.natAbs : Nat))) else none
  | _ => none
@[simp] theorem gLcm_int {a b : Int} : gLcm [.int a, .int b] = if LcmOk a b then some (.val (.int (a.natAbs.lcm b.natAbs : Nat))) else none := rfl
theorem rc_lcm {K : PySem.W.Frag} : RCD K rLcm gLcm := fun F H vs ds r fh h e Q q => by
  unfold gLcm at e
  split at e
  · split at e
    · cases e
      rename_i hc
      obtain ⟨v, w, rfl, d1, d2⟩ := dpa2 h
      rw [dp_int d1, dp_int d2]
      refine ⟨_, _, rfl, hc, ?_⟩
      rw [Nat.lcm_one_left]
      exact q F H _ (Grow.refl fh) (.int _)
    · cases e
  · cases e
end Dn
/-! Ds8: nested targets, clear, max and min of a list, x or y by truth, xs[i] += e. -/
namespace Dn
open PySem PySem.Spec PyProof.Rows L2
/-! ### targets within targets -/
abbrev GFs := List PyData → En → Option En
def DGs (K : PySem.W.Frag) (ws : List Nat) (t : TGs) (g : GFs) : Prop := ∀ (B F H : Hp) (σ : L2.St) (env env' : En) (vs : List V) (ds : List PyData), Slots K B F H σ env → Same F H → Same B H → DpAll K F vs ds → g ds env = some env' →
  ∀ Q : L2.St → Hp → Prop, (∀ F' H' σ', Grow F H F' H' → Slots K B F' H' σ' env' → (∀ us, (∀ i ∈ ws, i ∈ us) → wipe σ' us = wipe σ us) → Q σ' H') → t vs σ H Q
@[simp] def gtNil : GFs := fun ds env => match ds with
  | [] => some env
  | _ => none
@[simp] def gtCons (g : GF) (gs : GFs) : GFs := fun ds env => match ds with
  | d :: r => (g d env).bind fun e => gs r e
  | _ => none
@[simp] def gtTup (n : Nat) (gs : GFs) : GF := fun d env => match d with
  | .tuple ds => if ds.length = n then gs ds env else none
  | _ => none
def GOs (ws : List Nat) (g : GFs) : Prop := ∀ (ds : List PyData) (env env' : En), g ds env = some env' → (∀ k, k ∉ ws → env'[k]? = env[k]?) ∧ ∀ (k : Nat) (es : List PyData), env'[k]? = some (.own es) → k ∉ ws
theorem go_nil : GOs [] gtNil := fun ds env env' e => by
  unfold gtNil at e
  split at e
  · cases e
    exact ⟨fun _ _ => rfl, fun _ _ _ h => by cases h⟩
  · cases e
section
variable {K : PySem.W.Frag}
theorem dgs_nil : DGs K [] gNil gtNil := fun B F H σ env env' vs ds S fh bh h e Q q => by
  unfold gtNil at e
  split at e
  · cases e
    cases h
    exact ⟨rfl, q F H σ (Grow.refl fh) S fun _ _ => rfl⟩
  · cases e
theorem dgs_cons {ws us : List Nat} {t : TG} {g : GF} {ts : TGs} {gs : GFs} (h1 : DG K ws t g) (h2 : DGs K us ts gs) : DGs K (ws ++ us) (gCons t ts) (gtCons g gs) := fun B F H σ env env' vs ds S fh bh h e Q q => by
  unfold gtCons at e
  split at e
  · rename_i d r
    obtain ⟨e1, ee, e⟩ := bnd e
    cases h with
    | cons a b =>
      refine ⟨_, _, rfl, h1 B F H σ env e1 _ _ S fh bh a ee _ fun F1 H1 σ1 g1 S1 w1 => ?_⟩
      refine h2 B F1 H1 σ1 e1 env' _ _ S1 g1.i (bh.trans g1.h) (dpa_mono g1.f b) e Q fun F2 H2 σ2 g2 S2 w2 => ?_
      exact q F2 H2 σ2 (g1.trans g2) S2 fun us' hu => by rw [w2 us' fun i hi => hu i (List.mem_append_right _ hi), w1 us' fun i hi => hu i (List.mem_append_left _ hi)]
  · cases e
theorem dg_tupN {n : Nat} {ws : List Nat} {ts : TGs} {gs : GFs} (h : DGs K ws ts gs) : DG K ws (gTup K n ts) (gtTup n gs) := fun B F H σ env env' v d S fh bh hd e Q q => by
  unfold gtTup at e
  split at e
  · split at e
    · rename_i hl
      cases hd with
      | tup hs ha => exact ⟨_, _, rfl, sqT_mono fh hs, by rw [DpAll.len ha]; exact hl, h B F H σ env env' _ _ S fh bh ha e Q q⟩
    · cases e
  · cases e
end
theorem gos_cons {ws us : List Nat} {g : GF} {gs : GFs} (h1 : GO ws g) (h2 : GOs us gs) : GOs (ws ++ us) (gtCons g gs) := fun ds env env' e => by
  unfold gtCons at e
  split at e
  · obtain ⟨e1, ee, e⟩ := bnd e
    obtain ⟨a1, a2⟩ := h1 _ _ _ ee
    obtain ⟨b1, b2⟩ := h2 _ _ _ e
    refine ⟨fun k hk => ?_, fun k es hes hk => ?_⟩
    · rw [b1 k fun z => hk (List.mem_append_right _ z), a1 k fun z => hk (List.mem_append_left _ z)]
    · have hu := b2 k es hes
      rcases List.mem_append.mp hk with hw | hw
      · rw [b1 k hu] at hes
        exact a2 k hw es hes
      · exact hu hw
  · cases e
theorem go_tupN {n : Nat} {ws : List Nat} {gs : GFs} (h : GOs ws gs) : GO ws (gtTup n gs) := fun d env env' e => by
  unfold gtTup at e
  split at e
  · split at e
    · obtain ⟨a, b⟩ := h _ _ _ e
      exact ⟨a, fun k hk ds hd => b k ds hd hk⟩
    · cases e
  · cases e
structure SGs (X : Cx) (ts : List Expr) (ws : List Nat) (t : TGs) (g : GFs) : Prop where
  pg : PGs X ts t
  d : DGs X.K ws t g
theorem sgs_nil {X : Cx} : SGs X [] [] gNil gtNil := ⟨pgs_nil, dgs_nil⟩
theorem sgs_cons {X : Cx} {e : Expr} {es : List Expr} {ws us : List Nat} {t : TG} {g : GF} {ts : TGs} {gs : GFs} (h1 : SG X e ws t g) (h2 : SGs X es us ts gs) (hs : (assignEach (e :: es) X.env).map (·.2) = assign e X.env :: (assignEach es X.env).map (·.2) := by rfl) : SGs X (e :: es) (ws ++ us) (gCons t ts) (gtCons g gs) := ⟨pgs_cons h1.pg h2.pg hs, dgs_cons h1.d h2.d⟩
theorem sg_tupN {X : Cx} {K : PySem.W.Frag} {es : List Expr} {k n : Nat} {pos : Pos} {ws : List Nat} {t : TGs} {g : GFs} (hc : X.calm = true) (h : SGs X es ws t g) (hn : (assignEach es X.env).length = n := by rfl) (hst : (assignEach es X.env).findIdx? (·.1) = none := by rfl) (hK : X.K = K := by rfl) :
    SG X (.Tuple es k pos) ws (gTup K n t) (gtTup n g) := by
  subst hK
  exact ⟨pg_tup hc h.pg hn hst, dg_tupN h.d⟩
/-! ### xs.clear() -/
@[simp] def sClear (i : Nat) : SF := fun env => match env[i]? with
  | some (.own _) => some (.nx (env.set i (.own [])))
  | _ => none
theorem ds_clear {K : PySem.W.Frag} {i : Nat} : DS K (tDrop (tBM0 K "list" rClear (tVar i))) (sClear i) := fun F0 H0 F H σ env o S e D q => by
  unfold sClear at e
  split at e
  · rename_i ds hd
    cases e
    obtain ⟨p, xs, h1, h0, h2, h3, h4⟩ := S.s.own hd
    exact ⟨_, h1, Or.inl ⟨rfl, _, .inl (.inl h3)⟩, p, xs, rfl, rfl, h3, q F _ _ (Same.refl F) (S.turn hd h1 .nil)⟩
  · cases e
theorem ss_clear {X : Cx} {o : Expr} {apos cpos pos : Pos} {j : Nat} (h0 : PE X o (tVar j)) (hs : swapsWith (.Call (.Attribute o "clear" apos) [] [] cpos) none pos.line X.env = pure false := by rfl)
    (hbase : attributeBase o "clear" X.env (eval o X.env) = eval o X.env := by rfl) (hline : (apos.endLine == cpos.line) = true := by rfl) :
    SS X (.Expr (.Call (.Attribute o "clear" apos) [] [] cpos) pos) (tDrop (tBM0 X.K "list" rClear (tVar j))) (sClear j) :=
  ⟨ps_expr (pe_bm0 PySem.F.plainAttrs_list PySem.F.slot_list_clear PySem.F.type_list_clear mt_clear h0 hbase hline) hs, ds_clear⟩
/-! ### max, min of a list of ints -/
def maxI : List Int → Option Int
  | [] => none
  | x :: xs => some (xs.foldl (fun a b => if a < b then b else a) x)
def minI : List Int → Option Int
  | [] => none
  | x :: xs => some (xs.foldl (fun a b => if b < a then b else a) x)
theorem foldl_max (xs : List Int) : ∀ x : Int, xs.foldl (fun a b => if a < b then b else a) x ∈ x :: xs ∧ ∀ y ∈ x :: xs, y ≤ xs.foldl (fun a b => if a < b then b else a) x := by
  induction xs with
  | nil => intro x; simp
  | cons z xs ih =>
    intro x
    rw [List.foldl_cons]
    obtain ⟨h1, h2⟩ := ih (if x < z then z else x)
    generalize List.foldl _ (if x < z then z else x) xs = m at *
    have h3 := h2 _ List.mem_cons_self
    refine ⟨?_, fun y hy => ?_⟩
    · cases h1 with
      | head => split <;> simp
      | tail _ h1 => exact List.mem_cons_of_mem _ (List.mem_cons_of_mem _ h1)
    · rcases List.mem_cons.mp hy with rfl | hy
      · refine Int.le_trans ?_ h3
        split <;> omega
      · rcases List.mem_cons.mp hy with rfl | hy
        · refine Int.le_trans ?_ h3
          split <;> omega
        · exact h2 y (List.mem_cons_of_mem _ hy)
theorem foldl_min (xs : List Int) : ∀ x : Int, xs.foldl (fun a b => if b < a then b else a) x ∈ x :: xs ∧ ∀ y ∈ x :: xs, xs.foldl (fun a b => if b < a then b else a) x ≤ y := by
  induction xs with
  | nil => intro x; simp
  | cons z xs ih =>
    intro x
    rw [List.foldl_cons]
    obtain ⟨h1, h2⟩ := ih (if z < x then z else x)
    generalize List.foldl _ (if z < x then z else x) xs = m at *
    have h3 := h2 _ List.mem_cons_self
    refine ⟨?_, fun y hy => ?_⟩
    · cases h1 with
      | head => split <;> simp
      | tail _ h1 => exact List.mem_cons_of_mem _ (List.mem_cons_of_mem _ h1)
    · rcases List.mem_cons.mp hy with rfl | hy
      · refine Int.le_trans h3 ?_
        split <;> omega
      · rcases List.mem_cons.mp hy with rfl | hy
        · refine Int.le_trans h3 ?_
          split <;> omega
        · exact h2 y (List.mem_cons_of_mem _ hy)
theorem maxI_is {ns : List Int} {m a : Int} (h : maxI ns = some m) (h1 : a ∈ ns) (h2 : ∀ y ∈ ns, y ≤ a) : a = m := by
  cases ns with
  | nil => cases h
  | cons x xs =>
    have h : xs.foldl (fun a b => if a < b then b else a) x = m := Option.some.inj h
    obtain ⟨h3, h4⟩ := foldl_max xs x
    rw [h] at h3 h4
    have := h4 a h1
    have := h2 m h3
    omega
theorem minI_is {ns : List Int} {m a : Int} (h : minI ns = some m) (h1 : a ∈ ns) (h2 : ∀ y ∈ ns, a ≤ y) : a = m := by
  cases ns with
  | nil => cases h
  | cons x xs =>
    have h : xs.foldl (fun a b => if b < a then b else a) x = m := Option.some.inj h
    obtain ⟨h3, h4⟩ := foldl_min xs x
    rw [h] at h3 h4
    have := h4 a h1
    have := h2 m h3
    omega
@[simp] def gMax : List PyData → Option R
  | [.list ds] => (intsD ds).bind fun ns => (maxI ns).bind fun m => some (.val (.int m))
  | _ => none
@[simp] def gMin : List PyData → Option R
  | [.list ds] => (intsD ds).bind fun ns => (minI ns).bind fun m => some (.val (.int m))
  | _ => none
section
variable {K : PySem.W.Frag}
theorem rc_max : RCD K (rMax K) gMax := fun F H vs ds r fh h e Q q => by
  unfold gMax at e
  split at e
  · obtain ⟨ns, en, e⟩ := bnd e
    obtain ⟨m, em, e⟩ := bnd e
    cases e
    obtain ⟨v, rfl, d⟩ := dpa1 h
    obtain ⟨a, xs, rfl, s1, a1⟩ := dp_list d
    rw [intsD_ok a1 en] at s1
    refine ⟨a, ns, rfl, sqL_mono fh s1, ?_, fun x h1 h2 => ?_⟩
    · cases ns with
      | nil => cases em
      | cons _ _ => simp
    · rw [maxI_is em h1 h2]
      exact q F H _ (Grow.refl fh) (.int _)
  · cases e
theorem rc_min : RCD K (rMin K) gMin := fun F H vs ds r fh h e Q q => by
  unfold gMin at e
  split at e
  · obtain ⟨ns, en, e⟩ := bnd e
    obtain ⟨m, em, e⟩ := bnd e
    cases e
    obtain ⟨v, rfl, d⟩ := dpa1 h
    obtain ⟨a, xs, rfl, s1, a1⟩ := dp_list d
    rw [intsD_ok a1 en] at s1
    refine ⟨a, ns, rfl, sqL_mono fh s1, ?_, fun x h1 h2 => ?_⟩
    · cases ns with
      | nil => cases em
      | cons _ _ => simp
    · rw [minI_is em h1 h2]
      exact q F H _ (Grow.refl fh) (.int _)
  · cases e
end
section
variable {X : Cx} {x : Str} {p pos : Pos} {e a b : Expr} {es : List Expr} {t : TA} {af : AF}
theorem se_c_max {K : PySem.W.Frag} (hg : Gl X x) (hm : X.mg x = none) (hv : bootBuiltins x = some (.builtin "max")) (ha : SA X (e :: es) t af) (hn : x ≠ "__name__" := by decide) (hdb : (x == ("__debug__" : Str)) = false := by decide)
    (he : starEach (e :: es) X.env = (false, eval e X.env) :: starEach es X.env := by rfl) (hpl : (backTo pos (starEach es X.env)).any (·.1) = false := by rfl) (hc : X.calm = true := by rfl) (hK : X.K = K := by rfl) : SE X (.Call (.Name x p) (e :: es) [] pos) (tCB (rMax K) t) (eCall gMax af) := by
  subst hK
  exact se_cb (cr_max hc) rc_max hg hm hv ha hn hdb he hpl
theorem se_c_min {K : PySem.W.Frag} (hg : Gl X x) (hm : X.mg x = none) (hv : bootBuiltins x = some (.builtin "min")) (ha : SA X (e :: es) t af) (hn : x ≠ "__name__" := by decide) (hdb : (x == ("__debug__" : Str)) = false := by decide)
    (he : starEach (e :: es) X.env = (false, eval e X.env) :: starEach es X.env := by rfl) (hpl : (backTo pos (starEach es X.env)).any (·.1) = false := by rfl) (hc : X.calm = true := by rfl) (hK : X.K = K := by rfl) : SE X (.Call (.Name x p) (e :: es) [] pos) (tCB (rMin K) t) (eCall gMin af) := by
  subst hK
  exact se_cb (cr_min hc) rc_min hg hm hv ha hn hdb he hpl
/-! ### x or y by truth, of lists -/
@[simp] def eOrT (f g : EF) : EF := fun env => (f env).bind fun r => (truD r.frz).bind fun b => if b = true then some r else g env
theorem de_orT {K : PySem.W.Frag} {ta tb : TE} {f g : EF} (h1 : DE K ta f) (h2 : DE K tb g) : DE K (tOrT K ta tb) (eOrT f g) := fun B F H σ env r S fh bh e Q q => by
  obtain ⟨r1, e1, e⟩ := bnd e
  obtain ⟨k, ek, e⟩ := bnd e
  refine h1 B F H σ env r1 S fh bh e1 _ fun F1 H1 v g1 rr => ?_
  obtain ⟨F2, g2, s2, d2⟩ := rr.frz g1
  have tv : TruV K v H1 k := by
    cases hr : r1.frz with
    | list ds =>
      rw [hr] at ek d2
      cases ek
      obtain ⟨a, xs, rfl, h, ha⟩ := dp_list d2
      exact .inl ⟨xs, sqL_mono g2.i h, empty_dp ha⟩
    | tuple ds =>
      rw [hr] at ek d2
      cases ek
      obtain ⟨a, xs, rfl, h, ha⟩ := dp_tuple d2
      exact .inr (.inl ⟨xs, sqT_mono g2.i h, empty_dp ha⟩)
    | none =>
      rw [hr] at ek d2
      cases ek
      cases d2
      exact rfl
    | bool b =>
      rw [hr] at ek d2
      cases ek
      rw [dp_bool d2]
      exact rfl
    | int i =>
      rw [hr] at ek d2
      cases ek
      rw [dp_int d2]
      exact rfl
    | str _ => rw [hr] at ek; cases ek
    | dict _ => rw [hr] at ek; cases ek
  refine ⟨k, tv, ?_⟩
  cases k with
  | true =>
    cases e
    exact iteT (q F1 H1 v g1 rr)
  | false => exact iteF (h2 B F1 H1 σ env r (S.grow g1) g1.i (bh.trans g1.h) e Q fun F3 H3 w g3 rr3 => q F3 H3 w (g1.trans g3) (rr3.back g1))
theorem se_orT {K : PySem.W.Frag} {ta tb : TE} {f g : EF} {rest : List Expr} (h1 : SE X a ta f) (h2 : SE X (.BoolOp .Or (b :: rest) pos) tb g) (hK : X.K = K := by rfl) : SE X (.BoolOp .Or (a :: b :: rest) pos) (tOrT K ta tb) (eOrT f g) := by
  subst hK
  exact ⟨pe_orT h1.pe h2.pe, de_orT h1.de h2.de⟩
end
/-! ### xs[i] += e, of ints -/
def rGetL : V → V → Hp → VK → Prop := fun x y H Q => ∃ p xs i v, x = .ref p ∧ y = .int i ∧ H p = some (.lst xs) ∧ atI xs i = some v ∧ Q v H
theorem get_list {X : Cx} : PGet X rGetL := by
  intro pins s σ H x y v u Q I rx ry h
  obtain ⟨p, xs, i, z, rfl, rfl, hq, he, q⟩ := h
  cases rx
  obtain ⟨t, rfl⟩ := ry
  obtain ⟨its, r, pl, hz⟩ := I.list (.inl (.inl hq))
  obtain ⟨j, h1, h2, h3, h4, h5⟩ := atI_get he
  obtain ⟨w, ew, rw'⟩ := r.get h2
  have hl := r.length
  have hn := line63
  have fin : EP X pins σ Q w s := ⟨z, H, I, rw', q⟩
  by_cases h0 : 0 ≤ i
  · have hj : i.toNat = j := by
      rw [seqIndex_of h0 h5] at h1
      exact Option.some.inj h1
    exact wpAny_getItem_list pl.isList h0 (by omega) (by rw [hj]; simpa using ew) fin
  · have hj : (i + (its.toArray.size : Int)).toNat = j := by
      rw [seqIndex_neg (by omega) h4] at h1
      rw [List.size_toArray, ← hl]
      exact Option.some.inj h1
    exact wpAny_getItem_list_neg pl.isList (by omega) (by rw [List.size_toArray] <;> omega) (by omega) (by rw [hj]; simpa using ew) fin
/-- the index is asked first, then the item, then e -/
@[simp] def sAugIx (i : Nat) (fi fe : EF) : SF := fun env => match env[i]? with
  | some (.own ds) => (fi env).bind fun k => match k.frz with
    | .int k => (ixN ds.length k).bind fun j => (atI ds k).bind fun d => (fe env).bind fun r => match d, r.frz with
      | .int a, .int b => some (.nx (env.set i (.own (ds.set j (.int (a + b))))))
      | _, _ => none
    | _ => none
  | _ => none
theorem ds_augIx {K : PySem.W.Frag} {ti te : TE} {fi fe : EF} {i : Nat} (hi : DE K ti fi) (he : DE K te fe) : DS K (tAugS (tVar i) ti te rGetL (ipI fun i j => i + j) rSetL) (sAugIx i fi fe) := fun F0 H0 F H σ env o S e D q => by
  unfold sAugIx at e
  split at e
  case h_2 => cases e
  rename_i ds hd
  obtain ⟨k, ek, e⟩ := bnd e
  split at e
  case h_2 => cases e
  rename_i k' hk
  obtain ⟨j, ej, e⟩ := bnd e
  obtain ⟨d, ed, e⟩ := bnd e
  obtain ⟨r, er, e⟩ := bnd e
  split at e
  case h_2 => cases e
  rename_i a b h1 h2
  cases e
  obtain ⟨p, xs, k1, k0, k2, k3, k4⟩ := S.s.own hd
  refine ⟨_, k1, hi.atZ S ek fun F1 H1 y g1 dy => ?_⟩
  have S1 := S.grow g1
  rw [hk] at dy
  rw [dp_int dy]
  obtain ⟨v, ev, dv⟩ := DpAll.at k4 ed
  refine ⟨p, xs, k', v, rfl, rfl, g1.h _ _ k3, ev, ?_⟩
  refine he.atZ S1 er fun F2 H2 w g2 dw => ?_
  have S2 := S1.grow g2
  rw [h1] at dw
  rw [dp_int dw, dp_int dv]
  refine ⟨a, b, rfl, rfl, ?_⟩
  have ln := DpAll.len k4
  refine ⟨p, xs, k', j, rfl, rfl, g2.h _ _ (g1.h _ _ k3), by rw [ln]; exact ej, ?_⟩
  exact q F2 _ _ (g1.f.trans g2.f) (S2.turn hd k1 (DpAll.set j (dpa_mono (g1.f.trans g2.f) k4) (.int _)))
theorem ss_augIx {X : Cx} {o i e : Expr} {j : Nat} {ti te : TE} {fi fe : EF} {tpos pos : Pos} (h0 : PE X o (tVar j)) (h1 : SE X i ti fi) (h2 : SE X e te fe)
    (ha : ∀ ov iv new, augStore i ov iv new = (do holding [new, ov, iv] (setItem ov iv new); release [new, ov, iv] []; pure .next) := by intros; rfl) :
    SS X (.AugAssign (.Subscript o i tpos) .Add e pos) (tAugS (tVar j) ti te rGetL (ipI fun i j => i + j) rSetL) (sAugIx j fi fe) := ⟨ps_augS h0 h1.pe get_list h2.pe ip_add set_list ha, ds_augIx h1.de h2.de⟩
/-! ### a walk over an owned list that stays -/
def IsOwn (env : En) (i : Nat) (ds : List PyData) : Prop := env[i]? = some (.own ds)
noncomputable instance (env : En) (i : Nat) (ds : List PyData) : Decidable (IsOwn env i ds) := Classical.propDecidable _
noncomputable def forO (i : Nat) (all : List PyData) (g : GF) (body : SFm) : List PyData → SFm
  | [], env => if IsOwn env i all then some (.nx env) else none
  | d :: ds, env => if IsOwn env i all then (g d env).bind fun e1 => turnM (body e1) (forO i all g body ds) else none
@[simp] noncomputable def mForO (i : Nat) (g : GF) (body : SFm) : SFm := fun env => match env[i]? with
  | some (.own ds) => forO i ds g body ds env
  | _ => none
theorem forO_own {i : Nat} {all ds : List PyData} {g : GF} {body : SFm} {env : En} {o : OutM} (h : forO i all g body ds env = some o) : IsOwn env i all := by
  cases ds with
  | nil =>
    unfold forO at h
    split at h
    · assumption
    · cases h
  | cons d r =>
    unfold forO at h
    split at h
    · assumption
    · cases h
theorem dsm_forO {mg : Str → Option Value} {K : PySem.W.Frag} {W : WX} {I : List Nat} {i : Nat} {t : TG} {g : GF} {ws : List Nat} {tb : TS} {body : SFm} (hg : DG K ws t g) (hb : DSM mg K W (i :: I) tb body) (hw : ∀ k ∈ ws, k ∉ (i :: I) := by decide) (hI : i ∉ I := by decide) : DSM mg K W I (tFor (iList K (tVar i)) t tb) (mForO i g body) := fun z F0 H0 F H σ env o S p e D q => by
  unfold mForO at e
  split at e
  case h_2 => cases e
  rename_i ds hd
  obtain ⟨a, xs0, h1, h0, h2, h3, h4⟩ := S.s.own hd
  let z' : Nat → Option (Option V) := fun k => if k = i then some (some (.ref a)) else z k
  have pI : ∀ {τ : L2.St}, Pin (i :: I) z' τ → Pin I z τ := fun {τ} h k hk => by
    have := h k (List.mem_cons_of_mem _ hk)
    rw [this]
    exact if_neg (fun e => hI (by rw [← e]; exact hk))
  have p0 : Pin (i :: I) z' σ := fun k hk => by
    by_cases e : k = i
    · subst e
      rw [h1]
      exact (if_pos rfl).symm
    · cases hk with
      | head => exact absurd rfl e
      | tail _ hk =>
        rw [p k hk]
        exact (if_neg e).symm
  refine ⟨_, h1, _, rfl, ⟨_, .inl (.inl h3)⟩, ?_⟩
  refine ⟨fun j m σ2 H2 => ∃ F2 e2, Same F F2 ∧ Sta K F0 H0 F2 H2 σ2 e2 ∧ Pin (i :: I) z' σ2 ∧ forO i ds g body (ds.drop j) e2 = some o ∧ j + m = ds.length, ⟨ds.length, F, env, Same.refl F, S, p0, e, by omega⟩, ?_⟩
  rintro j m σ2 H2 ⟨F2, e2, s2, S2, p2, eq, em⟩
  have own2 := forO_own eq
  obtain ⟨a', xs, k1, k0, k2, k3, k4⟩ := S2.s.own own2
  have hp : σ2[i]? = some (some (.ref a)) := by
    rw [p2 i List.mem_cons_self]
    exact if_pos rfl
  rw [hp] at k1
  injection k1 with k1
  injection k1 with k1
  injection k1 with k1
  subst k1
  have ln := DpAll.len k4
  cases hd2 : ds[j]? with
  | none =>
    have hl : ds.length ≤ j := List.getElem?_eq_none_iff.mp hd2
    rw [List.drop_eq_nil_of_le hl] at eq
    unfold forO at eq
    rw [if_pos own2] at eq
    cases eq
    exact .inl ⟨⟨xs, .inl (.inl k3), by omega⟩, q F2 H2 σ2 s2 S2 (pI p2)⟩
  | some d =>
    have hi : j < ds.length := (List.getElem?_eq_some_iff.mp hd2).1
    have hdr : ds.drop j = d :: ds.drop (j + 1) := by
      rw [List.drop_eq_getElem_cons hi]
      rw [List.getElem?_eq_getElem hi] at hd2
      cases hd2
      rfl
    rw [hdr] at eq
    unfold forO at eq
    rw [if_pos own2] at eq
    obtain ⟨e3, ee, eq⟩ := bnd eq
    obtain ⟨v, ev, dv⟩ := DpAll.get k4 hd2
    refine .inr ⟨⟨xs, v, .inl (.inl k3), ev⟩, fun σ' H' => ∃ F' e', Same F F' ∧ Sta K F0 H0 F' H' σ' e' ∧ Pin (i :: I) z' σ' ∧ forO i ds g body (ds.drop (j + 1)) e' = some o, fun σ' H' ⟨F', e', a, b, pp, c⟩ => ⟨m - 1, by omega, F', e', a, b, pp, c, by omega⟩, fun x H' hy => ?_⟩
    obtain ⟨rfl, y⟩ := hy
    have e2' := y xs (.inl (.inl k3))
    rw [ev] at e2'
    cases e2'
    refine hg H0 F2 H' σ2 e2 e3 _ d S2.s S2.fh S2.bh dv ee _ fun F4 H4 σ4 g4 S4 hw4 => ?_
    have S5 : Sta K F0 H0 F4 H4 σ4 e3 := ⟨S2.g.trans g4, S4⟩
    have p4 : Pin (i :: I) z' σ4 := p2.out hw4 hw
    have s4 : Same F F4 := s2.trans g4.f
    cases eb : body e3 with
    | none =>
      rw [eb, turnM_no] at eq
      cases eq
    | some ob =>
      rw [eb] at eq
      refine hb z' F0 H0 F4 H4 σ4 e3 ob S5 p4 eb _ ?_
      cases ob with
      | nx e4 => exact fun F5 H5 σ5 s5 S5 p5 => ⟨F5, e4, s4.trans s5, S5, p5, eq⟩
      | ct e4 => exact fun F5 H5 σ5 s5 S5 p5 => ⟨F5, e4, s4.trans s5, S5, p5, eq⟩
      | bk e4 =>
        rw [turnM_bk] at eq
        cases eq
        exact fun F5 H5 σ5 s5 S5 p5 => q F5 H5 σ5 (s4.trans s5) S5 (pI p5)
      | rt r w =>
        rw [turnM_rt] at eq
        cases eq
        cases w with
        | none => exact q
        | some en => exact fun F5 H5 σ5 v S5 p5 rr ap => q F5 H5 σ5 v S5 (pI p5) rr ap
      | ex x e4 =>
        rw [turnM_ex] at eq
        cases eq
        exact fun F5 H5 σ5 cls d s5 S5 p5 xx => q F5 H5 σ5 cls d (s4.trans s5) S5 (pI p5) xx
theorem sm_forO {X : Cx} {W : WX} {I : List Nat} {i : Nat} {K : PySem.W.Frag} {tg o : Expr} {tG : TG} {gf : GF} {ws : List Nat} {body : List Stmt} {tS : TS} {sf : SFm} {pos : Pos} (hp : PassesOwn (model X.prog X.w) X.A X.env X.xe) (hc : X.calm = true) (h0 : PE X o (tVar i)) (hg : SG X tg ws tG gf) (hb : SSsm X W (i :: I) body tS sf)
    (hI : ∀ k ∈ ws, k ∉ (i :: I) := by decide) (hi : i ∉ I := by decide) (hs : ∀ x, foldedSetIterable o X.env x = pure x := by intro _; rfl) (hK : X.K = K := by rfl) :
    SSm X W I (.For tg o body [] pos) (tFor (iList K (tVar i)) tG tS) (mForO i gf sf) := by
  subst hK
  exact ⟨ps_for hp hc (pi_list h0) hg.pg hb.ps hs, dsm_forO hg.d hb.ds hI hi⟩
/-! ### a, b, c = x, y, z of plain names -/
@[simp] def sPar3 (i j l : Nat) (t : AF) : SF := fun env => (t env).bind fun ds => match ds with
  | [a, b, c] => some (.nx (((env.set i (.val a)).set j (.val b)).set l (.val c)))
  | _ => none
theorem ds_par3 {K : PySem.W.Frag} {i j l : Nat} {t : TA} {af : AF} (h : DA K t af) : DS K (tPar3 i j l t) (sPar3 i j l af) := fun F0 H0 F H σ env o S e D q => by
  obtain ⟨ds, ea, e⟩ := bnd e
  split at e
  case h_2 => cases e
  rename_i a b c
  cases e
  refine h H0 F H σ env _ S.s S.g.i S.bh ea _ fun F1 H1 vs g d1 => ?_
  cases d1 with
  | cons d1 r =>
    cases r with
    | cons d2 r =>
      cases r with
      | cons d3 r =>
        cases r
        have S1 := S.grow g
        refine ⟨_, _, _, rfl, q F1 H1 _ g.f ⟨S1.g, ?_⟩⟩
        exact (((S1.s.put (r := .val a) S1.bh (Grow.refl S1.g.i) d1).put (r := .val b) S1.bh (Grow.refl S1.g.i) d2).put (r := .val c) S1.bh (Grow.refl S1.g.i) d3)
theorem ss_par3 {X : Cx} {i j l : Nat} {x y z : Str} {a b c : Expr} {ta : TA} {af : AF} {px py pz pt pos : Pos} {kt k2 pt2} (hN : X.N.Nodup) (ha : SA X [a, b, c] ta af) (hc : X.calm = true := by rfl) (hi : X.N[i]? = some x := by rfl) (hj : X.N[j]? = some y := by rfl) (hl : X.N[l]? = some z := by rfl) (hij : i ≠ j := by decide) (hil : i ≠ l := by decide) (hjl : j ≠ l := by decide)
    (hx : X.env.scope.names.lookup x = some .local := by rfl) (hy : X.env.scope.names.lookup y = some .local := by rfl) (hz : X.env.scope.names.lookup z = some .local := by rfl)
    (hw : swappedStores [.Tuple [.Name x px, .Name y py, .Name z pz] kt pt] (.Tuple [a, b, c] k2 pt2) X.env = pure (some [x, y, z]) := by rfl)
    (hs : swapsWithSole [.Tuple [.Name x px, .Name y py, .Name z pz] kt pt] (.Tuple [a, b, c] k2 pt2) pos.line X.env = pure false := by rfl) :
    SS X (.Assign [.Tuple [.Name x px, .Name y py, .Name z pz] kt pt] (.Tuple [a, b, c] k2 pt2) pos) (tPar3 i j l ta) (sPar3 i j l af) := ⟨ps_par3 hc hN hi hj hl hij hil hjl hx hy hz ha.pa hw hs, ds_par3 ha.da⟩
end Dn
/-! Dm1: mathematics that every law wants, over Dn. -/
namespace Dn
open PySem PySem.Spec PyProof.Rows L2
theorem fnD_eq {N n : Nat} {f : SF} {ds : List PyData} (h : ds.length = n) : fnD N n f ds = resO (f (startD N n ds)) := by
  unfold fnD
  rw [if_pos h]
/-! sizes -/
theorem lt_divLim {n : Nat} (h : n < 2 ^ 64) : n < divLim := Nat.lt_of_lt_of_le h (Nat.pow_le_pow_right (by decide) (by decide))
theorem divLim_mulLim {n : Nat} (h : n < divLim) : n < mulLim := Nat.lt_of_lt_of_le h (Nat.pow_le_pow_right (by decide) (by decide))
theorem lt_mulLim {n : Nat} (h : n < 2 ^ 64) : n < mulLim := divLim_mulLim (lt_divLim h)
theorem fd_small {i j : Int} (h0 : 0 < j) (h1 : j < 2 ^ 64) : FdOk i j := ⟨by omega, lt_divLim (by omega)⟩
theorem mul_r {i j : Int} (h : j.natAbs < 2 ^ 64) : MulOk i j := .inr (.inl h)
theorem mul_l {i j : Int} (h : i.natAbs < 2 ^ 64) : MulOk i j := .inl h
theorem mul_w {i j : Int} (h : i.natAbs < mulLim) (h' : j.natAbs < mulLim) : MulOk i j := .inr (.inr ⟨h, h'⟩)
theorem fmod_pos {i j : Int} (h : 0 < j) : i.fmod j = i % j := Int.fmod_eq_emod_of_nonneg i (by omega)
theorem fdiv_pos {i j : Int} (h : 0 < j) : i.fdiv j = i / j := Int.fdiv_eq_ediv_of_nonneg i (by omega)
theorem inR_of {n : Int} (h0 : 0 ≤ n) (h1 : n < 2 ^ 61) : InR n := ⟨by omega, by omega⟩
theorem fits {n : Nat} (h : n ≤ 100000) : Fits n := h
theorem shp_int (i : Int) : Shp (.int i) := rfl
theorem shp_bool (i : Bool) : Shp (.bool i) := rfl
theorem shp_none : Shp .none := rfl
/-! == of ints, bools -/
@[simp] theorem gEq_int {i j : Int} : gEq (.int i) (.int j) = some (.val (.bool (decide (i = j)))) := by
  unfold gEq
  rw [if_pos ⟨rfl, rfl⟩]
  show some (R.val (PyData.bool (i == j))) = _
  rw [Bool.beq_eq_decide_eq]
@[simp] theorem gNe_int {i j : Int} : gNe (.int i) (.int j) = some (.val (.bool (!decide (i = j)))) := by
  unfold gNe
  rw [if_pos ⟨rfl, rfl⟩]
  show some (R.val (PyData.bool (!(i == j)))) = _
  rw [Bool.beq_eq_decide_eq]
/-! places -/
theorem ixN_nat {n : Nat} {k : Int} (h0 : 0 ≤ k) (h1 : k < n) : ixN n k = some k.toNat := by
  unfold ixN
  rw [if_pos h0, if_pos h1]
theorem atI_nat' {α : Type} {xs : List α} {k : Int} {x : α} (h0 : 0 ≤ k) (h1 : xs[k.toNat]? = some x) : atI xs k = some x := by
  have hl : k.toNat < xs.length := (List.getElem?_eq_some_iff.mp h1).1
  unfold atI
  rw [ixN_nat h0 (by omega)]
  exact h1
/-! comprehensions -/
theorem lcD_map {vs : List Nat} {g : GF} {c : TF} {f : EF} {env : En} (h : PyData → PyData) : ∀ {ds : List PyData}, (∀ d ∈ ds, ∃ e1 r, g d (wipeD env vs) = some e1 ∧ c e1 = some true ∧ f e1 = some r ∧ r.frz = h d) → lcD vs g c f env ds = some (ds.map h)
  | [], _ => rfl
  | d :: ds, hd => by
    obtain ⟨e1, r, h1, h2, h3, h4⟩ := hd d List.mem_cons_self
    have ih := lcD_map (ds := ds) h fun x hx => hd x (List.mem_cons_of_mem _ hx)
    unfold lcD
    rw [h1, Option.bind_some, h2, Option.bind_some, if_pos rfl, h3, Option.bind_some, ih, Option.bind_some, h4, List.map_cons]
theorem eLc_eq {vs : List Nat} {it : IF} {g : GF} {c : TF} {f : EF} {env : En} {ds rs : List PyData} (h1 : it env = some ds) (hl : Fits ds.length) (h2 : lcD vs g c f env ds = some rs) : eLc vs it g c f env = some (.own rs) := by
  unfold eLc
  rw [h1, Option.bind_some, if_pos hl, h2, Option.bind_some]
theorem sFor_eq {it : IF} {g : GF} {body : SF} {env : En} {ds : List PyData} (h1 : it env = some ds) : sFor it g body env = forD g body ds env := by
  unfold sFor
  rw [h1, Option.bind_some]
/-! loops -/
theorem forD_inv {g : GF} {body : SF} {ds : List PyData} (P : Nat → En → Prop) (turn : ∀ i env d, P i env → ds[i]? = some d → ∃ e1 e2, g d env = some e1 ∧ body e1 = some (.nx e2) ∧ P (i + 1) e2) {env : En} (h : P 0 env) : ∃ e, forD g body ds env = some (.nx e) ∧ P ds.length e := by
  suffices H : ∀ (n i : Nat) (env : En), i + n = ds.length → P i env → ∃ e, forD g body (ds.drop i) env = some (.nx e) ∧ P ds.length e by
    have := H ds.length 0 env (by omega) h
    rwa [List.drop_zero] at this
  intro n
  induction n with
  | zero =>
    intro i env e p
    rw [List.drop_eq_nil_of_le (by omega)]
    have : i = ds.length := by omega
    subst this
    exact ⟨env, rfl, p⟩
  | succ n ih =>
    intro i env e p
    have hi : i < ds.length := by omega
    obtain ⟨e1, e2, h1, h2, h3⟩ := turn i env ds[i] p (List.getElem?_eq_getElem hi)
    obtain ⟨e', h4, h5⟩ := ih (i + 1) e2 (by omega) h3
    refine ⟨e', ?_, h5⟩
    rw [List.drop_eq_getElem_cons hi]
    unfold forD
    rw [h1]
    show turnO (body e1) _ = _
    rw [h2]
    exact h4
theorem intsFrom_at {n : Nat} {lo : Int} {i : Nat} {d : PyData} (h : (intsFrom lo n)[i]? = some d) : i < n ∧ d = .int (lo + i) := by
  have hi : i < n := by
    have := (List.getElem?_eq_some_iff.mp h).1
    rwa [intsFrom_len] at this
  rw [intsFrom_get n lo i hi] at h
  cases h
  exact ⟨hi, rfl⟩
/-! Euclid -/
/-- n turns at most of (a, b) := (b, a mod b), as the loop goes -/
def euc : Nat → Int → Int → Int
  | 0, a, _ => a
  | n + 1, a, b => if b = 0 then a else euc n b (a % b)
def gcdI (a b : Int) : Int := (Nat.gcd a.natAbs b.natAbs : Nat)
theorem gcdI_step {a b : Int} (ha : 0 ≤ a) (hb : 0 < b) : gcdI b (a % b) = gcdI a b := by
  unfold gcdI
  have e : (a % b).natAbs = a.natAbs % b.natAbs := by
    obtain ⟨m, rfl⟩ := Int.eq_ofNat_of_zero_le ha
    obtain ⟨n, rfl⟩ := Int.eq_ofNat_of_zero_le (Int.le_of_lt hb)
    rw [← Int.natCast_emod, Int.natAbs_natCast, Int.natAbs_natCast, Int.natAbs_natCast]
  rw [e, Nat.gcd_comm b.natAbs, ← Nat.gcd_rec, Nat.gcd_comm]
theorem euc_gcd : ∀ (k n : Nat) (a b : Int), 0 ≤ a → 0 ≤ b → b < 2 ^ k → 2 * k + 1 ≤ n → euc n a b = gcdI a b
  | 0, n, a, b, ha, hb, h, hn => by
    have : b = 0 := by
      have : b < 1 := h
      omega
    subst this
    obtain ⟨m, rfl⟩ : ∃ m, n = m + 1 := ⟨n - 1, by omega⟩
    unfold euc
    rw [if_pos rfl]
    unfold gcdI
    simp
    omega
  | k + 1, n, a, b, ha, hb, h, hn => by
    obtain ⟨m, rfl⟩ : ∃ m, n = m + 2 := ⟨n - 2, by omega⟩
    unfold euc
    by_cases h0 : b = 0
    · subst h0
      rw [if_pos rfl]
      unfold gcdI
      simp
      omega
    · rw [if_neg h0]
      have hb' : 0 < b := by omega
      have hr0 := Int.emod_nonneg a h0
      have hr1 := Int.emod_lt_of_pos a hb'
      rw [← gcdI_step ha hb']
      unfold euc
      by_cases h1 : a % b = 0
      · rw [if_pos h1, h1]
        unfold gcdI
        simp
        omega
      · rw [if_neg h1]
        have hr' : 0 < a % b := by omega
        have hs0 := Int.emod_nonneg b h1
        have hs1 := Int.emod_lt_of_pos b hr'
        rw [← gcdI_step (by omega) hr']
        refine euc_gcd k m _ _ (by omega) hs0 ?_ (by omega)
        have hq : 1 ≤ b / (a % b) := Int.le_ediv_of_mul_le hr' (by omega)
        have hd := Int.mul_ediv_add_emod b (a % b)
        have : (a % b) * 1 ≤ (a % b) * (b / (a % b)) := Int.mul_le_mul_of_nonneg_left hq (by omega)
        have e2 : (2 : Int) ^ (k + 1) = 2 * 2 ^ k := by rw [Int.pow_succ, Int.mul_comm]
        rw [e2] at h
        omega
end Dn
namespace Law
open PySem PySem.Spec PyProof.Rows L2 Dn
def topS (i : Nat) : Stmt := PySem.Challenge.pw_oddkeep_k32_what_lists_are.main.body.getD i (.Pass ⟨0, 0, 0, 0⟩)
abbrev s_number : Stmt := topS 2
abbrev s__law_draws : Stmt := topS 14
abbrev s__law_gcd : Stmt := topS 15
abbrev s__law_short : Stmt := topS 25
abbrev s_plus : Stmt := topS 3
abbrev s_times : Stmt := topS 4
abbrev s__law_number : Stmt := topS 16
abbrev s_total : Stmt := topS 5
abbrev s__law_plus : Stmt := topS 17
abbrev s__law_times : Stmt := topS 18
abbrev s__law_small : Stmt := topS 24
abbrev s__row_value : Stmt := topS 11
abbrev s__law_minus : Stmt := topS 19
abbrev s__law_sum : Stmt := topS 22
abbrev s__law_numbers : Stmt := topS 26
abbrev s__law_plus_row : Stmt := topS 33
abbrev s_is_solution : Stmt := topS 8
abbrev s_is_direction : Stmt := topS 9
abbrev s__added_up : Stmt := topS 12
abbrev s__law_dot : Stmt := topS 23
abbrev s__law_mixed : Stmt := topS 34
abbrev s_refutes : Stmt := topS 10
abbrev s__law_value : Stmt := topS 27
abbrev s__law_added : Stmt := topS 30
abbrev s__law_solves : Stmt := topS 28
abbrev s__law_directs : Stmt := topS 29
abbrev s__law_refutes : Stmt := topS 31
abbrev s__law_steps : Stmt := topS 32
abbrev s_law : Stmt := topS 35
noncomputable def b_number : SF :=
  (sSeq (sSet 2 (eCall gGcd (aCons (eVar 0) (aCons (eVar 1) aNil))))
    (sSeq (sIf (tE (eBin gLt (eVar 1) (eC (.int 0)))) (sSet 2 (eUn gNeg (eVar 2))) sNext)
    (sRet (eTup (aCons (eBin gFdiv (eVar 0) (eVar 2)) (aCons (eBin gFdiv (eVar 1) (eVar 2)) aNil))))))
noncomputable abbrev m_number := fnD 3 2 b_number
noncomputable def b__law_draws_1 : EF :=
  (eLc [6] (iS (eVar 0)) (gtName 6) tYesD (eVar 6))
noncomputable def b__law_draws_2 : SF :=
  (sSeq (sSet 5 (eC (.int 0)))
    (sSeq (sIf (tE (eBin gGt (ePeek (eCall gLen (aCons (eVar 2) aNil))) (eC (.int 0)))) (sSeq (sSet 7 (eBin gMod (eCall gInt (aCons (eVar 4) aNil)) (ePeek (eCall gLen (aCons (eVar 2) aNil)))))
    (sIf (tE (eBin gGe (eIxO 2 (eVar 7)) (eBin gPow (eC (.int 10)) (eC (.int 18))))) (sSeq (sSet 5 (eBin gMod (eCall gInt (aCons (eIxO 2 (eVar 7)) aNil)) (eC (.int 1000))))
    (sPut 2 (eVar 7) (eBin gFdiv (eIxO 2 (eVar 7)) (eC (.int 1000))))) (sSeq (sSet 8 (eBin gMod (eCall gInt (aCons (eBin gAdd (eBin gAdd (eBin gMul (eIxO 2 (eVar 7)) (eC (.int 48271))) (eBin gMul (eVar 4) (eC (.int 69621)))) (eC (.int 11))) aNil)) (eC (.int 2147483647))))
    (sSeq (sSet 8 (eBin gMod (eCall gInt (aCons (eBin gAdd (eBin gMul (eVar 8) (eC (.int 16807))) (eVar 7)) aNil)) (eC (.int 2147483629))))
    (sSet 5 (eBin gMod (eCall gInt (aCons (eBin gFdiv (eVar 8) (eC (.int 7))) aNil)) (eC (.int 1000)))))))) sNext)
    (sAppend 3 (eVar 5))))
noncomputable def b__law_draws : SF :=
  (sSeq (sSet 2 b__law_draws_1)
    (sSeq (sSet 3 (eLst aNil))
    (sSeq (sFor (iR1 (aCons (eVar 1) aNil)) (gtName 4) b__law_draws_2)
    (sRetOwn 3))))
noncomputable abbrev m__law_draws := fnD 9 2 b__law_draws
noncomputable def b__law_gcd_1 : SF :=
  (sSeq (sIf (tE (eBin gEqT (eVar 1) (eC (.int 0)))) sBreak sNext)
    (sPar 0 1 (aCons (eVar 1) (aCons (eBin gMod (eCall gInt (aCons (eVar 0) aNil)) (eVar 1)) aNil))))
noncomputable def b__law_gcd : SF :=
  (sSeq (sPar 0 1 (aCons (eCall gAbs (aCons (eVar 0) aNil)) (aCons (eCall gAbs (aCons (eVar 1) aNil)) aNil)))
    (sSeq (sFor (iR1 (aCons (eC (.int 20000)) aNil)) (gtName 2) b__law_gcd_1)
    (sRet (eVar 0))))
noncomputable abbrev m__law_gcd := fnD 3 2 b__law_gcd
noncomputable def b__law_short_1 : SF :=
  (sIf (tOrD (tE (eBin gGe (eCall gAbs (aCons (eBin gIx (eVar 3) (eC (.int 0))) aNil)) (eC (.int 1000)))) (tE (eBin gGe (eBin gIx (eVar 3) (eC (.int 1))) (eC (.int 1000))))) (sRet (eC (.bool false))) sNext)
noncomputable def b__law_short_2 : SF :=
  (sFor (iS (eBin gAdd (eVar 1) (eLst (aCons (eVar 2) aNil)))) (gtName 3) b__law_short_1)
noncomputable def b__law_short : SF :=
  (sSeq (sFor (iS (eVar 0)) (gtTup2 1 2) b__law_short_2)
    (sRet (eC (.bool true))))
noncomputable abbrev m__law_short := fnD 4 1 b__law_short
noncomputable def b_plus : SF :=
  (sRet (eCall m_number (aCons (eBin gAdd (eBin gMul (eBin gIx (eVar 0) (eC (.int 0))) (eBin gIx (eVar 1) (eC (.int 1)))) (eBin gMul (eBin gIx (eVar 1) (eC (.int 0))) (eBin gIx (eVar 0) (eC (.int 1))))) (aCons (eBin gMul (eBin gIx (eVar 0) (eC (.int 1))) (eBin gIx (eVar 1) (eC (.int 1)))) aNil))))
noncomputable abbrev m_plus := fnD 2 2 b_plus
noncomputable def b_times : SF :=
  (sRet (eCall m_number (aCons (eBin gMul (eBin gIx (eVar 0) (eC (.int 0))) (eBin gIx (eVar 1) (eC (.int 0)))) (aCons (eBin gMul (eBin gIx (eVar 0) (eC (.int 1))) (eBin gIx (eVar 1) (eC (.int 1)))) aNil))))
noncomputable abbrev m_times := fnD 2 2 b_times
noncomputable def b__law_number : SF :=
  (sSeq (sIf (tE (eBin gLt (eVar 1) (eC (.int 0)))) (sPar 0 1 (aCons (eUn gNeg (eVar 0)) (aCons (eUn gNeg (eVar 1)) aNil))) sNext)
    (sSeq (sSet 2 (eCall m__law_gcd (aCons (eVar 0) (aCons (eVar 1) aNil))))
    (sRet (eTup (aCons (eBin gFdiv (eVar 0) (eVar 2)) (aCons (eBin gFdiv (eVar 1) (eVar 2)) aNil))))))
noncomputable abbrev m__law_number := fnD 3 2 b__law_number
noncomputable def b_total_1 : SF :=
  (sSet 1 (eCall m_plus (aCons (eVar 1) (aCons (eVar 2) aNil))))
noncomputable def b_total : SF :=
  (sSeq (sSet 1 (eTup (aCons (eC (.int 0)) (aCons (eC (.int 1)) aNil))))
    (sSeq (sFor (iS (eVar 0)) (gtName 2) b_total_1)
    (sRet (eVar 1))))
noncomputable abbrev m_total := fnD 3 1 b_total
noncomputable def b__law_plus : SF :=
  (sRet (eCall m__law_number (aCons (eBin gAdd (eBin gMul (eBin gIx (eVar 0) (eC (.int 0))) (eBin gIx (eVar 1) (eC (.int 1)))) (eBin gMul (eBin gIx (eVar 1) (eC (.int 0))) (eBin gIx (eVar 0) (eC (.int 1))))) (aCons (eBin gMul (eBin gIx (eVar 0) (eC (.int 1))) (eBin gIx (eVar 1) (eC (.int 1)))) aNil))))
noncomputable abbrev m__law_plus := fnD 2 2 b__law_plus
noncomputable def b__law_times : SF :=
  (sRet (eCall m__law_number (aCons (eBin gMul (eBin gIx (eVar 0) (eC (.int 0))) (eBin gIx (eVar 1) (eC (.int 0)))) (aCons (eBin gMul (eBin gIx (eVar 0) (eC (.int 1))) (eBin gIx (eVar 1) (eC (.int 1)))) aNil))))
noncomputable abbrev m__law_times := fnD 2 2 b__law_times
noncomputable def b__law_small : SF :=
  (sRet (eCall m__law_number (aCons (eBin gSub (eBin gMod (eCall gInt (aCons (eVar 0) aNil)) (eC (.int 9))) (eC (.int 4))) (aCons (eBin gIx (eLst (aCons (eC (.int 1)) (aCons (eC (.int 1)) (aCons (eC (.int 1)) (aCons (eC (.int 2)) (aCons (eC (.int 3)) aNil)))))) (eBin gMod (eCall gInt (aCons (eBin gFdiv (eVar 0) (eC (.int 9))) aNil)) (eC (.int 5)))) aNil))))
noncomputable abbrev m__law_small := fnD 1 1 b__law_small
noncomputable def b__row_value_1 : EF :=
  (eLc [2, 3] (iZ (aCons (eVar 0) (aCons (eVar 1) aNil))) (gtTup2 2 3) tYesD (eCall m_times (aCons (eVar 2) (aCons (eVar 3) aNil))))
noncomputable def b__row_value : SF :=
  (sRet (eCall m_total (aCons b__row_value_1 aNil)))
noncomputable abbrev m__row_value := fnD 4 2 b__row_value
noncomputable def b__law_minus : SF :=
  (sRet (eCall m__law_plus (aCons (eVar 0) (aCons (eTup (aCons (eUn gNeg (eBin gIx (eVar 1) (eC (.int 0)))) (aCons (eBin gIx (eVar 1) (eC (.int 1))) aNil))) aNil))))
noncomputable abbrev m__law_minus := fnD 2 2 b__law_minus
noncomputable def b__law_sum_1 : SF :=
  (sSet 1 (eCall m__law_plus (aCons (eVar 1) (aCons (eVar 2) aNil))))
noncomputable def b__law_sum : SF :=
  (sSeq (sSet 1 (eTup (aCons (eC (.int 0)) (aCons (eC (.int 1)) aNil))))
    (sSeq (sFor (iS (eVar 0)) (gtName 2) b__law_sum_1)
    (sRet (eVar 1))))
noncomputable abbrev m__law_sum := fnD 3 1 b__law_sum
noncomputable def b__law_numbers_1 : EF :=
  (eLc [2] (iR1 (aCons (eVar 1) aNil)) (gtName 2) tYesD (eCall m__law_small (aCons (eBin gIx (eVar 0) (eVar 2)) aNil)))
noncomputable def b__law_numbers : SF :=
  (sRet b__law_numbers_1)
noncomputable abbrev m__law_numbers := fnD 3 2 b__law_numbers
noncomputable def b__law_plus_row_1 : EF :=
  (eLc [4] (iR1 (aCons (eCall gLen (aCons (eBin gIx (eVar 0) (eC (.int 0))) aNil)) aNil)) (gtName 4) tYesD (eCall m__law_plus (aCons (eBin gIx (eBin gIx (eVar 0) (eC (.int 0))) (eVar 4)) (aCons (eCall m__law_times (aCons (eVar 2) (aCons (eBin gIx (eBin gIx (eVar 1) (eC (.int 0))) (eVar 4)) aNil))) aNil))))
noncomputable def b__law_plus_row : SF :=
  (sSeq (sSet 3 b__law_plus_row_1)
    (sFrz 3 (sRet (eTup (aCons (eVar 3) (aCons (eCall m__law_plus (aCons (eBin gIx (eVar 0) (eC (.int 1))) (aCons (eCall m__law_times (aCons (eVar 2) (aCons (eBin gIx (eVar 1) (eC (.int 1))) aNil))) aNil))) aNil))))))
noncomputable abbrev m__law_plus_row := fnD 5 3 b__law_plus_row
noncomputable def b_is_solution_1 : EF :=
  (eLc [3, 4] (iS (eVar 1)) (gtTup2 3 4) tYesD (eBin gEqT (eCall m__row_value (aCons (eVar 3) (aCons (eVar 2) aNil))) (eVar 4)))
noncomputable def b_is_solution : SF :=
  (sSeq (sIf (tE (eBin gNeT (eCall gLen (aCons (eVar 2) aNil)) (eVar 0))) (sRet (eC (.bool false))) sNext)
    (sRet (eCall gAll (aCons b_is_solution_1 aNil))))
noncomputable abbrev m_is_solution := fnD 5 3 b_is_solution
noncomputable def b_is_direction_1 : EF :=
  (eLc [3, 4] (iS (eVar 1)) (gtTup2 3 4) tYesD (eBin gEqT (eCall m__row_value (aCons (eVar 3) (aCons (eVar 2) aNil))) (eC (.tuple [.int (0), .int (1)]))))
noncomputable def b_is_direction : SF :=
  (sSeq (sIf (tOrD (tE (eBin gNeT (eCall gLen (aCons (eVar 2) aNil)) (eVar 0))) (tE (eBin gEqT (eVar 2) (eRep (aCons (eC (.tuple [.int (0), .int (1)])) aNil) (eVar 0))))) (sRet (eC (.bool false))) sNext)
    (sRet (eCall gAll (aCons b_is_direction_1 aNil))))
noncomputable abbrev m_is_direction := fnD 5 3 b_is_direction
noncomputable def b__added_up_1 : EF :=
  (eLc [5] (iS (eVar 1)) (gtName 5) tYesD (eBin gIx (eBin gIx (eVar 5) (eC (.int 0))) (eVar 4)))
noncomputable def b__added_up_2 : EF :=
  (eLc [4] (iR1 (aCons (eVar 0) aNil)) (gtName 4) tYesD (eCall m__row_value (aCons b__added_up_1 (aCons (eVar 2) aNil))))
noncomputable def b__added_up_3 : EF :=
  (eLc [5] (iS (eVar 1)) (gtName 5) tYesD (eBin gIx (eVar 5) (eC (.int 1))))
noncomputable def b__added_up : SF :=
  (sSeq (sSet 3 b__added_up_2)
    (sFrz 3 (sRet (eTup (aCons (eVar 3) (aCons (eCall m__row_value (aCons b__added_up_3 (aCons (eVar 2) aNil))) aNil))))))
noncomputable abbrev m__added_up := fnD 6 3 b__added_up
noncomputable def b__law_dot_1 : EF :=
  (eLc [2] (iR1 (aCons (eCall gLen (aCons (eVar 0) aNil)) aNil)) (gtName 2) tYesD (eCall m__law_times (aCons (eBin gIx (eVar 0) (eVar 2)) (aCons (eBin gIx (eVar 1) (eVar 2)) aNil))))
noncomputable def b__law_dot : SF :=
  (sRet (eCall m__law_sum (aCons b__law_dot_1 aNil)))
noncomputable abbrev m__law_dot := fnD 3 2 b__law_dot
noncomputable def b__law_mixed_1 : SF :=
  (sIf (tE (eBin gGt (ePeek (eCall gLen (aCons (eVar 2) aNil))) (eC (.int 1)))) (sSeq (sSet 4 (eBin gMod (eCall gInt (aCons (eBin gIx (eVar 1) (eBin gMul (eC (.int 2)) (eVar 3))) aNil)) (ePeek (eCall gLen (aCons (eVar 2) aNil)))))
    (sSeq (sSet 5 (eBin gMod (eBin gAdd (eBin gAdd (eVar 4) (eC (.int 1))) (eBin gMod (eCall gInt (aCons (eBin gIx (eVar 1) (eBin gAdd (eBin gMul (eC (.int 2)) (eVar 3)) (eC (.int 1)))) aNil)) (eBin gSub (ePeek (eCall gLen (aCons (eVar 2) aNil))) (eC (.int 1))))) (ePeek (eCall gLen (aCons (eVar 2) aNil)))))
    (sPut 2 (eVar 4) (eCall m__law_plus_row (aCons (eIxO 2 (eVar 4)) (aCons (eIxO 2 (eVar 5)) (aCons (eBin gIx (eLst (aCons (eTup (aCons (eC (.int 1)) (aCons (eC (.int 1)) aNil))) (aCons (eTup (aCons (eUn gNeg (eC (.int 1))) (aCons (eC (.int 1)) aNil))) (aCons (eTup (aCons (eC (.int 2)) (aCons (eC (.int 1)) aNil))) aNil)))) (eBin gMod (eCall gInt (aCons (eBin gFdiv (eBin gIx (eVar 1) (eBin gMul (eC (.int 2)) (eVar 3))) (eC (.int 9))) aNil)) (eC (.int 3)))) aNil))))))) sNext)
noncomputable def b__law_mixed : SF :=
  (sSeq (sSet 2 (eCall gList (aCons (eVar 0) aNil)))
    (sSeq (sFor (iR1 (aCons (eC (.int 3)) aNil)) (gtName 3) b__law_mixed_1)
    (sSeq (sIf (tAndD (tE (eBin gGt (ePeek (eCall gLen (aCons (eVar 2) aNil))) (eC (.int 0)))) (tE (eBin gEqT (eBin gMod (eCall gInt (aCons (eBin gIx (eVar 1) (eC (.int 6))) aNil)) (eC (.int 3))) (eC (.int 0))))) (sAppend 2 (eCall m__law_plus_row (aCons (eIxO 2 (eC (.int 0))) (aCons (eIxO 2 (eUn gNeg (eC (.int 1)))) (aCons (eTup (aCons (eUn gNeg (eC (.int 2))) (aCons (eC (.int 1)) aNil))) aNil))))) sNext)
    (sSeq (sIf (tE (eBin gEqT (eBin gMod (eCall gInt (aCons (eBin gIx (eVar 1) (eC (.int 7))) aNil)) (eC (.int 2))) (eC (.int 0)))) (sFrz 2 (sRet (eRev (eVar 2)))) sNext)
    (sRetOwn 2)))))
noncomputable abbrev m__law_mixed := fnD 6 2 b__law_mixed
noncomputable def b_refutes : SF :=
  (sSeq (sIf (tE (eBin gNeT (eCall gLen (aCons (eVar 2) aNil)) (eCall gLen (aCons (eVar 1) aNil)))) (sRet (eC (.bool false))) sNext)
    (sSeq (sAsg (gtTup2 3 4) (eCall m__added_up (aCons (eVar 0) (aCons (eVar 1) (aCons (eVar 2) aNil)))))
    (sRet (eIf (tE (eBin gEqT (eVar 3) (eRep (aCons (eC (.tuple [.int (0), .int (1)])) aNil) (eVar 0)))) (eBin gNeT (eVar 4) (eC (.tuple [.int (0), .int (1)]))) (eC (.bool false))))))
noncomputable abbrev m_refutes := fnD 5 3 b_refutes
noncomputable def b__law_value : SF :=
  (sRet (eCall m__law_dot (aCons (eVar 0) (aCons (eVar 1) aNil))))
noncomputable abbrev m__law_value := fnD 2 2 b__law_value
noncomputable def b__law_added_1 : EF :=
  (eLc [5] (iS (eVar 1)) (gtName 5) tYesD (eBin gIx (eBin gIx (eVar 5) (eC (.int 0))) (eVar 4)))
noncomputable def b__law_added_2 : EF :=
  (eLc [4] (iR1 (aCons (eVar 0) aNil)) (gtName 4) tYesD (eCall m__law_dot (aCons b__law_added_1 (aCons (eVar 2) aNil))))
noncomputable def b__law_added_3 : EF :=
  (eLc [5] (iS (eVar 1)) (gtName 5) tYesD (eBin gIx (eVar 5) (eC (.int 1))))
noncomputable def b__law_added : SF :=
  (sSeq (sSet 3 b__law_added_2)
    (sFrz 3 (sRet (eTup (aCons (eVar 3) (aCons (eCall m__law_dot (aCons b__law_added_3 (aCons (eVar 2) aNil))) aNil))))))
noncomputable abbrev m__law_added := fnD 6 3 b__law_added
noncomputable def b__law_solves_1 : EF :=
  (eLc [3] (iS (eVar 1)) (gtName 3) (tE (eBin gNeT (eCall m__law_value (aCons (eBin gIx (eVar 3) (eC (.int 0))) (aCons (eVar 2) aNil))) (eBin gIx (eVar 3) (eC (.int 1))))) (eVar 3))
noncomputable def b__law_solves : SF :=
  (sSeq (sIf (tE (eBin gNeT (eCall gLen (aCons (eVar 2) aNil)) (eVar 0))) (sRet (eC (.bool false))) sNext)
    (sRet (eBin gEqT (eCall gLen (aCons b__law_solves_1 aNil)) (eC (.int 0)))))
noncomputable abbrev m__law_solves := fnD 4 3 b__law_solves
noncomputable def b__law_directs_1 : EF :=
  (eLc [4] (iS (eVar 2)) (gtName 4) (tE (eBin gNeT (eBin gIx (eVar 4) (eC (.int 0))) (eC (.int 0)))) (eVar 4))
noncomputable def b__law_directs_2 : EF :=
  (eLc [3] (iS (eVar 1)) (gtName 3) (tE (eBin gNeT (eBin gIx (eCall m__law_value (aCons (eBin gIx (eVar 3) (eC (.int 0))) (aCons (eVar 2) aNil))) (eC (.int 0))) (eC (.int 0)))) (eVar 3))
noncomputable def b__law_directs : SF :=
  (sSeq (sIf (tOrD (tE (eBin gNeT (eCall gLen (aCons (eVar 2) aNil)) (eVar 0))) (tE (eBin gEqT (eCall gLen (aCons b__law_directs_1 aNil)) (eC (.int 0))))) (sRet (eC (.bool false))) sNext)
    (sRet (eBin gEqT (eCall gLen (aCons b__law_directs_2 aNil)) (eC (.int 0)))))
noncomputable abbrev m__law_directs := fnD 5 3 b__law_directs
noncomputable def b__law_refutes_1 : EF :=
  (eLc [5] (iS (eVar 3)) (gtName 5) (tE (eBin gNeT (eBin gIx (eVar 5) (eC (.int 0))) (eC (.int 0)))) (eVar 5))
noncomputable def b__law_refutes : SF :=
  (sSeq (sIf (tE (eBin gNeT (eCall gLen (aCons (eVar 2) aNil)) (eCall gLen (aCons (eVar 1) aNil)))) (sRet (eC (.bool false))) sNext)
    (sSeq (sAsg (gtTup2 3 4) (eCall m__law_added (aCons (eVar 0) (aCons (eVar 1) (aCons (eVar 2) aNil)))))
    (sRet (eIf (tE (eBin gEqT (eCall gLen (aCons b__law_refutes_1 aNil)) (eC (.int 0)))) (eBin gNeT (eBin gIx (eVar 4) (eC (.int 0))) (eC (.int 0))) (eC (.bool false))))))
noncomputable abbrev m__law_refutes := fnD 6 3 b__law_refutes
noncomputable def b__law_steps_1 : EF :=
  (eLc [7] (iR1 (aCons (eVar 0) aNil)) (gtName 7) tYesD (eCall m__law_small (aCons (eBin gIx (eVar 2) (eBin gAdd (eBin gMul (eC (.int 8)) (eVar 5)) (eVar 7))) aNil)))
noncomputable def b__law_steps_2 : SF :=
  (sIf (tE (eBin gGt (eVar 7) (eVar 5))) (sPut 6 (eVar 7) (eTup (aCons (eC (.int 0)) (aCons (eC (.int 1)) aNil)))) sNext)
noncomputable def b__law_steps_3 : SF :=
  (sSeq (sSet 6 b__law_steps_1)
    (sSeq (sFor (iR1 (aCons (eVar 0) aNil)) (gtName 7) b__law_steps_2)
    (sSeq (sIf (tE (eBin gEqT (eBin gIx (eIxO 6 (eVar 5)) (eC (.int 0))) (eC (.int 0)))) (sPut 6 (eVar 5) (eBin gIx (eLst (aCons (eTup (aCons (eC (.int 1)) (aCons (eC (.int 1)) aNil))) (aCons (eTup (aCons (eUn gNeg (eC (.int 2))) (aCons (eC (.int 1)) aNil))) (aCons (eTup (aCons (eC (.int 1)) (aCons (eC (.int 3)) aNil))) aNil)))) (eBin gMod (eCall gInt (aCons (eBin gIx (eVar 2) (eBin gAdd (eBin gMul (eC (.int 8)) (eVar 5)) (eC (.int 7)))) aNil)) (eC (.int 3))))) sNext)
    (sFrz 6 (sAppend 4 (eTup (aCons (eVar 6) (aCons (eCall m__law_value (aCons (eVar 6) (aCons (eVar 1) aNil))) aNil))))))))
noncomputable def b__law_steps : SF :=
  (sSeq (sSet 4 (eLst aNil))
    (sSeq (sFor (iS (eVar 3)) (gtName 5) b__law_steps_3)
    (sRetOwn 4)))
noncomputable abbrev m__law_steps := fnD 8 4 b__law_steps
noncomputable def b_law_1 : EF :=
  (eLc [8] (iR1 (aCons (eVar 2) aNil)) (gtName 8) (tE (eBin gGt (eBin gMod (eCall gInt (aCons (eIxO 1 (eBin gAdd (eC (.int 10)) (eVar 8))) aNil)) (eC (.int 4))) (eC (.int 0)))) (eVar 8))
noncomputable def b_law_2 : EF :=
  (eLc [8, 14] (iEn (aCons (eVar 5) aNil)) (gtTup2 8 14) tYesD (eTup (aCons (eBin gIx (eVar 14) (eC (.int 0))) (aCons (eBin gIx (eLst (aCons (eCall m__law_small (aCons (eIxO 1 (eBin gAdd (eC (.int 100)) (eVar 8))) aNil)) (aCons (eBin gIx (eVar 14) (eC (.int 1))) aNil))) (eBin gMod (eCall gInt (aCons (eIxO 1 (eBin gAdd (eC (.int 100)) (eVar 8))) aNil)) (eC (.int 2)))) aNil))))
noncomputable def b_law_3 : EF :=
  (eLc [8] (iR1 (aCons (eVar 2) aNil)) (gtName 8) tYesD (eTup (aCons (eC (.int 0)) (aCons (eC (.int 1)) aNil))))
noncomputable def b_law_4 : EF :=
  (eLc [8] (iR1 (aCons (eVar 2) aNil)) (gtName 8) tYesD (eCall m__law_minus (aCons (eBin gIx (eVar 3) (eVar 8)) (aCons (eBin gIx (eVar 6) (eVar 8)) aNil))))
noncomputable def b_law_5 : EF :=
  (eLc [14] (iS (eVar 5)) (gtName 14) tYesD (eTup (aCons (eC (.int 0)) (aCons (eC (.int 1)) aNil))))
noncomputable def b_law_6 : EF :=
  (eLc [15] (iR1 (aCons (eCall gLen (aCons (eVar 5) aNil)) aNil)) (gtName 15) tYesD (eBin gIx (eLst (aCons (eTup (aCons (eC (.int 0)) (aCons (eC (.int 1)) aNil))) (aCons (eTup (aCons (eC (.int 1)) (aCons (eC (.int 1)) aNil))) aNil))) (eCall gInt (aCons (eBin gEqT (eVar 15) (eVar 8)) aNil))))
noncomputable def b_law_7 : SF :=
  (sAppend 7 b_law_6)
noncomputable def b_law_8 : EF :=
  (eLc [15] (iR1 (aCons (eVar 2) aNil)) (gtName 15) tYesD (eBin gIx (eLst (aCons (eTup (aCons (eC (.int 0)) (aCons (eC (.int 1)) aNil))) (aCons (eTup (aCons (eC (.int 1)) (aCons (eC (.int 1)) aNil))) aNil))) (eCall gInt (aCons (eBin gEqT (eVar 15) (eVar 9)) aNil))))
noncomputable def b_law_9 : EF :=
  (eLc [16] (iS (eVar 12)) (gtName 16) tYesD (eIsi "bool" (eVar 16)))
noncomputable def b_law_10 : SF :=
  (sSeq (sSet 12 (eLst (aCons (eCall m_is_solution (aCons (eVar 2) (aCons (eVar 5) (aCons (eVar 11) aNil)))) (aCons (eCall m_is_direction (aCons (eVar 2) (aCons (eVar 5) (aCons (eVar 11) aNil)))) (aCons (eCall m_refutes (aCons (eVar 2) (aCons (eVar 5) (aCons (eVar 11) aNil)))) aNil)))))
    (sSeq (sFrz 12 (sIf (tNotD (tE (eCall gAll (aCons b_law_9 aNil)))) (sRet (eC (.bool false))) sNext))
    (sSeq (sSet 13 (eLst (aCons (eCall m__law_solves (aCons (eVar 2) (aCons (eVar 5) (aCons (eVar 11) aNil)))) (aCons (eCall m__law_directs (aCons (eVar 2) (aCons (eVar 5) (aCons (eVar 11) aNil)))) (aCons (eCall m__law_refutes (aCons (eVar 2) (aCons (eVar 5) (aCons (eVar 11) aNil)))) aNil)))))
    (sFrz 13 (sIf (tE (eBin gNeT (eVar 12) (eVar 13))) (sRet (eC (.bool false))) sNext)))))
noncomputable def b_law : SF :=
  (sSeq (sSet 1 (eCall m__law_draws (aCons (eVar 0) (aCons (eC (.int 160)) aNil))))
    (sSeq (sSet 2 (eBin gAdd (eC (.int 1)) (eBin gMod (eCall gInt (aCons (eIxO 1 (eC (.int 0))) aNil)) (eC (.int 5)))))
    (sSeq (sSet 3 (eCall m__law_numbers (aCons (eSlO 1 (oSome (eC (.int 1))) (oSome (eC (.int 9)))) (aCons (eVar 2) aNil))))
    (sSeq (sSet 4 b_law_1)
    (sSeq (sFrz 3 (sFrz 4 (sSet 5 (eCall m__law_mixed (aCons (eCall m__law_steps (aCons (eVar 2) (aCons (eVar 3) (aCons (eSlO 1 (oSome (eC (.int 20))) (oSome (eC (.int 84)))) (aCons (eVar 4) aNil))))) (aCons (eSlO 1 (oSome (eC (.int 90))) (oSome (eC (.int 98)))) aNil))))))
    (sSeq (sIf (tE (eBin gEqT (eBin gMod (eCall gInt (aCons (eIxO 1 (eC (.int 9))) aNil)) (eC (.int 2))) (eC (.int 0)))) (sFrz 5 (sSet 5 b_law_2)) sNext)
    (sSeq (sFrz 5 (sIf (tNotD (tE (eCall m__law_short (aCons (eVar 5) aNil)))) (sRet (eC (.bool true))) sNext))
    (sSeq (sSet 6 (eCall m__law_numbers (aCons (eSlO 1 (oSome (eC (.int 110))) (oSome (eC (.int 118)))) (aCons (eVar 2) aNil))))
    (sSeq (sFrz 6 (sSet 7 (eLst (aCons (eVar 3) (aCons (eVar 6) (aCons b_law_4 (aCons b_law_3 aNil)))))))
    (sSeq (sAppend 7 b_law_5)
    (sSeq (sAppend 7 (eCall m__law_numbers (aCons (eSlO 1 (oSome (eC (.int 120))) (oSome (eC (.int 130)))) (aCons (eCall gLen (aCons (eVar 5) aNil)) aNil))))
    (sSeq (sAppend 7 (eSl (eVar 3) (oSome (eC (.int 1))) oNone))
    (sSeq (sAppend 7 (eBin gAdd (eVar 3) (eLst (aCons (eTup (aCons (eC (.int 0)) (aCons (eC (.int 1)) aNil))) aNil))))
    (sSeq (sFor (iR1 (aCons (eCall gLen (aCons (eVar 5) aNil)) aNil)) (gtName 8) b_law_7)
    (sSeq (sSet 9 (eBin gMod (eCall gInt (aCons (eIxO 1 (eC (.int 130))) aNil)) (eVar 2)))
    (sSeq (sAppend 7 b_law_8)
    (sSeq (sSet 10 (ePeek (eCall gRepr (aCons (eTup (aCons (eVar 5) (aCons (eVar 7) aNil))) aNil))))
    (sSeq (sFrz 7 (sFor (iS (eVar 7)) (gtName 11) b_law_10))
    (sRet (eBin gEqT (eCall gRepr (aCons (eTup (aCons (eVar 5) (aCons (eVar 7) aNil))) aNil)) (eVar 10)))))))))))))))))))))
noncomputable abbrev m_law := fnD 17 1 b_law
end Law
/-! Rb: comprehensions and loops over typed lists, words -/
namespace Dn
open PySem PySem.Spec PyProof.Rows L2
abbrev nI (x : Nat) : PyData := .int (x : Int)
abbrev il (xs : List Nat) : List PyData := xs.map nI
theorem il_app (a b : List Nat) : il (a ++ b) = il a ++ il b := List.map_append
def od : Option Nat → PyData
  | none => .none
  | some n => .int (n : Int)
@[simp] theorem od_none : od none = .none := rfl
@[simp] theorem od_some {n : Nat} : od (some n) = .int (n : Int) := rfl
@[simp] theorem isNone_od (o : Option Nat) : isNone (od o) = o.isNone := by cases o <;> rfl
/-! places in written lists -/
@[simp] theorem atI_0 {α : Type} {x : α} {l : List α} : atI (x :: l) 0 = some x := atI_nat' (by decide) rfl
@[simp] theorem atI_1 {α : Type} {x y : α} {l : List α} : atI (x :: y :: l) 1 = some y := atI_nat' (by decide) rfl
@[simp] theorem atI_2 {α : Type} {x y z : α} {l : List α} : atI (x :: y :: z :: l) 2 = some z := atI_nat' (by decide) rfl
@[simp] theorem atI_3 {α : Type} {x y z w : α} {l : List α} : atI (x :: y :: z :: w :: l) 3 = some w := atI_nat' (by decide) rfl
theorem atI_map {α β : Type} {f : α → β} {xs : List α} {p : Nat} {x : α} (h : xs[p]? = some x) : atI (xs.map f) (p : Int) = some (f x) :=
  atI_nat' (by omega) (by rw [Int.toNat_natCast, List.getElem?_map, h]; rfl)
theorem ixN_of {n p : Nat} (h : p < n) : ixN n (p : Int) = some p := by rw [ixN_nat (by omega) (by omega)]; rfl
/-! words -/
@[simp] theorem w_draw_ours : (("draw" : Str) = ("ours" : Str)) = False := eq_false (by decide +kernel)
@[simp] theorem w_draw_theirs : (("draw" : Str) = ("theirs" : Str)) = False := eq_false (by decide +kernel)
@[simp] theorem w_draw_reward : (("draw" : Str) = ("reward" : Str)) = False := eq_false (by decide +kernel)
@[simp] theorem w_draw_finish : (("draw" : Str) = ("finish" : Str)) = False := eq_false (by decide +kernel)
@[simp] theorem w_draw_lose : (("draw" : Str) = ("lose" : Str)) = False := eq_false (by decide +kernel)
@[simp] theorem w_ours_draw : (("ours" : Str) = ("draw" : Str)) = False := eq_false (by decide +kernel)
@[simp] theorem w_ours_theirs : (("ours" : Str) = ("theirs" : Str)) = False := eq_false (by decide +kernel)
@[simp] theorem w_ours_reward : (("ours" : Str) = ("reward" : Str)) = False := eq_false (by decide +kernel)
@[simp] theorem w_ours_finish : (("ours" : Str) = ("finish" : Str)) = False := eq_false (by decide +kernel)
@[simp] theorem w_ours_lose : (("ours" : Str) = ("lose" : Str)) = False := eq_false (by decide +kernel)
@[simp] theorem w_theirs_draw : (("theirs" : Str) = ("draw" : Str)) = False := eq_false (by decide +kernel)
@[simp] theorem w_theirs_ours : (("theirs" : Str) = ("ours" : Str)) = False := eq_false (by decide +kernel)
@[simp] theorem w_theirs_reward : (("theirs" : Str) = ("reward" : Str)) = False := eq_false (by decide +kernel)
@[simp] theorem w_theirs_finish : (("theirs" : Str) = ("finish" : Str)) = False := eq_false (by decide +kernel)
@[simp] theorem w_theirs_lose : (("theirs" : Str) = ("lose" : Str)) = False := eq_false (by decide +kernel)
@[simp] theorem w_reward_draw : (("reward" : Str) = ("draw" : Str)) = False := eq_false (by decide +kernel)
@[simp] theorem w_reward_ours : (("reward" : Str) = ("ours" : Str)) = False := eq_false (by decide +kernel)
@[simp] theorem w_reward_theirs : (("reward" : Str) = ("theirs" : Str)) = False := eq_false (by decide +kernel)
@[simp] theorem w_reward_finish : (("reward" : Str) = ("finish" : Str)) = False := eq_false (by decide +kernel)
@[simp] theorem w_reward_lose : (("reward" : Str) = ("lose" : Str)) = False := eq_false (by decide +kernel)
@[simp] theorem w_finish_draw : (("finish" : Str) = ("draw" : Str)) = False := eq_false (by decide +kernel)
@[simp] theorem w_finish_ours : (("finish" : Str) = ("ours" : Str)) = False := eq_false (by decide +kernel)
@[simp] theorem w_finish_theirs : (("finish" : Str) = ("theirs" : Str)) = False := eq_false (by decide +kernel)
@[simp] theorem w_finish_reward : (("finish" : Str) = ("reward" : Str)) = False := eq_false (by decide +kernel)
@[simp] theorem w_finish_lose : (("finish" : Str) = ("lose" : Str)) = False := eq_false (by decide +kernel)
@[simp] theorem w_lose_draw : (("lose" : Str) = ("draw" : Str)) = False := eq_false (by decide +kernel)
@[simp] theorem w_lose_ours : (("lose" : Str) = ("ours" : Str)) = False := eq_false (by decide +kernel)
@[simp] theorem w_lose_theirs : (("lose" : Str) = ("theirs" : Str)) = False := eq_false (by decide +kernel)
@[simp] theorem w_lose_reward : (("lose" : Str) = ("reward" : Str)) = False := eq_false (by decide +kernel)
@[simp] theorem w_lose_finish : (("lose" : Str) = ("finish" : Str)) = False := eq_false (by decide +kernel)
@[simp] theorem w_sure_chance : (("sure" : Str) = ("chance" : Str)) = False := eq_false (by decide +kernel)
@[simp] theorem w_sure_almost : (("sure" : Str) = ("almost" : Str)) = False := eq_false (by decide +kernel)
@[simp] theorem w_chance_sure : (("chance" : Str) = ("sure" : Str)) = False := eq_false (by decide +kernel)
@[simp] theorem w_chance_almost : (("chance" : Str) = ("almost" : Str)) = False := eq_false (by decide +kernel)
@[simp] theorem w_almost_sure : (("almost" : Str) = ("sure" : Str)) = False := eq_false (by decide +kernel)
@[simp] theorem w_almost_chance : (("almost" : Str) = ("chance" : Str)) = False := eq_false (by decide +kernel)
theorem shp_lit {x : Str} (h : PyData.strOk x = true) : Shp (.str x) := by
  show (PyData.strOk x && _) = true
  rw [h]
  rfl
/-! comprehensions over typed lists -/
theorem lcD_typ {α : Type} {vs : List Nat} {g : GF} {c : TF} {f : EF} {env : En} (enc h : α → PyData) : ∀ {xs : List α}, (∀ a ∈ xs, ∃ e1 r, g (enc a) (wipeD env vs) = some e1 ∧ c e1 = some true ∧ f e1 = some r ∧ r.frz = h a) → lcD vs g c f env (xs.map enc) = some (xs.map h)
  | [], _ => rfl
  | a :: xs, hd => by
    obtain ⟨e1, r, h1, h2, h3, h4⟩ := hd a List.mem_cons_self
    have ih := lcD_typ (xs := xs) enc h fun x hx => hd x (List.mem_cons_of_mem _ hx)
    rw [List.map_cons]
    unfold lcD
    rw [h1, Option.bind_some, h2, Option.bind_some, if_pos rfl, h3, Option.bind_some, ih, Option.bind_some, h4, List.map_cons]
theorem lcD_flt {α : Type} {vs : List Nat} {g : GF} {c : TF} {f : EF} {env : En} (enc h : α → PyData) (p : α → Bool) : ∀ {xs : List α}, (∀ a ∈ xs, ∃ e1, g (enc a) (wipeD env vs) = some e1 ∧ c e1 = some (p a) ∧ (p a = true → ∃ r, f e1 = some r ∧ r.frz = h a)) → lcD vs g c f env (xs.map enc) = some ((xs.filter p).map h)
  | [], _ => rfl
  | a :: xs, hd => by
    obtain ⟨e1, h1, h2, h3⟩ := hd a List.mem_cons_self
    have ih := lcD_flt (xs := xs) enc h p fun x hx => hd x (List.mem_cons_of_mem _ hx)
    rw [List.map_cons]
    unfold lcD
    rw [h1, Option.bind_some, h2, Option.bind_some]
    cases q : p a with
    | true =>
      obtain ⟨r, h4, h5⟩ := h3 q
      rw [if_pos rfl, h4, Option.bind_some, ih, Option.bind_some, h5, List.filter_cons_of_pos q, List.map_cons]
    | false =>
      rw [if_neg (by decide), ih, List.filter_cons_of_neg (by rw [q]; decide)]
/-- a loop over a typed list, each turn going on -/
theorem forD_run {α : Type} {g : GF} {body : SF} (enc : α → PyData) (P : List α → En → Prop) (all : List α)
    (turn : ∀ pre a post env, all = pre ++ a :: post → P pre env → ∃ e1 e2, g (enc a) env = some e1 ∧ body e1 = some (.nx e2) ∧ P (pre ++ [a]) e2) : ∀ {xs : List α} {pre : List α} {env : En}, all = pre ++ xs → P pre env →
    ∃ e, forD g body (xs.map enc) env = some (.nx e) ∧ P all e
  | [], pre, env, e, h => ⟨env, rfl, by rw [e, List.append_nil]; exact h⟩
  | a :: xs, pre, env, e, h => by
    obtain ⟨e1, e2, h1, h2, h3⟩ := turn pre a xs env e h
    obtain ⟨e', h4, h5⟩ := forD_run enc P all turn (xs := xs) (by rw [e, List.append_cons]) h3
    refine ⟨e', ?_, h5⟩
    rw [List.map_cons]
    unfold forD
    rw [h1]
    show turnO (body e1) _ = _
    rw [h2]
    exact h4
theorem forD_typ {α : Type} {g : GF} {body : SF} (enc : α → PyData) (P : List α → En → Prop) {all : List α} {env : En} (h : P [] env)
    (turn : ∀ pre a post env, all = pre ++ a :: post → P pre env → ∃ e1 e2, g (enc a) env = some e1 ∧ body e1 = some (.nx e2) ∧ P (pre ++ [a]) e2) :
    ∃ e, forD g body (all.map enc) env = some (.nx e) ∧ P all e := forD_run enc P all turn rfl h
/-- ints from 0 -/
theorem ints0 (n : Nat) : intsFrom 0 n = il (List.range n) := by
  refine List.ext_getElem? fun i => ?_
  rw [List.getElem?_map]
  by_cases h : i < n
  · rw [intsFrom_get n 0 i h, List.getElem?_range h, Int.zero_add]
    rfl
  · rw [List.getElem?_eq_none (by rw [intsFrom_len]; omega), List.getElem?_eq_none (by rw [List.length_range]; omega)]
    rfl
theorem intsLo (lo n : Nat) : intsFrom (lo : Int) n = il ((List.range n).map (lo + ·)) := by
  refine List.ext_getElem? fun i => ?_
  rw [List.getElem?_map, List.getElem?_map]
  by_cases h : i < n
  · rw [intsFrom_get n lo i h, List.getElem?_range h]
    show some (PyData.int ((lo : Int) + (i : Int))) = some (PyData.int ((lo + i : Nat) : Int))
    rw [Int.natCast_add]
  · rw [List.getElem?_eq_none (by rw [intsFrom_len]; omega), List.getElem?_eq_none (by rw [List.length_range]; omega)]
    rfl
/-! membership -/
theorem eqv_int (i j : Int) : PyData.eqv (.int i) (.int j) = (i == j) := by simp only [PyData.eqv]
theorem memD_il (x : Nat) (xs : List Nat) : memD (.int (x : Int)) (il xs) = decide (x ∈ xs) := by
  induction xs with
  | nil => rfl
  | cons y ys ih =>
    unfold memD at ih ⊢
    rw [show il (y :: ys) = nI y :: il ys from rfl, List.any_cons, ih, eqv_int]
    by_cases h : x = y
    · subst h; simp
    · have : ((y : Int) == (x : Int)) = false := beq_eq_false_iff_ne.mpr (by omega)
      rw [this]
      simp [h]
theorem lay_il (xs : List Nat) : PyData.canLayAll0 (il xs) = true ∧ PyData.depthAll (il xs) = 0 := by
  induction xs with
  | nil => exact ⟨rfl, rfl⟩
  | cons y ys ih =>
    constructor
    · show (PyData.canLay0 _ && _) = true
      rw [ih.1]
      rfl
    · show max (PyData.depth _) _ = 0
      rw [ih.2]
      rfl
theorem shp_il (xs : List Nat) : Shp (.list (il xs)) := by
  obtain ⟨h1, h2⟩ := lay_il xs
  show (PyData.canLay0 (.list (il xs)) && decide (PyData.depth (.list (il xs)) ≤ 64)) = true
  rw [show PyData.canLay0 (.list (il xs)) = true from h1, Bool.true_and]
  exact decide_eq_true (by show PyData.depthAll (il xs) + 1 ≤ 64; omega)
theorem gIn_il (x : Nat) (xs : List Nat) : gInG (.int (x : Int)) (.list (il xs)) = some (.val (.bool (decide (x ∈ xs)))) := by
  show (if _ then _ else _) = _
  rw [if_pos ⟨rfl, shp_il xs⟩, memD_il]
theorem boolsD_mapB {α : Type} (p : α → Bool) (xs : List α) : boolsD (xs.map fun a => PyData.bool (p a)) = some (xs.map p) := by
  rw [← boolsD_map (xs.map p), List.map_map]
  rfl
theorem gAll_map {α : Type} (p : α → Bool) (xs : List α) : gAll [.list (xs.map fun a => PyData.bool (p a))] = some (.val (.bool (xs.all p))) := by
  show (boolsD _).bind _ = _
  rw [boolsD_mapB, Option.bind_some, List.all_map]
  rfl
theorem gAny_map {α : Type} (p : α → Bool) (xs : List α) : gAny [.list (xs.map fun a => PyData.bool (p a))] = some (.val (.bool (xs.any p))) := by
  show (boolsD _).bind _ = _
  rw [boolsD_mapB, Option.bind_some, List.any_map]
  rfl
theorem seq_nx {f g : SF} {env e : En} (h : f env = some (.nx e)) : sSeq f g env = g e := by
  show bindO (f env) g = _
  rw [h]
  rfl
theorem seq_rt {f g : SF} {env : En} {r : R} (h : f env = some (.rt r)) : sSeq f g env = some (.rt r) := by
  show bindO (f env) g = _
  rw [h]
  rfl
theorem forD_nx {g : GF} {body : SF} {d : PyData} {ds : List PyData} {env e1 e2 : En} (h1 : g d env = some e1) (h2 : body e1 = some (.nx e2)) : forD g body (d :: ds) env = forD g body ds e2 := by
  show ((g d env).bind fun e1 => turnO (body e1) (forD g body ds)) = _
  rw [h1]
  show turnO (body e1) _ = _
  rw [h2]
  rfl
theorem forD_bk {g : GF} {body : SF} {d : PyData} {ds : List PyData} {env e1 e2 : En} (h1 : g d env = some e1) (h2 : body e1 = some (.bk e2)) : forD g body (d :: ds) env = some (.nx e2) := by
  show ((g d env).bind fun e1 => turnO (body e1) (forD g body ds)) = _
  rw [h1]
  show turnO (body e1) _ = _
  rw [h2]
  rfl
theorem forD_rt {g : GF} {body : SF} {d : PyData} {ds : List PyData} {env e1 : En} {r : R} (h1 : g d env = some e1) (h2 : body e1 = some (.rt r)) : forD g body (d :: ds) env = some (.rt r) := by
  show ((g d env).bind fun e1 => turnO (body e1) (forD g body ds)) = _
  rw [h1]
  show turnO (body e1) _ = _
  rw [h2]
  rfl
theorem mseq_nx {f g : SFm} {env e : En} (h : f env = some (.nx e)) : mSeq f g env = g e := by
  show bindM (f env) g = _
  rw [h]
  rfl
theorem mseq_rt {f g : SFm} {env : En} {r : R} {o : Option En} (h : f env = some (.rt r o)) : mSeq f g env = some (.rt r o) := by
  show bindM (f env) g = _
  rw [h]
  rfl
theorem fnS_eq {N n : Nat} {f : SFm} {st ds : List PyData} (h : ds.length + 1 = n) : fnS N n f st ds = resS (f (startS N n st ds)) := by
  unfold fnS
  rw [if_pos h]
theorem fnX_eq {N n : Nat} {f : SFm} {ds : List PyData} (h : ds.length = n) : fnX N n f ds = resX (f (startD N n ds)) := by
  unfold fnX
  rw [if_pos h]
@[simp] theorem stOf_own {ds : List PyData} {e : En} : stOf (.own ds :: e) = some ds := rfl
@[simp] theorem flatRes_val {d : PyData} : flatRes (.val d) = true := rfl
@[simp] theorem flatRes_own {d : List PyData} : flatRes (.own d) = true := rfl
/-- a comprehension over a typed list, with a state: J holds of what is made so far and of the names -/
theorem lcM_run {α : Type} {vs : List Nat} {g : GF} {c : TM} {f : EM} (enc : α → PyData) (J : List PyData → En → Prop) (all : List α)
    (turn : ∀ pre a post rs e, all = pre ++ a :: post → rs.length = pre.length → J rs e → ∃ e1 e2 e3 r, g (enc a) e = some e1 ∧ c e1 = some (.ok true e2) ∧ f e2 = some (.ok r e3) ∧ J (rs ++ [r.frz]) (wipeD e3 vs)) :
    ∀ {xs pre : List α} {rs : List PyData} {e : En}, all = pre ++ xs → rs.length = pre.length → J rs e → ∃ rs' e', lcM vs g c f (xs.map enc) e = some (rs', e') ∧ J (rs ++ rs') e' ∧ (rs ++ rs').length = all.length
  | [], pre, rs, e, h, hl, j => ⟨[], e, rfl, by rw [List.append_nil]; exact j, by rw [List.append_nil, hl, h, List.append_nil]⟩
  | a :: xs, pre, rs, e, h, hl, j => by
    obtain ⟨e1, e2, e3, r, h1, h2, h3, h4⟩ := turn pre a xs rs e h hl j
    obtain ⟨rs', e', h5, h6, h7⟩ := lcM_run enc J all turn (xs := xs) (pre := pre ++ [a]) (by rw [h, List.append_cons]) (by simp [hl]) h4
    refine ⟨r.frz :: rs', e', ?_, ?_, ?_⟩
    · rw [List.map_cons]
      unfold lcM
      rw [h1, Option.bind_some, h2]
      show (if true = true then _ else _) = _
      rw [if_pos rfl, h3]
      show (lcM vs g c f (xs.map enc) (wipeD e3 vs)).bind _ = _
      rw [h5]
      rfl
    · rw [List.append_cons]
      exact h6
    · rw [List.append_cons]
      exact h7
theorem lcM_typ {α : Type} {vs : List Nat} {g : GF} {c : TM} {f : EM} (enc : α → PyData) (J : List PyData → En → Prop) {all : List α} {e : En} (h : J [] e)
    (turn : ∀ pre a post rs e, all = pre ++ a :: post → rs.length = pre.length → J rs e → ∃ e1 e2 e3 r, g (enc a) e = some e1 ∧ c e1 = some (.ok true e2) ∧ f e2 = some (.ok r e3) ∧ J (rs ++ [r.frz]) (wipeD e3 vs)) :
    ∃ rs' e', lcM vs g c f (all.map enc) e = some (rs', e') ∧ J rs' e' ∧ rs'.length = all.length := by
  obtain ⟨rs', e', h1, h2, h3⟩ := lcM_run enc J all turn (xs := all) (pre := []) (rs := []) rfl rfl h
  exact ⟨rs', e', h1, h2, h3⟩
theorem mLc_eq {vs : List Nat} {it : IM} {g : GF} {c : TM} {f : EM} {env e0 e : En} {ds rs : List PyData} (h1 : it env = some (.ok ds e0)) (hl : Fits ds.length) (h2 : lcM vs g c f ds (wipeD e0 vs) = some (rs, e)) : mLc vs it g c f env = some (.ok (.own rs) (restD e0 vs e)) := by
  unfold mLc
  rw [h1, bM_ok, if_pos hl, h2]
  rfl
/-- a loop over a typed list -/
theorem forM_run {α : Type} {g : GF} {body : SFm} (enc : α → PyData) (P : List α → En → Prop) (all : List α)
    (turn : ∀ pre a post env, all = pre ++ a :: post → P pre env → ∃ e1 e2, g (enc a) env = some e1 ∧ body e1 = some (.nx e2) ∧ P (pre ++ [a]) e2) : ∀ {xs : List α} {pre : List α} {env : En}, all = pre ++ xs → P pre env →
    ∃ e, Dn.forM g body (xs.map enc) env = some (.nx e) ∧ P all e
  | [], pre, env, e, h => ⟨env, rfl, by rw [e, List.append_nil]; exact h⟩
  | a :: xs, pre, env, e, h => by
    obtain ⟨e1, e2, h1, h2, h3⟩ := turn pre a xs env e h
    obtain ⟨e', h4, h5⟩ := forM_run enc P all turn (xs := xs) (by rw [e, List.append_cons]) h3
    refine ⟨e', ?_, h5⟩
    rw [List.map_cons]
    show ((g (enc a) env).bind fun e1 => turnM (body e1) (Dn.forM g body (xs.map enc))) = _
    rw [h1]
    show turnM (body e1) _ = _
    rw [h2]
    exact h4
theorem forM_typ {α : Type} {g : GF} {body : SFm} (enc : α → PyData) (P : List α → En → Prop) {all : List α} {env : En} (h : P [] env)
    (turn : ∀ pre a post env, all = pre ++ a :: post → P pre env → ∃ e1 e2, g (enc a) env = some e1 ∧ body e1 = some (.nx e2) ∧ P (pre ++ [a]) e2) :
    ∃ e, Dn.forM g body (all.map enc) env = some (.nx e) ∧ P all e := forM_run enc P all turn rfl h
theorem gIn_t {x : Str} {ds : List PyData} {b : Bool} (h1 : SeqAt.shaped (.str x) = true := by decide +kernel) (h2 : SeqAt.shaped (.tuple ds) = true := by decide +kernel) (h3 : memD (.str x) ds = b := by decide +kernel) : gInG (.str x) (.tuple ds) = some (.val (.bool b)) := by
  show (if _ then _ else _) = _
  rw [if_pos ⟨h1, h2⟩, h3]
theorem gIn_l {x : Str} {ds : List PyData} {b : Bool} (h1 : SeqAt.shaped (.str x) = true := by decide +kernel) (h2 : SeqAt.shaped (.list ds) = true := by decide +kernel) (h3 : memD (.str x) ds = b := by decide +kernel) : gInG (.str x) (.list ds) = some (.val (.bool b)) := by
  show (if _ then _ else _) = _
  rw [if_pos ⟨h1, h2⟩, h3]
theorem gNotIn_l {x : Str} {ds : List PyData} {b : Bool} (h1 : SeqAt.shaped (.str x) = true := by decide +kernel) (h2 : SeqAt.shaped (.list ds) = true := by decide +kernel) (h3 : (!memD (.str x) ds) = b := by decide +kernel) : gNotInG (.str x) (.list ds) = some (.val (.bool b)) := by
  show (if _ then _ else _) = _
  rw [if_pos ⟨h1, h2⟩, h3]
abbrev sides : PyData := .tuple [.str "ours", .str "theirs"]
@[simp] theorem in_sides1 : gInG (.str "draw") sides = some (.val (.bool false)) := gIn_t
@[simp] theorem in_sides2 : gInG (.str "ours") sides = some (.val (.bool true)) := gIn_t
@[simp] theorem in_sides3 : gInG (.str "theirs") sides = some (.val (.bool true)) := gIn_t
@[simp] theorem in_sides4 : gInG (.str "reward") sides = some (.val (.bool false)) := gIn_t
@[simp] theorem in_sides5 : gInG (.str "finish") sides = some (.val (.bool false)) := gIn_t
@[simp] theorem in_sides6 : gInG (.str "lose") sides = some (.val (.bool false)) := gIn_t
theorem gNotIn_t {x : Str} {ds : List PyData} {b : Bool} (h1 : SeqAt.shaped (.str x) = true := by decide +kernel) (h2 : SeqAt.shaped (.tuple ds) = true := by decide +kernel) (h3 : (!memD (.str x) ds) = b := by decide +kernel) : gNotInG (.str x) (.tuple ds) = some (.val (.bool b)) := by
  show (if _ then _ else _) = _
  rw [if_pos ⟨h1, h2⟩, h3]
@[simp] theorem in_ends_draw : gInG (.str "draw") (.list [.str "finish", .str "lose"]) = some (.val (.bool false)) := gIn_l
@[simp] theorem in_endsT_draw : gInG (.str "draw") (.tuple [.str "finish", .str "lose"]) = some (.val (.bool false)) := gIn_t
@[simp] theorem notin_sides_draw : gNotInG (.str "draw") sides = some (.val (.bool true)) := gNotIn_t
@[simp] theorem in_ends_ours : gInG (.str "ours") (.list [.str "finish", .str "lose"]) = some (.val (.bool false)) := gIn_l
@[simp] theorem in_endsT_ours : gInG (.str "ours") (.tuple [.str "finish", .str "lose"]) = some (.val (.bool false)) := gIn_t
@[simp] theorem notin_sides_ours : gNotInG (.str "ours") sides = some (.val (.bool false)) := gNotIn_t
@[simp] theorem in_ends_theirs : gInG (.str "theirs") (.list [.str "finish", .str "lose"]) = some (.val (.bool false)) := gIn_l
@[simp] theorem in_endsT_theirs : gInG (.str "theirs") (.tuple [.str "finish", .str "lose"]) = some (.val (.bool false)) := gIn_t
@[simp] theorem notin_sides_theirs : gNotInG (.str "theirs") sides = some (.val (.bool false)) := gNotIn_t
@[simp] theorem in_ends_reward : gInG (.str "reward") (.list [.str "finish", .str "lose"]) = some (.val (.bool false)) := gIn_l
@[simp] theorem in_endsT_reward : gInG (.str "reward") (.tuple [.str "finish", .str "lose"]) = some (.val (.bool false)) := gIn_t
@[simp] theorem notin_sides_reward : gNotInG (.str "reward") sides = some (.val (.bool true)) := gNotIn_t
@[simp] theorem in_ends_finish : gInG (.str "finish") (.list [.str "finish", .str "lose"]) = some (.val (.bool true)) := gIn_l
@[simp] theorem in_endsT_finish : gInG (.str "finish") (.tuple [.str "finish", .str "lose"]) = some (.val (.bool true)) := gIn_t
@[simp] theorem notin_sides_finish : gNotInG (.str "finish") sides = some (.val (.bool true)) := gNotIn_t
@[simp] theorem in_ends_lose : gInG (.str "lose") (.list [.str "finish", .str "lose"]) = some (.val (.bool true)) := gIn_l
@[simp] theorem in_endsT_lose : gInG (.str "lose") (.tuple [.str "finish", .str "lose"]) = some (.val (.bool true)) := gIn_t
@[simp] theorem notin_sides_lose : gNotInG (.str "lose") sides = some (.val (.bool true)) := gNotIn_t
theorem lc_id {xs : List PyData} {env : En} {i : Nat} (hi : i < env.length) : lcD [i] (gtName i) tYesD (eVar i) env xs = some xs := by
  have h := lcD_typ (vs := [i]) (g := gtName i) (c := tYesD) (f := eVar i) (env := env) (fun d : PyData => d) (fun d => d) (xs := xs) fun a _ => ⟨(env.set i .no).set i (.val a), .val a, rfl, rfl, by
    have : (List.set env i (.val a))[i]? = some (.val a) := List.getElem?_set_self hi
    simp [this], rfl⟩
  simpa using h
theorem atI_il (xs : List Nat) (k : Nat) (h : k < xs.length) : atI (il xs) (k : Int) = some (.int ((xs.getD k 0 : Nat) : Int)) := by
  have := atI_map (f := nI) (List.getElem?_eq_getElem h)
  rw [this]
  simp [h]
end Dn
/-! Rq0: numbers as rationals -/
namespace Dn
open PySem PySem.Spec PyProof.Rows L2
abbrev qd (r : Rat) : PyData := .tuple [.int r.num, .int (r.den : Int)]
theorem qd_inj {a b : Rat} (h : qd a = qd b) : a = b := by
  injection h with h
  injection h with h1 h2
  injection h2 with h2 _
  injection h1 with h1
  injection h2 with h2
  exact Rat.ext h1 (by omega)
/-- fewer than k bits -/
structure Bt (k : Nat) (r : Rat) : Prop where
  n : r.num.natAbs < 2 ^ k
  d : r.den < 2 ^ k
theorem Bt.mono {k j : Nat} {r : Rat} (h : Bt k r) (hk : k ≤ j) : Bt j r :=
  ⟨Nat.lt_of_lt_of_le h.n (Nat.pow_le_pow_right (by decide) hk), Nat.lt_of_lt_of_le h.d (Nat.pow_le_pow_right (by decide) hk)⟩
theorem pow_mul_lt {a b k j : Nat} (ha : a < 2 ^ k) (hb : b < 2 ^ j) : a * b < 2 ^ (k + j) := by
  rw [Nat.pow_add]
  exact Nat.mul_lt_mul'' ha hb
theorem lt_div8 {n : Nat} {k : Nat} (h : n < 2 ^ k) (hk : k ≤ 8000) : n < divLim := Nat.lt_of_lt_of_le h (Nat.pow_le_pow_right (by decide) hk)
theorem lt_mulL {n : Nat} {k : Nat} (h : n < 2 ^ k) (hk : k ≤ 400000) : n < mulLim := Nat.lt_of_lt_of_le h (Nat.pow_le_pow_right (by decide) hk)
theorem mul_bt {i j : Int} {k : Nat} (h1 : i.natAbs < 2 ^ k) (h2 : j.natAbs < 2 ^ k) (hk : k ≤ 8000) : Dn.MulOk i j := .inr (.inr ⟨lt_mulL h1 (by omega), lt_mulL h2 (by omega)⟩)
theorem gcd_div_le (n d : Int) (h : d ≠ 0) : (Rat.divInt n d).num.natAbs ≤ n.natAbs ∧ (Rat.divInt n d).den ≤ d.natAbs := by
  rw [Rat.num_divInt, Rat.den_divInt, if_neg h]
  have hg : 0 < d.gcd n := Int.gcd_pos_of_ne_zero_left _ h
  refine ⟨?_, Nat.div_le_self _ _⟩
  refine Nat.le_trans (Int.natAbs_ediv_le_natAbs _ _) ?_
  rw [Int.natAbs_mul]
  have : d.sign.natAbs = 1 := by rw [Int.natAbs_sign]; rw [if_neg h]
  rw [this, Nat.one_mul]
  exact Nat.le_refl _
theorem Bt.of {n d : Int} {k : Nat} (h : d ≠ 0) (h1 : n.natAbs < 2 ^ k) (h2 : d.natAbs < 2 ^ k) : Bt k (Rat.divInt n d) :=
  ⟨Nat.lt_of_le_of_lt (gcd_div_le n d h).1 h1, Nat.lt_of_le_of_lt (gcd_div_le n d h).2 h2⟩
theorem add_divInt (a b : Rat) : a + b = Rat.divInt (a.num * b.den + b.num * a.den) ((a.den : Int) * b.den) := by
  rw [Rat.add_def', ← Rat.divInt_ofNat, Int.natCast_mul]
theorem sub_divInt (a b : Rat) : a - b = Rat.divInt (a.num * b.den - b.num * a.den) ((a.den : Int) * b.den) := by
  rw [Rat.sub_def', ← Rat.divInt_ofNat, Int.natCast_mul]
theorem mul_divInt (a b : Rat) : a * b = Rat.divInt (a.num * b.num) ((a.den : Int) * b.den) := by
  rw [Rat.mul_def', ← Rat.divInt_ofNat, Int.natCast_mul]
theorem div_divInt (a b : Rat) : a / b = Rat.divInt (a.num * b.den) ((a.den : Int) * b.num) := by
  rw [Rat.div_def, Rat.inv_def]
  have := Rat.divInt_mul_divInt a.num b.den (d₁ := a.den) (d₂ := b.num)
  rw [Rat.num_divInt_den] at this
  exact this
theorem den_ne (a : Rat) : (a.den : Int) ≠ 0 := by have := a.den_nz; omega
theorem Bt.add {a b : Rat} {k j : Nat} (ha : Bt k a) (hb : Bt j b) : Bt (k + j + 1) (a + b) := by
  rw [add_divInt]
  have m1 := pow_mul_lt ha.n hb.d
  have m2 := pow_mul_lt hb.n ha.d
  have m3 := pow_mul_lt ha.d hb.d
  have e : 2 ^ (k + j + 1) = 2 ^ (k + j) + 2 ^ (k + j) := by rw [Nat.pow_succ]; omega
  rw [Nat.add_comm j k] at m2
  refine Bt.of (Int.mul_ne_zero (den_ne _) (den_ne _)) ?_ ?_
  · have := Int.natAbs_add_le (a.num * b.den) (b.num * a.den)
    rw [Int.natAbs_mul, Int.natAbs_mul, Int.natAbs_natCast, Int.natAbs_natCast] at this
    omega
  · rw [Int.natAbs_mul, Int.natAbs_natCast, Int.natAbs_natCast]
    omega
theorem Bt.neg {a : Rat} {k : Nat} (ha : Bt k a) : Bt k (-a) := ⟨by rw [Rat.neg_num, Int.natAbs_neg]; exact ha.n, by rw [Rat.neg_den]; exact ha.d⟩
theorem Bt.sub {a b : Rat} {k j : Nat} (ha : Bt k a) (hb : Bt j b) : Bt (k + j + 1) (a - b) := by
  rw [Rat.sub_eq_add_neg]
  exact ha.add hb.neg
theorem Bt.mul {a b : Rat} {k j : Nat} (ha : Bt k a) (hb : Bt j b) : Bt (k + j) (a * b) := by
  rw [mul_divInt]
  refine Bt.of (Int.mul_ne_zero (den_ne _) (den_ne _)) ?_ ?_
  · rw [Int.natAbs_mul]
    exact pow_mul_lt ha.n hb.n
  · rw [Int.natAbs_mul, Int.natAbs_natCast, Int.natAbs_natCast]
    exact pow_mul_lt ha.d hb.d
theorem Bt.div {a b : Rat} {k j : Nat} (ha : Bt k a) (hb : Bt j b) (h0 : b ≠ 0) : Bt (k + j) (a / b) := by
  rw [div_divInt]
  have hn : b.num ≠ 0 := fun z => h0 (Rat.num_eq_zero.mp z)
  refine Bt.of (Int.mul_ne_zero (den_ne _) hn) ?_ ?_
  · rw [Int.natAbs_mul, Int.natAbs_natCast]
    exact pow_mul_lt ha.n hb.d
  · rw [Int.natAbs_mul, Int.natAbs_natCast]
    exact pow_mul_lt ha.d hb.n
theorem Bt.int {n : Int} {k : Nat} (h : n.natAbs < 2 ^ k) (hk : 1 ≤ k) : Bt k (n : Rat) := ⟨by simpa using h, by
  have : 2 ^ 1 ≤ 2 ^ k := Nat.pow_le_pow_right (by decide) hk
  simp
  omega⟩
theorem Bt.zero {k : Nat} (hk : 1 ≤ k) : Bt k 0 := Bt.int (n := 0) (by simp; exact Nat.pow_pos (by decide)) hk
theorem Bt.one {k : Nat} (hk : 1 ≤ k) : Bt k 1 := Bt.int (n := 1) (by
  have : 2 ^ 1 ≤ 2 ^ k := Nat.pow_le_pow_right (by decide) hk
  simp
  omega) hk
@[simp] theorem qd_zero : qd 0 = .tuple [.int 0, .int 1] := rfl
@[simp] theorem qd_one : qd 1 = .tuple [.int 1, .int 1] := rfl
/-- reduced by its greatest common divisor, the divisor's sign turned -/
theorem red_num {n d : Int} (h : 0 < d) : n.fdiv (Nat.gcd n.natAbs d.natAbs : Nat) = (Rat.divInt n d).num ∧ d.fdiv (Nat.gcd n.natAbs d.natAbs : Nat) = ((Rat.divInt n d).den : Int) := by
  have hg : 0 < Nat.gcd n.natAbs d.natAbs := Nat.gcd_pos_of_pos_right _ (by omega)
  have hs : d.sign = 1 := Int.sign_eq_one_of_pos h
  have e : d.gcd n = Nat.gcd n.natAbs d.natAbs := by unfold Int.gcd; rw [Nat.gcd_comm]
  rw [Rat.num_divInt, Rat.den_divInt, if_neg (by omega), hs, Int.one_mul, e]
  refine ⟨fdiv_pos (by omega), ?_⟩
  rw [fdiv_pos (by omega), Int.natCast_ediv]
  congr 1
  omega
theorem red_neg {n d : Int} (h : d < 0) : n.fdiv (-(Nat.gcd n.natAbs d.natAbs : Nat)) = (Rat.divInt n d).num ∧ d.fdiv (-(Nat.gcd n.natAbs d.natAbs : Nat)) = ((Rat.divInt n d).den : Int) := by
  have r := red_num (n := -n) (d := -d) (by omega)
  rw [Rat.neg_divInt_neg, Int.natAbs_neg, Int.natAbs_neg] at r
  rw [← r.1, ← r.2]
  constructor
  · rw [← Int.neg_fdiv_neg, Int.neg_neg]
  · rw [← Int.neg_fdiv_neg, Int.neg_neg]
/-! repr, == of numbers -/
theorem lay_qd (r : Rat) : PyData.canLay0 (qd r) = true ∧ PyData.depth (qd r) = 1 := ⟨rfl, rfl⟩
theorem shp_qd (r : Rat) : Shp (qd r) := rfl
theorem eqv_qd (a b : Rat) : PyData.eqv (qd a) (qd b) = decide (a = b) := by
  show (PyData.eqv (.int a.num) (.int b.num) && (PyData.eqv (.int (a.den : Int)) (.int (b.den : Int)) && true)) = _
  rw [eqv_int, eqv_int, Bool.and_true]
  by_cases h : a = b
  · subst h; simp
  · rw [decide_eq_false h]
    by_cases h1 : a.num = b.num
    · have h2 : (a.den : Int) ≠ b.den := fun z => h (Rat.ext h1 (by omega))
      rw [beq_eq_false_iff_ne.mpr h2, Bool.and_false]
    · rw [beq_eq_false_iff_ne.mpr h1, Bool.false_and]
theorem gEqT_qd (a b : Rat) : gEqT (qd a) (qd b) = some (.val (.bool (decide (a = b)))) := by
  show gEq (qd a) (qd b) = _
  unfold gEq
  rw [if_pos ⟨shp_qd a, shp_qd b⟩, eqv_qd]
theorem gNeT_qd (a b : Rat) : gNeT (qd a) (qd b) = some (.val (.bool (!decide (a = b)))) := by
  show gNe (qd a) (qd b) = _
  unfold gNe
  rw [if_pos ⟨shp_qd a, shp_qd b⟩, eqv_qd]
end Dn
/-! Rg0: games with rational chances, as a type of their own -/
namespace Dn
open PySem PySem.Spec PyProof.Rows L2
inductive Pl where
  | draw (bs : List (Rat × Nat))
  | ours (xs : List Nat)
  | theirs (xs : List Nat)
  | rew (c : Rat) (x : Nat)
  | fin
  | lose
abbrev brD (b : Rat × Nat) : PyData := .tuple [qd b.1, .int (b.2 : Int)]
def Pl.d : Pl → PyData
  | draw bs => .tuple [.str "draw", .list (bs.map brD)]
  | ours xs => .tuple [.str "ours", .list (il xs)]
  | theirs xs => .tuple [.str "theirs", .list (il xs)]
  | rew c x => .tuple [.str "reward", qd c, .int (x : Int)]
  | fin => .tuple [.str "finish"]
  | lose => .tuple [.str "lose"]
def Pl.k : Pl → Str
  | draw _ => "draw"
  | ours _ => "ours"
  | theirs _ => "theirs"
  | rew _ _ => "reward"
  | fin => "finish"
  | lose => "lose"
def Pl.tg : Pl → List Nat
  | draw bs => bs.map (·.2)
  | ours xs => xs
  | theirs xs => xs
  | rew _ x => [x]
  | fin => []
  | lose => []
abbrev gd (g : List Pl) : PyData := .list (g.map Pl.d)
/-- sums of rationals, from the left -/
def sumR (xs : List Rat) : Rat := xs.foldl (· + ·) 0
theorem foldl_add (xs : List Rat) (a : Rat) : xs.foldl (· + ·) a = a + xs.foldl (· + ·) 0 := by
  induction xs generalizing a with
  | nil => exact (Rat.add_zero a).symm
  | cons x xs ih =>
    rw [List.foldl_cons, List.foldl_cons, ih (a + x), ih (0 + x), Rat.zero_add, Rat.add_assoc]
@[simp] theorem sumR_nil : sumR [] = 0 := rfl
@[simp] theorem sumR_cons (x : Rat) (xs : List Rat) : sumR (x :: xs) = x + sumR xs := by
  unfold sumR
  rw [List.foldl_cons, foldl_add, Rat.zero_add]
theorem sumR_app (xs ys : List Rat) : sumR (xs ++ ys) = sumR xs + sumR ys := by
  induction xs with
  | nil => rw [List.nil_append, sumR_nil, Rat.zero_add]
  | cons x xs ih => rw [List.cons_append, sumR_cons, sumR_cons, ih, Rat.add_assoc]
theorem sumR_nonneg {xs : List Rat} (h : ∀ x ∈ xs, 0 ≤ x) : 0 ≤ sumR xs := by
  induction xs with
  | nil => exact Rat.le_refl
  | cons x xs ih =>
    rw [sumR_cons]
    exact Rat.add_nonneg (h x List.mem_cons_self) (ih fun y hy => h y (List.mem_cons_of_mem _ hy))
/-- a common denominator -/
def DenDvd (m : Nat) (r : Rat) : Prop := r.den ∣ m
theorem den_add_dvd {m : Nat} {a b : Rat} (ha : a.den ∣ m) (hb : b.den ∣ m) (hm : 0 < m) : (a + b).den ∣ m := by
  obtain ⟨x, hx⟩ := ha
  obtain ⟨y, hy⟩ := hb
  have e : a + b = mkRat (a.num * x + b.num * y) m := by
    have hx0 : x ≠ 0 := fun z => by rw [z, Nat.mul_zero] at hx; omega
    have hy0 : y ≠ 0 := fun z => by rw [z, Nat.mul_zero] at hy; omega
    have ea : a = mkRat (a.num * x) m := by
      rw [hx, Rat.mkRat_mul_right hx0, Rat.mkRat_self]
    have eb : b = mkRat (b.num * y) m := by
      rw [hy, Rat.mkRat_mul_right hy0, Rat.mkRat_self]
    have h := Rat.mkRat_add_mkRat (a.num * x) (b.num * y) (d₁ := m) (d₂ := m) (by omega) (by omega)
    rw [← ea, ← eb] at h
    rw [h, ← Int.add_mul, Rat.mkRat_mul_right (by omega)]
  rw [e, Rat.den_mkRat, if_neg (by omega)]
  exact Nat.div_dvd_of_dvd (Nat.gcd_dvd_left _ _)
theorem den_mul_dvd {m n : Nat} {a b : Rat} (ha : a.den ∣ m) (hb : b.den ∣ n) : (a * b).den ∣ m * n := by
  rw [Rat.den_mul]
  exact Nat.dvd_trans (Nat.div_dvd_of_dvd (Nat.gcd_dvd_right _ _)) (Nat.mul_dvd_mul ha hb)
theorem den_divInt_dvd (n : Int) (m : Nat) (h : m ≠ 0) : (Rat.divInt n m).den ∣ m := by
  rw [Rat.den_divInt, if_neg (by omega), Int.natAbs_natCast]
  exact Nat.div_dvd_of_dvd (Int.gcd_dvd_natAbs_left _ _)
/-- what the laws' drawn places keep: n places; chances whose denominator is at most 18 -/
def Chance (c : Rat) : Prop := 0 < c ∧ c ≤ 1 ∧ c.den ≤ 18
structure Amount (c : Rat) : Prop where
  n : 0 ≤ c
  b : Bt 6 c
def WfP (n : Nat) : Pl → Prop
  | .draw bs => 1 ≤ bs.length ∧ bs.length ≤ 6 ∧ (∀ b ∈ bs, Chance b.1 ∧ b.2 < n) ∧ sumR (bs.map (·.1)) = 1
  | .ours xs => 1 ≤ xs.length ∧ xs.length ≤ 6 ∧ ∀ x ∈ xs, x < n
  | .theirs xs => 1 ≤ xs.length ∧ xs.length ≤ 6 ∧ ∀ x ∈ xs, x < n
  | .rew c x => Amount c ∧ x < n
  | .fin => True
  | .lose => True
def WfG (g : List Pl) : Prop := ∀ p ∈ g, WfP g.length p
theorem Chance.bt {c : Rat} (h : Chance c) : Bt 5 c := by
  obtain ⟨h1, h2, h3⟩ := h
  have hn : c.num ≤ c.den := by
    have := (Rat.le_iff c 1).mp h2
    simp at this
    exact this
  have hp : 0 ≤ c.num := Rat.num_nonneg.mpr (Rat.le_of_lt h1)
  exact ⟨by omega, by omega⟩
theorem WfP.tg {n : Nat} {p : Pl} (h : WfP n p) : ∀ x ∈ p.tg, x < n := by
  cases p with
  | draw bs =>
    intro x hx
    obtain ⟨b, hb, rfl⟩ := List.mem_map.mp hx
    exact (h.2.2.1 b hb).2
  | ours xs => exact h.2.2
  | theirs xs => exact h.2.2
  | rew c x =>
    intro y hy
    cases List.mem_singleton.mp hy
    exact h.2
  | fin => intro x hx; cases hx
  | lose => intro x hx; cases hx
/-- parts of a whole -/
theorem shares_sum (ps : List Nat) (h : 0 < ps.sum) : sumR (ps.map fun p : Nat => Rat.divInt (p : Int) (ps.sum : Int)) = 1 := by
  have key : ∀ (S : Nat), S ≠ 0 → ∀ qs : List Nat, sumR (qs.map fun p : Nat => Rat.divInt (p : Int) (S : Int)) = Rat.divInt (qs.sum : Int) (S : Int) := fun S hS qs => by
    induction qs with
    | nil => exact (Rat.zero_divInt _).symm
    | cons q qs ih =>
      rw [List.map_cons, sumR_cons, ih, Rat.divInt_add_divInt _ _ (by omega) (by omega), List.sum_cons, ← Int.add_mul, Rat.divInt_mul_right (by omega), Int.natCast_add]
  rw [key ps.sum (by omega) ps]
  exact Rat.divInt_self' (by omega)
theorem share_chance (p S : Nat) (h1 : 1 ≤ p) (h2 : p ≤ S) (h3 : S ≤ 18) : Chance (Rat.divInt (p : Int) (S : Int)) := by
  have hS : (S : Int) ≠ 0 := by omega
  refine ⟨?_, ?_, ?_⟩
  · have h0 : 0 ≤ Rat.divInt (p : Int) (S : Int) := Rat.divInt_nonneg (by omega) (by omega)
    refine Rat.lt_of_le_of_ne h0 fun z => ?_
    rw [← Rat.zero_divInt 1, Rat.divInt_eq_divInt_iff (by omega) hS] at z
    omega
  · have e := Rat.divInt_eq_divInt_iff (n₁ := (Rat.divInt (p : Int) S).num) (d₁ := ((Rat.divInt (p : Int) S).den : Int)) (n₂ := (p : Int)) (d₂ := S) (den_ne _) hS
    rw [Rat.num_divInt_den] at e
    have e := e.mp rfl
    have hd : 0 < ((Rat.divInt (p : Int) S).den : Int) := by have := (Rat.divInt (p : Int) S).den_pos; omega
    generalize Rat.divInt (p : Int) S = r at *
    rw [Rat.le_iff]
    have hpS : (p : Int) * r.den ≤ S * r.den := Int.mul_le_mul_of_nonneg_right (by omega) (by omega)
    rw [← e, Int.mul_comm (S : Int)] at hpS
    have := Int.le_of_mul_le_mul_right hpS (by omega)
    simp
    exact this
  · exact Nat.le_trans (gcd_div_le _ _ hS).2 (by omega)
end Dn
/-! Rw: sizes of data: what repr and == want -/
namespace Dn
open PySem PySem.Spec PyProof.Rows L2
def Wd (k w : Nat) (d : PyData) : Prop := d.canLay0 = true ∧ d.depth ≤ k ∧ d.weight ≤ w ∧ d.intsShort 13 = true ∧ d.showable = true
theorem Wd.mono {k w k' w' : Nat} {d : PyData} (h : Wd k w d) (hk : k ≤ k') (hw : w ≤ w') : Wd k' w' d := ⟨h.1, Nat.le_trans h.2.1 hk, Nat.le_trans h.2.2.1 hw, h.2.2.2⟩
theorem wd_int {i : Int} (h : i.natAbs < 10 ^ 12) : Wd 0 40 (.int i) := by
  have hl : i.natAbs.log2 < 40 := by
    by_cases h0 : i.natAbs = 0
    · rw [h0]; decide
    · exact (Nat.log2_lt h0).mpr (Nat.lt_of_lt_of_le h (by decide))
  refine ⟨rfl, Nat.le_refl _, ?_, ?_, ?_⟩
  · show (if (i == 0) = true then 0 else i.natAbs.log2 + 1) ≤ 40
    split
    · omega
    · omega
  · show decide ((PyData.shown (.int i)).length ≤ 13) = true
    refine decide_eq_true ?_
    have e : (PyData.shown (.int i)).length = (toString i : String).length := by
      simp only [PyData.shown]
      exact PySem.ofString_length _
    rw [e]
    exact int_text_length_le10 (by decide) h
  · show decide (i.natAbs.log2 < 1920) = true
    exact decide_eq_true (by omega)
theorem wd_none : Wd 0 0 .none := ⟨rfl, Nat.le_refl _, Nat.le_refl _, rfl, rfl⟩
theorem wd_bool (b : Bool) : Wd 0 0 (.bool b) := ⟨rfl, Nat.le_refl _, Nat.le_refl _, rfl, rfl⟩
theorem wd_str {x : Str} {n : Nat} (h1 : PyData.strOk x = true := by decide +kernel) (h2 : x.cps.size ≤ n := by decide +kernel) : Wd 0 n (.str x) := ⟨h1, Nat.le_refl _, h2, rfl, rfl⟩
theorem wds {k w : Nat} : ∀ {ds : List PyData}, (∀ d ∈ ds, Wd k w d) → PyData.canLayAll0 ds = true ∧ PyData.depthAll ds ≤ k ∧ PyData.weightAll ds ≤ ds.length * (w + 1) ∧ PyData.intsShortAll 13 ds = true ∧ PyData.showableAll ds = true
  | [], _ => ⟨rfl, Nat.zero_le _, by simp [PyData.weightAll], rfl, rfl⟩
  | d :: ds, h => by
    obtain ⟨a1, a2, a3, a4, a5⟩ := h d List.mem_cons_self
    obtain ⟨b1, b2, b3, b4, b5⟩ := wds fun x hx => h x (List.mem_cons_of_mem _ hx)
    refine ⟨?_, ?_, ?_, ?_, ?_⟩
    · show (PyData.canLay0 d && _) = true
      rw [a1, b1]; rfl
    · show max d.depth _ ≤ k
      exact Nat.max_le.mpr ⟨a2, b2⟩
    · show d.weight + 1 + PyData.weightAll ds ≤ (ds.length + 1) * (w + 1)
      rw [Nat.succ_mul]
      omega
    · show (PyData.intsShort 13 d && _) = true
      rw [a4, b4]; rfl
    · show (PyData.showable d && _) = true
      rw [a5, b5]; rfl
theorem wd_list {k w : Nat} {ds : List PyData} (h : ∀ d ∈ ds, Wd k w d) : Wd (k + 1) (ds.length * (w + 1)) (.list ds) := by
  obtain ⟨b1, b2, b3, b4, b5⟩ := wds h
  exact ⟨b1, Nat.succ_le_succ b2, b3, b4, b5⟩
theorem wd_tuple {k w : Nat} {ds : List PyData} (h : ∀ d ∈ ds, Wd k w d) : Wd (k + 1) (ds.length * (w + 1)) (.tuple ds) := by
  obtain ⟨b1, b2, b3, b4, b5⟩ := wds h
  exact ⟨b1, Nat.succ_le_succ b2, b3, b4, b5⟩
theorem Wd.shp {k w : Nat} {d : PyData} (h : Wd k w d) (hk : k ≤ 64) : Shp d := by
  show (d.canLay0 && decide (d.depth ≤ 64)) = true
  rw [h.1, Bool.true_and]
  exact decide_eq_true (Nat.le_trans h.2.1 hk)
theorem Wd.shw {k w : Nat} {d : PyData} (h : Wd k w d) (hk : k ≤ 64) (hw : w ≤ 2 ^ 20) : Shw d := by
  refine ⟨h.2.2.2.2, h.shp hk, ?_⟩
  have hl : PyData.layable0 d = true := by
    show (d.canLay0 && decide (d.depth ≤ 64) && decide (d.weight ≤ 2 ^ 20)) = true
    rw [h.1, Bool.true_and, decide_eq_true (Nat.le_trans h.2.1 hk), decide_eq_true (Nat.le_trans h.2.2.1 hw)]
    rfl
  exact Nat.le_trans (shown_le13 hl h.2.2.2.1) (by rw [sizeLine_eq]; decide)
theorem wd_nat {n : Nat} (h : n < 10 ^ 12) : Wd 0 40 (nI n) := wd_int (by omega)
theorem wd_il {xs : List Nat} (h : ∀ x ∈ xs, x < 10 ^ 12) : Wd 1 (xs.length * 41) (.list (il xs)) := by
  have := wd_list (k := 0) (w := 40) (ds := il xs) fun d hd => by
    obtain ⟨x, hx, rfl⟩ := List.mem_map.mp hd
    exact wd_nat (h x hx)
  rwa [il, List.length_map] at this
theorem wd_od {o : Option Nat} (h : ∀ n, o = some n → n < 10 ^ 12) : Wd 0 40 (od o) := by
  cases o with
  | none => exact wd_none.mono (by decide) (by decide)
  | some n => exact wd_nat (h n rfl)
def Pl.cs : Pl → List PyData
  | .draw bs => bs.map fun b => qd b.1
  | .rew c _ => [qd c]
  | _ => []
theorem wd_qd {k : Nat} {c : Rat} (h : Bt k c) (hk : k ≤ 39) : Wd 1 90 (qd c) := by
  have hp : 2 ^ k ≤ 2 ^ 39 := Nat.pow_le_pow_right (by decide) hk
  have h1 := h.n
  have h2 := h.d
  exact (wd_tuple (k := 0) (w := 40) (ds := [.int c.num, .int (c.den : Int)]) fun d hd => by
    simp at hd
    rcases hd with rfl | rfl
    · exact wd_int (by omega)
    · exact wd_int (by omega)).mono (by decide) (by simp)
/-- a place's data is small -/
def SmP (p : Pl) : Prop := p.tg.length ≤ 6 ∧ (∀ x ∈ p.tg, x < 1000) ∧ ∀ c ∈ p.cs, Wd 1 90 c
theorem wd_place {p : Pl} (h : SmP p) : Wd 4 2500 p.d := by
  obtain ⟨h1, h2, h3⟩ := h
  have two : ∀ {s : Str} {e : PyData}, Wd 0 20 (.str s) → Wd 3 1200 e → Wd 4 2500 (.tuple [.str s, e]) := fun {s e} a b =>
    (wd_tuple (k := 3) (w := 1200) (ds := [.str s, e]) fun d hd => by
      simp at hd
      rcases hd with rfl | rfl
      · exact a.mono (by decide) (by decide)
      · exact b).mono (by decide) (by simp)
  cases p with
  | draw bs =>
    refine two wd_str ((wd_list (k := 2) (w := 182) fun d hd => ?_).mono (by decide) ?_)
    · obtain ⟨b, hb, rfl⟩ := List.mem_map.mp hd
      have hx : b.2 < 1000 := h2 b.2 (List.mem_map.mpr ⟨b, hb, rfl⟩)
      have := wd_tuple (k := 1) (w := 90) (ds := [qd b.1, nI b.2]) fun d hd => by
        simp at hd
        rcases hd with rfl | rfl
        · exact h3 (qd b.1) (List.mem_map.mpr ⟨b, hb, rfl⟩)
        · exact (wd_nat (by omega)).mono (by decide) (by decide)
      exact this
    · rw [List.length_map]
      have : bs.length ≤ 6 := by simpa [Pl.tg] using h1
      omega
  | ours xs =>
    have h1 : xs.length ≤ 6 := h1
    exact two wd_str ((wd_il fun x hx => by have := h2 x hx; omega).mono (by decide) (by omega))
  | theirs xs =>
    have h1 : xs.length ≤ 6 := h1
    exact two wd_str ((wd_il fun x hx => by have := h2 x hx; omega).mono (by decide) (by omega))
  | rew c x =>
    have hx : x < 1000 := h2 x (by simp [Pl.tg])
    exact (wd_tuple (k := 1) (w := 90) (ds := [.str "reward", qd c, nI x]) fun d hd => by
      simp at hd
      rcases hd with rfl | rfl | rfl
      · exact (wd_str (n := 6)).mono (by decide) (by decide)
      · exact h3 _ (by simp [Pl.cs])
      · exact (wd_nat (by omega)).mono (by decide) (by decide)).mono (by decide) (by simp)
  | fin => exact (wd_tuple (k := 0) (w := 6) (ds := [.str "finish"]) fun d hd => by
      simp at hd
      subst hd
      exact wd_str).mono (by decide) (by simp)
  | lose => exact (wd_tuple (k := 0) (w := 6) (ds := [.str "lose"]) fun d hd => by
      simp at hd
      subst hd
      exact wd_str).mono (by decide) (by simp)
theorem wd_game {g : List Pl} (h : ∀ p ∈ g, SmP p) : Wd 5 (g.length * 2501) (gd g) := by
  have := wd_list (k := 4) (w := 2500) (ds := g.map Pl.d) fun d hd => by
    obtain ⟨p, hp, rfl⟩ := List.mem_map.mp hd
    exact wd_place (h p hp)
  rwa [List.length_map] at this
theorem WfP.sm {n : Nat} {p : Pl} (h : WfP n p) (hn : n ≤ 1000) : SmP p := by
  refine ⟨?_, fun x hx => Nat.lt_of_lt_of_le (h.tg x hx) hn, ?_⟩
  · cases p with
    | draw bs => simpa [Pl.tg] using h.2.1
    | ours xs => exact h.2.1
    | theirs xs => exact h.2.1
    | rew c x => simp [Pl.tg]
    | fin => simp [Pl.tg]
    | lose => simp [Pl.tg]
  · intro c hc
    cases p with
    | draw bs =>
      obtain ⟨b, hb, rfl⟩ := List.mem_map.mp hc
      exact wd_qd (h.2.2.1 b hb).1.bt (by decide)
    | ours xs => cases hc
    | theirs xs => cases hc
    | rew c x =>
      cases List.mem_singleton.mp hc
      exact wd_qd h.1.b (by decide)
    | fin => cases hc
    | lose => cases hc
theorem WfG.wd {g : List Pl} (h : WfG g) (hn : g.length ≤ 1000) : Wd 5 (g.length * 2501) (gd g) := wd_game fun p hp => (h p hp).sm hn
theorem wd_nums {k : Nat} {rs : List Rat} (h : ∀ r ∈ rs, Bt k r) (hk : k ≤ 39) : Wd 2 (rs.length * 91) (.list (rs.map qd)) := by
  have := wd_list (k := 1) (w := 90) (ds := rs.map qd) fun d hd => by
    obtain ⟨r, hr, rfl⟩ := List.mem_map.mp hd
    exact wd_qd (h r hr) hk
  rwa [List.length_map] at this
/-- repr of a game and something else -/
theorem shw_pair {a b : PyData} {w v : Nat} (ha : Wd 10 w a) (hb : Wd 10 v b) (hw : w ≤ 200000) (hv : v ≤ 200000) : Shw (.tuple [a, b]) := by
  refine ((wd_tuple (k := 10) (w := 200000) (ds := [a, b]) fun d hd => ?_).shw (by decide) (by simp))
  simp at hd
  rcases hd with rfl | rfl
  · exact ha.mono (by decide) hw
  · exact hb.mono (by decide) hv
theorem gRepr_tup {ds : List PyData} (h : Shw (.tuple ds)) : gRepr [.tuple ds] = some (.val (.str (PyData.shown (.tuple ds)))) := by
  exact if_pos h
theorem gRepr_lst {ds : List PyData} (h : Shw (.list ds)) : gRepr [.list ds] = some (.val (.str (PyData.shown (.list ds)))) := by
  exact if_pos h
end Dn
/-! Rz: loops and comprehensions, the turn as one equation -/
namespace Dn
open PySem PySem.Spec PyProof.Rows L2
@[simp] theorem in_sidesL_draw : gInG (.str "draw") (.list [.str "ours", .str "theirs"]) = some (.val (.bool false)) := gIn_l
@[simp] theorem in_sidesL_ours : gInG (.str "ours") (.list [.str "ours", .str "theirs"]) = some (.val (.bool true)) := gIn_l
@[simp] theorem in_sidesL_theirs : gInG (.str "theirs") (.list [.str "ours", .str "theirs"]) = some (.val (.bool true)) := gIn_l
@[simp] theorem in_sidesL_reward : gInG (.str "reward") (.list [.str "ours", .str "theirs"]) = some (.val (.bool false)) := gIn_l
@[simp] theorem in_sidesL_finish : gInG (.str "finish") (.list [.str "ours", .str "theirs"]) = some (.val (.bool false)) := gIn_l
@[simp] theorem in_sidesL_lose : gInG (.str "lose") (.list [.str "ours", .str "theirs"]) = some (.val (.bool false)) := gIn_l
theorem gIx_list {ds : List PyData} {k : Int} : gIx (.list ds) (.int k) = (atI ds k).bind fun d => some (.val d) := rfl
theorem gIx_tup {ds : List PyData} {k : Int} : gIx (.tuple ds) (.int k) = (atI ds k).bind fun d => some (.val d) := rfl
/-- a turn that goes on -/
def nxt : Option Out → Option En
  | some (.nx e) => some e
  | some (.ct e) => some e
  | _ => none
@[simp] theorem nxt_nx {e : En} : nxt (some (.nx e)) = some e := rfl
@[simp] theorem nxt_ct {e : En} : nxt (some (.ct e)) = some e := rfl
theorem nxt_some {o : Option Out} {e : En} (h : nxt o = some e) : o = some (.nx e) ∨ o = some (.ct e) := by
  cases o with
  | none => cases h
  | some x =>
    cases x with
    | nx e' => cases h; exact .inl rfl
    | ct e' => cases h; exact .inr rfl
    | rt r => cases h
    | bk e' => cases h
theorem turnO_nxt {o : Option Out} {e : En} {k : SF} (h : nxt o = some e) : turnO o k = k e := by
  rcases nxt_some h with rfl | rfl <;> rfl
/-- one element of a comprehension -/
def elD (vs : List Nat) (g : GF) (c : TF) (f : EF) (env : En) (d : PyData) : Option (Option PyData) := (g d (wipeD env vs)).bind fun e1 => (c e1).bind fun b => if b = true then (f e1).bind fun r => some (some r.frz) else some none
theorem lcD_el {α : Type} {vs : List Nat} {g : GF} {c : TF} {f : EF} {env : En} (enc h : α → PyData) (p : α → Bool) : ∀ {xs : List α}, (∀ a ∈ xs, elD vs g c f env (enc a) = some (if p a = true then some (h a) else none)) → lcD vs g c f env (xs.map enc) = some ((xs.filter p).map h)
  | [], _ => rfl
  | a :: xs, hd => by
    have ih := lcD_el (xs := xs) enc h p fun x hx => hd x (List.mem_cons_of_mem _ hx)
    have ha := hd a List.mem_cons_self
    unfold elD at ha
    obtain ⟨e1, h1, ha⟩ := bnd ha
    obtain ⟨b, h2, ha⟩ := bnd ha
    rw [List.map_cons]
    unfold lcD
    rw [h1, Option.bind_some, h2, Option.bind_some]
    by_cases hp : p a = true
    · rw [if_pos hp] at ha
      by_cases hb : b = true
      · rw [if_pos hb] at ha ⊢
        obtain ⟨r, h3, ha⟩ := bnd ha
        have ha := Option.some.inj (Option.some.inj ha)
        rw [h3, Option.bind_some, ih, Option.bind_some, List.filter_cons_of_pos hp, List.map_cons, ha]
      · rw [if_neg hb] at ha
        cases ha
    · rw [if_neg hp] at ha
      by_cases hb : b = true
      · rw [if_pos hb] at ha
        obtain ⟨r, h3, ha⟩ := bnd ha
        cases ha
      · rw [if_neg hb, ih, List.filter_cons_of_neg hp]
theorem eLc_flt {α : Type} {vs : List Nat} {it : IF} {g : GF} {c : TF} {f : EF} {env : En} (enc h : α → PyData) (p : α → Bool) {xs : List α} (hi : it env = some (xs.map enc)) (hl : xs.length ≤ 100000)
    (he : ∀ a ∈ xs, elD vs g c f env (enc a) = some (if p a = true then some (h a) else none)) : eLc vs it g c f env = some (.own ((xs.filter p).map h)) := by
  rw [eLc_eq hi (by rw [List.length_map]; exact fits hl) (lcD_el enc h p he)]
theorem eLc_map {α : Type} {vs : List Nat} {it : IF} {g : GF} {c : TF} {f : EF} {env : En} (enc h : α → PyData) {xs : List α} (hi : it env = some (xs.map enc)) (hl : xs.length ≤ 100000)
    (he : ∀ a ∈ xs, elD vs g c f env (enc a) = some (some (h a))) : eLc vs it g c f env = some (.own (xs.map h)) := by
  have := eLc_flt (f := f) (c := c) (g := g) (vs := vs) enc h (fun _ => true) hi hl (fun a ha => by rw [he a ha]; rfl)
  rwa [List.filter_eq_self.mpr (fun _ _ => rfl)] at this
theorem forD_wp {α : Type} {g : GF} {body : SF} (enc : α → PyData) (P : List α → En → Prop) {all : List α} {env : En} (h : P [] env)
    (turn : ∀ pre a post env, all = pre ++ a :: post → P pre env → ∃ e2, nxt ((g (enc a) env).bind body) = some e2 ∧ P (pre ++ [a]) e2) :
    ∃ e, forD g body (all.map enc) env = some (.nx e) ∧ P all e := by
  suffices H : ∀ (xs pre : List α) (env : En), all = pre ++ xs → P pre env → ∃ e, forD g body (xs.map enc) env = some (.nx e) ∧ P all e from H all [] env rfl h
  intro xs
  induction xs with
  | nil => exact fun pre env e h => ⟨env, rfl, by rw [e, List.append_nil]; exact h⟩
  | cons a xs ih =>
    intro pre env e h
    obtain ⟨e2, h1, h2⟩ := turn pre a xs env e h
    obtain ⟨e', h3, h4⟩ := ih (pre ++ [a]) e2 (by rw [e, List.append_cons]) h2
    refine ⟨e', ?_, h4⟩
    rw [List.map_cons]
    show ((g (enc a) env).bind fun e1 => turnO (body e1) (forD g body (xs.map enc))) = _
    cases q : g (enc a) env with
    | none => rw [q] at h1; cases h1
    | some e1 =>
      rw [q] at h1
      have h1 : nxt (body e1) = some e2 := h1
      rw [Option.bind_some, turnO_nxt h1, h3]
/-- with a way out: the first element at which stop gives an answer -/
theorem forD_stop {α : Type} {g : GF} {body : SF} (enc : α → PyData) (P : List α → En → Prop) (stop : α → Option R) {all : List α} {env : En} (h : P [] env)
    (turn : ∀ pre a post env, all = pre ++ a :: post → P pre env → match stop a with
      | none => ∃ e2, nxt ((g (enc a) env).bind body) = some e2 ∧ P (pre ++ [a]) e2
      | some r => (g (enc a) env).bind body = some (.rt r)) :
    match all.findSome? stop with
      | none => ∃ e, forD g body (all.map enc) env = some (.nx e) ∧ P all e
      | some r => forD g body (all.map enc) env = some (.rt r) := by
  suffices H : ∀ (xs pre : List α) (env : En), all = pre ++ xs → P pre env → match xs.findSome? stop with
      | none => ∃ e, forD g body (xs.map enc) env = some (.nx e) ∧ P all e
      | some r => forD g body (xs.map enc) env = some (.rt r) from H all [] env rfl h
  intro xs
  induction xs with
  | nil => exact fun pre env e h => ⟨env, rfl, by rw [e, List.append_nil]; exact h⟩
  | cons a xs ih =>
    intro pre env e h
    have t := turn pre a xs env e h
    rw [List.findSome?_cons]
    have e0 : forD g body ((a :: xs).map enc) env = ((g (enc a) env).bind fun e1 => turnO (body e1) (forD g body (xs.map enc))) := rfl
    cases q : stop a with
    | none =>
      rw [q] at t
      obtain ⟨e2, h1, h2⟩ := t
      have r := ih (pre ++ [a]) e2 (by rw [e, List.append_cons]) h2
      have e1 : forD g body ((a :: xs).map enc) env = forD g body (xs.map enc) e2 := by
        rw [e0]
        cases q2 : g (enc a) env with
        | none => rw [q2] at h1; cases h1
        | some e1 =>
          rw [q2] at h1
          have h1 : nxt (body e1) = some e2 := h1
          rw [Option.bind_some, turnO_nxt h1]
      rw [e1]
      exact r
    | some r =>
      rw [q] at t
      show forD g body ((a :: xs).map enc) env = _
      rw [e0]
      cases q2 : g (enc a) env with
      | none => rw [q2] at t; cases t
      | some e1 =>
        rw [q2, Option.bind_some] at t
        rw [Option.bind_some, t]
        rfl
def nxtM : Option OutM → Option En
  | some (.nx e) => some e
  | some (.ct e) => some e
  | _ => none
@[simp] theorem nxtM_nx {e : En} : nxtM (some (.nx e)) = some e := rfl
@[simp] theorem nxtM_ct {e : En} : nxtM (some (.ct e)) = some e := rfl
theorem turnM_nxt {o : Option OutM} {e : En} {k : SFm} (h : nxtM o = some e) : turnM o k = k e := by
  cases o with
  | none => cases h
  | some x =>
    cases x with
    | nx e' => cases h; rfl
    | ct e' => cases h; rfl
    | rt r o => cases h
    | bk e' => cases h
    | ex x e' => cases h
theorem forM_wp {α : Type} {g : GF} {body : SFm} (enc : α → PyData) (P : List α → En → Prop) {all : List α} {env : En} (h : P [] env)
    (turn : ∀ pre a post env, all = pre ++ a :: post → P pre env → ∃ e2, nxtM ((g (enc a) env).bind body) = some e2 ∧ P (pre ++ [a]) e2) :
    ∃ e, Dn.forM g body (all.map enc) env = some (.nx e) ∧ P all e := by
  suffices H : ∀ (xs pre : List α) (env : En), all = pre ++ xs → P pre env → ∃ e, Dn.forM g body (xs.map enc) env = some (.nx e) ∧ P all e from H all [] env rfl h
  intro xs
  induction xs with
  | nil => exact fun pre env e h => ⟨env, rfl, by rw [e, List.append_nil]; exact h⟩
  | cons a xs ih =>
    intro pre env e h
    obtain ⟨e2, h1, h2⟩ := turn pre a xs env e h
    obtain ⟨e', h3, h4⟩ := ih (pre ++ [a]) e2 (by rw [e, List.append_cons]) h2
    refine ⟨e', ?_, h4⟩
    rw [List.map_cons]
    show ((g (enc a) env).bind fun e1 => turnM (body e1) (Dn.forM g body (xs.map enc))) = _
    cases q : g (enc a) env with
    | none => rw [q] at h1; cases h1
    | some e1 =>
      rw [q] at h1
      have h1 : nxtM (body e1) = some e2 := h1
      rw [Option.bind_some, turnM_nxt h1, h3]
/-- one element of a comprehension with a state -/
noncomputable def elM (vs : List Nat) (g : GF) (c : TM) (f : EM) (e : En) (d : PyData) : Option (Option PyData × En) := (g d e).bind fun e1 => match c e1 with
    | some (.ok b e2) => if b = true then match f e2 with
        | some (.ok r e3) => some (some r.frz, wipeD e3 vs)
        | _ => none
      else some (none, wipeD e2 vs)
    | _ => none
theorem lcM_wp {α : Type} {vs : List Nat} {g : GF} {c : TM} {f : EM} (enc : α → PyData) (J : List α → List PyData → En → Prop) {all : List α} {env : En} (h : J [] [] env)
    (turn : ∀ pre a post rs e, all = pre ++ a :: post → rs.length = pre.length → J pre rs e → ∃ r e3, elM vs g c f e (enc a) = some (some r, e3) ∧ J (pre ++ [a]) (rs ++ [r]) e3) :
    ∃ rs e, lcM vs g c f (all.map enc) env = some (rs, e) ∧ J all rs e ∧ rs.length = all.length := by
  suffices H : ∀ (xs pre : List α) (rs : List PyData) (env : En), all = pre ++ xs → rs.length = pre.length → J pre rs env → ∃ rs' e, lcM vs g c f (xs.map enc) env = some (rs', e) ∧ J all (rs ++ rs') e ∧ (rs ++ rs').length = all.length by
    obtain ⟨rs, e, h1, h2, h3⟩ := H all [] [] env rfl rfl h
    exact ⟨rs, e, h1, h2, h3⟩
  intro xs
  induction xs with
  | nil => exact fun pre rs env e hl h => ⟨[], env, rfl, by rw [e, List.append_nil, List.append_nil]; exact h, by rw [List.append_nil, hl, e, List.append_nil]⟩
  | cons a xs ih =>
    intro pre rs env e hl h
    obtain ⟨r, e3, h1, h2⟩ := turn pre a xs rs env e hl h
    obtain ⟨rs', e', h3, h4, h5⟩ := ih (pre ++ [a]) (rs ++ [r]) e3 (by rw [e, List.append_cons]) (by simp [hl]) h2
    refine ⟨r :: rs', e', ?_, by rw [List.append_cons]; exact h4, by rw [List.append_cons]; exact h5⟩
    rw [List.map_cons]
    unfold elM at h1
    unfold lcM
    cases q : g (enc a) env with
    | none => rw [q] at h1; cases h1
    | some e1 =>
      rw [q, Option.bind_some] at h1
      rw [Option.bind_some]
      cases q2 : c e1 with
      | none => rw [q2] at h1; cases h1
      | some z =>
        rw [q2] at h1
        cases z with
        | ex x e => cases h1
        | ok b e2 =>
          cases b with
          | false => cases h1
          | true =>
            cases q3 : f e2 with
            | none =>
              have h1 : (match f e2 with
                | some (.ok r e3) => some (some r.frz, wipeD e3 vs)
                | _ => none : Option (Option PyData × En)) = some (some r, e3) := h1
              rw [q3] at h1
              cases h1
            | some w =>
              have h1 : (match f e2 with
                | some (.ok r e3) => some (some r.frz, wipeD e3 vs)
                | _ => none : Option (Option PyData × En)) = some (some r, e3) := h1
              rw [q3] at h1
              cases w with
              | ex x e => cases h1
              | ok r0 e4 =>
                cases h1
                show ((match f e2 with
                  | some (.ok r e3) => (lcM vs g c f (xs.map enc) (wipeD e3 vs)).bind fun p => some (r.frz :: p.1, p.2)
                  | _ => none : Option (List PyData × En))) = _
                rw [q3]
                show (lcM vs g c f (xs.map enc) (wipeD e4 vs)).bind _ = _
                rw [h3]
                rfl
theorem mLc_wp {α : Type} {vs : List Nat} {it : IM} {g : GF} {c : TM} {f : EM} {env e0 : En} (enc : α → PyData) (J : List α → List PyData → En → Prop) {all : List α} (hi : it env = some (.ok (all.map enc) e0)) (hl : all.length ≤ 100000) (h : J [] [] (wipeD e0 vs))
    (turn : ∀ pre a post rs e, all = pre ++ a :: post → rs.length = pre.length → J pre rs e → ∃ r e3, elM vs g c f e (enc a) = some (some r, e3) ∧ J (pre ++ [a]) (rs ++ [r]) e3) :
    ∃ rs e, mLc vs it g c f env = some (.ok (.own rs) (restD e0 vs e)) ∧ J all rs e ∧ rs.length = all.length := by
  obtain ⟨rs, e, h1, h2, h3⟩ := lcM_wp enc J h turn
  exact ⟨rs, e, mLc_eq hi (by rw [List.length_map]; exact fits hl) h1, h2, h3⟩
/-- a loop over an owned list -/
theorem forO_wp {α : Type} {i : Nat} {g : GF} {body : SFm} (enc : α → PyData) (P : List α → En → Prop) {all : List α} {env : En} (h : P [] env) (own : ∀ pre env, P pre env → env[i]? = some (.own (all.map enc)))
    (turn : ∀ pre a post env, all = pre ++ a :: post → P pre env → ∃ e2, nxtM ((g (enc a) env).bind body) = some e2 ∧ P (pre ++ [a]) e2) :
    ∃ e, mForO i g body env = some (.nx e) ∧ P all e := by
  suffices H : ∀ (xs pre : List α) (env : En), all = pre ++ xs → P pre env → ∃ e, forO i (all.map enc) g body (xs.map enc) env = some (.nx e) ∧ P all e by
    obtain ⟨e, h1, h2⟩ := H all [] env rfl h
    refine ⟨e, ?_, h2⟩
    unfold mForO
    rw [own [] env h]
    exact h1
  intro xs
  induction xs with
  | nil => exact fun pre env e h => ⟨env, if_pos (show IsOwn env i (all.map enc) from own pre env h), by rw [e, List.append_nil]; exact h⟩
  | cons a xs ih =>
    intro pre env e h
    obtain ⟨e2, h1, h2⟩ := turn pre a xs env e h
    obtain ⟨e', h3, h4⟩ := ih (pre ++ [a]) e2 (by rw [e, List.append_cons]) h2
    refine ⟨e', ?_, h4⟩
    rw [List.map_cons]
    show (if IsOwn env i (all.map enc) then ((g (enc a) env).bind fun e1 => turnM (body e1) (forO i (all.map enc) g body (xs.map enc))) else none) = _
    rw [if_pos (show IsOwn env i (all.map enc) from own pre env h)]
    cases q : g (enc a) env with
    | none => rw [q] at h1; cases h1
    | some e1 =>
      rw [q] at h1
      have h1 : nxtM (body e1) = some e2 := h1
      rw [Option.bind_some, turnM_nxt h1, h3]
theorem run_nx {S T : SFm} {env e : En} {x : Option FX} (h1 : S env = some (.nx e)) (h2 : resX (T e) = x) : resX (mSeq S T env) = x := by
  rw [mseq_nx h1]
  exact h2
theorem getD_mem {α : Type} {xs : List α} {v : Nat} {d : α} (h : v < xs.length) : xs.getD v d ∈ xs := by
  have : xs.getD v d = xs[v] := by simp [h]
  rw [this]
  exact List.getElem_mem h
end Dn
/-! Rs0: first best branches, lists changed place by place -/
namespace Dn
open PySem PySem.Spec PyProof.Rows L2
theorem fstD_qd (v : Rat) : ∀ rs : List Rat, fstD (qd v) (rs.map qd) = rs.findIdx? (fun r => decide (r = v))
  | [] => rfl
  | r :: rs => by
    rw [List.map_cons, List.findIdx?_cons]
    show (if PyData.eqv (qd r) (qd v) = true then some 0 else (fstD (qd v) (rs.map qd)).map (· + 1)) = _
    rw [eqv_qd, fstD_qd v rs]
def better (side : Str) (new old : Rat) : Bool := if side = ("ours" : Str) then decide (old < new) else decide (new < old)
/-- the first best of the first n -/
def bestN (bt : Rat → Rat → Bool) (rs : List Rat) : Nat → Nat
  | 0 => 0
  | n + 1 => if bt (rs.getD n 0) (rs.getD (bestN bt rs n) 0) = true then n else bestN bt rs n
theorem bestN_succ (bt : Rat → Rat → Bool) (rs : List Rat) (n : Nat) : bestN bt rs (n + 1) = if bt (rs.getD n 0) (rs.getD (bestN bt rs n) 0) = true then n else bestN bt rs n := rfl
structure StrictW (bt : Rat → Rat → Bool) : Prop where
  asym : ∀ a b, bt a b = true → bt b a = false
  neg : ∀ a b c, bt a b = false → bt b c = false → bt a c = false
theorem StrictW.irr {bt : Rat → Rat → Bool} (w : StrictW bt) (a : Rat) : bt a a = false := by
  cases h : bt a a with
  | false => rfl
  | true => exact (w.asym a a h).symm.trans h |>.symm ▸ rfl
theorem StrictW.trans {bt : Rat → Rat → Bool} (w : StrictW bt) {a b c : Rat} (h1 : bt a b = true) (h2 : bt b c = true) : bt a c = true := by
  cases h : bt a c with
  | true => rfl
  | false => rw [w.neg b a c (w.asym _ _ h1) h] at h2; cases h2
theorem StrictW.le_ltX {bt : Rat → Rat → Bool} (w : StrictW bt) {a b c : Rat} (h1 : bt b a = false) (h2 : bt b c = true) : bt a c = true := by
  cases h : bt a c with
  | true => rfl
  | false => rw [w.neg b a c h1 h] at h2; cases h2
theorem StrictW.le_lt_r {bt : Rat → Rat → Bool} (w : StrictW bt) {a b c : Rat} (h1 : bt a b = false) (h2 : bt c b = true) : bt c a = true := by
  cases h : bt c a with
  | true => rfl
  | false => rw [w.neg c a b h h1] at h2; cases h2
theorem better_w (side : Str) : StrictW (better side) := by
  refine ⟨fun a b h => ?_, fun a b c h1 h2 => ?_⟩
  · unfold better at *
    split at h
    · rename_i hs
      rw [if_pos hs]
      simp [Rat.not_lt] at *
      exact Rat.le_of_lt h
    · rename_i hs
      rw [if_neg hs]
      simp [Rat.not_lt] at *
      exact Rat.le_of_lt h
  · unfold better at *
    split at h1
    · rename_i hs
      rw [if_pos hs] at h2 ⊢
      simp [Rat.not_lt] at *
      exact Rat.le_trans h1 h2
    · rename_i hs
      rw [if_neg hs] at h2 ⊢
      simp [Rat.not_lt] at *
      exact Rat.le_trans h2 h1
theorem bestN_spec {bt : Rat → Rat → Bool} (w : StrictW bt) (rs : List Rat) : ∀ n : Nat, 1 ≤ n → bestN bt rs n < n ∧ (∀ j, j < n → bt (rs.getD j 0) (rs.getD (bestN bt rs n) 0) = false) ∧ ∀ j, j < bestN bt rs n → bt (rs.getD (bestN bt rs n) 0) (rs.getD j 0) = true
  | 0, h => by omega
  | n + 1, _ => by
    by_cases h0 : n = 0
    · subst h0
      have e : bestN bt rs 1 = 0 := by
        unfold bestN
        split <;> rfl
      rw [e]
      refine ⟨by omega, fun j hj => ?_, fun j hj => by omega⟩
      have : j = 0 := by omega
      subst this
      exact w.irr _
    · obtain ⟨i1, i2, i3⟩ := bestN_spec w rs n (by omega)
      unfold bestN
      split
      · rename_i hb
        refine ⟨by omega, fun j hj => ?_, fun j hj => w.le_lt_r (i2 j hj) hb⟩
        by_cases hn : j = n
        · subst hn
          exact w.irr _
        · exact w.asym _ _ (w.le_lt_r (i2 j (by omega)) hb)
      · rename_i hb
        refine ⟨by omega, fun j hj => ?_, i3⟩
        by_cases hn : j = n
        · subst hn
          exact Bool.eq_false_iff.mpr hb
        · exact i2 j (by omega)
/-- the first place with the best number -/
theorem bestN_first {bt : Rat → Rat → Bool} (w : StrictW bt) (rs : List Rat) (h : rs ≠ []) : rs.findIdx? (fun r => decide (r = rs.getD (bestN bt rs rs.length) 0)) = some (bestN bt rs rs.length) := by
  have hl : 1 ≤ rs.length := List.length_pos_iff.mpr h
  obtain ⟨h1, h2, h3⟩ := bestN_spec w rs rs.length hl
  generalize bestN bt rs rs.length = k at *
  rw [List.findIdx?_eq_some_iff_getElem]
  refine ⟨h1, by simp [h1], fun j hj => ?_⟩
  have hj' : j < rs.length := by omega
  have q := h3 j hj
  have e1 : rs.getD j 0 = rs[j] := by simp [hj']
  have e2 : rs.getD k 0 = rs[k] := by simp [h1]
  rw [e1, e2] at q
  rw [e2]
  simp
  intro z
  rw [z, w.irr] at q
  cases q
/-- new where one is of pre, else old -/
def mixL (n : Nat) (new old : Nat → PyData) (pre : List Nat) : List PyData := (List.range n).map fun j => if j ∈ pre then new j else old j
theorem mixL_len {n : Nat} {new old : Nat → PyData} {pre : List Nat} : (mixL n new old pre).length = n := by simp [mixL]
theorem mixL_set {n : Nat} {new old : Nat → PyData} {pre : List Nat} {a : Nat} (h : a < n) : (mixL n new old pre).set a (new a) = mixL n new old (pre ++ [a]) := by
  refine List.ext_getElem? fun j => ?_
  unfold mixL
  rw [List.getElem?_set]
  by_cases hj : a = j
  · subst hj
    simp [h]
  · rw [if_neg hj]
    by_cases hn : j < n
    · simp [hn, Ne.symm hj]
    · simp [hn]
theorem mixL_same {n : Nat} {new old : Nat → PyData} {pre : List Nat} {a : Nat} (h : new a = old a) : mixL n new old pre = mixL n new old (pre ++ [a]) := by
  unfold mixL
  refine List.map_congr_left fun j _ => ?_
  by_cases hj : j = a
  · subst hj
    simp [h]
  · simp [hj]
theorem mixL_nil {n : Nat} {new old : Nat → PyData} : mixL n new old [] = (List.range n).map old := by simp [mixL]
theorem mixL_all {n : Nat} {new old : Nat → PyData} {pre : List Nat} (h : ∀ j, j < n → j ∉ pre → new j = old j) : mixL n new old pre = (List.range n).map new := by
  unfold mixL
  refine List.map_congr_left fun j hj => ?_
  by_cases q : j ∈ pre
  · rw [if_pos q]
  · rw [if_neg q, h j (List.mem_range.mp hj) q]
theorem range_get {α : Type} (xs : List α) (d : α) : (List.range xs.length).map (fun j => xs.getD j d) = xs := by
  refine List.ext_getElem? fun j => ?_
  by_cases h : j < xs.length
  · simp [h]
  · simp [h]
theorem range_map {α β : Type} (f : α → β) (xs : List α) (d : α) : (List.range xs.length).map (fun k => f (xs.getD k d)) = xs.map f := by
  refine List.ext_getElem? fun i => ?_
  rw [List.getElem?_map, List.getElem?_map]
  by_cases h : i < xs.length
  · rw [List.getElem?_range h, List.getElem?_eq_getElem h]
    simp [h]
  · rw [List.getElem?_eq_none (by rw [List.length_range]; omega), List.getElem?_eq_none (by omega)]
    rfl
theorem zipIdx_at {α : Type} {xs : List α} {pre post : List (α × Nat)} {a : α × Nat} (h : xs.zipIdx = pre ++ a :: post) : a.2 = pre.length ∧ xs[pre.length]? = some a.1 := by
  have e : xs.zipIdx[pre.length]? = some a := by rw [h]; simp
  rw [List.getElem?_zipIdx] at e
  cases q : xs[pre.length]? with
  | none => rw [q] at e; cases e
  | some x =>
    rw [q] at e
    cases e
    exact ⟨by simp, rfl⟩
theorem enumD_map {α : Type} (f : α → PyData) (xs : List α) : enumD (xs.map f) = xs.zipIdx.map fun p => .tuple [.int (p.2 : Nat), f p.1] := by
  unfold enumD
  rw [List.zipIdx_map, List.map_map]
  rfl
end Dn
/-! Rq1: products of numbers of bounded size -/
namespace Dn
open PySem PySem.Spec PyProof.Rows L2
theorem den_mul_lt {a b : Rat} (ha : Bt 4000 a) (hb : Bt 4000 b) : ((a.den : Int) * b.den).natAbs < divLim := by
  rw [Int.natAbs_mul, Int.natAbs_natCast, Int.natAbs_natCast]
  exact lt_div8 (pow_mul_lt ha.d hb.d) (by omega)
theorem mul_dd {a b : Rat} (ha : Bt 4000 a) (hb : Bt 4000 b) : Dn.MulOk (a.den : Int) (b.den : Int) := mul_bt (k := 4000) (by simpa using ha.d) (by simpa using hb.d) (by omega)
theorem mul_nd {a b : Rat} (ha : Bt 4000 a) (hb : Bt 4000 b) : Dn.MulOk a.num (b.den : Int) := mul_bt (k := 4000) ha.n (by simpa using hb.d) (by omega)
theorem mul_dn {a b : Rat} (ha : Bt 4000 a) (hb : Bt 4000 b) : Dn.MulOk (a.den : Int) b.num := mul_bt (k := 4000) (by simpa using ha.d) hb.n (by omega)
theorem mul_nn {a b : Rat} (ha : Bt 4000 a) (hb : Bt 4000 b) : Dn.MulOk a.num b.num := mul_bt (k := 4000) ha.n hb.n (by omega)
end Dn
/-! Re0: means -/
namespace Dn
open PySem PySem.Spec PyProof.Rows L2
def termsR (bs : List (Rat × Nat)) (rs : List Rat) : List Rat := bs.map fun b => b.1 * rs.getD b.2 0
def meanR (bs : List (Rat × Nat)) (rs : List Rat) : Rat := sumR (termsR bs rs)
theorem sumR_bt {k : Nat} {xs : List Rat} (h : ∀ x ∈ xs, Bt k x) : Bt ((k + 1) * xs.length + 1) (sumR xs) := by
  induction xs with
  | nil => exact Bt.zero (by simp)
  | cons x xs ih =>
    rw [sumR_cons]
    have h1 := (h x List.mem_cons_self).add (ih fun y hy => h y (List.mem_cons_of_mem _ hy))
    refine h1.mono ?_
    rw [List.length_cons, Nat.mul_succ]
    omega
theorem atI_qd {rs : List Rat} {x : Nat} (h : x < rs.length) : atI (rs.map qd) (x : Int) = some (qd (rs.getD x 0)) := by
  rw [atI_map (List.getElem?_eq_getElem h)]
  simp [h]
end Dn
namespace Law
open PySem PySem.Spec PyProof.Rows L2 Dn
/-! Rn1: number, plus, times -/
theorem number_rat (n d : Int) (hd : d ≠ 0) (hb : d.natAbs < divLim) : m_number [.int n, .int d] = some (.val (qd (Rat.divInt n d))) := by
  unfold m_number
  rw [fnD_eq (by rfl)]
  have hg : 0 < Nat.gcd n.natAbs d.natAbs := Nat.gcd_pos_of_pos_right _ (by omega)
  have hl : Nat.gcd n.natAbs d.natAbs ≤ d.natAbs := Nat.gcd_le_right _ (by omega)
  by_cases h : d < 0
  · obtain ⟨r1, r2⟩ := red_neg (n := n) h
    have f1 : ∀ i, Dn.FdOk i (-(Nat.gcd n.natAbs d.natAbs : Nat)) := fun i => ⟨by omega, by rw [Int.natAbs_neg, Int.natAbs_natCast]; exact Nat.lt_of_le_of_lt hl hb⟩
    simp [b_number, h, f1, r1, r2]
  · obtain ⟨r1, r2⟩ := red_num (n := n) (d := d) (by omega)
    have f1 : ∀ i, Dn.FdOk i (Nat.gcd n.natAbs d.natAbs : Nat) := fun i => ⟨by omega, by rw [Int.natAbs_natCast]; exact Nat.lt_of_le_of_lt hl hb⟩
    simp [b_number, h, f1, r1, r2]
theorem plus_rat {a b : Rat} (ha : Bt 4000 a) (hb : Bt 4000 b) : m_plus [qd a, qd b] = some (.val (qd (a + b))) := by
  unfold m_plus
  rw [fnD_eq (by rfl)]
  have e := number_rat (a.num * b.den + b.num * a.den) ((a.den : Int) * b.den) (Int.mul_ne_zero (den_ne _) (den_ne _)) (den_mul_lt ha hb)
  rw [← add_divInt] at e
  simp [b_plus, mul_nd ha hb, mul_nd hb ha, mul_dd ha hb, e]
theorem times_rat {a b : Rat} (ha : Bt 4000 a) (hb : Bt 4000 b) : m_times [qd a, qd b] = some (.val (qd (a * b))) := by
  unfold m_times
  rw [fnD_eq (by rfl)]
  have e := number_rat (a.num * b.num) ((a.den : Int) * b.den) (Int.mul_ne_zero (den_ne _) (den_ne _)) (den_mul_lt ha hb)
  rw [← mul_divInt] at e
  simp [b_times, mul_nn ha hb, mul_dd ha hb, e]
end Law
namespace Law
open PySem PySem.Spec PyProof.Rows L2 Dn
/-! Pc1: _law_gcd by 20,000 turns, _law_number, sums and products -/
theorem lawgcd_loop : ∀ (xs : List PyData) (a b : Int) (s : Sl), 0 ≤ a → 0 ≤ b → ∃ s' b', Dn.forD (gtName 2) b__law_gcd_1 xs [.val (.int a), .val (.int b), s] = some (.nx [.val (.int (euc xs.length a b)), b', s'])
  | [], a, b, s, _, _ => ⟨_, _, rfl⟩
  | x :: xs, a, b, s, ha, hb => by
    by_cases h : b = 0
    · subst h
      refine ⟨.val x, .val (.int 0), ?_⟩
      rw [forD_bk (e1 := [.val (.int a), .val (.int 0), .val x]) (e2 := [.val (.int a), .val (.int 0), .val x]) rfl (by simp [b__law_gcd_1])]
      rw [List.length_cons, euc, if_pos rfl]
    · have hz : ∀ i, Dn.NzOk i b := fun i => h
      have hm : a.fmod b = a % b := fmod_pos (by omega)
      obtain ⟨s', b', e⟩ := lawgcd_loop xs b (a % b) (.val x) hb (Int.emod_nonneg _ h)
      refine ⟨s', b', ?_⟩
      rw [forD_nx (e1 := [.val (.int a), .val (.int b), .val x]) (e2 := [.val (.int b), .val (.int (a % b)), .val x]) rfl (by simp [b__law_gcd_1, h, hz, hm]), e, List.length_cons, euc, if_neg h]
theorem law_gcd_eq (n d : Int) (hb : d.natAbs < divLim) : m__law_gcd [.int n, .int d] = some (.val (.int (Nat.gcd n.natAbs d.natAbs : Nat))) := by
  unfold m__law_gcd
  rw [fnD_eq (by rfl)]
  have hr : Dn.InR 20000 := inR_of (by decide) (by decide)
  have ha : 0 ≤ (if n < 0 then -n else n) := by split <;> omega
  have hd : 0 ≤ (if d < 0 then -d else d) := by split <;> omega
  obtain ⟨s', b', e⟩ := lawgcd_loop (intsFrom 0 20000) (if n < 0 then -n else n) (if d < 0 then -d else d) .no ha hd
  rw [intsFrom_len, euc_gcd 8000 20000 _ _ ha hd (by
    have : (d.natAbs : Int) < ((2 ^ 8000 : Nat) : Int) := Int.ofNat_lt.mpr hb
    rw [Int.natCast_pow] at this
    have e : (d.natAbs : Int) = (if d < 0 then -d else d) := by split <;> omega
    rw [e] at this
    exact this) (by decide)] at e
  have hg : gcdI (if n < 0 then -n else n) (if d < 0 then -d else d) = (Nat.gcd n.natAbs d.natAbs : Nat) := by
    unfold gcdI
    congr 2
    · split <;> omega
    · split <;> omega
  rw [hg] at e
  simp [b__law_gcd, hr, e]
theorem law_number_rat (n d : Int) (hd : d ≠ 0) (hb : d.natAbs < divLim) : m__law_number [.int n, .int d] = some (.val (qd (Rat.divInt n d))) := by
  unfold m__law_number
  rw [fnD_eq (by rfl)]
  have fd : ∀ (n d : Int), d ≠ 0 → d.natAbs < divLim → ∀ i, Dn.FdOk i (Nat.gcd n.natAbs d.natAbs : Nat) := fun n d hd hb i => by
    have hg : 0 < Nat.gcd n.natAbs d.natAbs := Nat.gcd_pos_of_pos_right _ (by omega)
    have hl : Nat.gcd n.natAbs d.natAbs ≤ d.natAbs := Nat.gcd_le_right _ (by omega)
    exact ⟨by omega, by rw [Int.natAbs_natCast]; exact Nat.lt_of_le_of_lt hl hb⟩
  by_cases h : d < 0
  · have g := law_gcd_eq (-n) (-d) (by rw [Int.natAbs_neg]; exact hb)
    have f := fd (-n) (-d) (by omega) (by rw [Int.natAbs_neg]; exact hb)
    obtain ⟨r1, r2⟩ := red_num (n := -n) (d := -d) (by omega)
    rw [Rat.neg_divInt_neg] at r1 r2
    generalize hgg : ((Nat.gcd (-n).natAbs (-d).natAbs : Nat) : Int) = g at *
    simp [b__law_number, h, g, f, r1, r2]
  · have g := law_gcd_eq n d hb
    have f := fd n d hd hb
    obtain ⟨r1, r2⟩ := red_num (n := n) (d := d) (by omega)
    generalize hgg : ((Nat.gcd n.natAbs d.natAbs : Nat) : Int) = g at *
    simp [b__law_number, h, g, f, r1, r2]
theorem law_plus_rat {a b : Rat} (ha : Bt 4000 a) (hb : Bt 4000 b) : m__law_plus [qd a, qd b] = some (.val (qd (a + b))) := by
  unfold m__law_plus
  rw [fnD_eq (by rfl)]
  have e := law_number_rat (a.num * b.den + b.num * a.den) ((a.den : Int) * b.den) (Int.mul_ne_zero (den_ne _) (den_ne _)) (den_mul_lt ha hb)
  rw [← add_divInt] at e
  simp [b__law_plus, mul_nd ha hb, mul_nd hb ha, mul_dd ha hb, e]
theorem law_times_rat {a b : Rat} (ha : Bt 4000 a) (hb : Bt 4000 b) : m__law_times [qd a, qd b] = some (.val (qd (a * b))) := by
  unfold m__law_times
  rw [fnD_eq (by rfl)]
  have e := law_number_rat (a.num * b.num) ((a.den : Int) * b.den) (Int.mul_ne_zero (den_ne _) (den_ne _)) (den_mul_lt ha hb)
  rw [← mul_divInt] at e
  simp [b__law_times, mul_nn ha hb, mul_dd ha hb, e]
theorem rat_lt' (a b : Rat) : a < b ↔ a.num * b.den < b.num * a.den := Rat.lt_iff a b
end Law
namespace Law
open PySem PySem.Spec PyProof.Rows L2 Dn
/-! ### _law_draws: so many ints from 0 to 999 -/
abbrev drst (ns : List Int) (c : Int) (rests draws : List Int) (s4 s5 s7 s8 : Sl) : En := [.val (.list (ns.map .int)), .val (.int c), .own (rests.map .int), .own (draws.map .int), s4, s5, .no, s7, s8]
def DrawsAt (ns : List Int) (c : Int) (i : Nat) (env : En) : Prop := ∃ (rests draws : List Int) (s4 s5 s7 s8 : Sl), env = drst ns c rests draws s4 s5 s7 s8 ∧ rests.length = ns.length ∧ draws.length = i ∧ i ≤ 1000 ∧ ∀ d ∈ draws, 0 ≤ d ∧ d < 1000
theorem draws_turn {ns : List Int} {c : Int} {i : Nat} {env : En} {x : Int} (hi : i < 1000) (hx : x = i) (h : DrawsAt ns c i env) :
    ∃ e2, b__law_draws_2 (env.set 4 (.val (.int x))) = some (.nx e2) ∧ DrawsAt ns c (i + 1) e2 := by
  obtain ⟨rests, draws, s4, s5, s7, s8, rfl, hr, hd, hi2, hb⟩ := h
  have f1 : ∀ j, FdOk j 1000 := fun j => fd_small (by decide) (by decide)
  have f2 : ∀ j, FdOk j 7 := fun j => fd_small (by decide) (by decide)
  have m1 : ∀ j, Dn.MulOk j 48271 := fun j => mul_r (by decide)
  have m2 : ∀ j, Dn.MulOk j 69621 := fun j => mul_r (by decide)
  have m3 : ∀ j, Dn.MulOk j 16807 := fun j => mul_r (by decide)
  have n1 : ∀ j, NzOk j 1000 := fun j => by unfold NzOk; decide
  have n2 : ∀ j, NzOk j 2147483647 := fun j => by unfold NzOk; decide
  have n3 : ∀ j, NzOk j 2147483629 := fun j => by unfold NzOk; decide
  have pw : PowOk 10 18 := by unfold PowOk; decide
  have hp : (10 : Int) ^ (18 : Int).toNat = 1000000000000000000 := by decide
  have app : ∀ v : Int, 0 ≤ v → v < 1000 → ∀ d ∈ draws ++ [v], 0 ≤ d ∧ d < 1000 := fun v h0 h1 d hm => by
    rcases List.mem_append.mp hm with q | q
    · exact hb d q
    · rw [List.mem_singleton.mp q]
      exact ⟨h0, h1⟩
  by_cases hl : rests.length = 0
  · have hn : ns.length = 0 := by omega
    have e : rests = [] := List.eq_nil_of_length_eq_zero hl
    subst e
    refine ⟨drst ns c ([]) (draws ++ [0]) (.val (.int x)) (.val (.int 0)) (s7) (s8), ?_, ⟨[], draws ++ [0], .val (.int x), .val (.int 0), s7, s8, rfl, hr, by simp [hd], by omega, app 0 (by decide) (by decide)⟩⟩
    simp [b__law_draws_2, fits (show draws.length + 1 ≤ 100000 by omega)]
  · have hpos : (0 : Int) < rests.length := by omega
    have nz : ∀ j, NzOk j (rests.length : Int) := fun j => by unfold NzOk; omega
    have a0 := Int.emod_nonneg x (show (rests.length : Int) ≠ 0 by omega)
    have a1 := Int.emod_lt_of_pos x hpos
    generalize ha : x % (rests.length : Int) = at_ at a0 a1
    have hat : at_.toNat < rests.length := by omega
    obtain ⟨v, hv⟩ : ∃ v, rests[at_.toNat]? = some v := ⟨_, List.getElem?_eq_getElem hat⟩
    have hv2 : atI (rests.map PyData.int) at_ = some (.int v) := atI_nat' a0 (by rw [List.getElem?_map, hv]; rfl)
    have hx2 : ixN rests.length at_ = some at_.toNat := ixN_nat a0 a1
    have fm : x.fmod (rests.length : Int) = at_ := by rw [fmod_pos hpos, ha]
    by_cases hg : 1000000000000000000 ≤ v
    · refine ⟨drst ns c (rests.set at_.toNat (v.fdiv 1000)) (draws ++ [v.fmod 1000]) (.val (.int x)) (.val (.int (v.fmod 1000))) (.val (.int at_)) (s8), ?_, ⟨rests.set at_.toNat (v.fdiv 1000), draws ++ [v.fmod 1000], .val (.int x), .val (.int (v.fmod 1000)), .val (.int at_), s8, rfl, by simp [hr], by simp [hd], by omega, app _ (by rw [fmod_pos (by decide)]; exact Int.emod_nonneg _ (by decide)) (by rw [fmod_pos (by decide)]; exact Int.emod_lt_of_pos _ (by decide))⟩⟩
      simp [b__law_draws_2, hl, hpos, show 0 < rests.length by omega, nz, fm, hv2, hx2, pw, hp, hg, n1, f1, fits (show draws.length + 1 ≤ 100000 by omega), List.map_set]
    · refine ⟨drst ns c (rests) (draws ++ [((((v * 48271 + x * 69621 + 11).fmod 2147483647 * 16807 + at_).fmod 2147483629).fdiv 7).fmod 1000]) (.val (.int x)) (.val (.int (((((v * 48271 + x * 69621 + 11).fmod 2147483647 * 16807 + at_).fmod 2147483629).fdiv 7).fmod 1000))) (.val (.int at_)) (.val (.int (((v * 48271 + x * 69621 + 11).fmod 2147483647 * 16807 + at_).fmod 2147483629))), ?_, ⟨rests, draws ++ [((((v * 48271 + x * 69621 + 11).fmod 2147483647 * 16807 + at_).fmod 2147483629).fdiv 7).fmod 1000], .val (.int x), .val (.int (((((v * 48271 + x * 69621 + 11).fmod 2147483647 * 16807 + at_).fmod 2147483629).fdiv 7).fmod 1000)), .val (.int at_), .val (.int (((v * 48271 + x * 69621 + 11).fmod 2147483647 * 16807 + at_).fmod 2147483629)), rfl, hr, by simp [hd], by omega, app _ (by rw [fmod_pos (by decide)]; exact Int.emod_nonneg _ (by decide)) (by rw [fmod_pos (by decide)]; exact Int.emod_lt_of_pos _ (by decide))⟩⟩
      simp [b__law_draws_2, hl, hpos, show 0 < rests.length by omega, nz, fm, hv2, hx2, pw, hp, hg, n1, n2, n3, f1, f2, m1, m2, m3, fits (show draws.length + 1 ≤ 100000 by omega)]
theorem draws_eq (ns : List Int) (hns : ns.length ≤ 63) (c : Nat) (hc : c ≤ 1000) : ∃ ds : List Int, m__law_draws [.list (ns.map .int), .int c] = some (.own (ds.map .int)) ∧ ds.length = c ∧ ∀ d ∈ ds, 0 ≤ d ∧ d < 1000 := by
  have h1 : b__law_draws_1 [.val (.list (ns.map .int)), .val (.int c), .no, .no, .no, .no, .no, .no, .no] = some (.own (ns.map .int)) := by
    unfold b__law_draws_1
    exact eLc_map PyData.int PyData.int (xs := ns) (by simp) (by omega) fun d _ => by simp [elD]
  have h0 : DrawsAt ns c 0 [.val (.list (ns.map .int)), .val (.int c), .own (ns.map .int), .own (([] : List Int).map .int), .no, .no, .no, .no, .no] := ⟨ns, [], .no, .no, .no, .no, rfl, rfl, rfl, by omega, fun d h => by cases h⟩
  obtain ⟨e, he, hP⟩ := forD_inv (g := gtName 4) (ds := intsFrom 0 c) (DrawsAt ns c) (fun i env d p hd => by
    obtain ⟨hi, rfl⟩ := intsFrom_at hd
    obtain ⟨e2, h3, h4⟩ := draws_turn (x := 0 + i) (by omega) (by omega) p
    exact ⟨_, e2, rfl, h3, h4⟩) h0
  rw [intsFrom_len] at hP
  obtain ⟨rests, draws, s4, s5, s7, s8, rfl, hr, hd, _, hb⟩ := hP
  refine ⟨draws, ?_, hd, hb⟩
  have hcr : InR (c : Int) := inR_of (by omega) (by omega)
  unfold m__law_draws
  rw [fnD_eq (by rfl)]
  have f1 : Fits ns.length := fits (by omega)
  simp at he
  simp [b__law_draws, h1, f1, hcr, he]
end Law
namespace Law
open PySem PySem.Spec PyProof.Rows L2 Dn
/-! Pd2: drawn numbers as a list of Nat -/
def Drn (ds : List Nat) : Prop := ∀ d ∈ ds, d < 1000
theorem draws_nat (ns : List Int) (hns : ns.length ≤ 63) (c : Nat) (hc : c ≤ 1000) : ∃ ds : List Nat, m__law_draws [.list (ns.map .int), .int c] = some (.own (il ds)) ∧ ds.length = c ∧ Drn ds := by
  obtain ⟨ds, e, hl, hd⟩ := draws_eq ns hns c hc
  refine ⟨ds.map Int.toNat, ?_, by simp [hl], fun d h => ?_⟩
  · rw [e, il, List.map_map]
    congr 2
    refine List.map_congr_left fun d h => ?_
    have := hd d h
    show PyData.int d = PyData.int ((d.toNat : Nat) : Int)
    rw [Int.toNat_of_nonneg this.1]
  · obtain ⟨x, hx, rfl⟩ := List.mem_map.mp h
    have := hd x hx
    omega
theorem il_take (n : Nat) (ds : List Nat) : (il ds).take n = il (ds.take n) := (List.map_take ..).symm
theorem il_drop (n : Nat) (ds : List Nat) : (il ds).drop n = il (ds.drop n) := (List.map_drop ..).symm
/-- a slice of drawn numbers -/
theorem sx_il (ds : List Nat) (i j : Nat) (hij : i ≤ j) (hj : j ≤ ds.length) : sxD (il ds) (some (i : Int)) (some (j : Int)) = il ((ds.drop i).take (j - i)) := by
  have hl : (il ds).length = ds.length := List.length_map ..
  have e1 : HT.sIx (il ds).length 0 (some (i : Int)) = i := by
    rw [HT.sIx_nat, hl]
    omega
  have e2 : HT.sIx (il ds).length (il ds).length (some (j : Int)) = j := by
    rw [HT.sIx_nat, hl]
    omega
  unfold sxD
  rw [e1, e2, il_drop, il_take]
theorem drn_sub {ds : List Nat} (h : Drn ds) (i n : Nat) : Drn ((ds.drop i).take n) := fun d hd => h d (List.mem_of_mem_drop (List.mem_of_mem_take hd))
theorem atI_d {ds : List Nat} {i : Nat} (h : i < ds.length) : atI (il ds) (i : Int) = some (.int ((ds.getD i 0 : Nat) : Int)) := atI_il ds i h
end Law
namespace Law
open PySem PySem.Spec PyProof.Rows L2 Dn
/-! Pc2: drawn chains -/
/-- a chance of a draw with parts of up to 24 -/
structure Ch24 (c : Rat) : Prop where
  lo : 0 < c
  hi : c ≤ 1
  d : c.den ≤ 24
def WfC (n : Nat) : Pl → Prop
  | .draw bs => 1 ≤ bs.length ∧ bs.length ≤ 6 ∧ (∀ b ∈ bs, Ch24 b.1 ∧ b.2 < n) ∧ sumR (bs.map (·.1)) = 1
  | .ours _ => False
  | .theirs _ => False
  | .rew c x => Amount c ∧ x < n
  | .fin => True
  | .lose => True
def WfCh (g : List Pl) : Prop := ∀ p ∈ g, WfC g.length p
theorem share24 (p S : Nat) (h1 : 1 ≤ p) (h2 : p ≤ S) (h3 : S ≤ 24) : Ch24 (Rat.divInt (p : Int) (S : Int)) := by
  have hS : (S : Int) ≠ 0 := by omega
  have hS' : (0 : Rat) < (S : Rat) := by
    have : ((0 : Nat) : Rat) < (S : Rat) := Rat.natCast_lt_natCast.mpr (by omega)
    exact this
  refine ⟨?_, ?_, Nat.le_trans (gcd_div_le _ _ hS).2 (by omega)⟩
  · rw [Rat.divInt_eq_div, Rat.intCast_natCast, Rat.intCast_natCast]
    have : (0 : Rat) < (p : Rat) := by
      have : ((0 : Nat) : Rat) < (p : Rat) := Rat.natCast_lt_natCast.mpr (by omega)
      exact this
    rw [Rat.lt_div_iff hS', Rat.zero_mul]
    exact this
  · rw [Rat.divInt_eq_div, Rat.intCast_natCast, Rat.intCast_natCast]
    have : (p : Rat) ≤ (S : Rat) := Rat.natCast_le_natCast.mpr h2
    refine Rat.not_lt.mp fun z => ?_
    rw [Rat.lt_div_iff hS', Rat.one_mul] at z
    exact absurd z (Rat.not_lt.mpr this)
theorem Ch24.bt {c : Rat} (h : Ch24 c) : Bt 5 c := by
  have hn : c.num ≤ c.den := by
    have := (Rat.le_iff c 1).mp h.hi
    simp at this
    exact this
  have hp : 0 ≤ c.num := Rat.num_nonneg.mpr (Rat.le_of_lt h.lo)
  have := h.d
  exact ⟨by omega, by omega⟩
theorem gSum_il (ps : List Nat) : gSum [.list (il ps)] = some (.val (.int (ps.sum : Nat))) := by
  have e : il ps = (ps.map fun p : Nat => (p : Int)).map PyData.int := by rw [List.map_map]; rfl
  show (intsD (il ps)).bind _ = _
  rw [e, intsD_map]
  have : (ps.map fun p : Nat => (p : Int)).sum = ((ps.sum : Nat) : Int) := by
    induction ps with
    | nil => rfl
    | cons p ps ih => rw [List.map_cons, List.sum_cons, List.sum_cons, ih (by rw [List.map_map]; rfl), Int.natCast_add]
  simp [this]
theorem le_sum {x : Nat} : ∀ {ps : List Nat}, x ∈ ps → x ≤ ps.sum
  | [], h => by cases h
  | p :: ps, h => by
    rw [List.sum_cons]
    cases h with
    | head => omega
    | tail _ h => have := le_sum h; omega
theorem sum4 : ∀ qs : List Nat, (∀ x ∈ qs, 1 ≤ x ∧ x ≤ 4) → qs.length ≤ qs.sum ∧ qs.sum ≤ 4 * qs.length
  | [], _ => by simp
  | q :: qs, h => by
    have := sum4 qs fun x hx => h x (List.mem_cons_of_mem _ hx)
    have := h q List.mem_cons_self
    rw [List.sum_cons, List.length_cons]
    omega
theorem fmodN (a m : Nat) (hm : 0 < m) : (a : Int).fmod (m : Int) = ((a % m : Nat) : Int) := by
  rw [fmod_pos (by omega)]
  exact (Int.natCast_emod a m).symm
theorem nzN (m : Nat) (hm : 0 < m) (i : Int) : Dn.NzOk i (m : Int) := by unfold Dn.NzOk; omega
theorem width1 (v : Nat) (h : v < 6) : ∃ w : Nat, atI [PyData.int 1, .int 2, .int 2, .int 3, .int 2, .int 6] (v : Int) = some (.int (w : Int)) ∧ 1 ≤ w ∧ w ≤ 6 := by
  rcases (by omega : v = 0 ∨ v = 1 ∨ v = 2 ∨ v = 3 ∨ v = 4 ∨ v = 5) with rfl | rfl | rfl | rfl | rfl | rfl
  · exact ⟨1, rfl, by decide, by decide⟩
  · exact ⟨2, rfl, by decide, by decide⟩
  · exact ⟨2, rfl, by decide, by decide⟩
  · exact ⟨3, rfl, by decide, by decide⟩
  · exact ⟨2, rfl, by decide, by decide⟩
  · exact ⟨6, rfl, by decide, by decide⟩
end Law
namespace Law
open PySem PySem.Spec PyProof.Rows L2 Dn
/-! Pc3: chains with twins -/
theorem atI_last {α : Type} (xs : List α) (x : α) : atI (xs ++ [x]) (-1) = some x := by
  have h : ixN (xs ++ [x]).length (-1) = some xs.length := by
    unfold ixN
    simp
    omega
  unfold atI
  rw [h]
  simp
theorem Pl.at0 (x : Pl) : gIx x.d (.int 0) = some (.val (.str x.k)) := by cases x <;> simp [Pl.d, Pl.k]
theorem WfC.up {n m : Nat} {p : Pl} (h : WfC n p) (hn : n ≤ m) (hd : ∀ bs, p ≠ .draw bs) : WfC m p := by
  cases p with
  | draw bs => exact absurd rfl (hd bs)
  | ours xs => exact h
  | theirs xs => exact h
  | rew c y => exact ⟨h.1, Nat.lt_of_lt_of_le h.2 hn⟩
  | fin => trivial
  | lose => trivial
end Law
namespace Law
open PySem PySem.Spec PyProof.Rows L2 Dn
/-! Pc4: branches of a chain's place, chances into places -/
variable {g : List Pl} {p : Nat} {x : Pl}
def brs : Pl → List (Rat × Nat)
  | .draw bs => bs
  | .rew _ y => [(1, y)]
  | _ => []
theorem brs_len {n : Nat} (W : WfC n x) : (brs x).length ≤ 6 := by
  cases x with
  | draw bs => exact W.2.1
  | ours xs => cases W
  | theirs xs => cases W
  | rew c y => simp [brs]
  | fin => simp [brs]
  | lose => simp [brs]
theorem brs_bt {n : Nat} (W : WfC n x) : ∀ b ∈ brs x, Bt 5 b.1 ∧ b.2 < n := by
  cases x with
  | draw bs => exact fun b hb => ⟨(W.2.2.1 b hb).1.bt, (W.2.2.1 b hb).2⟩
  | ours xs => cases W
  | theirs xs => cases W
  | rew c y => intro b hb; rw [List.mem_singleton.mp hb]; exact ⟨.one (by decide), W.2⟩
  | fin => intro b hb; cases hb
  | lose => intro b hb; cases hb
/-- the chance into places -/
def into (x : Pl) (ps : List Nat) : List Rat := ((brs x).filter fun b => decide (b.2 ∈ ps)).map (·.1)
theorem into_bt {n : Nat} (W : WfC n x) (ps : List Nat) : (∀ r ∈ into x ps, Bt 5 r) ∧ (into x ps).length ≤ 6 := by
  refine ⟨fun r hr => ?_, ?_⟩
  · obtain ⟨b, hb, rfl⟩ := List.mem_map.mp hr
    exact (brs_bt W b (List.mem_filter.mp hb).1).1
  · unfold into
    rw [List.length_map]
    exact Nat.le_trans (List.length_filter_le _ _) (brs_len W)
theorem sum_pre {xs pre post : List Rat} {x : Rat} (h : ∀ r ∈ xs, Bt 5 r) (hl : xs.length ≤ 6) (e : xs = pre ++ x :: post) : Bt 4000 (sumR pre) ∧ Bt 4000 x := by
  refine ⟨(sumR_bt (k := 5) fun y hy => h y (by rw [e]; exact List.mem_append_left _ hy)).mono ?_, (h x (by rw [e]; simp)).mono (by decide)⟩
  have : pre.length ≤ xs.length := by rw [e]; simp
  omega
theorem sum5 {xs : List Rat} (h : ∀ r ∈ xs, Bt 5 r) (hl : xs.length ≤ 6) : Bt 4000 (sumR xs) := (sumR_bt (k := 5) h).mono (by omega)
theorem total_eq (xs : List Rat) (h : ∀ pre x post, xs = pre ++ x :: post → Bt 4000 (sumR pre) ∧ Bt 4000 x) : m_total [.list (xs.map qd)] = some (.val (qd (sumR xs))) := by
  unfold m_total
  rw [fnD_eq (by rfl)]
  obtain ⟨e, h1, s, rfl⟩ := forD_wp (g := gtName 2) (body := b_total_1) qd (fun pre env => ∃ s, env = [.val (.list (xs.map qd)), .val (qd (sumR pre)), s]) (all := xs) (env := [.val (.list (xs.map qd)), .val (qd (sumR [])), .no]) ⟨_, rfl⟩ fun pre a post env e ⟨s, he⟩ => by
    subst he
    obtain ⟨b1, b2⟩ := h pre a post e
    have p := plus_rat b1 b2
    have s1 : sumR (pre ++ [a]) = sumR pre + a := by rw [sumR_app, sumR_cons, sumR_nil, Rat.add_zero]
    rw [s1]
    generalize sumR pre = q at *
    simp [b_total_1, p]
  have e0 : qd (sumR []) = .tuple [.int 0, .int 1] := rfl
  rw [e0] at h1
  simp [b_total, h1]
theorem law_sum_eq (xs : List Rat) (h : ∀ pre x post, xs = pre ++ x :: post → Bt 4000 (sumR pre) ∧ Bt 4000 x) : m__law_sum [.list (xs.map qd)] = some (.val (qd (sumR xs))) := by
  unfold m__law_sum
  rw [fnD_eq (by rfl)]
  obtain ⟨e, h1, s, rfl⟩ := forD_wp (g := gtName 2) (body := b__law_sum_1) qd (fun pre env => ∃ s, env = [.val (.list (xs.map qd)), .val (qd (sumR pre)), s]) (all := xs) (env := [.val (.list (xs.map qd)), .val (qd (sumR [])), .no]) ⟨_, rfl⟩ fun pre a post env e ⟨s, he⟩ => by
    subst he
    obtain ⟨b1, b2⟩ := h pre a post e
    have p := law_plus_rat b1 b2
    have s1 : sumR (pre ++ [a]) = sumR pre + a := by rw [sumR_app, sumR_cons, sumR_nil, Rat.add_zero]
    rw [s1]
    generalize sumR pre = q at *
    simp [b__law_sum_1, p]
  have e0 : qd (sumR []) = .tuple [.int 0, .int 1] := rfl
  rw [e0] at h1
  have few2 : Dn.Few 2 := by simp
  simp [b__law_sum, few2, h1]
/-- the kind of a place -/
def kindD (x : Pl) : PyData := match x with
  | .rew c _ => .tuple [.str "reward", qd c]
  | x => .tuple [.str x.k]
end Law
/-! Lx0: rows of numbers: factors and a bound -/
namespace Dn
open PySem PySem.Spec PyProof.Rows L2
abbrev nmL (rs : List Rat) : PyData := .list (rs.map qd)
theorem nmL_lay (rs : List Rat) : PyData.canLayAll0 (rs.map qd) = true ∧ PyData.depthAll (rs.map qd) ≤ 1 := by
  induction rs with
  | nil => exact ⟨rfl, by decide⟩
  | cons r rs ih =>
    constructor
    · show (PyData.canLay0 (qd r) && PyData.canLayAll0 (rs.map qd)) = true
      rw [ih.1]
      rfl
    · show max (PyData.depth (qd r)) (PyData.depthAll (rs.map qd)) ≤ 1
      exact Nat.max_le.mpr ⟨Nat.le_of_eq (lay_qd r).2, ih.2⟩
theorem nmL_shp (rs : List Rat) : Shp (nmL rs) := by
  obtain ⟨h1, h2⟩ := nmL_lay rs
  show (PyData.canLay0 (.list (rs.map qd)) && decide (PyData.depth (.list (rs.map qd)) ≤ 64)) = true
  rw [show PyData.canLay0 (.list (rs.map qd)) = true from h1, Bool.true_and]
  exact decide_eq_true (by show PyData.depthAll (rs.map qd) + 1 ≤ 64; omega)
theorem nmL_eqv : ∀ xs ys : List Rat, PyData.eqv (nmL xs) (nmL ys) = decide (xs = ys)
  | [], [] => rfl
  | [], y :: ys => rfl
  | x :: xs, [] => rfl
  | x :: xs, y :: ys => by
    show (PyData.eqv (qd x) (qd y) && PyData.eqv (nmL xs) (nmL ys)) = _
    rw [eqv_qd, nmL_eqv xs ys]
    by_cases h : x = y
    · subst h
      simp
    · simp [h]
theorem nmL_gEq (a b : List Rat) : gEq (nmL a) (nmL b) = some (.val (.bool (decide (a = b)))) := by
  unfold gEq
  rw [if_pos ⟨nmL_shp a, nmL_shp b⟩, nmL_eqv]
abbrev Rwv := List Rat × Rat
def rowD (r : Rwv) : PyData := .tuple [nmL r.1, qd r.2]
structure RowOk (n k : Nat) (r : Rwv) : Prop where
  l : r.1.length = n
  f : ∀ x ∈ r.1, Bt k x
  b : Bt k r.2
theorem RowOk.mono {n k j : Nat} {r : Rwv} (h : RowOk n k r) (hk : k ≤ j) : RowOk n j r := ⟨h.l, fun x hx => (h.f x hx).mono hk, h.b.mono hk⟩
def dotR (a b : List Rat) : Rat := sumR (List.zipWith (· * ·) a b)
theorem zw_bt {k j : Nat} {a b : List Rat} (ha : ∀ x ∈ a, Bt k x) (hb : ∀ x ∈ b, Bt j x) : ∀ x ∈ List.zipWith (· * ·) a b, Bt (k + j) x := by
  intro x hx
  obtain ⟨i, hi⟩ := List.mem_iff_getElem?.mp hx
  rw [List.getElem?_zipWith] at hi
  cases h1 : a[i]? with
  | none => rw [h1] at hi; cases hi
  | some u =>
    cases h2 : b[i]? with
    | none => rw [h1, h2] at hi; cases hi
    | some v =>
      rw [h1, h2] at hi
      cases hi
      exact (ha u (List.mem_of_getElem? h1)).mul (hb v (List.mem_of_getElem? h2))
theorem sum_preL {k n : Nat} {xs pre post : List Rat} {x : Rat} (h : ∀ r ∈ xs, Bt k r) (hl : xs.length ≤ n) (hb : (k + 1) * n + 1 ≤ 4000) (hn : 1 ≤ n) (e : xs = pre ++ x :: post) : Bt 4000 (sumR pre) ∧ Bt 4000 x := by
  have hp : pre.length ≤ xs.length := by rw [e]; simp
  have m1 : (k + 1) * pre.length ≤ (k + 1) * n := Nat.mul_le_mul_left _ (by omega)
  have m2 : (k + 1) * 1 ≤ (k + 1) * n := Nat.mul_le_mul_left _ hn
  refine ⟨(sumR_bt (k := k) fun y hy => h y (by rw [e]; exact List.mem_append_left _ hy)).mono (by omega), (h x (by rw [e]; simp)).mono (by omega)⟩
theorem dotR_bt {k j n : Nat} {a b : List Rat} (ha : ∀ x ∈ a, Bt k x) (hb : ∀ x ∈ b, Bt j x) (hn : a.length ≤ n) : Bt ((k + j + 1) * n + 1) (dotR a b) := by
  have h := sumR_bt (zw_bt ha hb)
  refine h.mono ?_
  have : (k + j + 1) * (List.zipWith (· * ·) a b).length ≤ (k + j + 1) * n := Nat.mul_le_mul_left _ (by rw [List.length_zipWith]; omega)
  omega
theorem zw_range {a b : List Rat} (h : a.length ≤ b.length) : (List.range a.length).map (fun k => a.getD k 0 * b.getD k 0) = List.zipWith (· * ·) a b := by
  apply List.ext_getElem
  · simp; omega
  · intro i h1 h2
    simp at h1
    have : i < b.length := by omega
    simp [h1, this]
theorem zipD_map {α : Type} (f : α → PyData) (xs ys : List α) : zipD (xs.map f) (ys.map f) = (xs.zip ys).map fun p => .tuple [f p.1, f p.2] := by
  unfold zipD
  rw [List.zipWith_map, List.zip, List.map_zipWith]
theorem zip_mul (xs ys : List Rat) : (xs.zip ys).map (fun p => p.1 * p.2) = List.zipWith (· * ·) xs ys := by
  rw [List.zip, List.map_zipWith]
theorem getD_btL {k : Nat} {rs : List Rat} (h : ∀ x ∈ rs, Bt k x) (hk : 1 ≤ k) (p : Nat) : Bt k (rs.getD p 0) := by
  rw [List.getD_eq_getElem?_getD]
  cases q : rs[p]? with
  | none => exact .zero hk
  | some x => exact h x (List.mem_of_getElem? q)
theorem run_nxD {S T : SF} {env e : En} {x : Option R} (h1 : S env = some (.nx e)) (h2 : resO (T e) = x) : resO (sSeq S T env) = x := by
  show resO (bindO (S env) T) = x
  rw [h1]
  exact h2
/-- a drawn small number -/
def smr (d : Nat) : Rat := Rat.divInt (((d % 9 : Nat) : Int) - 4) ((([1, 1, 1, 2, 3] : List Nat).getD (d / 9 % 5) 1 : Nat) : Int)
theorem smr_d (d : Nat) : 1 ≤ ([1, 1, 1, 2, 3] : List Nat).getD (d / 9 % 5) 1 ∧ ([1, 1, 1, 2, 3] : List Nat).getD (d / 9 % 5) 1 ≤ 3 := by
  have h := Nat.mod_lt (d / 9) (show 0 < 5 by decide)
  generalize d / 9 % 5 = v at *
  have : ∀ v < 5, 1 ≤ ([1, 1, 1, 2, 3] : List Nat).getD v 1 ∧ ([1, 1, 1, 2, 3] : List Nat).getD v 1 ≤ 3 := by decide
  exact this v h
theorem smr_bt (d : Nat) : Bt 3 (smr d) := by
  obtain ⟨h1, h2⟩ := smr_d d
  unfold smr
  generalize ([1, 1, 1, 2, 3] : List Nat).getD (d / 9 % 5) 1 = e at *
  have := Nat.mod_lt d (show 0 < 9 by decide)
  exact Bt.of (by omega) (by omega) (by omega)
def smL (ds : List Nat) (n : Nat) : List Rat := (List.range n).map fun k => smr (ds.getD k 0)
theorem smL_bt (ds : List Nat) (n : Nat) : ∀ x ∈ smL ds n, Bt 3 x := fun x hx => by
  obtain ⟨k, _, rfl⟩ := List.mem_map.mp hx
  exact smr_bt _
theorem smL_len (ds : List Nat) (n : Nat) : (smL ds n).length = n := by simp [smL]
end Dn
namespace Law
open PySem PySem.Spec PyProof.Rows L2 Dn
/-! Lx1: small numbers drawn, products of two lists -/
theorem small_eq (d : Nat) : m__law_small [.int (d : Int)] = some (.val (qd (smr d))) := by
  unfold m__law_small
  rw [fnD_eq (by rfl)]
  have few5 : Dn.Few 5 := by simp
  have n9 : ∀ i, Dn.NzOk i 9 := fun i => by unfold Dn.NzOk; decide
  have n5 : ∀ i, Dn.NzOk i 5 := fun i => by unfold Dn.NzOk; decide
  have f9 : ∀ i, Dn.FdOk i 9 := fun j => fd_small (by decide) (by decide)
  have m9 : (d : Int).fmod 9 = ((d % 9 : Nat) : Int) := fmodN d 9 (by decide)
  have d9 : (d : Int).fdiv 9 = ((d / 9 : Nat) : Int) := by rw [fdiv_pos (by decide)]; omega
  have m5 : ((d / 9 : Nat) : Int).fmod 5 = ((d / 9 % 5 : Nat) : Int) := fmodN (d / 9) 5 (by decide)
  obtain ⟨h1, h2⟩ := smr_d d
  have ln := law_number_rat (((d % 9 : Nat) : Int) - 4) ((([1, 1, 1, 2, 3] : List Nat).getD (d / 9 % 5) 1 : Nat) : Int) (by omega) (by rw [Int.natAbs_natCast]; exact lt_div8 (k := 3) (by omega) (by decide))
  have at_ : atI [PyData.int 1, .int 1, .int 1, .int 2, .int 3] ((d / 9 % 5 : Nat) : Int) = some (PyData.int ((([1, 1, 1, 2, 3] : List Nat).getD (d / 9 % 5) 1 : Nat) : Int)) := by
    have h := Nat.mod_lt (d / 9) (show 0 < 5 by decide)
    generalize d / 9 % 5 = v at *
    have : v = 0 ∨ v = 1 ∨ v = 2 ∨ v = 3 ∨ v = 4 := by omega
    rcases this with rfl | rfl | rfl | rfl | rfl <;> rfl
  have es : qd (smr d) = qd (Rat.divInt (((d % 9 : Nat) : Int) - 4) ((([1, 1, 1, 2, 3] : List Nat).getD (d / 9 % 5) 1 : Nat) : Int)) := rfl
  rw [es]
  generalize qd (Rat.divInt (((d % 9 : Nat) : Int) - 4) ((([1, 1, 1, 2, 3] : List Nat).getD (d / 9 % 5) 1 : Nat) : Int)) = q at *
  generalize ([1, 1, 1, 2, 3] : List Nat).getD (d / 9 % 5) 1 = e at *
  generalize d / 9 % 5 = v at *
  generalize d / 9 = w at *
  generalize d % 9 = u at *
  generalize (d : Int) = D at *
  simp [b__law_small, few5, n9, n5, f9, m9, d9, m5, at_, ln]
theorem law_numbers_eq (ds : List Nat) (n : Nat) (h : n ≤ ds.length) (hn : n ≤ 1000) : m__law_numbers [.list (il ds), .int (n : Int)] = some (.own ((smL ds n).map qd)) := by
  unfold m__law_numbers
  rw [fnD_eq (by rfl)]
  have ir : Dn.InR (n : Int) := inR_of (by omega) (by omega)
  have e1 : b__law_numbers_1 [.val (.list (il ds)), .val (.int (n : Int)), .no] = some (.own ((smL ds n).map qd)) := by
    unfold b__law_numbers_1
    rw [eLc_map nI (fun k => qd (smr (ds.getD k 0))) (xs := List.range n) (by simp [ir, ints0]) (by simp; omega) fun k hk => ?_, smL, List.map_map]
    · rfl
    · have a := atI_d (ds := ds) (i := k) (by have := List.mem_range.mp hk; omega)
      have s := small_eq (ds.getD k 0)
      generalize qd (smr (ds.getD k 0)) = q at *
      generalize ds.getD k 0 = d at *
      generalize il ds = L at *
      simp [elD, a, s]
  simp [b__law_numbers, e1]
theorem row_value_eq {k j : Nat} {fs ns : List Rat} (hf : ∀ x ∈ fs, Bt k x) (hn : ∀ x ∈ ns, Bt j x) (hl : fs.length ≤ 9) (hk : k + j ≤ 400) : m__row_value [nmL fs, nmL ns] = some (.val (qd (dotR fs ns))) := by
  unfold m__row_value
  rw [fnD_eq (by rfl)]
  have e1 : b__row_value_1 [.val (nmL fs), .val (nmL ns), .no, .no] = some (.own ((List.zipWith (· * ·) fs ns).map qd)) := by
    unfold b__row_value_1
    rw [eLc_map (fun p : Rat × Rat => .tuple [qd p.1, qd p.2]) (fun p => qd (p.1 * p.2)) (xs := fs.zip ns) (by simp [zipD_map]) (by simp; omega) fun p hp => ?_, ← zip_mul, List.map_map]
    · rfl
    · have t := times_rat ((hf p.1 (List.of_mem_zip hp).1).mono (show k ≤ 4000 by omega)) ((hn p.2 (List.of_mem_zip hp).2).mono (show j ≤ 4000 by omega))
      generalize qd (p.1 * p.2) = q at *
      simp [elD, t]
  have t := total_eq (List.zipWith (· * ·) fs ns) fun pre x post e => sum_preL (k := k + j) (n := 9) (zw_bt hf hn) (by rw [List.length_zipWith]; omega) (by omega) (by decide) e
  have es : qd (dotR fs ns) = qd (sumR (List.zipWith (· * ·) fs ns)) := rfl
  rw [es]
  generalize (List.zipWith (· * ·) fs ns).map qd = I at *
  simp [b__row_value, e1, t]
theorem law_dot_eq {k j : Nat} {fs ns : List Rat} (hf : ∀ x ∈ fs, Bt k x) (hn : ∀ x ∈ ns, Bt j x) (hl : fs.length ≤ 9) (hl2 : fs.length ≤ ns.length) (h1 : 1 ≤ k) (h2 : 1 ≤ j) (hk : k + j ≤ 400) : m__law_dot [nmL fs, nmL ns] = some (.val (qd (dotR fs ns))) := by
  unfold m__law_dot
  rw [fnD_eq (by rfl)]
  have ir : Dn.InR (fs.length : Int) := inR_of (by omega) (by omega)
  have e1 : b__law_dot_1 [.val (nmL fs), .val (nmL ns), .no] = some (.own ((List.zipWith (· * ·) fs ns).map qd)) := by
    unfold b__law_dot_1
    rw [eLc_map nI (fun k => qd (fs.getD k 0 * ns.getD k 0)) (xs := List.range fs.length) (by simp [ir, ints0]) (by simp; omega) fun i hi => ?_, ← zw_range hl2, List.map_map]
    · rfl
    · have hi := List.mem_range.mp hi
      have t := law_times_rat ((getD_btL hf h1 i).mono (show k ≤ 4000 by omega)) ((getD_btL hn h2 i).mono (show j ≤ 4000 by omega))
      have i1 := atI_qd (rs := fs) hi
      have i2 := atI_qd (rs := ns) (x := i) (by omega)
      generalize fs.getD i 0 = x at *
      generalize ns.getD i 0 = y at *
      generalize qd (x * y) = q at *
      simp [elD, i1, i2, t]
  have t := law_sum_eq (List.zipWith (· * ·) fs ns) fun pre x post e => sum_preL (k := k + j) (n := 9) (zw_bt hf hn) (by rw [List.length_zipWith]; omega) (by omega) (by decide) e
  have es : qd (dotR fs ns) = qd (sumR (List.zipWith (· * ·) fs ns)) := rfl
  rw [es]
  generalize (List.zipWith (· * ·) fs ns).map qd = I at *
  simp [b__law_dot, e1, t]
theorem law_value_eq {k j : Nat} {fs ns : List Rat} (hf : ∀ x ∈ fs, Bt k x) (hn : ∀ x ∈ ns, Bt j x) (hl : fs.length ≤ 9) (hl2 : fs.length ≤ ns.length) (h1 : 1 ≤ k) (h2 : 1 ≤ j) (hk : k + j ≤ 400) : m__law_value [nmL fs, nmL ns] = some (.val (qd (dotR fs ns))) := by
  unfold m__law_value
  rw [fnD_eq (by rfl)]
  have e := law_dot_eq hf hn hl hl2 h1 h2 hk
  generalize qd (dotR fs ns) = q at *
  generalize fs.map qd = F at *
  generalize ns.map qd = N at *
  simp [b__law_value, e]
theorem law_minus_rat {a b : Rat} (ha : Bt 3000 a) (hb : Bt 3000 b) : m__law_minus [qd a, qd b] = some (.val (qd (a - b))) := by
  unfold m__law_minus
  rw [fnD_eq (by rfl)]
  have few2 : Dn.Few 2 := by simp
  have p := law_plus_rat (ha.mono (show 3000 ≤ 4000 by decide)) (hb.neg.mono (show 3000 ≤ 4000 by decide))
  have e : qd (-b) = .tuple [.int (-b.num), .int (b.den : Int)] := by rw [qd, Rat.neg_num, Rat.neg_den]
  rw [e, ← Rat.sub_eq_add_neg] at p
  generalize qd (a - b) = q at *
  simp [b__law_minus, p]
end Law
namespace Law
open PySem PySem.Spec PyProof.Rows L2 Dn
/-! Lx2: solutions, directions, refutations: the program and the law -/
abbrev rowsD (rows : List Rwv) : PyData := .list (rows.map rowD)
abbrev nI0 (n : Nat) : Sl := .val (.int (n : Int))
def solB (n : Nat) (rows : List Rwv) (ns : List Rat) : Bool := decide (ns.length = n) && rows.all fun r => decide (dotR r.1 ns = r.2)
def dirB (n : Nat) (rows : List Rwv) (ns : List Rat) : Bool := decide (ns.length = n) && (!decide (ns = List.replicate n 0) && rows.all fun r => decide (dotR r.1 ns = 0))
def addF (n : Nat) (rows : List Rwv) (ms : List Rat) : List Rat := (List.range n).map fun k => dotR (rows.map fun r => r.1.getD k 0) ms
def addB (rows : List Rwv) (ms : List Rat) : Rat := dotR (rows.map fun r => r.2) ms
def refB (n : Nat) (rows : List Rwv) (ms : List Rat) : Bool := decide (ms.length = rows.length) && (decide (addF n rows ms = List.replicate n 0) && !decide (addB rows ms = 0))
theorem filt_all {α : Type} (f : α → PyData) (p : α → Bool) (xs : List α) : decide ((((xs.filter fun a => !p a).map f).length : Int) = 0) = xs.all p := by
  rw [List.length_map]
  induction xs with
  | nil => rfl
  | cons x xs ih =>
    rw [List.all_cons, List.filter_cons]
    cases h : p x with
    | true => simpa using ih
    | false => simp; omega
theorem rep0 (n : Nat) : (List.replicate n [qd 0]).flatten = (List.replicate n (0 : Rat)).map qd := by
  induction n with
  | zero => rfl
  | succ n ih => rw [List.replicate_succ, List.flatten_cons, ih]; rfl
theorem all0 {ns : List Rat} {n : Nat} (h : ns.length = n) : (ns.all fun x => decide (x.num = 0)) = decide (ns = List.replicate n 0) := by
  by_cases c : ns = List.replicate n 0
  · rw [decide_eq_true c, List.all_eq_true]
    intro x hx
    rw [c] at hx
    rw [(List.mem_replicate.mp hx).2]
    rfl
  · rw [decide_eq_false c, List.all_eq_false]
    have c2 : ¬ ∀ x ∈ ns, x = 0 := fun z => c (List.eq_replicate_iff.mpr ⟨h, z⟩)
    obtain ⟨x, hx⟩ := Classical.not_forall.mp c2
    obtain ⟨h1, h2⟩ := Classical.not_imp.mp hx
    exact ⟨x, h1, by simpa [Rat.num_eq_zero] using h2⟩
variable {n : Nat} {rows : List Rwv} {ns : List Rat}
theorem is_solution_eq (hr : ∀ r ∈ rows, RowOk n 10 r) (h9 : n ≤ 9) (hl : rows.length ≤ 1000) (hns : ∀ x ∈ ns, Bt 10 x) : m_is_solution [.int (n : Int), rowsD rows, nmL ns] = some (.val (.bool (solB n rows ns))) := by
  unfold m_is_solution
  rw [fnD_eq (by rfl)]
  by_cases c : ns.length = n
  · have e1 : b_is_solution_1 [nI0 n, .val (rowsD rows), .val (nmL ns), .no, .no] = some (.own (rows.map fun r => .bool (decide (dotR r.1 ns = r.2)))) := by
      unfold b_is_solution_1
      refine eLc_map rowD (fun r => .bool (decide (dotR r.1 ns = r.2))) (xs := rows) (by simp) (by omega) fun r h => ?_
      have R := hr r h
      have t := row_value_eq R.f hns (by rw [R.l]; exact h9) (by decide)
      have q := gEqT_qd (dotR r.1 ns) r.2
      rw [rowD]
      generalize qd (dotR r.1 ns) = x at *
      generalize qd r.2 = y at *
      simp [-gEqT_tup, elD, t, q]
    have a := gAll_map (fun r : Rwv => decide (dotR r.1 ns = r.2)) rows
    unfold solB
    rw [decide_eq_true c, Bool.true_and]
    generalize (rows.all fun r => decide (dotR r.1 ns = r.2)) = B at *
    generalize (rows.map fun r => PyData.bool (decide (dotR r.1 ns = r.2))) = L at *
    simp [-gAll, b_is_solution, c, e1, a]
  · unfold solB
    rw [decide_eq_false c, Bool.false_and]
    have c' : ¬ ((ns.length : Int) = (n : Int)) := by omega
    simp [b_is_solution, c']
theorem law_solves_eq (hr : ∀ r ∈ rows, RowOk n 10 r) (h9 : n ≤ 9) (hl : rows.length ≤ 1000) (hns : ∀ x ∈ ns, Bt 10 x) : m__law_solves [.int (n : Int), rowsD rows, nmL ns] = some (.val (.bool (solB n rows ns))) := by
  unfold m__law_solves
  rw [fnD_eq (by rfl)]
  by_cases c : ns.length = n
  · have e1 : b__law_solves_1 [nI0 n, .val (rowsD rows), .val (nmL ns), .no] = some (.own ((rows.filter fun r => !decide (dotR r.1 ns = r.2)).map rowD)) := by
      unfold b__law_solves_1
      refine eLc_flt rowD rowD (fun r => !decide (dotR r.1 ns = r.2)) (xs := rows) (by simp) (by omega) fun r h => ?_
      have R := hr r h
      have t := law_value_eq R.f hns (by rw [R.l]; exact h9) (by rw [R.l, c]; exact Nat.le_refl _) (by decide) (by decide) (by decide)
      have q := gNeT_qd (dotR r.1 ns) r.2
      rw [rowD]
      generalize qd (dotR r.1 ns) = x at *
      generalize qd r.2 = y at *
      by_cases d : dotR r.1 ns = r.2
      · rw [decide_eq_true d] at q ⊢
        simp [-gNeT_tup, elD, t, q]
      · rw [decide_eq_false d] at q ⊢
        simp [-gNeT_tup, elD, t, q]
    have a := filt_all rowD (fun r : Rwv => decide (dotR r.1 ns = r.2)) rows
    unfold solB
    rw [decide_eq_true c, Bool.true_and]
    generalize (rows.all fun r => decide (dotR r.1 ns = r.2)) = B at *
    generalize ((rows.filter fun r => !decide (dotR r.1 ns = r.2)).map rowD) = L at *
    simp at a
    simp [b__law_solves, c, e1, a]
  · unfold solB
    rw [decide_eq_false c, Bool.false_and]
    have c' : ¬ ((ns.length : Int) = (n : Int)) := by omega
    simp [b__law_solves, c']
theorem is_direction_eq (hr : ∀ r ∈ rows, RowOk n 10 r) (h9 : n ≤ 9) (hl : rows.length ≤ 1000) (hns : ∀ x ∈ ns, Bt 10 x) : m_is_direction [.int (n : Int), rowsD rows, nmL ns] = some (.val (.bool (dirB n rows ns))) := by
  unfold m_is_direction
  rw [fnD_eq (by rfl)]
  by_cases c : ns.length = n
  · have few1 : Dn.Few 1 := by simp
    have ir : Dn.InR (n : Int) := inR_of (by omega) (by omega)
    have ft : Dn.Fits n := fits (by omega)
    have r0 := rep0 n
    have g0 : gEq (.list (ns.map qd)) (.list ((List.replicate n (0 : Rat)).map qd)) = _ := nmL_gEq ns (List.replicate n 0)
    unfold dirB
    rw [decide_eq_true c, Bool.true_and]
    have e1 : b_is_direction_1 [nI0 n, .val (rowsD rows), .val (nmL ns), .no, .no] = some (.own (rows.map fun r => .bool (decide (dotR r.1 ns = 0)))) := by
      unfold b_is_direction_1
      refine eLc_map rowD (fun r => .bool (decide (dotR r.1 ns = 0))) (xs := rows) (by simp) (by omega) fun r h => ?_
      have R := hr r h
      have t := row_value_eq R.f hns (by rw [R.l]; exact h9) (by decide)
      have q := gEqT_qd (dotR r.1 ns) 0
      rw [rowD]
      rw [qd_zero] at q
      generalize qd (dotR r.1 ns) = x at *
      generalize qd r.2 = y at *
      simp [-gEqT_tup, elD, t, q]
    have a := gAll_map (fun r : Rwv => decide (dotR r.1 ns = 0)) rows
    generalize (rows.all fun r => decide (dotR r.1 ns = 0)) = B at *
    generalize (rows.map fun r => PyData.bool (decide (dotR r.1 ns = 0))) = L at *
    rw [qd_zero] at r0
    generalize (List.replicate n (0 : Rat)).map qd = Z at *
    generalize hD : decide (ns = List.replicate n 0) = D at *
    cases D <;> simp [-gAll, b_is_direction, c, few1, ir, ft, r0, g0, e1, a]
  · unfold dirB
    rw [decide_eq_false c, Bool.false_and]
    have c' : ¬ ((ns.length : Int) = (n : Int)) := by omega
    simp [b_is_direction, c']
theorem law_directs_eq (hr : ∀ r ∈ rows, RowOk n 10 r) (h9 : n ≤ 9) (hl : rows.length ≤ 1000) (hns : ∀ x ∈ ns, Bt 10 x) : m__law_directs [.int (n : Int), rowsD rows, nmL ns] = some (.val (.bool (dirB n rows ns))) := by
  unfold m__law_directs
  rw [fnD_eq (by rfl)]
  by_cases c : ns.length = n
  · unfold dirB
    rw [decide_eq_true c, Bool.true_and]
    have e0 : b__law_directs_1 [nI0 n, .val (rowsD rows), .val (nmL ns), .no, .no] = some (.own ((ns.filter fun x => !decide (x.num = 0)).map qd)) := by
      unfold b__law_directs_1
      refine eLc_flt qd qd (fun x => !decide (x.num = 0)) (xs := ns) (by simp) (by omega) fun x h => ?_
      by_cases d : x.num = 0
      · simp [elD, d]
      · simp [elD, d]
    have a0 := filt_all qd (fun x : Rat => decide (x.num = 0)) ns
    rw [all0 c] at a0
    have e1 : b__law_directs_2 [nI0 n, .val (rowsD rows), .val (nmL ns), .no, .no] = some (.own ((rows.filter fun r => !decide (dotR r.1 ns = 0)).map rowD)) := by
      unfold b__law_directs_2
      refine eLc_flt rowD rowD (fun r => !decide (dotR r.1 ns = 0)) (xs := rows) (by simp) (by omega) fun r h => ?_
      have R := hr r h
      have t := law_value_eq R.f hns (by rw [R.l]; exact h9) (by rw [R.l, c]; exact Nat.le_refl _) (by decide) (by decide) (by decide)
      rw [rowD]
      by_cases d : dotR r.1 ns = 0
      · rw [d] at t ⊢
        generalize qd r.2 = y at *
        simp at t
        simp [elD, t]
      · have d' : ¬ (dotR r.1 ns).num = 0 := fun z => d (Rat.num_eq_zero.mp z)
        generalize dotR r.1 ns = v at *
        generalize qd r.2 = y at *
        simp [elD, t, d, d']
    have a := filt_all rowD (fun r : Rwv => decide (dotR r.1 ns = 0)) rows
    generalize (rows.all fun r => decide (dotR r.1 ns = 0)) = B at *
    generalize ((rows.filter fun r => !decide (dotR r.1 ns = 0)).map rowD) = L at *
    generalize ((ns.filter fun x => !decide (x.num = 0)).map qd) = M at *
    generalize hD : decide (ns = List.replicate n 0) = D at *
    simp at a a0
    cases D <;> simp at a0 <;> simp [b__law_directs, c, e0, a0, e1, a]
  · unfold dirB
    rw [decide_eq_false c, Bool.false_and]
    have c' : ¬ ((ns.length : Int) = (n : Int)) := by omega
    simp [b__law_directs, c']
end Law
namespace Law
open PySem PySem.Spec PyProof.Rows L2 Dn
/-! Lx3: rows added up -/
variable {n : Nat} {rows : List Rwv} {ns : List Rat}
abbrev colR (rows : List Rwv) (k : Nat) : List Rat := rows.map fun r => r.1.getD k 0
abbrev bndR (rows : List Rwv) : List Rat := rows.map fun r => r.2
theorem col_bt (hr : ∀ r ∈ rows, RowOk n 10 r) (k : Nat) : ∀ x ∈ colR rows k, Bt 10 x := fun x hx => by
  obtain ⟨r, h, rfl⟩ := List.mem_map.mp hx
  exact getD_btL (hr r h).f (by decide) k
theorem bnd_bt (hr : ∀ r ∈ rows, RowOk n 10 r) : ∀ x ∈ bndR rows, Bt 10 x := fun x hx => by
  obtain ⟨r, h, rfl⟩ := List.mem_map.mp hx
  exact (hr r h).b
theorem added_up_eq (hr : ∀ r ∈ rows, RowOk n 10 r) (h9 : n ≤ 9) (hl : rows.length ≤ 9) (hns : ∀ x ∈ ns, Bt 10 x) : m__added_up [.int (n : Int), rowsD rows, nmL ns] = some (.val (.tuple [nmL (addF n rows ns), qd (addB rows ns)])) := by
  unfold m__added_up
  rw [fnD_eq (by rfl)]
  have ir : Dn.InR (n : Int) := inR_of (by omega) (by omega)
  have few2 : Dn.Few 2 := by simp
  have e1 : ∀ k : Nat, k < n → b__added_up_1 [nI0 n, .val (rowsD rows), .val (nmL ns), .no, .val (nI k), .no] = some (.own ((colR rows k).map qd)) := fun k hk => by
    unfold b__added_up_1
    rw [eLc_map rowD (fun r => qd (r.1.getD k 0)) (xs := rows) (by simp) (by omega) fun r h => ?_, List.map_map]
    · rfl
    · have i1 := atI_qd (rs := r.1) (x := k) (by rw [(hr r h).l]; exact hk)
      rw [rowD]
      generalize qd r.2 = y at *
      simp [elD, i1]
  have e2 : b__added_up_2 [nI0 n, .val (rowsD rows), .val (nmL ns), .no, .no, .no] = some (.own ((addF n rows ns).map qd)) := by
    unfold b__added_up_2
    rw [eLc_map nI (fun k => qd (dotR (colR rows k) ns)) (xs := List.range n) (by simp [ir, ints0]) (by simp; omega) fun k hk => ?_, addF, List.map_map]
    · rfl
    · have e := e1 k (List.mem_range.mp hk)
      have t := row_value_eq (col_bt hr k) hns (by simp; omega) (by decide)
      have t : m__row_value [.list ((colR rows k).map qd), nmL ns] = _ := t
      generalize qd (dotR (colR rows k) ns) = q at *
      generalize (colR rows k).map qd = C at *
      simp [elD, e, t]
  have e3 : ∀ a3 : Sl, b__added_up_3 [nI0 n, .val (rowsD rows), .val (nmL ns), a3, .no, .no] = some (.own ((bndR rows).map qd)) := fun a3 => by
    unfold b__added_up_3
    rw [eLc_map rowD (fun r => qd r.2) (xs := rows) (by simp) (by omega) fun r h => ?_, List.map_map]
    · rfl
    · rw [rowD]
      generalize qd r.2 = y at *
      simp [elD]
  have t := row_value_eq (bnd_bt hr) hns (by simp; omega) (by decide)
  have t : m__row_value [.list ((bndR rows).map qd), nmL ns] = some (.val (qd (addB rows ns))) := t
  generalize (bndR rows).map qd = C at *
  generalize qd (addB rows ns) = q at *
  simp [b__added_up, e2, few2, e3, t]
theorem law_added_eq (hr : ∀ r ∈ rows, RowOk n 10 r) (h9 : n ≤ 9) (hl : rows.length ≤ 9) (hns : ∀ x ∈ ns, Bt 10 x) (hln : rows.length ≤ ns.length) : m__law_added [.int (n : Int), rowsD rows, nmL ns] = some (.val (.tuple [nmL (addF n rows ns), qd (addB rows ns)])) := by
  unfold m__law_added
  rw [fnD_eq (by rfl)]
  have ir : Dn.InR (n : Int) := inR_of (by omega) (by omega)
  have few2 : Dn.Few 2 := by simp
  have e1 : ∀ k : Nat, k < n → b__law_added_1 [nI0 n, .val (rowsD rows), .val (nmL ns), .no, .val (nI k), .no] = some (.own ((colR rows k).map qd)) := fun k hk => by
    unfold b__law_added_1
    rw [eLc_map rowD (fun r => qd (r.1.getD k 0)) (xs := rows) (by simp) (by omega) fun r h => ?_, List.map_map]
    · rfl
    · have i1 := atI_qd (rs := r.1) (x := k) (by rw [(hr r h).l]; exact hk)
      rw [rowD]
      generalize qd r.2 = y at *
      simp [elD, i1]
  have e2 : b__law_added_2 [nI0 n, .val (rowsD rows), .val (nmL ns), .no, .no, .no] = some (.own ((addF n rows ns).map qd)) := by
    unfold b__law_added_2
    rw [eLc_map nI (fun k => qd (dotR (colR rows k) ns)) (xs := List.range n) (by simp [ir, ints0]) (by simp; omega) fun k hk => ?_, addF, List.map_map]
    · rfl
    · have e := e1 k (List.mem_range.mp hk)
      have t := law_dot_eq (col_bt hr k) hns (by simp; omega) (by simp; omega) (by decide) (by decide) (by decide)
      have t : m__law_dot [.list ((colR rows k).map qd), nmL ns] = _ := t
      generalize qd (dotR (colR rows k) ns) = q at *
      generalize (colR rows k).map qd = C at *
      simp [elD, e, t]
  have e3 : ∀ a3 : Sl, b__law_added_3 [nI0 n, .val (rowsD rows), .val (nmL ns), a3, .no, .no] = some (.own ((bndR rows).map qd)) := fun a3 => by
    unfold b__law_added_3
    rw [eLc_map rowD (fun r => qd r.2) (xs := rows) (by simp) (by omega) fun r h => ?_, List.map_map]
    · rfl
    · rw [rowD]
      generalize qd r.2 = y at *
      simp [elD]
  have t := law_dot_eq (bnd_bt hr) hns (by simp; omega) (by simp; omega) (by decide) (by decide) (by decide)
  have t : m__law_dot [.list ((bndR rows).map qd), nmL ns] = some (.val (qd (addB rows ns))) := t
  generalize (bndR rows).map qd = C at *
  generalize qd (addB rows ns) = q at *
  simp [b__law_added, e2, few2, e3, t]
theorem refutes_eq (hr : ∀ r ∈ rows, RowOk n 10 r) (h9 : n ≤ 9) (hl : rows.length ≤ 9) (hns : ∀ x ∈ ns, Bt 10 x) : m_refutes [.int (n : Int), rowsD rows, nmL ns] = some (.val (.bool (refB n rows ns))) := by
  unfold m_refutes
  rw [fnD_eq (by rfl)]
  by_cases c : ns.length = rows.length
  · have few1 : Dn.Few 1 := by simp
    have ir : Dn.InR (n : Int) := inR_of (by omega) (by omega)
    have ft : Dn.Fits n := fits (by omega)
    have r0 := rep0 n
    have g0 : gEq (.list ((addF n rows ns).map qd)) (.list ((List.replicate n (0 : Rat)).map qd)) = _ := nmL_gEq (addF n rows ns) (List.replicate n 0)
    have a := added_up_eq hr h9 hl hns
    have a : m__added_up [.int (n : Int), rowsD rows, nmL ns] = some (.val (.tuple [.list ((addF n rows ns).map qd), qd (addB rows ns)])) := a
    have q := gNeT_qd (addB rows ns) 0
    unfold refB
    rw [decide_eq_true c, Bool.true_and]
    rw [qd_zero] at r0 q
    generalize (List.replicate n (0 : Rat)).map qd = Z at *
    generalize (addF n rows ns).map qd = A at *
    generalize qd (addB rows ns) = Q at *
    generalize hD : decide (addF n rows ns = List.replicate n 0) = D at *
    have c' : ((ns.length : Int) = (rows.length : Int)) := by omega
    cases D <;> simp [-gNeT_tup, b_refutes, c', c, few1, ir, ft, r0, g0, a, q]
  · unfold refB
    rw [decide_eq_false c, Bool.false_and]
    have c' : ¬ ((ns.length : Int) = (rows.length : Int)) := by omega
    simp [b_refutes, c']
theorem law_refutes_eq (hr : ∀ r ∈ rows, RowOk n 10 r) (h9 : n ≤ 9) (hl : rows.length ≤ 9) (hns : ∀ x ∈ ns, Bt 10 x) : m__law_refutes [.int (n : Int), rowsD rows, nmL ns] = some (.val (.bool (refB n rows ns))) := by
  unfold m__law_refutes
  rw [fnD_eq (by rfl)]
  by_cases c : ns.length = rows.length
  · have a := law_added_eq hr h9 hl hns (by omega)
    have a : m__law_added [.int (n : Int), rowsD rows, nmL ns] = some (.val (.tuple [.list ((addF n rows ns).map qd), qd (addB rows ns)])) := a
    have e0 : b__law_refutes_1 [nI0 n, .val (rowsD rows), .val (nmL ns), .val (.list ((addF n rows ns).map qd)), .val (qd (addB rows ns)), .no] = some (.own (((addF n rows ns).filter fun x => !decide (x.num = 0)).map qd)) := by
      unfold b__law_refutes_1
      refine eLc_flt qd qd (fun x => !decide (x.num = 0)) (xs := addF n rows ns) (by simp) (by simp [addF]; omega) fun x h => ?_
      generalize qd (addB rows ns) = Q at *
      by_cases d : x.num = 0
      · simp [elD, d]
      · simp [elD, d]
    have a0 := filt_all qd (fun x : Rat => decide (x.num = 0)) (addF n rows ns)
    rw [all0 (n := n) (by simp [addF])] at a0
    unfold refB
    rw [decide_eq_true c, Bool.true_and]
    have hz : decide (addB rows ns = 0) = decide ((addB rows ns).num = 0) := by rw [decide_eq_decide]; exact Rat.num_eq_zero.symm
    rw [hz]
    generalize (addF n rows ns).map qd = A at *
    generalize ((addF n rows ns).filter fun x => !decide (x.num = 0)).map qd = M at *
    generalize hD : decide (addF n rows ns = List.replicate n 0) = D at *
    have c' : ((ns.length : Int) = (rows.length : Int)) := by omega
    simp at a0
    generalize addB rows ns = v at *
    cases D <;> simp at a0 <;> simp [b__law_refutes, c', c, a, e0, a0]
  · unfold refB
    rw [decide_eq_false c, Bool.false_and]
    have c' : ¬ ((ns.length : Int) = (rows.length : Int)) := by omega
    simp [b__law_refutes, c']
end Law
namespace Law
open PySem PySem.Spec PyProof.Rows L2 Dn
/-! Lx4: short rows; a row plus a multiple of another; rows mixed -/
variable {n : Nat} {rows : List Rwv} {ns : List Rat}
def longB (x : Rat) : Bool := decide (1000 ≤ x.num.natAbs) || decide (1000 ≤ x.den)
theorem longB_bt {x : Rat} (h : longB x = false) : Bt 10 x := by
  unfold longB at h
  rw [Bool.or_eq_false_iff, decide_eq_false_iff_not, decide_eq_false_iff_not] at h
  exact ⟨by omega, by omega⟩
def stop1 (x : Rat) : Option R := if longB x = true then some (.val (.bool false)) else none
def stop2 (r : Rwv) : Option R := (r.1 ++ [r.2]).findSome? stop1
theorem stop1_none {xs : List Rat} (h : xs.findSome? stop1 = none) : ∀ x ∈ xs, Bt 10 x := fun x hx => by
  have := List.findSome?_eq_none_iff.mp h x hx
  unfold stop1 at this
  cases q : longB x with
  | true => rw [q, if_pos rfl] at this; cases this
  | false => exact longB_bt q
theorem stop1_some {xs : List Rat} {r : R} (h : xs.findSome? stop1 = some r) : r = .val (.bool false) := by
  obtain ⟨x, _, hx⟩ := List.exists_of_findSome?_eq_some h
  unfold stop1 at hx
  split at hx
  · cases hx; rfl
  · cases hx
theorem short_inner (R0 : Sl) (fs : List Rat) (b : Rat) (s3 : Sl) (hl : fs.length ≤ 1000) : match (fs ++ [b]).findSome? stop1 with
    | none => ∃ s, b__law_short_2 [R0, .val (nmL fs), .val (qd b), s3] = some (.nx [R0, .val (nmL fs), .val (qd b), s])
    | some r => b__law_short_2 [R0, .val (nmL fs), .val (qd b), s3] = some (.rt r) := by
  have few1 : Dn.Few 1 := by simp
  have ft : Dn.Fits (fs.length + 1) := fits (by omega)
  have ea : fs.map qd ++ [qd b] = (fs ++ [b]).map qd := by rw [List.map_append]; rfl
  have hs := forD_stop (g := gtName 3) (body := b__law_short_1) qd (fun _ env => ∃ s, env = [R0, .val (nmL fs), .val (qd b), s]) stop1 (all := fs ++ [b]) (env := [R0, .val (nmL fs), .val (qd b), s3]) ⟨_, rfl⟩ fun pre x post env hall ⟨s, he⟩ => by
    subst he
    generalize qd b = B at *
    have ex : qd x = .tuple [.int x.num, .int (x.den : Int)] := rfl
    unfold stop1 longB
    have ab : (if x.num < 0 then -x.num else x.num) = ((x.num.natAbs : Nat) : Int) := by split <;> omega
    generalize hX : qd x = X at *
    by_cases c1 : 1000 ≤ x.num.natAbs
    · have c1' : (1000 : Int) ≤ ((x.num.natAbs : Nat) : Int) := by omega
      rw [decide_eq_true c1, Bool.true_or, if_pos rfl]
      generalize x.num = u at *
      subst ex
      simp [b__law_short_1, ab, c1, c1']
    · have c1' : ¬ (1000 : Int) ≤ ((x.num.natAbs : Nat) : Int) := by omega
      by_cases c2 : 1000 ≤ x.den
      · rw [decide_eq_true c2, Bool.or_true, if_pos rfl]
        have c2' : (1000 : Int) ≤ (x.den : Int) := by omega
        subst ex
        simp [b__law_short_1, ab, c1, c1', c2, c2']
      · rw [decide_eq_false c1, decide_eq_false c2]
        have c2' : ¬ (1000 : Int) ≤ (x.den : Int) := by omega
        subst ex
        exact ⟨[R0, .val (nmL fs), .val B, .val (.tuple [.int x.num, .int (x.den : Int)])], by simp [b__law_short_1, ab, c1, c1', c2, c2'], _, rfl⟩
  have e0 : b__law_short_2 [R0, .val (nmL fs), .val (qd b), s3] = forD (gtName 3) b__law_short_1 ((fs ++ [b]).map qd) [R0, .val (nmL fs), .val (qd b), s3] := by
    rw [← ea]
    generalize qd b = B at *
    simp [b__law_short_2, few1, ft]
  rw [e0]
  cases q : (fs ++ [b]).findSome? stop1 with
  | none =>
    rw [q] at hs
    obtain ⟨e, h1, s, rfl⟩ := hs
    exact ⟨s, h1⟩
  | some r =>
    rw [q] at hs
    exact hs
theorem short_eq (hl : ∀ r ∈ rows, r.1.length = n) (hn : n ≤ 9) : m__law_short [rowsD rows] = some (.val (.bool false)) ∨ (m__law_short [rowsD rows] = some (.val (.bool true)) ∧ ∀ r ∈ rows, RowOk n 10 r) := by
  unfold m__law_short
  rw [fnD_eq (by rfl)]
  have hs := forD_stop (g := gtTup2 1 2) (body := b__law_short_2) rowD (fun _ env => ∃ s1 s2 s3, env = [.val (rowsD rows), s1, s2, s3]) stop2 (all := rows) (env := [.val (rowsD rows), .no, .no, .no]) ⟨_, _, _, rfl⟩ fun pre r post env hall ⟨s1, s2, s3, he⟩ => by
    subst he
    have lr : r.1.length = n := hl r (by rw [hall]; simp)
    have e1 : ((gtTup2 1 2) (rowD r) [.val (rowsD rows), s1, s2, s3]).bind b__law_short_2 = b__law_short_2 [.val (rowsD rows), .val (nmL r.1), .val (qd r.2), s3] := by
      rw [rowD]
      generalize qd r.2 = B at *
      simp
    rw [e1]
    have i := short_inner (.val (rowsD rows)) r.1 r.2 s3 (by omega)
    unfold stop2
    cases q : (r.1 ++ [r.2]).findSome? stop1 with
    | none =>
      rw [q] at i
      obtain ⟨s, h⟩ := i
      exact ⟨_, congrArg nxt h, _, _, _, rfl⟩
    | some r =>
      rw [q] at i
      exact i
  cases q : rows.findSome? stop2 with
  | none =>
    rw [q] at hs
    obtain ⟨e, h1, s1, s2, s3, rfl⟩ := hs
    right
    refine ⟨by simp [b__law_short, h1], fun r hr => ?_⟩
    have h := stop1_none (List.findSome?_eq_none_iff.mp q r hr)
    exact ⟨hl r hr, fun x hx => h x (List.mem_append_left _ hx), h r.2 (by simp)⟩
  | some r =>
    rw [q] at hs
    left
    obtain ⟨x, _, hx⟩ := List.exists_of_findSome?_eq_some q
    have e := stop1_some hx
    subst e
    simp [b__law_short, hs]
/-- a row plus a multiple of another -/
def plusRow (a b : Rwv) (c : Rat) : Rwv := ((List.range a.1.length).map fun i => a.1.getD i 0 + c * b.1.getD i 0, a.2 + c * b.2)
theorem plusRow_ok {k : Nat} {a b : Rwv} {c : Rat} (ha : RowOk n k a) (hb : RowOk n k b) (hc : Bt 2 c) (hk : 1 ≤ k) : RowOk n (2 * k + 3) (plusRow a b c) := by
  refine ⟨by simp [plusRow, ha.l], fun x hx => ?_, ?_⟩
  · obtain ⟨i, _, rfl⟩ := List.mem_map.mp hx
    exact ((getD_btL ha.f hk i).add (hc.mul (getD_btL hb.f hk i))).mono (by omega)
  · exact (ha.b.add (hc.mul hb.b)).mono (by omega)
theorem plus_row_eq {k : Nat} {a b : Rwv} {c : Rat} (ha : RowOk n k a) (hb : RowOk n k b) (hc : Bt 2 c) (hk : 1 ≤ k) (hk2 : k ≤ 3000) (hn : n ≤ 9) : m__law_plus_row [rowD a, rowD b, qd c] = some (.val (rowD (plusRow a b c))) := by
  unfold m__law_plus_row
  rw [fnD_eq (by rfl)]
  have ir : Dn.InR (a.1.length : Int) := inR_of (by omega) (by rw [ha.l]; omega)
  have few2 : Dn.Few 2 := by simp
  have e1 : b__law_plus_row_1 [.val (rowD a), .val (rowD b), .val (qd c), .no, .no] = some (.own ((plusRow a b c).1.map qd)) := by
    unfold b__law_plus_row_1
    rw [eLc_map nI (fun i => qd (a.1.getD i 0 + c * b.1.getD i 0)) (xs := List.range a.1.length) (by rw [rowD]; generalize qd a.2 = y at *; generalize qd c = z at *; simp [ir, ints0]) (by rw [List.length_range, ha.l]; omega) fun i hi => ?_, plusRow, List.map_map]
    · rfl
    · have hi := List.mem_range.mp hi
      have i1 := atI_qd (rs := a.1) hi
      have i2 := atI_qd (rs := b.1) (x := i) (by rw [hb.l, ← ha.l]; exact hi)
      have b1 := getD_btL ha.f hk i
      have b2 := getD_btL hb.f hk i
      have t := law_times_rat (hc.mono (show 2 ≤ 4000 by decide)) (b2.mono (show k ≤ 4000 by omega))
      have p := law_plus_rat (b1.mono (show k ≤ 4000 by omega)) ((hc.mul b2).mono (show 2 + k ≤ 4000 by omega))
      rw [rowD, rowD]
      generalize a.1.getD i 0 = x at *
      generalize b.1.getD i 0 = y at *
      generalize qd (x + c * y) = q at *
      generalize qd (c * y) = q2 at *
      generalize qd a.2 = qa at *
      generalize qd b.2 = qb at *
      generalize qd x = qx at *
      generalize qd y = qy at *
      generalize qd c = qc at *
      simp [elD, i1, i2, t, p]
  have t := law_times_rat (hc.mono (show 2 ≤ 4000 by decide)) (hb.b.mono (show k ≤ 4000 by omega))
  have p := law_plus_rat (ha.b.mono (show k ≤ 4000 by omega)) ((hc.mul hb.b).mono (show 2 + k ≤ 4000 by omega))
  have e2 : rowD (plusRow a b c) = .tuple [.list ((plusRow a b c).1.map qd), qd (a.2 + c * b.2)] := rfl
  rw [e2]
  rw [rowD, rowD] at e1 ⊢
  generalize (plusRow a b c).1.map qd = M at *
  generalize qd (a.2 + c * b.2) = q at *
  generalize qd (c * b.2) = q2 at *
  generalize qd a.2 = qa at *
  generalize qd b.2 = qb at *
  generalize qd c = qc at *
  simp [b__law_plus_row, few2, e1, t, p]
end Law
namespace Law
open PySem PySem.Spec PyProof.Rows L2 Dn
/-! Lx5: rows mixed, rows by steps -/
variable {n : Nat} {rows : List Rwv} {ns : List Rat}
def byR (v : Nat) : Rat := ([1, -1, 2] : List Rat).getD v 1
theorem byR_bt {v : Nat} (h : v < 3) : Bt 2 (byR v) := by
  have : v = 0 ∨ v = 1 ∨ v = 2 := by omega
  rcases this with rfl | rfl | rfl
  · exact Bt.int (n := 1) (by decide) (by decide)
  · exact Bt.int (n := -1) (by decide) (by decide)
  · exact Bt.int (n := 2) (by decide) (by decide)
theorem byR_at {v : Nat} (h : v < 3) : atI [PyData.tuple [.int 1, .int 1], .tuple [.int (-1), .int 1], .tuple [.int 2, .int 1]] (v : Int) = some (qd (byR v)) := by
  have : v = 0 ∨ v = 1 ∨ v = 2 := by omega
  rcases this with rfl | rfl | rfl <;> rfl
def kk : Nat → Nat
  | 0 => 60
  | i + 1 => 2 * kk i + 3
theorem kk_le {i : Nat} (h : i ≤ 3) : 60 ≤ kk i ∧ kk i ≤ 501 := by
  have : ∀ i ≤ 3, 60 ≤ kk i ∧ kk i ≤ 501 := by decide
  exact this i h
def Mix (n m k : Nat) (found : List Rwv) : Prop := found.length = m ∧ ∀ r ∈ found, RowOk n k r
theorem mix_turn {ds : List Nat} (hd : 8 ≤ ds.length) {m i : Nat} (hi : i < 3) (hn : n ≤ 9) (hm : m ≤ 9) {found : List Rwv} (h : Mix n m (kk i) found) (a0 s3 s4 s5 : Sl) :
    ∃ found' s4' s5', b__law_mixed_1 [a0, .val (.list (il ds)), .own (found.map rowD), .val (nI i), s4, s5] = some (.nx [a0, .val (.list (il ds)), .own (found'.map rowD), .val (nI i), s4', s5']) ∧ Mix n m (kk (i + 1)) found' := by
  obtain ⟨h1, h2⟩ := h
  have hk := kk_le (i := i) (by omega)
  by_cases c : 1 < m
  · have j1 : i * 2 < ds.length := by omega
    have a1 := atI_d (ds := ds) (i := 2 * i) (by omega)
    have a2 := atI_d (ds := ds) (i := 2 * i + 1) (by omega)
    have ec1 : ((2 * i : Nat) : Int) = 2 * (i : Int) := by omega
    have ec2 : ((2 * i + 1 : Nat) : Int) = 2 * (i : Int) + 1 := by omega
    rw [ec1] at a1
    rw [ec2] at a2
    generalize ds.getD (2 * i) 0 = d1 at *
    generalize ds.getD (2 * i + 1) 0 = d2 at *
    have mk : Dn.MulOk 2 (i : Int) := mul_l (by decide)
    have nz1 : ∀ j, Dn.NzOk j (m : Int) := nzN m (by omega)
    have m1 := fmodN d1 m (by omega)
    have l1 := Nat.mod_lt d1 (show 0 < m by omega)
    have nz2 : ∀ j, Dn.NzOk j ((m : Int) - 1) := fun j => by
      have := nzN (m - 1) (by omega) j
      rwa [show ((m - 1 : Nat) : Int) = (m : Int) - 1 by omega] at this
    have m2 := fmodN d2 (m - 1) (by omega)
    rw [show ((m - 1 : Nat) : Int) = (m : Int) - 1 by omega] at m2
    have m3 := fmodN (d1 % m + 1 + d2 % (m - 1)) m (by omega)
    have l3 := Nat.mod_lt (d1 % m + 1 + d2 % (m - 1)) (show 0 < m by omega)
    rw [show ((d1 % m + 1 + d2 % (m - 1) : Nat) : Int) = ((d1 % m : Nat) : Int) + 1 + ((d2 % (m - 1) : Nat) : Int) by omega] at m3
    generalize (d1 % m + 1 + d2 % (m - 1)) % m = o at *
    generalize d2 % (m - 1) = w at *
    generalize d1 % m = p at *
    have f9 : ∀ i, Dn.FdOk i 9 := fun j => fd_small (by decide) (by decide)
    have d9 : (d1 : Int).fdiv 9 = ((d1 / 9 : Nat) : Int) := by rw [fdiv_pos (by decide)]; omega
    have m4 : ((d1 / 9 : Nat) : Int).fmod 3 = ((d1 / 9 % 3 : Nat) : Int) := fmodN (d1 / 9) 3 (by decide)
    have l4 := Nat.mod_lt (d1 / 9) (show 0 < 3 by decide)
    have n3 : ∀ i, Dn.NzOk i 3 := fun i => by unfold Dn.NzOk; decide
    generalize d1 / 9 % 3 = v at *
    have bt := byR_bt l4
    have ba := byR_at l4
    generalize byR v = y at *
    have few2 : Dn.Few 2 := by simp
    have few3 : Dn.Few 3 := by simp
    have gp := List.getElem?_eq_getElem (show p < found.length by omega)
    have go := List.getElem?_eq_getElem (show o < found.length by omega)
    have ip := atI_map (f := rowD) gp
    have io := atI_map (f := rowD) go
    have kp := h2 _ (List.getElem_mem (show p < found.length by omega))
    have ko := h2 _ (List.getElem_mem (show o < found.length by omega))
    generalize found[p] = rp at *
    generalize found[o] = ro at *
    have e := plus_row_eq kp ko bt (by omega) (by omega) hn
    have ok := plusRow_ok kp ko bt (by omega)
    have ix : ixN found.length (p : Int) = some p := ixN_of (by omega)
    have st : (found.map rowD).set p (rowD (plusRow rp ro y)) = (found.set p (plusRow rp ro y)).map rowD := (List.map_set ..).symm
    refine ⟨found.set p (plusRow rp ro y), .val (nI p), .val (nI o), ?_, by rw [List.length_set]; exact h1, fun r hr => ?_⟩
    · rw [← st]
      have lf : (found.map rowD).length = m := by rw [List.length_map, h1]
      rw [h1] at ix
      have c' : (1 : Int) < (m : Int) := by omega
      generalize rowD (plusRow rp ro y) = R at *
      generalize rowD rp = RP at *
      generalize rowD ro = RO at *
      generalize qd y = Y at *
      generalize found.map rowD = FD at *
      generalize il ds = L at *
      generalize d1 / 9 = w9 at *
      generalize (d1 : Int) = D1 at *
      subst lf
      simp [b__law_mixed_1, c, c', a1, a2, mk, nz1, m1, nz2, m2, m3, f9, d9, m4, n3, ba, few3, ip, io, e, ix]
    · rcases List.mem_or_eq_of_mem_set hr with q | q
      · exact (h2 r q).mono (by show _ ≤ 2 * kk i + 3; omega)
      · rw [q]
        exact ok
  · refine ⟨found, s4, s5, ?_, h1, fun r hr => (h2 r hr).mono (by show _ ≤ 2 * kk i + 3; omega)⟩
    have lf : (found.map rowD).length = m := by rw [List.length_map, h1]
    have c' : ¬ (1 : Int) < (m : Int) := by omega
    generalize found.map rowD = FD at *
    subst lf
    simp [b__law_mixed_1, c, c']
theorem mixed_eq {ds : List Nat} (hd : 8 ≤ ds.length) (hn : n ≤ 9) (hm : rows.length ≤ 8) (hr : ∀ r ∈ rows, RowOk n 60 r) :
    ∃ found : List Rwv, m__law_mixed [rowsD rows, .list (il ds)] = some (.own (found.map rowD)) ∧ found.length ≤ rows.length + 1 ∧ ∀ r ∈ found, RowOk n 1100 r := by
  unfold m__law_mixed
  rw [fnD_eq (by rfl)]
  obtain ⟨e, h1, found, s4, s5, ⟨s3, rfl⟩, F, _⟩ := forD_wp (g := gtName 3) (body := b__law_mixed_1) nI
    (fun pre env => ∃ (found : List Rwv) (s4 s5 : Sl), (∃ s3, env = [.val (rowsD rows), .val (.list (il ds)), .own (found.map rowD), s3, s4, s5]) ∧ Mix n rows.length (kk pre.length) found ∧ True)
    (all := List.range 3) (env := [.val (rowsD rows), .val (.list (il ds)), .own (rows.map rowD), .no, .no, .no]) ⟨rows, .no, .no, ⟨_, rfl⟩, ⟨rfl, hr⟩, trivial⟩
    (fun pre k post env hall ⟨found, s4, s5, ⟨s3, he⟩, F, _⟩ => by
      subst he
      have hp : k = pre.length := by
        have := congrArg (fun l => l[pre.length]?) hall
        simp at this
        by_cases q : pre.length < 3
        · simp [q] at this; omega
        · simp [q] at this
      have hk : k < 3 := List.mem_range.mp (by rw [hall]; simp)
      rw [← hp] at F
      obtain ⟨f', s4', s5', h1, F'⟩ := mix_turn hd hk hn (by omega) F (.val (rowsD rows)) s3 s4 s5
      exact ⟨_, congrArg nxt h1, f', s4', s5', ⟨_, rfl⟩, by rw [List.length_append]; exact hp ▸ F', trivial⟩)
  have ir : Dn.InR 3 := inR_of (by decide) (by decide)
  have F : Mix n rows.length 501 found := F
  obtain ⟨F1, F2⟩ := F
  have i3 : Dn.intsFrom 0 3 = List.map nI (List.range 3) := ints0 3
  have few2 : Dn.Few 2 := by simp
  have ftr : Dn.Fits rows.length := fits (by omega)
  have a6 : atI (il ds) 6 = some (.int ((ds.getD 6 0 : Nat) : Int)) := atI_d (ds := ds) (i := 6) (by omega)
  have a7 : atI (il ds) 7 = some (.int ((ds.getD 7 0 : Nat) : Int)) := atI_d (ds := ds) (i := 7) (by omega)
  have m6 : ((ds.getD 6 0 : Nat) : Int).fmod 3 = ((ds.getD 6 0 % 3 : Nat) : Int) := fmodN _ 3 (by decide)
  have m7 : ((ds.getD 7 0 : Nat) : Int).fmod 2 = ((ds.getD 7 0 % 2 : Nat) : Int) := fmodN _ 2 (by decide)
  have n3 : ∀ i, Dn.NzOk i 3 := nzN 3 (by decide)
  have n2 : ∀ i, Dn.NzOk i 2 := nzN 2 (by decide)
  generalize ds.getD 6 0 % 3 = v6 at *
  generalize ds.getD 7 0 % 2 = v7 at *
  generalize ds.getD 6 0 = w6 at *
  generalize ds.getD 7 0 = w7 at *
  -- the list behind the row that may be appended
  obtain ⟨f2, hf2, hA, hl2, ok2⟩ : ∃ f2 : List Rwv, (f2 = found ∨ f2 ≠ []) ∧ (∀ s3 s4 s5 : Sl, (sIf (tAndD (tE (eBin gGt (ePeek (eCall gLen (aCons (eVar 2) aNil))) (eC (.int 0)))) (tE (eBin gEqT (eBin gMod (eCall gInt (aCons (eBin gIx (eVar 1) (eC (.int 6))) aNil)) (eC (.int 3))) (eC (.int 0))))) (sAppend 2 (eCall m__law_plus_row (aCons (eIxO 2 (eC (.int 0))) (aCons (eIxO 2 (eUn gNeg (eC (.int 1)))) (aCons (eTup (aCons (eUn gNeg (eC (.int 2))) (aCons (eC (.int 1)) aNil))) aNil))))) sNext) [.val (rowsD rows), .val (.list (il ds)), .own (found.map rowD), s3, s4, s5] = some (.nx [.val (rowsD rows), .val (.list (il ds)), .own (f2.map rowD), s3, s4, s5])) ∧ f2.length ≤ rows.length + 1 ∧ ∀ r ∈ f2, RowOk n 1100 r := by
    have weak : ∀ r ∈ found, RowOk n 1100 r := fun r hr => (F2 r hr).mono (by decide)
    by_cases c : 0 < found.length
    · by_cases d : v6 = 0
      · have g0 := List.getElem?_eq_getElem c
        have gl := List.getElem?_eq_getElem (show found.length - 1 < found.length by omega)
        have i0 : atI (found.map rowD) 0 = some (rowD found[0]) := atI_map (f := rowD) g0
        have il_ : atI (found.map rowD) (-1) = some (rowD found[found.length - 1]) := by
          have hne : found ≠ [] := fun z => by rw [z] at c; exact absurd c (by decide)
          have e : found.dropLast ++ [found.getLast hne] = found := List.dropLast_concat_getLast hne
          have el : found.getLast hne = found[found.length - 1] := List.getLast_eq_getElem hne
          have t := atI_last (found.dropLast.map rowD) (rowD (found.getLast hne))
          have e2 : found.dropLast.map rowD ++ [rowD (found.getLast hne)] = (found.dropLast ++ [found.getLast hne]).map rowD := by rw [List.map_append]; rfl
          rw [e2, e] at t
          rw [← el]
          exact t
        have k0 := F2 _ (List.getElem_mem c)
        have kl := F2 _ (List.getElem_mem (show found.length - 1 < found.length by omega))
        generalize found[0] = r0 at *
        generalize found[found.length - 1] = rl at *
        have bt : Bt 2 (-2) := Bt.int (n := -2) (by decide) (by decide)
        have e := plus_row_eq k0 kl bt (by decide) (by decide) hn
        have eq2 : qd (-2) = .tuple [.int (-2), .int 1] := rfl
        rw [eq2] at e
        have ok := plusRow_ok k0 kl bt (by decide)
        refine ⟨found ++ [plusRow r0 rl (-2)], .inr (by simp), fun s3 s4 s5 => ?_, by simp; omega, fun r hr => ?_⟩
        · rw [List.map_append]
          have ft : Dn.Fits (found.length + 1) := fits (by omega)
          have lf : (found.map rowD).length = found.length := List.length_map ..
          have c' : (0 : Int) < (found.length : Int) := by omega
          show _ = some (Out.nx [.val (rowsD rows), .val (.list (il ds)), .own (found.map rowD ++ [rowD (plusRow r0 rl (-2))]), s3, s4, s5])
          generalize rowD (plusRow r0 rl (-2)) = R at *
          generalize rowD r0 = R0 at *
          generalize rowD rl = RL at *
          rw [← lf] at ft c c'
          generalize found.map rowD = FD at *
          generalize il ds = L at *
          subst d
          simp [c, c', a6, m6, n3, i0, il_, few2, e, ft]
        · rcases List.mem_append.mp hr with q | q
          · exact weak r q
          · rw [List.mem_singleton.mp q]
            exact ok.mono (by decide)
      · refine ⟨found, .inl rfl, fun s3 s4 s5 => ?_, by omega, weak⟩
        have lf : (found.map rowD).length = found.length := List.length_map ..
        have c' : (0 : Int) < (found.length : Int) := by omega
        have d' : ¬ (v6 : Int) = 0 := by omega
        rw [← lf] at c c'
        generalize found.map rowD = FD at *
        generalize il ds = L at *
        simp [c, c', a6, m6, n3, d, d']
    · refine ⟨found, .inl rfl, fun s3 s4 s5 => ?_, by omega, weak⟩
      have : found = [] := List.eq_nil_of_length_eq_zero (by omega)
      subst this
      simp
  rw [← i3] at h1
  have hA := hA s3 s4 s5
  have lr : (rows.map rowD).length = rows.length := List.length_map ..
  unfold b__law_mixed
  refine ⟨if v7 = 0 then f2.reverse else f2, ?_, by split <;> simpa using hl2, fun r hr => by
    split at hr
    · exact ok2 r (List.mem_reverse.mp hr)
    · exact ok2 r hr⟩
  refine run_nxD (e := [.val (rowsD rows), .val (.list (il ds)), .own (rows.map rowD), .no, .no, .no]) (by simp [ftr]) ?_
  refine run_nxD (e := [.val (rowsD rows), .val (.list (il ds)), .own (found.map rowD), s3, s4, s5]) (by simp [ir, h1]) ?_
  refine run_nxD hA ?_
  by_cases d : v7 = 0
  · rw [if_pos d, List.map_reverse]
    generalize f2.map rowD = F2D at *
    generalize il ds = L at *
    subst d
    simp [a7, m7, n2]
  · rw [if_neg d]
    have d' : ¬ (v7 : Int) = 0 := by omega
    generalize f2.map rowD = F2D at *
    generalize il ds = L at *
    simp [a7, m7, n2, d, d']
end Law
namespace Law
open PySem PySem.Spec PyProof.Rows L2 Dn
/-! Lx6: rows by steps -/
variable {n : Nat} {rows : List Rwv} {ns : List Rat}
def stR (v : Nat) : Rat := ([1, -2, mkRat 1 3] : List Rat).getD v 1
theorem stR_bt {v : Nat} (h : v < 3) : Bt 3 (stR v) := by
  have : v = 0 ∨ v = 1 ∨ v = 2 := by omega
  rcases this with rfl | rfl | rfl
  · exact Bt.int (n := 1) (by decide) (by decide)
  · exact Bt.int (n := -2) (by decide) (by decide)
  · exact ⟨by decide, by decide⟩
theorem stR_at {v : Nat} (h : v < 3) : atI [PyData.tuple [.int 1, .int 1], .tuple [.int (-2), .int 1], .tuple [.int 1, .int 3]] (v : Int) = some (qd (stR v)) := by
  have : v = 0 ∨ v = 1 ∨ v = 2 := by omega
  rcases this with rfl | rfl | rfl <;> rfl
def Fac (n : Nat) (fs : List Rat) : Prop := fs.length = n ∧ ∀ x ∈ fs, Bt 3 x
theorem fac_set {fs : List Rat} (h : Fac n fs) {x : Rat} (hx : Bt 3 x) (k : Nat) : Fac n (fs.set k x) := ⟨by rw [List.length_set]; exact h.1, fun y hy => by
  rcases List.mem_or_eq_of_mem_set hy with q | q
  · exact h.2 y q
  · rw [q]; exact hx⟩
theorem steps_in {fs : List Rat} (h : Fac n fs) (hn : n ≤ 9) (p : Nat) (a0 a1 a2 a3 a4 s7 : Sl) :
    ∃ fs' s7', Dn.forD (gtName 7) b__law_steps_2 (intsFrom 0 n) [a0, a1, a2, a3, a4, .val (nI p), .own (fs.map qd), s7] = some (.nx [a0, a1, a2, a3, a4, .val (nI p), .own (fs'.map qd), s7']) ∧ Fac n fs' := by
  rw [ints0]
  obtain ⟨e, h1, fs', s7', rfl, F⟩ := forD_wp (g := gtName 7) (body := b__law_steps_2) nI
    (fun pre env => ∃ fs s7, env = [a0, a1, a2, a3, a4, .val (nI p), .own (fs.map qd), s7] ∧ Fac n fs)
    (all := List.range n) (env := [a0, a1, a2, a3, a4, .val (nI p), .own (fs.map qd), s7]) ⟨_, _, rfl, h⟩
    (fun pre k post env hall ⟨fs, s7, he, F⟩ => by
      subst he
      have hk : k < n := List.mem_range.mp (by rw [hall]; simp)
      by_cases c : p < k
      · have few2 : Dn.Few 2 := by simp
        have ix : ixN fs.length (k : Int) = some k := ixN_of (by rw [F.1]; exact hk)
        have c' : (p : Int) < (k : Int) := by omega
        have st : (fs.map qd).set k (.tuple [.int 0, .int 1]) = (fs.set k 0).map qd := by rw [List.map_set, qd_zero]
        have lf : (fs.map qd).length = fs.length := List.length_map ..
        refine ⟨[a0, a1, a2, a3, a4, .val (nI p), .own ((fs.set k 0).map qd), .val (nI k)], ?_, _, _, rfl, fac_set F (.zero (by decide)) k⟩
        rw [← st]
        rw [← lf] at ix
        generalize fs.map qd = FD at *
        simp [b__law_steps_2, c, c', ix]
      · have c' : ¬ (p : Int) < (k : Int) := by omega
        refine ⟨[a0, a1, a2, a3, a4, .val (nI p), .own (fs.map qd), .val (nI k)], ?_, _, _, rfl, F⟩
        generalize fs.map qd = FD at *
        simp [b__law_steps_2, c, c'])
  exact ⟨fs', s7', h1, F⟩
theorem steps_turn {ds : List Nat} (hd : 8 * n + 8 ≤ ds.length) (hn : n ≤ 5) (hns : ns.length = n) (hb : ∀ x ∈ ns, Bt 3 x) {p : Nat} (hp : p < n) (rows : List Rwv) (hl : rows.length ≤ 1000) (a3 s5 s6 s7 : Sl) :
    ∃ r s6' s7', b__law_steps_3 [nI0 n, .val (nmL ns), .val (.list (il ds)), a3, .own (rows.map rowD), .val (nI p), s6, s7] = some (.nx [nI0 n, .val (nmL ns), .val (.list (il ds)), a3, .own ((rows ++ [r]).map rowD), .val (nI p), s6', s7']) ∧ RowOk n 60 r := by
  have ir : Dn.InR (n : Int) := inR_of (by omega) (by omega)
  have m8 : Dn.MulOk 8 (p : Int) := mul_l (by decide)
  obtain ⟨fs, hfs⟩ : ∃ fs : List Rat, fs = (List.range n).map fun k => smr (ds.getD (8 * p + k) 0) := ⟨_, rfl⟩
  have F : Fac n fs := ⟨by simp [hfs], fun x hx => by
    rw [hfs] at hx
    obtain ⟨k, _, rfl⟩ := List.mem_map.mp hx
    exact smr_bt _⟩
  have e1 : b__law_steps_1 [nI0 n, .val (nmL ns), .val (.list (il ds)), a3, .own (rows.map rowD), .val (nI p), s6, s7] = some (.own (fs.map qd)) := by
    unfold b__law_steps_1
    rw [hfs, eLc_map nI (fun k => qd (smr (ds.getD (8 * p + k) 0))) (xs := List.range n) (by simp [ir, ints0]) (by simp; omega) fun k hk => ?_, List.map_map]
    · rfl
    · have hk := List.mem_range.mp hk
      have a := atI_d (ds := ds) (i := 8 * p + k) (by omega)
      rw [show ((8 * p + k : Nat) : Int) = 8 * (p : Int) + (k : Int) by omega] at a
      have s := small_eq (ds.getD (8 * p + k) 0)
      generalize qd (smr (ds.getD (8 * p + k) 0)) = q at *
      generalize ds.getD (8 * p + k) 0 = d at *
      generalize il ds = L at *
      generalize rows.map rowD = RD at *
      simp [elD, a, s, m8]
  obtain ⟨f1, s7', e2, F1⟩ := steps_in F (by omega) p (nI0 n) (.val (nmL ns)) (.val (.list (il ds))) a3 (.own (rows.map rowD)) s7
  have i1 := atI_qd (rs := f1) (x := p) (by rw [F1.1]; exact hp)
  have few2 : Dn.Few 2 := by simp
  have few3 : Dn.Few 3 := by simp
  have ft : Dn.Fits (rows.length + 1) := fits (by omega)
  have lr : (rows.map rowD).length = rows.length := List.length_map ..
  have fin : ∀ f2 : List Rat, Fac n f2 → m__law_value [.list (f2.map qd), nmL ns] = some (.val (qd (dotR f2 ns))) ∧ RowOk n 60 (f2, dotR f2 ns) := fun f2 F2 => by
    refine ⟨law_value_eq F2.2 hb (by rw [F2.1]; omega) (by rw [F2.1, hns]; exact Nat.le_refl _) (by decide) (by decide) (by decide), F2.1, fun x hx => (F2.2 x hx).mono (by decide), (dotR_bt F2.2 hb (n := 5) (by rw [F2.1]; exact hn)).mono (by decide)⟩
  have app : ∀ f2 : List Rat, (rows ++ [(f2, dotR f2 ns)]).map rowD = rows.map rowD ++ [.tuple [.list (f2.map qd), qd (dotR f2 ns)]] := fun f2 => by rw [List.map_append]; rfl
  by_cases c : (f1.getD p 0).num = 0
  · have a7 := atI_d (ds := ds) (i := 8 * p + 7) (by omega)
    rw [show ((8 * p + 7 : Nat) : Int) = 8 * (p : Int) + 7 by omega] at a7
    have m3 := fmodN (ds.getD (8 * p + 7) 0) 3 (by decide)
    have m3 : ((ds.getD (8 * p + 7) 0 : Nat) : Int).fmod 3 = _ := m3
    have n3 : ∀ i, Dn.NzOk i 3 := nzN 3 (by decide)
    have l3 := Nat.mod_lt (ds.getD (8 * p + 7) 0) (show 0 < 3 by decide)
    generalize ds.getD (8 * p + 7) 0 % 3 = v at *
    generalize ds.getD (8 * p + 7) 0 = d at *
    have F2 := fac_set F1 (stR_bt l3) p
    obtain ⟨t, ok⟩ := fin _ F2
    have sa := stR_at l3
    have ix : ixN f1.length (p : Int) = some p := ixN_of (by rw [F1.1]; exact hp)
    have st : (f1.map qd).set p (qd (stR v)) = (f1.set p (stR v)).map qd := (List.map_set (f := qd) ..).symm
    have lf : (f1.map qd).length = f1.length := List.length_map ..
    refine ⟨(f1.set p (stR v), dotR (f1.set p (stR v)) ns), .val (nmL (f1.set p (stR v))), s7', ?_, ok⟩
    rw [app]
    show _ = some (Out.nx [nI0 n, .val (nmL ns), .val (.list (il ds)), a3, .own (rows.map rowD ++ [.tuple [.list ((f1.set p (stR v)).map qd), qd (dotR (f1.set p (stR v)) ns)]]), .val (nI p), .val (.list ((f1.set p (stR v)).map qd)), s7'])
    rw [← lf] at ix
    rw [← lr] at ft
    generalize qd (dotR (f1.set p (stR v)) ns) = q at *
    generalize (f1.set p (stR v)).map qd = F2D at *
    generalize qd (stR v) = sv at *
    generalize f1.getD p 0 = x at *
    generalize f1.map qd = F1D at *
    generalize fs.map qd = FD at *
    generalize rows.map rowD = RD at *
    generalize il ds = L at *
    simp [b__law_steps_3, e1, ir, e2, i1, c, m8, a7, n3, m3, few3, sa, ix, st, few2, t, ft]
  · obtain ⟨t, ok⟩ := fin _ F1
    refine ⟨(f1, dotR f1 ns), .val (nmL f1), s7', ?_, ok⟩
    rw [app]
    show _ = some (Out.nx [nI0 n, .val (nmL ns), .val (.list (il ds)), a3, .own (rows.map rowD ++ [.tuple [.list (f1.map qd), qd (dotR f1 ns)]]), .val (nI p), .val (.list (f1.map qd)), s7'])
    rw [← lr] at ft
    generalize qd (dotR f1 ns) = q at *
    generalize f1.getD p 0 = x at *
    generalize f1.map qd = F1D at *
    generalize fs.map qd = FD at *
    generalize rows.map rowD = RD at *
    generalize il ds = L at *
    simp [b__law_steps_3, e1, ir, e2, i1, c, few2, t, ft]
theorem steps_eq {ds : List Nat} (hd : 8 * n + 8 ≤ ds.length) (hn : n ≤ 5) (hns : ns.length = n) (hb : ∀ x ∈ ns, Bt 3 x) {ps : List Nat} (hp : ∀ p ∈ ps, p < n) (hl : ps.length ≤ 100) :
    ∃ rows : List Rwv, m__law_steps [.int (n : Int), nmL ns, .list (il ds), .list (il ps)] = some (.own (rows.map rowD)) ∧ rows.length = ps.length ∧ ∀ r ∈ rows, RowOk n 60 r := by
  unfold m__law_steps
  rw [fnD_eq (by rfl)]
  obtain ⟨e, h1, rows, s5, s6, s7, rfl, l, ok⟩ := forD_wp (g := gtName 5) (body := b__law_steps_3) nI
    (fun pre env => ∃ (rows : List Rwv) (s5 s6 s7 : Sl), env = [nI0 n, .val (nmL ns), .val (.list (il ds)), .val (.list (il ps)), .own (rows.map rowD), s5, s6, s7] ∧ rows.length = pre.length ∧ ∀ r ∈ rows, RowOk n 60 r)
    (all := ps) (env := [nI0 n, .val (nmL ns), .val (.list (il ds)), .val (.list (il ps)), .own (([] : List Rwv).map rowD), .no, .no, .no]) ⟨_, _, _, _, rfl, rfl, fun r h => by cases h⟩
    (fun pre p post env hall ⟨rows, s5, s6, s7, he, l, ok⟩ => by
      subst he
      have hp1 := hp p (by rw [hall]; simp)
      have hpl : pre.length ≤ ps.length := by rw [hall]; simp
      obtain ⟨r, s6', s7', h, ok1⟩ := steps_turn hd hn hns hb hp1 rows (by omega) (.val (.list (il ps))) s5 s6 s7
      refine ⟨_, congrArg nxt h, rows ++ [r], _, _, _, rfl, by simp [l], fun x hx => ?_⟩
      rcases List.mem_append.mp hx with q | q
      · exact ok x q
      · rw [List.mem_singleton.mp q]; exact ok1)
  refine ⟨rows, ?_, l, ok⟩
  have few0 : Dn.Few 0 := by simp
  have h1 : forD (gtName 5) b__law_steps_3 (il ps) [nI0 n, .val (nmL ns), .val (.list (il ds)), .val (.list (il ps)), .own [], .no, .no, .no] = _ := h1
  generalize rows.map rowD = RD at *
  generalize il ps = P at *
  generalize il ds = L at *
  simp [b__law_steps, few0, h1]
end Law
namespace Law
open PySem PySem.Spec PyProof.Rows L2 Dn
noncomputable def s_law_1 : SF := (sSet 1 (eCall m__law_draws (aCons (eVar 0) (aCons (eC (.int 160)) aNil))))
noncomputable def s_law_2 : SF := (sSet 2 (eBin gAdd (eC (.int 1)) (eBin gMod (eCall gInt (aCons (eIxO 1 (eC (.int 0))) aNil)) (eC (.int 5)))))
noncomputable def s_law_3 : SF := (sSet 3 (eCall m__law_numbers (aCons (eSlO 1 (oSome (eC (.int 1))) (oSome (eC (.int 9)))) (aCons (eVar 2) aNil))))
noncomputable def s_law_4 : SF := (sSet 4 b_law_1)
noncomputable def s_law_5 : SF := (sFrz 3 (sFrz 4 (sSet 5 (eCall m__law_mixed (aCons (eCall m__law_steps (aCons (eVar 2) (aCons (eVar 3) (aCons (eSlO 1 (oSome (eC (.int 20))) (oSome (eC (.int 84)))) (aCons (eVar 4) aNil))))) (aCons (eSlO 1 (oSome (eC (.int 90))) (oSome (eC (.int 98)))) aNil))))))
noncomputable def s_law_6 : SF := (sIf (tE (eBin gEqT (eBin gMod (eCall gInt (aCons (eIxO 1 (eC (.int 9))) aNil)) (eC (.int 2))) (eC (.int 0)))) (sFrz 5 (sSet 5 b_law_2)) sNext)
noncomputable def s_law_7 : SF := (sFrz 5 (sIf (tNotD (tE (eCall m__law_short (aCons (eVar 5) aNil)))) (sRet (eC (.bool true))) sNext))
noncomputable def s_law_8 : SF := (sSet 6 (eCall m__law_numbers (aCons (eSlO 1 (oSome (eC (.int 110))) (oSome (eC (.int 118)))) (aCons (eVar 2) aNil))))
noncomputable def s_law_9 : SF := (sFrz 6 (sSet 7 (eLst (aCons (eVar 3) (aCons (eVar 6) (aCons b_law_4 (aCons b_law_3 aNil)))))))
noncomputable def s_law_10 : SF := (sAppend 7 b_law_5)
noncomputable def s_law_11 : SF := (sAppend 7 (eCall m__law_numbers (aCons (eSlO 1 (oSome (eC (.int 120))) (oSome (eC (.int 130)))) (aCons (eCall gLen (aCons (eVar 5) aNil)) aNil))))
noncomputable def s_law_12 : SF := (sAppend 7 (eSl (eVar 3) (oSome (eC (.int 1))) oNone))
noncomputable def s_law_13 : SF := (sAppend 7 (eBin gAdd (eVar 3) (eLst (aCons (eTup (aCons (eC (.int 0)) (aCons (eC (.int 1)) aNil))) aNil))))
noncomputable def s_law_14 : SF := (sFor (iR1 (aCons (eCall gLen (aCons (eVar 5) aNil)) aNil)) (gtName 8) b_law_7)
noncomputable def s_law_15 : SF := (sSet 9 (eBin gMod (eCall gInt (aCons (eIxO 1 (eC (.int 130))) aNil)) (eVar 2)))
noncomputable def s_law_16 : SF := (sAppend 7 b_law_8)
noncomputable def s_law_17 : SF := (sSet 10 (ePeek (eCall gRepr (aCons (eTup (aCons (eVar 5) (aCons (eVar 7) aNil))) aNil))))
noncomputable def s_law_18 : SF := (sFrz 7 (sFor (iS (eVar 7)) (gtName 11) b_law_10))
noncomputable def s_law_19 : SF := (sRet (eBin gEqT (eCall gRepr (aCons (eTup (aCons (eVar 5) (aCons (eVar 7) aNil))) aNil)) (eVar 10)))
noncomputable def r_law_19 : SF := s_law_19
noncomputable def r_law_18 : SF := sSeq s_law_18 r_law_19
noncomputable def r_law_17 : SF := sSeq s_law_17 r_law_18
noncomputable def r_law_16 : SF := sSeq s_law_16 r_law_17
noncomputable def r_law_15 : SF := sSeq s_law_15 r_law_16
noncomputable def r_law_14 : SF := sSeq s_law_14 r_law_15
noncomputable def r_law_13 : SF := sSeq s_law_13 r_law_14
noncomputable def r_law_12 : SF := sSeq s_law_12 r_law_13
noncomputable def r_law_11 : SF := sSeq s_law_11 r_law_12
noncomputable def r_law_10 : SF := sSeq s_law_10 r_law_11
noncomputable def r_law_9 : SF := sSeq s_law_9 r_law_10
noncomputable def r_law_8 : SF := sSeq s_law_8 r_law_9
noncomputable def r_law_7 : SF := sSeq s_law_7 r_law_8
noncomputable def r_law_6 : SF := sSeq s_law_6 r_law_7
noncomputable def r_law_5 : SF := sSeq s_law_5 r_law_6
noncomputable def r_law_4 : SF := sSeq s_law_4 r_law_5
noncomputable def r_law_3 : SF := sSeq s_law_3 r_law_4
noncomputable def r_law_2 : SF := sSeq s_law_2 r_law_3
noncomputable def r_law_1 : SF := sSeq s_law_1 r_law_2
theorem law_split : b_law = r_law_1 := rfl
end Law
namespace Law
open PySem PySem.Spec PyProof.Rows L2 Dn
variable {n : Nat} {rows : List Rwv} {ns : List Rat}
def NumOk (x : List Rat) : Prop := x.length ≤ 8 ∧ ∀ r ∈ x, Bt 10 r
theorem bool3 (a b c : Bool) : Shp (.list [.bool a, .bool b, .bool c]) ∧ PyData.canLay0 (.list [.bool a, .bool b, .bool c]) = true := ⟨rfl, rfl⟩
theorem gNe3 (a b c : Bool) : gNe (.list [.bool a, .bool b, .bool c]) (.list [.bool a, .bool b, .bool c]) = some (.val (.bool false)) := by
  obtain ⟨h2, h1⟩ := bool3 a b c
  unfold gNe
  rw [if_pos ⟨h2, h2⟩, PySem.SeqAt.eqv_refl _ h1]
  rfl
theorem loop32 (hr : ∀ r ∈ rows, RowOk n 10 r) (hn : n ≤ 5) (hl : rows.length ≤ 9) (TL : List (List Rat)) (hT : ∀ x ∈ TL, NumOk x) (a0 a1 a3 a4 a6 a7 a8 a9 a10 a11 a12 a13 a14 a15 a16 : Sl) :
    ∃ a11' a12' a13' a14' a15' a16', Dn.forD (gtName 11) b_law_10 (TL.map nmL) [a0, a1, nI0 n, a3, a4, .val (rowsD rows), a6, a7, a8, a9, a10, a11, a12, a13, a14, a15, a16] = some (.nx [a0, a1, nI0 n, a3, a4, .val (rowsD rows), a6, a7, a8, a9, a10, a11', a12', a13', a14', a15', a16']) := by
  obtain ⟨e, h1, a11', a12', a13', a14', a15', a16', rfl⟩ := forD_wp (g := gtName 11) (body := b_law_10) nmL
    (fun pre env => ∃ a11 a12 a13 a14 a15 a16, env = [a0, a1, nI0 n, a3, a4, .val (rowsD rows), a6, a7, a8, a9, a10, a11, a12, a13, a14, a15, a16])
    (all := TL) (env := [a0, a1, nI0 n, a3, a4, .val (rowsD rows), a6, a7, a8, a9, a10, a11, a12, a13, a14, a15, a16]) ⟨_, _, _, _, _, _, rfl⟩
    (fun pre x post env hall ⟨a11, a12, a13, a14, a15, a16, he⟩ => by
      subst he
      have hx := hT x (by rw [hall]; simp)
      have p1 := is_solution_eq hr (by omega) (by omega) hx.2
      have p2 := is_direction_eq hr (by omega) (by omega) hx.2
      have p3 := refutes_eq hr (by omega) (by omega) hx.2
      have q1 := law_solves_eq hr (by omega) (by omega) hx.2
      have q2 := law_directs_eq hr (by omega) (by omega) hx.2
      have q3 := law_refutes_eq hr (by omega) (by omega) hx.2
      have few3 : Dn.Few 3 := by simp
      generalize solB n rows x = b1 at *
      generalize dirB n rows x = b2 at *
      generalize refB n rows x = b3 at *
      have e9 : b_law_9 [a0, a1, nI0 n, a3, a4, .val (rowsD rows), a6, a7, a8, a9, a10, .val (nmL x), .val (.list [.bool b1, .bool b2, .bool b3]), a13, a14, a15, a16] = some (.own ([b1, b2, b3].map fun _ => .bool true)) := by
        unfold b_law_9
        exact eLc_map PyData.bool (fun _ => .bool true) (xs := [b1, b2, b3]) (by simp) (by simp) fun b _ => by simp [elD]
      have ga := gAll_map (fun _ : Bool => true) [b1, b2, b3]
      have : ([b1, b2, b3].all fun _ => true) = true := by simp
      rw [this] at ga
      generalize ([b1, b2, b3].map fun _ => PyData.bool true) = L at *
      have ne := gNe3 b1 b2 b3
      refine ⟨[a0, a1, nI0 n, a3, a4, .val (rowsD rows), a6, a7, a8, a9, a10, .val (nmL x), .val (.list [.bool b1, .bool b2, .bool b3]), .val (.list [.bool b1, .bool b2, .bool b3]), a14, a15, a16], ?_, _, _, _, _, _, _, rfl⟩
      generalize rowsD rows = RD at *
      generalize nmL x = X at *
      simp [-gAll, b_law_10, p1, p2, p3, q1, q2, q3, few3, e9, ga, ne])
  exact ⟨_, _, _, _, _, _, h1⟩
/-- the number one at a place, zeros elsewhere -/
def unitR (m k : Nat) : List Rat := (List.range m).map fun i => if i = k then 1 else 0
theorem unitR_ok {m k : Nat} (h : m ≤ 8) : NumOk (unitR m k) := ⟨by simp [unitR]; exact h, fun r hr => by
  obtain ⟨i, _, rfl⟩ := List.mem_map.mp hr
  split
  · exact .one (by decide)
  · exact .zero (by decide)⟩
theorem unit_el (i k : Nat) : atI [PyData.tuple [.int 0, .int 1], .tuple [.int 1, .int 1]] (if (i : Int) = (k : Int) then 1 else 0) = some (qd (if i = k then 1 else 0)) := by
  by_cases c : i = k
  · rw [if_pos c, if_pos (by omega)]; rfl
  · rw [if_neg c, if_neg (by omega)]; rfl
theorem law_6_eq (hl : rows.length ≤ 1000) (k : Nat) (a0 a1 a2 a3 a4 a6 a7 a9 a10 a11 a12 a13 a14 a15 a16 : Sl) : b_law_6 [a0, a1, a2, a3, a4, .val (rowsD rows), a6, a7, nI0 k, a9, a10, a11, a12, a13, a14, a15, a16] = some (.own ((unitR rows.length k).map qd)) := by
  unfold b_law_6
  have ir : Dn.InR (rows.length : Int) := inR_of (by omega) (by omega)
  rw [eLc_map nI (fun i => qd (if i = k then 1 else 0)) (xs := List.range rows.length) (by simp [ir, ints0]) (by simp; omega) fun i hi => ?_, unitR, List.map_map]
  · rfl
  · have u := unit_el i k
    have few2 : Dn.Few 2 := by simp
    generalize qd (if i = k then 1 else 0) = q at *
    by_cases c : (i : Int) = (k : Int)
    · have c' : i = k := by omega
      rw [if_pos c] at u
      simp [elD, few2, u, c, c']
    · have c' : ¬ i = k := by omega
      rw [if_neg c] at u
      simp [elD, few2, u, c, c']
theorem law_8_eq (hn : n ≤ 1000) (k : Nat) (a0 a1 a3 a4 a5 a6 a7 a8 a10 a11 a12 a13 a14 a15 a16 : Sl) : b_law_8 [a0, a1, nI0 n, a3, a4, a5, a6, a7, a8, nI0 k, a10, a11, a12, a13, a14, a15, a16] = some (.own ((unitR n k).map qd)) := by
  unfold b_law_8
  have ir : Dn.InR (n : Int) := inR_of (by omega) (by omega)
  rw [eLc_map nI (fun i => qd (if i = k then 1 else 0)) (xs := List.range n) (by simp [ir, ints0]) (by simp; omega) fun i hi => ?_, unitR, List.map_map]
  · rfl
  · have u := unit_el i k
    have few2 : Dn.Few 2 := by simp
    generalize qd (if i = k then 1 else 0) = q at *
    by_cases c : (i : Int) = (k : Int)
    · have c' : i = k := by omega
      rw [if_pos c] at u
      simp [elD, few2, u, c, c']
    · have c' : ¬ i = k := by omega
      rw [if_neg c] at u
      simp [elD, few2, u, c, c']
theorem units32 (hl : rows.length ≤ 7) {TL : List (List Rat)} (hT : TL.length ≤ 8) (hO : ∀ x ∈ TL, NumOk x) (a0 a1 a2 a3 a4 a6 a8 a9 a10 a11 a12 a13 a14 a15 a16 : Sl) :
    ∃ (TL2 : List (List Rat)) (a8' : Sl), Dn.forD (gtName 8) b_law_7 (intsFrom 0 rows.length) [a0, a1, a2, a3, a4, .val (rowsD rows), a6, .own (TL.map nmL), a8, a9, a10, a11, a12, a13, a14, a15, a16] = some (.nx [a0, a1, a2, a3, a4, .val (rowsD rows), a6, .own (TL2.map nmL), a8', a9, a10, a11, a12, a13, a14, a15, a16]) ∧ TL2.length ≤ 15 ∧ ∀ x ∈ TL2, NumOk x := by
  rw [ints0]
  obtain ⟨e, h1, TL2, a8', rfl, l, ok⟩ := forD_wp (g := gtName 8) (body := b_law_7) nI
    (fun pre env => ∃ (TL2 : List (List Rat)) (a8 : Sl), env = [a0, a1, a2, a3, a4, .val (rowsD rows), a6, .own (TL2.map nmL), a8, a9, a10, a11, a12, a13, a14, a15, a16] ∧ TL2.length = TL.length + pre.length ∧ ∀ x ∈ TL2, NumOk x)
    (all := List.range rows.length) (env := [a0, a1, a2, a3, a4, .val (rowsD rows), a6, .own (TL.map nmL), a8, a9, a10, a11, a12, a13, a14, a15, a16]) ⟨TL, a8, rfl, rfl, hO⟩
    (fun pre k post env hall ⟨T, a8, he, l, ok⟩ => by
      subst he
      have hpl : pre.length ≤ rows.length := by
        have := congrArg List.length hall
        simp at this
        omega
      have e6 := law_6_eq (rows := rows) (by omega) k a0 a1 a2 a3 a4 a6 (.own (T.map nmL)) a9 a10 a11 a12 a13 a14 a15 a16
      have ap : (T ++ [unitR rows.length k]).map nmL = T.map nmL ++ [.list ((unitR rows.length k).map qd)] := by rw [List.map_append]; rfl
      have lT : (T.map nmL).length = T.length := List.length_map ..
      have ft : Dn.Fits (T.length + 1) := fits (by omega)
      refine ⟨[a0, a1, a2, a3, a4, .val (rowsD rows), a6, .own ((T ++ [unitR rows.length k]).map nmL), nI0 k, a9, a10, a11, a12, a13, a14, a15, a16], ?_, _, _, rfl, by simp [l]; omega, fun x hx => ?_⟩
      · rw [ap]
        rw [← lT] at ft
        generalize T.map nmL = TD at *
        generalize (unitR rows.length k).map qd = U at *
        generalize rowsD rows = RD at *
        simp [b_law_7, e6, ft]
      · rcases List.mem_append.mp hx with q | q
        · exact ok x q
        · rw [List.mem_singleton.mp q]; exact unitR_ok (by omega))
  refine ⟨TL2, a8', h1, by rw [List.length_range] at l; omega, ok⟩
def difL (n : Nat) (a b : List Rat) : List Rat := (List.range n).map fun k => a.getD k 0 - b.getD k 0
def zrs {α : Type} (xs : List α) : List Rat := xs.map fun _ => 0
theorem zrs_ok {α : Type} {xs : List α} (h : xs.length ≤ 8) : NumOk (zrs xs) := ⟨by simp [zrs]; exact h, fun r hr => by
  obtain ⟨i, _, rfl⟩ := List.mem_map.mp hr
  exact .zero (by decide)⟩
theorem law_3_eq (hn : n ≤ 1000) (a0 a1 a3 a4 a5 a6 a7 a8 a9 a10 a11 a12 a13 a14 a15 a16 : Sl) : b_law_3 [a0, a1, nI0 n, a3, a4, a5, a6, a7, a8, a9, a10, a11, a12, a13, a14, a15, a16] = some (.own ((zrs (List.range n)).map qd)) := by
  unfold b_law_3
  have ir : Dn.InR (n : Int) := inR_of (by omega) (by omega)
  have few2 : Dn.Few 2 := by simp
  rw [eLc_map nI (fun _ => qd 0) (xs := List.range n) (by simp [ir, ints0]) (by simp; omega) fun i hi => by simp [elD, few2], zrs, List.map_map]
  rfl
theorem law_5_eq (hl : rows.length ≤ 1000) (a0 a1 a2 a3 a4 a6 a7 a8 a9 a10 a11 a12 a13 a14 a15 a16 : Sl) : b_law_5 [a0, a1, a2, a3, a4, .val (rowsD rows), a6, a7, a8, a9, a10, a11, a12, a13, a14, a15, a16] = some (.own ((zrs rows).map qd)) := by
  unfold b_law_5
  have few2 : Dn.Few 2 := by simp
  rw [eLc_map rowD (fun _ => qd 0) (xs := rows) (by simp) (by omega) fun i hi => by
    generalize rowD i = X at *
    simp [elD, few2], zrs, List.map_map]
  rfl
theorem law_4_eq {os : List Rat} (hn : n ≤ 9) (h1 : ns.length = n) (h2 : os.length = n) (b1 : ∀ x ∈ ns, Bt 3 x) (b2 : ∀ x ∈ os, Bt 3 x) (a0 a1 a4 a5 a7 a8 a9 a10 a11 a12 a13 a14 a15 a16 : Sl) : b_law_4 [a0, a1, nI0 n, .val (nmL ns), a4, a5, .val (nmL os), a7, a8, a9, a10, a11, a12, a13, a14, a15, a16] = some (.own ((difL n ns os).map qd)) := by
  unfold b_law_4
  have ir : Dn.InR (n : Int) := inR_of (by omega) (by omega)
  rw [eLc_map nI (fun k => qd (ns.getD k 0 - os.getD k 0)) (xs := List.range n) (by simp [ir, ints0]) (by simp; omega) fun k hk => ?_, difL, List.map_map]
  · rfl
  · have hk := List.mem_range.mp hk
    have i1 := atI_qd (rs := ns) (x := k) (by omega)
    have i2 := atI_qd (rs := os) (x := k) (by omega)
    have m := law_minus_rat ((getD_btL b1 (by decide) k).mono (show 3 ≤ 3000 by decide)) ((getD_btL b2 (by decide) k).mono (show 3 ≤ 3000 by decide))
    generalize qd (ns.getD k 0 - os.getD k 0) = q at *
    generalize ns.getD k 0 = x at *
    generalize os.getD k 0 = y at *
    simp [elD, i1, i2, m]
theorem difL_ok {os : List Rat} (hn : n ≤ 8) (b1 : ∀ x ∈ ns, Bt 3 x) (b2 : ∀ x ∈ os, Bt 3 x) : NumOk (difL n ns os) := ⟨by simp [difL]; exact hn, fun r hr => by
  obtain ⟨k, _, rfl⟩ := List.mem_map.mp hr
  exact ((getD_btL b1 (by decide) k).sub (getD_btL b2 (by decide) k)).mono (by decide)⟩
theorem smL_ok (ds : List Nat) {k : Nat} (h : k ≤ 8) : NumOk (smL ds k) := ⟨by rw [smL_len]; exact h, fun x hx => (smL_bt ds k x hx).mono (by decide)⟩
theorem sx_drop1 (ds : List PyData) : sxD ds (some 1) none = ds.drop 1 := by
  have e1 : HT.sIx ds.length 0 (some ((1 : Nat) : Int)) = min 1 ds.length := by rw [HT.sIx_nat]
  have e1 : HT.sIx ds.length 0 (some 1) = min 1 ds.length := e1
  have e2 : HT.sIx ds.length ds.length none = ds.length := rfl
  unfold sxD
  rw [e1, e2]
  cases ds with
  | nil => rfl
  | cons x xs => simp
theorem num_wd {x : List Rat} (h : NumOk x) : Wd 2 800 (nmL x) := (wd_nums h.2 (by decide)).mono (Nat.le_refl _) (by
  have := h.1
  omega)
theorem row_wd {r : Rwv} (hn : n ≤ 8) (h : RowOk n 10 r) : Wd 3 1700 (rowD r) := by
  have w1 := num_wd (x := r.1) ⟨by rw [h.l]; exact hn, h.f⟩
  have w2 := wd_qd h.b (by decide)
  exact (wd_tuple (k := 2) (w := 800) (ds := [nmL r.1, qd r.2]) fun d hd => by
    simp only [List.mem_cons, List.not_mem_nil, or_false] at hd
    rcases hd with rfl | rfl
    · exact w1
    · exact w2.mono (by decide) (by decide)).mono (by decide) (by simp)
theorem shw32 (hr : ∀ r ∈ rows, RowOk n 10 r) (hn : n ≤ 8) (hl : rows.length ≤ 9) {TL : List (List Rat)} (hT : ∀ x ∈ TL, NumOk x) (hl2 : TL.length ≤ 20) : Shw (.tuple [rowsD rows, .list (TL.map nmL)]) := by
  have w1 := wd_list (k := 3) (w := 1700) (ds := rows.map rowD) fun d hd => by
    obtain ⟨r, h, rfl⟩ := List.mem_map.mp hd
    exact row_wd hn (hr r h)
  have w2 := wd_list (k := 2) (w := 800) (ds := TL.map nmL) fun d hd => by
    obtain ⟨r, h, rfl⟩ := List.mem_map.mp hd
    exact num_wd (hT r h)
  refine shw_pair (w1.mono (by decide) (Nat.le_refl _)) (w2.mono (by decide) (Nat.le_refl _)) ?_ ?_
  · rw [List.length_map]
    have : rows.length * 1701 ≤ 9 * 1701 := Nat.mul_le_mul_right _ hl
    omega
  · rw [List.length_map]
    have : TL.length * 801 ≤ 20 * 801 := Nat.mul_le_mul_right _ hl2
    omega
theorem tail32 (hr : ∀ r ∈ rows, RowOk n 10 r) (h1 : 1 ≤ n) (hn : n ≤ 5) (hl : rows.length ≤ 6) (hns : ns.length = n) (b1 : ∀ x ∈ ns, Bt 3 x) {ds : List Nat} (hd : ds.length = 160) (a0 a4 : Sl) :
    resO (r_law_8 [a0, .own (il ds), nI0 n, .val (nmL ns), a4, .val (rowsD rows), .no, .no, .no, .no, .no, .no, .no, .no, .no, .no, .no]) = some (.val (.bool true)) := by
  have sl : ∀ i j : Nat, i ≤ j → j ≤ 160 → sxD (il ds) (some (i : Int)) (some (j : Int)) = il ((ds.drop i).take (j - i)) := fun i j h1 h2 => sx_il ds i j h1 (by omega)
  have l1 : ((ds.drop 110).take 8).length = 8 := by simp [hd]
  have l2 : ((ds.drop 120).take 10).length = 10 := by simp [hd]
  have s1 : sxD (il ds) (some 110) (some 118) = il ((ds.drop 110).take 8) := sl 110 118 (by decide) (by decide)
  have s2 : sxD (il ds) (some 120) (some 130) = il ((ds.drop 120).take 10) := sl 120 130 (by decide) (by decide)
  have n1 := law_numbers_eq ((ds.drop 110).take 8) n (by omega) (by omega)
  have n2 := law_numbers_eq ((ds.drop 120).take 10) rows.length (by omega) (by omega)
  generalize (ds.drop 110).take 8 = d1 at *
  generalize (ds.drop 120).take 10 = d2 at *
  have a130 : atI (il ds) 130 = some (.int ((ds.getD 130 0 : Nat) : Int)) := atI_d (ds := ds) (i := 130) (by omega)
  have m130 := fmodN (ds.getD 130 0) n (by omega)
  have nz := nzN n (by omega)
  generalize ds.getD 130 0 % n = at_ at *
  generalize ds.getD 130 0 = w at *
  generalize il ds = L at *
  obtain ⟨os, hos⟩ : ∃ os, os = smL d1 n := ⟨_, rfl⟩
  have ol : os.length = n := by rw [hos, smL_len]
  have ob : ∀ x ∈ os, Bt 3 x := by rw [hos]; exact smL_bt d1 n
  have nok : NumOk ns := ⟨by omega, fun x hx => (b1 x hx).mono (by decide)⟩
  have ook : NumOk os := ⟨by omega, fun x hx => (ob x hx).mono (by decide)⟩
  rw [← hos] at n1
  obtain ⟨T, hT⟩ : ∃ T : List (List Rat), T = [ns, os, difL n ns os, zrs (List.range n), zrs rows, smL d2 rows.length, ns.drop 1, ns ++ [0]] := ⟨_, rfl⟩
  have Tok : ∀ x ∈ T, NumOk x := fun x hx => by
    rw [hT] at hx
    simp only [List.mem_cons, List.not_mem_nil, or_false] at hx
    rcases hx with rfl | rfl | rfl | rfl | rfl | rfl | rfl | rfl
    · exact nok
    · exact ook
    · exact difL_ok (by omega) b1 ob
    · exact zrs_ok (by simp; omega)
    · exact zrs_ok (by omega)
    · exact smL_ok d2 (by omega)
    · exact ⟨by rw [List.length_drop]; omega, fun r hr => nok.2 r (List.mem_of_mem_drop hr)⟩
    · refine ⟨by simp; omega, fun r hr => ?_⟩
      rcases List.mem_append.mp hr with q | q
      · exact nok.2 r q
      · rw [List.mem_singleton.mp q]; exact .zero (by decide)
  have Tl : T.length = 8 := by rw [hT]; rfl
  have few2 : Dn.Few 2 := by simp
  have few1 : Dn.Few 1 := by simp
  have few4 : Dn.Few 4 := by simp
  have f5 : Dn.Fits 5 := fits (by decide)
  have f6 : Dn.Fits 6 := fits (by decide)
  have f7 : Dn.Fits 7 := fits (by decide)
  have f8 : Dn.Fits 8 := fits (by decide)
  have fN : Dn.Fits (ns.length + 1) := fits (by omega)
  have e3 := law_3_eq (n := n) (by omega)
  have e4 := law_4_eq (n := n) (ns := ns) (os := os) (by omega) hns ol b1 ob
  have e5 := law_5_eq (rows := rows) (by omega)
  have e8 := law_8_eq (n := n) (by omega) at_
  obtain ⟨T2, a8', u1, u2, u3⟩ := units32 (rows := rows) (by omega) (TL := T) (by omega) Tok a0 (.own L) (nI0 n) (.val (nmL ns)) a4 (.val (nmL os)) .no .no .no .no .no .no .no .no .no
  have T3ok : ∀ x ∈ T2 ++ [unitR n at_], NumOk x := fun x hx => by
    rcases List.mem_append.mp hx with q | q
    · exact u3 x q
    · rw [List.mem_singleton.mp q]; exact unitR_ok (by omega)
  obtain ⟨T3, hT3⟩ : ∃ T3, T3 = T2 ++ [unitR n at_] := ⟨_, rfl⟩
  rw [← hT3] at T3ok
  have shw := shw32 hr (by omega) (by omega) T3ok (by rw [hT3]; simp; omega)
  have er := gRepr_tup shw
  generalize PyData.shown (.tuple [rowsD rows, .list (T3.map nmL)]) = txt at *
  have ir : Dn.InR (rows.length : Int) := inR_of (by omega) (by omega)
  have ft8 : Dn.Fits (T2.length + 1) := fits (by omega)
  have lR : (rows.map rowD).length = rows.length := List.length_map ..
  refine run_nxD (S := s_law_8) (T := r_law_9) (e := [a0, .own L, nI0 n, .val (nmL ns), a4, .val (rowsD rows), .own (os.map qd), .no, .no, .no, .no, .no, .no, .no, .no, .no, .no]) (by simp [s_law_8, s1, n1]) ?_
  refine run_nxD (S := s_law_9) (T := r_law_10) (e := [a0, .own L, nI0 n, .val (nmL ns), a4, .val (rowsD rows), .val (nmL os), .own ([ns, os, difL n ns os, zrs (List.range n)].map nmL), .no, .no, .no, .no, .no, .no, .no, .no, .no]) (by simp [s_law_9, few4, e3, e4]) ?_
  refine run_nxD (S := s_law_10) (T := r_law_11) (e := [a0, .own L, nI0 n, .val (nmL ns), a4, .val (rowsD rows), .val (nmL os), .own ([ns, os, difL n ns os, zrs (List.range n), zrs rows].map nmL), .no, .no, .no, .no, .no, .no, .no, .no, .no]) (by simp [s_law_10, e5, f5]) ?_
  refine run_nxD (S := s_law_11) (T := r_law_12) (e := [a0, .own L, nI0 n, .val (nmL ns), a4, .val (rowsD rows), .val (nmL os), .own ([ns, os, difL n ns os, zrs (List.range n), zrs rows, smL d2 rows.length].map nmL), .no, .no, .no, .no, .no, .no, .no, .no, .no]) (by simp [s_law_11, s2, n2, f6]) ?_
  refine run_nxD (S := s_law_12) (T := r_law_13) (e := [a0, .own L, nI0 n, .val (nmL ns), a4, .val (rowsD rows), .val (nmL os), .own ([ns, os, difL n ns os, zrs (List.range n), zrs rows, smL d2 rows.length, ns.drop 1].map nmL), .no, .no, .no, .no, .no, .no, .no, .no, .no]) (by simp [s_law_12, sx_drop1, f7]) ?_
  refine run_nxD (S := s_law_13) (T := r_law_14) (e := [a0, .own L, nI0 n, .val (nmL ns), a4, .val (rowsD rows), .val (nmL os), .own (T.map nmL), .no, .no, .no, .no, .no, .no, .no, .no, .no]) (by rw [hT]; simp [s_law_13, few2, few1, fN, f8]) ?_
  refine run_nxD (S := s_law_14) (T := r_law_15) (e := [a0, .own L, nI0 n, .val (nmL ns), a4, .val (rowsD rows), .val (nmL os), .own (T2.map nmL), a8', .no, .no, .no, .no, .no, .no, .no, .no]) (by simp [s_law_14, ir, u1]) ?_
  refine run_nxD (S := s_law_15) (T := r_law_16) (e := [a0, .own L, nI0 n, .val (nmL ns), a4, .val (rowsD rows), .val (nmL os), .own (T2.map nmL), a8', nI0 at_, .no, .no, .no, .no, .no, .no, .no]) (by simp [s_law_15, a130, nz, m130]) ?_
  refine run_nxD (S := s_law_16) (T := r_law_17) (e := [a0, .own L, nI0 n, .val (nmL ns), a4, .val (rowsD rows), .val (nmL os), .own (T3.map nmL), a8', nI0 at_, .no, .no, .no, .no, .no, .no, .no]) (by rw [hT3]; simp [s_law_16, e8, ft8]) ?_
  refine run_nxD (S := s_law_17) (T := r_law_18) (e := [a0, .own L, nI0 n, .val (nmL ns), a4, .val (rowsD rows), .val (nmL os), .own (T3.map nmL), a8', nI0 at_, .val (.str txt), .no, .no, .no, .no, .no, .no]) (by simp [s_law_17, few2, er]) ?_
  obtain ⟨b11, b12, b13, b14, b15, b16, lp⟩ := loop32 (rows := rows) hr hn (by omega) T3 T3ok a0 (.own L) (.val (nmL ns)) a4 (.val (nmL os)) (.val (.list (T3.map nmL))) a8' (nI0 at_) (.val (.str txt)) .no .no .no .no .no .no
  refine run_nxD (S := s_law_18) (T := r_law_19) (e := [a0, .own L, nI0 n, .val (nmL ns), a4, .val (rowsD rows), .val (nmL os), .val (.list (T3.map nmL)), a8', nI0 at_, .val (.str txt), b11, b12, b13, b14, b15, b16]) (by simp [s_law_18, lp]) ?_
  simp [r_law_19, s_law_19, few2, er]
theorem law_2_eq {ds : List Nat} (hd : ds.length = 160) (hl : rows.length ≤ 50) (a0 a2 a3 a4 a6 a7 a8 a9 a10 a11 a12 a13 a14 a15 a16 : Sl) :
    ∃ R : List Rwv, b_law_2 [a0, .own (il ds), a2, a3, a4, .val (rowsD rows), a6, a7, a8, a9, a10, a11, a12, a13, a14, a15, a16] = some (.own (R.map rowD)) ∧ R.map Prod.fst = rows.map Prod.fst := by
  refine ⟨rows.zipIdx.map fun p => (p.1.1, if ds.getD (100 + p.2) 0 % 2 = 0 then smr (ds.getD (100 + p.2) 0) else p.1.2), ?_, ?_⟩
  · unfold b_law_2
    rw [eLc_map (fun p : Rwv × Nat => PyData.tuple [.int (p.2 : Nat), rowD p.1]) (fun p => rowD (p.1.1, if ds.getD (100 + p.2) 0 % 2 = 0 then smr (ds.getD (100 + p.2) 0) else p.1.2)) (xs := rows.zipIdx) (by simp [enumD_map]) (by simp; omega) fun p hp => ?_, List.map_map]
    · rfl
    · have hp2 : p.2 < rows.length := by
        obtain ⟨i, hi⟩ := List.mem_iff_getElem?.mp hp
        rw [List.getElem?_zipIdx] at hi
        cases q : rows[i]? with
        | none => rw [q] at hi; cases hi
        | some r =>
          rw [q] at hi
          cases hi
          have := (List.getElem?_eq_some_iff.mp q).1
          simpa using this
      have a := atI_d (ds := ds) (i := 100 + p.2) (by omega)
      rw [show ((100 + p.2 : Nat) : Int) = 100 + (p.2 : Int) by omega] at a
      have m2 : ((ds.getD (100 + p.2) 0 : Nat) : Int).fmod 2 = ((ds.getD (100 + p.2) 0 % 2 : Nat) : Int) := fmodN _ 2 (by decide)
      have l2 := Nat.mod_lt (ds.getD (100 + p.2) 0) (show 0 < 2 by decide)
      have n2 : ∀ i, Dn.NzOk i 2 := nzN 2 (by decide)
      have s := small_eq (ds.getD (100 + p.2) 0)
      have few2 : Dn.Few 2 := by simp
      rw [rowD, rowD]
      generalize ds.getD (100 + p.2) 0 % 2 = v at *
      generalize smr (ds.getD (100 + p.2) 0) = sm at *
      generalize ds.getD (100 + p.2) 0 = d at *
      by_cases c : v = 0
      · rw [if_pos c]
        subst c
        generalize il ds = L at *
        generalize rowsD rows = RD at *
        generalize qd sm = q at *
        generalize qd p.1.2 = q2 at *
        simp [elD, few2, a, m2, n2, s]
      · rw [if_neg c]
        have c' : v = 1 := by omega
        subst c'
        generalize il ds = L at *
        generalize rowsD rows = RD at *
        generalize qd sm = q at *
        generalize qd p.1.2 = q2 at *
        simp [elD, few2, a, m2, n2, s]
  · rw [List.map_map]
    have : (Prod.fst ∘ fun p : Rwv × Nat => (p.1.1, if ds.getD (100 + p.2) 0 % 2 = 0 then smr (ds.getD (100 + p.2) 0) else p.1.2)) = Prod.fst ∘ Prod.fst := rfl
    rw [this, ← List.map_map, List.zipIdx_map_fst]
theorem hlaw (ns0 : List Int) (hn : ns0.length ≤ 63) : m_law [.list (ns0.map PyData.int)] = some (.val (.bool true)) := by
  unfold m_law
  rw [fnD_eq (by rfl)]
  obtain ⟨ds, e1, dl, dr⟩ := draws_nat ns0 hn 160 (by decide)
  have e1 : m__law_draws [_, .int 160] = _ := e1
  have sl : ∀ i j : Nat, i ≤ j → j ≤ 160 → sxD (il ds) (some (i : Int)) (some (j : Int)) = il ((ds.drop i).take (j - i)) := fun i j h1 h2 => sx_il ds i j h1 (by omega)
  have s1 : sxD (il ds) (some 1) (some 9) = il ((ds.drop 1).take 8) := sl 1 9 (by decide) (by decide)
  have s2 : sxD (il ds) (some 20) (some 84) = il ((ds.drop 20).take 64) := sl 20 84 (by decide) (by decide)
  have s3 : sxD (il ds) (some 90) (some 98) = il ((ds.drop 90).take 8) := sl 90 98 (by decide) (by decide)
  have l1 : ((ds.drop 1).take 8).length = 8 := by simp [dl]
  have l2 : ((ds.drop 20).take 64).length = 64 := by simp [dl]
  have l3 : ((ds.drop 90).take 8).length = 8 := by simp [dl]
  have a0 : atI (il ds) 0 = some (.int ((ds.getD 0 0 : Nat) : Int)) := atI_d (ds := ds) (i := 0) (by omega)
  have a9 : atI (il ds) 9 = some (.int ((ds.getD 9 0 : Nat) : Int)) := atI_d (ds := ds) (i := 9) (by omega)
  have m0 : ((ds.getD 0 0 : Nat) : Int).fmod 5 = ((ds.getD 0 0 % 5 : Nat) : Int) := fmodN _ 5 (by decide)
  have m9 : ((ds.getD 9 0 : Nat) : Int).fmod 2 = ((ds.getD 9 0 % 2 : Nat) : Int) := fmodN _ 2 (by decide)
  have lt0 := Nat.mod_lt (ds.getD 0 0) (show 0 < 5 by decide)
  have n5 : ∀ i, Dn.NzOk i 5 := nzN 5 (by decide)
  have n2 : ∀ i, Dn.NzOk i 2 := nzN 2 (by decide)
  obtain ⟨n, hnn⟩ : ∃ n, n = 1 + ds.getD 0 0 % 5 := ⟨_, rfl⟩
  have en : 1 + ((ds.getD 0 0 % 5 : Nat) : Int) = (n : Int) := by omega
  have hn1 : 1 ≤ n ∧ n ≤ 5 := by omega
  clear hnn
  generalize ds.getD 0 0 % 5 = v0 at *
  generalize ds.getD 0 0 = w0 at *
  generalize ds.getD 9 0 % 2 = v9 at *
  generalize ds.getD 9 0 = w9 at *
  obtain ⟨ns, hns⟩ : ∃ ns, ns = smL ((ds.drop 1).take 8) n := ⟨_, rfl⟩
  have e3 := law_numbers_eq ((ds.drop 1).take 8) n (by omega) (by omega)
  rw [← hns] at e3
  have nl : ns.length = n := by rw [hns, smL_len]
  have nb : ∀ x ∈ ns, Bt 3 x := by rw [hns]; exact smL_bt _ n
  obtain ⟨ps, hps⟩ : ∃ ps : List Nat, ps = (List.range n).filter fun k => decide (0 < ds.getD (10 + k) 0 % 4) := ⟨_, rfl⟩
  let A : Sl := .val (.list (ns0.map .int))
  have ir : Dn.InR (n : Int) := inR_of (by omega) (by omega)
  have e4 : b_law_1 [A, .own (il ds), nI0 n, .own (ns.map qd), .no, .no, .no, .no, .no, .no, .no, .no, .no, .no, .no, .no, .no] = some (.own (il ps)) := by
    unfold b_law_1
    rw [hps]
    refine eLc_flt nI nI (fun k => decide (0 < ds.getD (10 + k) 0 % 4)) (xs := List.range n) (by simp [A, ir, ints0]) (by simp; omega) fun k hk => ?_
    have hk := List.mem_range.mp hk
    have a := atI_d (ds := ds) (i := 10 + k) (by omega)
    rw [show ((10 + k : Nat) : Int) = 10 + (k : Int) by omega] at a
    have m : ((ds.getD (10 + k) 0 : Nat) : Int).fmod 4 = ((ds.getD (10 + k) 0 % 4 : Nat) : Int) := fmodN _ 4 (by decide)
    have n4 : ∀ i, Dn.NzOk i 4 := nzN 4 (by decide)
    generalize il ds = L at *
    generalize ds.getD (10 + k) 0 % 4 = v at *
    generalize ds.getD (10 + k) 0 = d at *
    by_cases c : 0 < v
    · have c' : (0 : Int) < (v : Int) := by omega
      simp [A, elD, a, m, n4, c, c']
    · have c' : ¬ (0 : Int) < (v : Int) := by omega
      simp [A, elD, a, m, n4, c, c']
  have pl : ps.length ≤ 5 := by
    rw [hps]
    exact Nat.le_trans (List.length_filter_le _ _) (by rw [List.length_range]; omega)
  have plt : ∀ p ∈ ps, p < n := fun p hp => by
    rw [hps] at hp
    exact List.mem_range.mp (List.mem_filter.mp hp).1
  obtain ⟨st, e5, stl, stk⟩ := steps_eq (n := n) (ns := ns) (ds := (ds.drop 20).take 64) (by omega) hn1.2 nl nb plt (by omega)
  obtain ⟨found, e6, fl, fk⟩ := mixed_eq (n := n) (rows := st) (ds := (ds.drop 90).take 8) (by omega) (by omega) (by omega) stk
  have tl := fun (R : List Rwv) (hr : ∀ r ∈ R, RowOk n 10 r) (hl : R.length ≤ 6) => tail32 hr hn1.1 hn1.2 hl nl nb dl A (.val (.list (il ps)))
  have lw2 := law_2_eq (rows := found) dl (by omega) A (nI0 n) (.val (nmL ns)) (.val (.list (il ps))) .no .no .no .no .no .no .no .no .no .no .no
  generalize (ds.drop 1).take 8 = q1 at *
  generalize (ds.drop 20).take 64 = q2 at *
  generalize (ds.drop 90).take 8 = q3 at *
  generalize il ds = L at *
  generalize il ps = P at *
  -- behind the rows
  have rest : ∀ (R : List Rwv), (∀ r ∈ R, r.1.length = n) → R.length ≤ 6 → resO (r_law_7 [A, .own L, nI0 n, .val (nmL ns), .val (.list P), .own (R.map rowD), .no, .no, .no, .no, .no, .no, .no, .no, .no, .no, .no]) = some (.val (.bool true)) := fun R hR hl => by
    rcases short_eq (rows := R) hR (by omega) with q | ⟨q, ok⟩
    · show resO (sSeq s_law_7 r_law_8 _) = _
      rw [seq_rt (r := .val (.bool true)) (by simp [s_law_7, q])]
      rfl
    · refine run_nxD (S := s_law_7) (T := r_law_8) (e := [A, .own L, nI0 n, .val (nmL ns), .val (.list P), .val (rowsD R), .no, .no, .no, .no, .no, .no, .no, .no, .no, .no, .no]) (by simp [s_law_7, q]) ?_
      exact tl R ok hl
  rw [law_split]
  refine run_nxD (S := s_law_1) (T := r_law_2) (e := [A, .own L, .no, .no, .no, .no, .no, .no, .no, .no, .no, .no, .no, .no, .no, .no, .no]) (by simp [s_law_1, A, e1]) ?_
  refine run_nxD (S := s_law_2) (T := r_law_3) (e := [A, .own L, nI0 n, .no, .no, .no, .no, .no, .no, .no, .no, .no, .no, .no, .no, .no, .no]) (by simp [s_law_2, A, a0, n5, m0, en]) ?_
  refine run_nxD (S := s_law_3) (T := r_law_4) (e := [A, .own L, nI0 n, .own (ns.map qd), .no, .no, .no, .no, .no, .no, .no, .no, .no, .no, .no, .no, .no]) (by simp [s_law_3, A, s1, e3]) ?_
  refine run_nxD (S := s_law_4) (T := r_law_5) (e := [A, .own L, nI0 n, .own (ns.map qd), .own P, .no, .no, .no, .no, .no, .no, .no, .no, .no, .no, .no, .no]) (by simp [s_law_4, e4]) ?_
  refine run_nxD (S := s_law_5) (T := r_law_6) (e := [A, .own L, nI0 n, .val (nmL ns), .val (.list P), .own (found.map rowD), .no, .no, .no, .no, .no, .no, .no, .no, .no, .no, .no]) (by simp [s_law_5, A, s2, s3, e5, e6]) ?_
  by_cases c : v9 = 0
  · obtain ⟨R, e7, hR⟩ := lw2
    refine run_nxD (S := s_law_6) (T := r_law_7) (e := [A, .own L, nI0 n, .val (nmL ns), .val (.list P), .own (R.map rowD), .no, .no, .no, .no, .no, .no, .no, .no, .no, .no, .no]) (by subst c; simp [s_law_6, a9, m9, n2, e7]) ?_
    have hRl : R.length = found.length := by simpa using congrArg List.length hR
    refine rest R (fun r hr => ?_) (by omega)
    have : r.1 ∈ R.map Prod.fst := List.mem_map_of_mem hr
    rw [hR] at this
    obtain ⟨x, hx, ex⟩ := List.mem_map.mp this
    rw [← ex]
    exact (fk x hx).l
  · have c' : ¬ (v9 : Int) = 0 := by omega
    refine run_nxD (S := s_law_6) (T := r_law_7) (e := [A, .own L, nI0 n, .val (nmL ns), .val (.list P), .own (found.map rowD), .no, .no, .no, .no, .no, .no, .no, .no, .no, .no, .no]) (by simp [s_law_6, a9, m9, n2, c, c']) ?_
    exact rest found (fun r hr => (fk r hr).l) (by omega)
end Law
namespace Law
open PySem PySem.Spec PyProof.Rows L2 Dn
theorem sc_number : FnScope ["n", "d", "shared"] ["n", "d"] (defScope s_number) := ⟨rfl, rfl, rfl, by decide +kernel, rfl, by decide +kernel, by decide +kernel⟩
theorem sc__law_draws : FnScope ["script", "count", "rests", "draws", "k", "value", "cell", "at", "mixed"] ["script", "count"] (defScope s__law_draws) := ⟨rfl, rfl, rfl, by decide +kernel, rfl, by decide +kernel, by decide +kernel⟩
theorem sc__law_gcd : FnScope ["a", "b", "turn"] ["a", "b"] (defScope s__law_gcd) := ⟨rfl, rfl, rfl, by decide +kernel, rfl, by decide +kernel, by decide +kernel⟩
theorem sc__law_short : FnScope ["rows", "factors", "bound", "one"] ["rows"] (defScope s__law_short) := ⟨rfl, rfl, rfl, by decide +kernel, rfl, by decide +kernel, by decide +kernel⟩
theorem sc_plus : FnScope ["a", "b"] ["a", "b"] (defScope s_plus) := ⟨rfl, rfl, rfl, by decide +kernel, rfl, by decide +kernel, by decide +kernel⟩
theorem sc_times : FnScope ["a", "b"] ["a", "b"] (defScope s_times) := ⟨rfl, rfl, rfl, by decide +kernel, rfl, by decide +kernel, by decide +kernel⟩
theorem sc__law_number : FnScope ["n", "d", "common"] ["n", "d"] (defScope s__law_number) := ⟨rfl, rfl, rfl, by decide +kernel, rfl, by decide +kernel, by decide +kernel⟩
theorem sc_total : FnScope ["numbers", "whole", "part"] ["numbers"] (defScope s_total) := ⟨rfl, rfl, rfl, by decide +kernel, rfl, by decide +kernel, by decide +kernel⟩
theorem sc__law_plus : FnScope ["a", "b"] ["a", "b"] (defScope s__law_plus) := ⟨rfl, rfl, rfl, by decide +kernel, rfl, by decide +kernel, by decide +kernel⟩
theorem sc__law_times : FnScope ["a", "b"] ["a", "b"] (defScope s__law_times) := ⟨rfl, rfl, rfl, by decide +kernel, rfl, by decide +kernel, by decide +kernel⟩
theorem sc__law_small : FnScope ["draw"] ["draw"] (defScope s__law_small) := ⟨rfl, rfl, rfl, by decide +kernel, rfl, by decide +kernel, by decide +kernel⟩
theorem sc__row_value : FnScope ["factors", "numbers", "factor", "number"] ["factors", "numbers"] (defScope s__row_value) := ⟨rfl, rfl, rfl, by decide +kernel, rfl, by decide +kernel, by decide +kernel⟩
theorem sc__law_minus : FnScope ["a", "b"] ["a", "b"] (defScope s__law_minus) := ⟨rfl, rfl, rfl, by decide +kernel, rfl, by decide +kernel, by decide +kernel⟩
theorem sc__law_sum : FnScope ["numbers", "found", "one"] ["numbers"] (defScope s__law_sum) := ⟨rfl, rfl, rfl, by decide +kernel, rfl, by decide +kernel, by decide +kernel⟩
theorem sc__law_numbers : FnScope ["draws", "many", "k"] ["draws", "many"] (defScope s__law_numbers) := ⟨rfl, rfl, rfl, by decide +kernel, rfl, by decide +kernel, by decide +kernel⟩
theorem sc__law_plus_row : FnScope ["row", "other", "by", "factors", "k"] ["row", "other", "by"] (defScope s__law_plus_row) := ⟨rfl, rfl, rfl, by decide +kernel, rfl, by decide +kernel, by decide +kernel⟩
theorem sc_is_solution : FnScope ["count", "rows", "numbers", "factors", "bound"] ["count", "rows", "numbers"] (defScope s_is_solution) := ⟨rfl, rfl, rfl, by decide +kernel, rfl, by decide +kernel, by decide +kernel⟩
theorem sc_is_direction : FnScope ["count", "rows", "numbers", "factors", "_"] ["count", "rows", "numbers"] (defScope s_is_direction) := ⟨rfl, rfl, rfl, by decide +kernel, rfl, by decide +kernel, by decide +kernel⟩
theorem sc__added_up : FnScope ["count", "rows", "multipliers", "factors", "at", "row"] ["count", "rows", "multipliers"] (defScope s__added_up) := ⟨rfl, rfl, rfl, by decide +kernel, rfl, by decide +kernel, by decide +kernel⟩
theorem sc__law_dot : FnScope ["a", "b", "k"] ["a", "b"] (defScope s__law_dot) := ⟨rfl, rfl, rfl, by decide +kernel, rfl, by decide +kernel, by decide +kernel⟩
theorem sc__law_mixed : FnScope ["rows", "draws", "found", "k", "at", "other"] ["rows", "draws"] (defScope s__law_mixed) := ⟨rfl, rfl, rfl, by decide +kernel, rfl, by decide +kernel, by decide +kernel⟩
theorem sc_refutes : FnScope ["count", "rows", "multipliers", "factors", "bound"] ["count", "rows", "multipliers"] (defScope s_refutes) := ⟨rfl, rfl, rfl, by decide +kernel, rfl, by decide +kernel, by decide +kernel⟩
theorem sc__law_value : FnScope ["factors", "numbers"] ["factors", "numbers"] (defScope s__law_value) := ⟨rfl, rfl, rfl, by decide +kernel, rfl, by decide +kernel, by decide +kernel⟩
theorem sc__law_added : FnScope ["count", "rows", "multipliers", "factors", "place", "row"] ["count", "rows", "multipliers"] (defScope s__law_added) := ⟨rfl, rfl, rfl, by decide +kernel, rfl, by decide +kernel, by decide +kernel⟩
theorem sc__law_solves : FnScope ["count", "rows", "numbers", "row"] ["count", "rows", "numbers"] (defScope s__law_solves) := ⟨rfl, rfl, rfl, by decide +kernel, rfl, by decide +kernel, by decide +kernel⟩
theorem sc__law_directs : FnScope ["count", "rows", "numbers", "row", "one"] ["count", "rows", "numbers"] (defScope s__law_directs) := ⟨rfl, rfl, rfl, by decide +kernel, rfl, by decide +kernel, by decide +kernel⟩
theorem sc__law_refutes : FnScope ["count", "rows", "multipliers", "factors", "bound", "one"] ["count", "rows", "multipliers"] (defScope s__law_refutes) := ⟨rfl, rfl, rfl, by decide +kernel, rfl, by decide +kernel, by decide +kernel⟩
theorem sc__law_steps : FnScope ["count", "numbers", "draws", "places", "rows", "place", "factors", "k"] ["count", "numbers", "draws", "places"] (defScope s__law_steps) := ⟨rfl, rfl, rfl, by decide +kernel, rfl, by decide +kernel, by decide +kernel⟩
theorem sc_law : FnScope ["script", "draws", "count", "numbers", "places", "rows", "others", "tried", "k", "at", "kept", "one", "actual", "due", "row", "n", "answer"] ["script"] (defScope s_law) := ⟨rfl, rfl, rfl, by decide +kernel, rfl, by decide +kernel, by decide +kernel⟩
structure Tx (K : PySem.W.Frag) (mg : Str → Option Value) where
  f_number : Addr
  fd_number : FuncData
  F_number : Fun K "number" "number" s_number f_number fd_number
  g_number : mg "number" = some (.ref f_number)
  b_number : Binds K fd_number ["n", "d"] []
  f__law_draws : Addr
  fd__law_draws : FuncData
  F__law_draws : Fun K "_law_draws" "_law_draws" s__law_draws f__law_draws fd__law_draws
  g__law_draws : mg "_law_draws" = some (.ref f__law_draws)
  b__law_draws : Binds K fd__law_draws ["script", "count"] []
  f__law_gcd : Addr
  fd__law_gcd : FuncData
  F__law_gcd : Fun K "_law_gcd" "_law_gcd" s__law_gcd f__law_gcd fd__law_gcd
  g__law_gcd : mg "_law_gcd" = some (.ref f__law_gcd)
  b__law_gcd : Binds K fd__law_gcd ["a", "b"] []
  f__law_short : Addr
  fd__law_short : FuncData
  F__law_short : Fun K "_law_short" "_law_short" s__law_short f__law_short fd__law_short
  g__law_short : mg "_law_short" = some (.ref f__law_short)
  b__law_short : Binds K fd__law_short ["rows"] []
  f_plus : Addr
  fd_plus : FuncData
  F_plus : Fun K "plus" "plus" s_plus f_plus fd_plus
  g_plus : mg "plus" = some (.ref f_plus)
  b_plus : Binds K fd_plus ["a", "b"] []
  f_times : Addr
  fd_times : FuncData
  F_times : Fun K "times" "times" s_times f_times fd_times
  g_times : mg "times" = some (.ref f_times)
  b_times : Binds K fd_times ["a", "b"] []
  f__law_number : Addr
  fd__law_number : FuncData
  F__law_number : Fun K "_law_number" "_law_number" s__law_number f__law_number fd__law_number
  g__law_number : mg "_law_number" = some (.ref f__law_number)
  b__law_number : Binds K fd__law_number ["n", "d"] []
  f_total : Addr
  fd_total : FuncData
  F_total : Fun K "total" "total" s_total f_total fd_total
  g_total : mg "total" = some (.ref f_total)
  b_total : Binds K fd_total ["numbers"] []
  f__law_plus : Addr
  fd__law_plus : FuncData
  F__law_plus : Fun K "_law_plus" "_law_plus" s__law_plus f__law_plus fd__law_plus
  g__law_plus : mg "_law_plus" = some (.ref f__law_plus)
  b__law_plus : Binds K fd__law_plus ["a", "b"] []
  f__law_times : Addr
  fd__law_times : FuncData
  F__law_times : Fun K "_law_times" "_law_times" s__law_times f__law_times fd__law_times
  g__law_times : mg "_law_times" = some (.ref f__law_times)
  b__law_times : Binds K fd__law_times ["a", "b"] []
  f__law_small : Addr
  fd__law_small : FuncData
  F__law_small : Fun K "_law_small" "_law_small" s__law_small f__law_small fd__law_small
  g__law_small : mg "_law_small" = some (.ref f__law_small)
  b__law_small : Binds K fd__law_small ["draw"] []
  f__row_value : Addr
  fd__row_value : FuncData
  F__row_value : Fun K "_row_value" "_row_value" s__row_value f__row_value fd__row_value
  g__row_value : mg "_row_value" = some (.ref f__row_value)
  b__row_value : Binds K fd__row_value ["factors", "numbers"] []
  f__law_minus : Addr
  fd__law_minus : FuncData
  F__law_minus : Fun K "_law_minus" "_law_minus" s__law_minus f__law_minus fd__law_minus
  g__law_minus : mg "_law_minus" = some (.ref f__law_minus)
  b__law_minus : Binds K fd__law_minus ["a", "b"] []
  f__law_sum : Addr
  fd__law_sum : FuncData
  F__law_sum : Fun K "_law_sum" "_law_sum" s__law_sum f__law_sum fd__law_sum
  g__law_sum : mg "_law_sum" = some (.ref f__law_sum)
  b__law_sum : Binds K fd__law_sum ["numbers"] []
  f__law_numbers : Addr
  fd__law_numbers : FuncData
  F__law_numbers : Fun K "_law_numbers" "_law_numbers" s__law_numbers f__law_numbers fd__law_numbers
  g__law_numbers : mg "_law_numbers" = some (.ref f__law_numbers)
  b__law_numbers : Binds K fd__law_numbers ["draws", "many"] []
  f__law_plus_row : Addr
  fd__law_plus_row : FuncData
  F__law_plus_row : Fun K "_law_plus_row" "_law_plus_row" s__law_plus_row f__law_plus_row fd__law_plus_row
  g__law_plus_row : mg "_law_plus_row" = some (.ref f__law_plus_row)
  b__law_plus_row : Binds K fd__law_plus_row ["row", "other", "by"] []
  f_is_solution : Addr
  fd_is_solution : FuncData
  F_is_solution : Fun K "is_solution" "is_solution" s_is_solution f_is_solution fd_is_solution
  g_is_solution : mg "is_solution" = some (.ref f_is_solution)
  b_is_solution : Binds K fd_is_solution ["count", "rows", "numbers"] []
  f_is_direction : Addr
  fd_is_direction : FuncData
  F_is_direction : Fun K "is_direction" "is_direction" s_is_direction f_is_direction fd_is_direction
  g_is_direction : mg "is_direction" = some (.ref f_is_direction)
  b_is_direction : Binds K fd_is_direction ["count", "rows", "numbers"] []
  f__added_up : Addr
  fd__added_up : FuncData
  F__added_up : Fun K "_added_up" "_added_up" s__added_up f__added_up fd__added_up
  g__added_up : mg "_added_up" = some (.ref f__added_up)
  b__added_up : Binds K fd__added_up ["count", "rows", "multipliers"] []
  f__law_dot : Addr
  fd__law_dot : FuncData
  F__law_dot : Fun K "_law_dot" "_law_dot" s__law_dot f__law_dot fd__law_dot
  g__law_dot : mg "_law_dot" = some (.ref f__law_dot)
  b__law_dot : Binds K fd__law_dot ["a", "b"] []
  f__law_mixed : Addr
  fd__law_mixed : FuncData
  F__law_mixed : Fun K "_law_mixed" "_law_mixed" s__law_mixed f__law_mixed fd__law_mixed
  g__law_mixed : mg "_law_mixed" = some (.ref f__law_mixed)
  b__law_mixed : Binds K fd__law_mixed ["rows", "draws"] []
  f_refutes : Addr
  fd_refutes : FuncData
  F_refutes : Fun K "refutes" "refutes" s_refutes f_refutes fd_refutes
  g_refutes : mg "refutes" = some (.ref f_refutes)
  b_refutes : Binds K fd_refutes ["count", "rows", "multipliers"] []
  f__law_value : Addr
  fd__law_value : FuncData
  F__law_value : Fun K "_law_value" "_law_value" s__law_value f__law_value fd__law_value
  g__law_value : mg "_law_value" = some (.ref f__law_value)
  b__law_value : Binds K fd__law_value ["factors", "numbers"] []
  f__law_added : Addr
  fd__law_added : FuncData
  F__law_added : Fun K "_law_added" "_law_added" s__law_added f__law_added fd__law_added
  g__law_added : mg "_law_added" = some (.ref f__law_added)
  b__law_added : Binds K fd__law_added ["count", "rows", "multipliers"] []
  f__law_solves : Addr
  fd__law_solves : FuncData
  F__law_solves : Fun K "_law_solves" "_law_solves" s__law_solves f__law_solves fd__law_solves
  g__law_solves : mg "_law_solves" = some (.ref f__law_solves)
  b__law_solves : Binds K fd__law_solves ["count", "rows", "numbers"] []
  f__law_directs : Addr
  fd__law_directs : FuncData
  F__law_directs : Fun K "_law_directs" "_law_directs" s__law_directs f__law_directs fd__law_directs
  g__law_directs : mg "_law_directs" = some (.ref f__law_directs)
  b__law_directs : Binds K fd__law_directs ["count", "rows", "numbers"] []
  f__law_refutes : Addr
  fd__law_refutes : FuncData
  F__law_refutes : Fun K "_law_refutes" "_law_refutes" s__law_refutes f__law_refutes fd__law_refutes
  g__law_refutes : mg "_law_refutes" = some (.ref f__law_refutes)
  b__law_refutes : Binds K fd__law_refutes ["count", "rows", "multipliers"] []
  f__law_steps : Addr
  fd__law_steps : FuncData
  F__law_steps : Fun K "_law_steps" "_law_steps" s__law_steps f__law_steps fd__law_steps
  g__law_steps : mg "_law_steps" = some (.ref f__law_steps)
  b__law_steps : Binds K fd__law_steps ["count", "numbers", "draws", "places"] []
  f_law : Addr
  fd_law : FuncData
  F_law : Fun K "law" "law" s_law f_law fd_law
  g_law : mg "law" = some (.ref f_law)
  b_law : Binds K fd_law ["script"] []
  n_abs : mg "abs" = none
  n_all : mg "all" = none
  n_bool : mg "bool" = none
  n_enumerate : mg "enumerate" = none
  n_int : mg "int" = none
  n_isinstance : mg "isinstance" = none
  n_len : mg "len" = none
  n_list : mg "list" = none
  n_range : mg "range" = none
  n_repr : mg "repr" = none
  n_zip : mg "zip" = none
  m_gcd : mg "gcd" = some (.builtin "math.gcd")
  a_ZERO : Addr
  c_ZERO : mg "ZERO" = some (.ref a_ZERO)
  d_ZERO : ∀ F, Dp K F (.ref a_ZERO) (.tuple [.int (0), .int (1)])
section
variable {P : Program} {w : World} {K : PySem.W.Frag} {mg : Str → Option Value} {base : Heap}
theorem ok_number (T : Tx K mg) : FnOk P w K mg base CX0 1 T.f_number T.fd_number ["n", "d"] (spD K 2 m_number) := okD (N := ["n", "d", "shared"]) (ps := ["n", "d"]) (k := 0) (b := b_number) T.F_number sc_number fun cdv A outer s H E hr => by
  have nd := sc_number.nd
  exact ⟨_, (ss_cons (ss_set (i := 2) nd rfl (by first | exact Or.inl rfl | exact Or.inr rfl) (se_cfun cr_gcd rc_gcd (by rfl) T.m_gcd (sa_cons (sv 0) (sa_cons (sv 1) sa_nil))))
    (ss_cons (ss_if (st_lt (sv 1) se_int)
      (ss_one (ss_set (i := 2) nd rfl (by first | exact Or.inl rfl | exact Or.inr rfl) (se_neg (sv 2))))
      ss_nil)
    (ss_one (ss_ret (se_tup (sa_cons (se_fdiv (sv 0) (sv 2)) (sa_cons (se_fdiv (sv 1) (sv 2)) sa_nil)))))))⟩
theorem ok__law_draws (T : Tx K mg) : FnOk P w K mg base CX0 1 T.f__law_draws T.fd__law_draws ["script", "count"] (spD K 2 m__law_draws) := okD (N := ["script", "count", "rests", "draws", "k", "value", "cell", "at", "mixed"]) (ps := ["script", "count"]) (k := 0) (b := b__law_draws) T.F__law_draws sc__law_draws fun cdv A outer s H E hr => by
  have nd := sc__law_draws.nd
  exact ⟨_, (ss_cons (ss_setLc (i := 2) (own := [("cell", 6)]) rfl nd rfl rfl (sw_true rfl rfl rfl (by decide +kernel)) (si_seq (sv 0)) (blkOk_by (N := ["script", "count", "rests", "draws", "k", "value", "cell", "at", "mixed"]) (sc := defScope s__law_draws) (by decide +kernel)) (fun _ _ _ _ _ => (sg_name (i := 6) nd rfl (by first | exact Or.inl rfl | exact Or.inr rfl))) (by decide) (fun _ _ _ _ _ => sts_nil) (fun _ _ _ _ _ => (sv 6)))
    (ss_cons (ss_set (i := 3) nd rfl (by first | exact Or.inl rfl | exact Or.inr rfl) (se_lst sa_nil))
    (ss_cons (ss_for PassesOwn.never rfl (si_r1 (by rfl) T.n_range (sa_cons (sv 1) sa_nil)) (sg_name (i := 4) nd rfl (by first | exact Or.inl rfl | exact Or.inr rfl))
      (ss_cons (ss_set (i := 5) nd rfl (by first | exact Or.inl rfl | exact Or.inr rfl) se_int)
    (ss_cons (ss_if (st_gt (se_peek (se_c_len (by rfl) T.n_len boot_len_ (sa_cons (sv 2) sa_nil))) se_int)
      (ss_cons (ss_set (i := 7) nd rfl (by first | exact Or.inl rfl | exact Or.inr rfl) (se_mod (se_c_int (by rfl) T.n_int boot_int_ (sa_cons (sv 4) sa_nil)) (se_peek (se_c_len (by rfl) T.n_len boot_len_ (sa_cons (sv 2) sa_nil)))))
    (ss_one (ss_if (st_ge (se_ixO (ov 2) (sv 7)) (se_pow se_int se_int))
      (ss_cons (ss_set (i := 5) nd rfl (by first | exact Or.inl rfl | exact Or.inr rfl) (se_mod (se_c_int (by rfl) T.n_int boot_int_ (sa_cons (se_ixO (ov 2) (sv 7)) sa_nil)) se_int))
    (ss_one (ss_put (se_fdiv (se_ixO (ov 2) (sv 7)) se_int) (ov 2) (sv 7))))
      (ss_cons (ss_set (i := 8) nd rfl (by first | exact Or.inl rfl | exact Or.inr rfl) (se_mod (se_c_int (by rfl) T.n_int boot_int_ (sa_cons (se_add (se_add (se_mul (se_ixO (ov 2) (sv 7)) se_int) (se_mul (sv 4) se_int)) se_int) sa_nil)) se_int))
    (ss_cons (ss_set (i := 8) nd rfl (by first | exact Or.inl rfl | exact Or.inr rfl) (se_mod (se_c_int (by rfl) T.n_int boot_int_ (sa_cons (se_add (se_mul (sv 8) se_int) (sv 7)) sa_nil)) se_int))
    (ss_one (ss_set (i := 5) nd rfl (by first | exact Or.inl rfl | exact Or.inr rfl) (se_mod (se_c_int (by rfl) T.n_int boot_int_ (sa_cons (se_fdiv (sv 8) se_int) sa_nil)) se_int))))))))
      ss_nil)
    (ss_one (ss_append (ov 3) (sv 5))))))
    (ss_one (ss_retO (ov 3))))))⟩
theorem ok__law_gcd (T : Tx K mg) : FnOk P w K mg base CX0 1 T.f__law_gcd T.fd__law_gcd ["a", "b"] (spD K 2 m__law_gcd) := okD (N := ["a", "b", "turn"]) (ps := ["a", "b"]) (k := 0) (b := b__law_gcd) T.F__law_gcd sc__law_gcd fun cdv A outer s H E hr => by
  have nd := sc__law_gcd.nd
  exact ⟨_, (ss_cons (ss_par (i := 0) (j := 1) nd (sa_cons (se_c_abs (by rfl) T.n_abs boot_abs_ (sa_cons (sv 0) sa_nil)) (sa_cons (se_c_abs (by rfl) T.n_abs boot_abs_ (sa_cons (sv 1) sa_nil)) sa_nil)))
    (ss_cons (ss_for PassesOwn.never rfl (si_r1 (by rfl) T.n_range (sa_cons se_int sa_nil)) (sg_name (i := 2) nd rfl (by first | exact Or.inl rfl | exact Or.inr rfl))
      (ss_cons (ss_if (st_eqT hr.units (sv 1) se_int)
      (ss_one ss_break)
      ss_nil)
    (ss_one (ss_par (i := 0) (j := 1) nd (sa_cons (sv 1) (sa_cons (se_mod (se_c_int (by rfl) T.n_int boot_int_ (sa_cons (sv 0) sa_nil)) (sv 1)) sa_nil))))))
    (ss_one (ss_ret (sv 0)))))⟩
theorem ok__law_short (T : Tx K mg) : FnOk P w K mg base CX0 1 T.f__law_short T.fd__law_short ["rows"] (spD K 1 m__law_short) := okD (N := ["rows", "factors", "bound", "one"]) (ps := ["rows"]) (k := 0) (b := b__law_short) T.F__law_short sc__law_short fun cdv A outer s H E hr => by
  have nd := sc__law_short.nd
  exact ⟨_, (ss_cons (ss_for PassesOwn.never rfl (si_seq (sv 0)) (sg_tup2 rfl (pgs_cons (pg_name (i := 1) nd rfl (by first | exact Or.inl rfl | exact Or.inr rfl)) (pgs_cons (pg_name (i := 2) nd rfl (by first | exact Or.inl rfl | exact Or.inr rfl)) pgs_nil)))
      (ss_one (ss_for PassesOwn.never rfl (si_seq (se_add (sv 1) (se_lst (sa_cons (sv 2) sa_nil)))) (sg_name (i := 3) nd rfl (by first | exact Or.inl rfl | exact Or.inr rfl))
      (ss_one (ss_if (SW.st (sw_or (st_ge (se_c_abs (by rfl) T.n_abs boot_abs_ (sa_cons (se_ix (sv 3) se_int) sa_nil)) se_int) (sw_or1 (st_ge (se_ix (sv 3) se_int) se_int))))
      (ss_one (ss_ret se_bl))
      ss_nil)))))
    (ss_one (ss_ret se_bl)))⟩
theorem ok_plus (T : Tx K mg) : FnOk P w K mg base CX0 2 T.f_plus T.fd_plus ["a", "b"] (spD K 2 m_plus) := okD (N := ["a", "b"]) (ps := ["a", "b"]) (k := 1) (b := b_plus) T.F_plus sc_plus fun cdv A outer s H E hr => by
  have nd := sc_plus.nd
  exact ⟨_, (ss_one (ss_ret (se_call (ok_number T) (hr.mono (by decide)) (by rfl) T.g_number T.F_number.kp T.b_number (sa_cons (se_add (se_mul (se_ix (sv 0) se_int) (se_ix (sv 1) se_int)) (se_mul (se_ix (sv 1) se_int) (se_ix (sv 0) se_int))) (sa_cons (se_mul (se_ix (sv 0) se_int) (se_ix (sv 1) se_int)) sa_nil)))))⟩
theorem ok_times (T : Tx K mg) : FnOk P w K mg base CX0 2 T.f_times T.fd_times ["a", "b"] (spD K 2 m_times) := okD (N := ["a", "b"]) (ps := ["a", "b"]) (k := 1) (b := b_times) T.F_times sc_times fun cdv A outer s H E hr => by
  have nd := sc_times.nd
  exact ⟨_, (ss_one (ss_ret (se_call (ok_number T) (hr.mono (by decide)) (by rfl) T.g_number T.F_number.kp T.b_number (sa_cons (se_mul (se_ix (sv 0) se_int) (se_ix (sv 1) se_int)) (sa_cons (se_mul (se_ix (sv 0) se_int) (se_ix (sv 1) se_int)) sa_nil)))))⟩
theorem ok__law_number (T : Tx K mg) : FnOk P w K mg base CX0 2 T.f__law_number T.fd__law_number ["n", "d"] (spD K 2 m__law_number) := okD (N := ["n", "d", "common"]) (ps := ["n", "d"]) (k := 1) (b := b__law_number) T.F__law_number sc__law_number fun cdv A outer s H E hr => by
  have nd := sc__law_number.nd
  exact ⟨_, (ss_cons (ss_if (st_lt (sv 1) se_int)
      (ss_one (ss_par (i := 0) (j := 1) nd (sa_cons (se_neg (sv 0)) (sa_cons (se_neg (sv 1)) sa_nil))))
      ss_nil)
    (ss_cons (ss_set (i := 2) nd rfl (by first | exact Or.inl rfl | exact Or.inr rfl) (se_call (ok__law_gcd T) (hr.mono (by decide)) (by rfl) T.g__law_gcd T.F__law_gcd.kp T.b__law_gcd (sa_cons (sv 0) (sa_cons (sv 1) sa_nil))))
    (ss_one (ss_ret (se_tup (sa_cons (se_fdiv (sv 0) (sv 2)) (sa_cons (se_fdiv (sv 1) (sv 2)) sa_nil)))))))⟩
theorem ok_total (T : Tx K mg) : FnOk P w K mg base CX0 3 T.f_total T.fd_total ["numbers"] (spD K 1 m_total) := okD (N := ["numbers", "whole", "part"]) (ps := ["numbers"]) (k := 2) (b := b_total) T.F_total sc_total fun cdv A outer s H E hr => by
  have nd := sc_total.nd
  exact ⟨_, (ss_cons (ss_set (i := 1) nd rfl (by first | exact Or.inl rfl | exact Or.inr rfl) (se_tup (sa_cons se_int (sa_cons se_int sa_nil))))
    (ss_cons (ss_for PassesOwn.never rfl (si_seq (sv 0)) (sg_name (i := 2) nd rfl (by first | exact Or.inl rfl | exact Or.inr rfl))
      (ss_one (ss_set (i := 1) nd rfl (by first | exact Or.inl rfl | exact Or.inr rfl) (se_call (ok_plus T) (hr.mono (by decide)) (by rfl) T.g_plus T.F_plus.kp T.b_plus (sa_cons (sv 1) (sa_cons (sv 2) sa_nil))))))
    (ss_one (ss_ret (sv 1)))))⟩
theorem ok__law_plus (T : Tx K mg) : FnOk P w K mg base CX0 3 T.f__law_plus T.fd__law_plus ["a", "b"] (spD K 2 m__law_plus) := okD (N := ["a", "b"]) (ps := ["a", "b"]) (k := 2) (b := b__law_plus) T.F__law_plus sc__law_plus fun cdv A outer s H E hr => by
  have nd := sc__law_plus.nd
  exact ⟨_, (ss_one (ss_ret (se_call (ok__law_number T) (hr.mono (by decide)) (by rfl) T.g__law_number T.F__law_number.kp T.b__law_number (sa_cons (se_add (se_mul (se_ix (sv 0) se_int) (se_ix (sv 1) se_int)) (se_mul (se_ix (sv 1) se_int) (se_ix (sv 0) se_int))) (sa_cons (se_mul (se_ix (sv 0) se_int) (se_ix (sv 1) se_int)) sa_nil)))))⟩
theorem ok__law_times (T : Tx K mg) : FnOk P w K mg base CX0 3 T.f__law_times T.fd__law_times ["a", "b"] (spD K 2 m__law_times) := okD (N := ["a", "b"]) (ps := ["a", "b"]) (k := 2) (b := b__law_times) T.F__law_times sc__law_times fun cdv A outer s H E hr => by
  have nd := sc__law_times.nd
  exact ⟨_, (ss_one (ss_ret (se_call (ok__law_number T) (hr.mono (by decide)) (by rfl) T.g__law_number T.F__law_number.kp T.b__law_number (sa_cons (se_mul (se_ix (sv 0) se_int) (se_ix (sv 1) se_int)) (sa_cons (se_mul (se_ix (sv 0) se_int) (se_ix (sv 1) se_int)) sa_nil)))))⟩
theorem ok__law_small (T : Tx K mg) : FnOk P w K mg base CX0 3 T.f__law_small T.fd__law_small ["draw"] (spD K 1 m__law_small) := okD (N := ["draw"]) (ps := ["draw"]) (k := 2) (b := b__law_small) T.F__law_small sc__law_small fun cdv A outer s H E hr => by
  have nd := sc__law_small.nd
  exact ⟨_, (ss_one (ss_ret (se_call (ok__law_number T) (hr.mono (by decide)) (by rfl) T.g__law_number T.F__law_number.kp T.b__law_number (sa_cons (se_sub (se_mod (se_c_int (by rfl) T.n_int boot_int_ (sa_cons (sv 0) sa_nil)) se_int) se_int) (sa_cons (se_ix (se_lst (sa_cons se_int (sa_cons se_int (sa_cons se_int (sa_cons se_int (sa_cons se_int sa_nil)))))) (se_mod (se_c_int (by rfl) T.n_int boot_int_ (sa_cons (se_fdiv (sv 0) se_int) sa_nil)) se_int)) sa_nil)))))⟩
theorem ok__row_value (T : Tx K mg) : FnOk P w K mg base CX0 4 T.f__row_value T.fd__row_value ["factors", "numbers"] (spD K 2 m__row_value) := okD (N := ["factors", "numbers", "factor", "number"]) (ps := ["factors", "numbers"]) (k := 3) (b := b__row_value) T.F__row_value sc__row_value fun cdv A outer s H E hr => by
  have nd := sc__row_value.nd
  exact ⟨_, (ss_one (ss_ret (se_call (ok_total T) (hr.mono (by decide)) (by rfl) T.g_total T.F_total.kp T.b_total (sa_cons (se_lc (own := [("factor", 2), ("number", 3)]) rfl nd (si_zip (by rfl) T.n_zip (sa_cons (sv 0) (sa_cons (sv 1) sa_nil))) (blkOk_by (N := ["factors", "numbers", "factor", "number"]) (sc := defScope s__row_value) (by decide +kernel)) (fun _ _ _ _ _ => (sg_tup2 rfl (pgs_cons (pg_name (i := 2) nd rfl (by first | exact Or.inl rfl | exact Or.inr rfl)) (pgs_cons (pg_name (i := 3) nd rfl (by first | exact Or.inl rfl | exact Or.inr rfl)) pgs_nil)))) (by decide) (fun _ _ _ _ _ => sts_nil) (fun _ _ _ _ _ => (se_call (ok_times T) (hr.mono (by decide)) (by rfl) T.g_times T.F_times.kp T.b_times (sa_cons (sv 2) (sa_cons (sv 3) sa_nil))))) sa_nil))))⟩
theorem ok__law_minus (T : Tx K mg) : FnOk P w K mg base CX0 4 T.f__law_minus T.fd__law_minus ["a", "b"] (spD K 2 m__law_minus) := okD (N := ["a", "b"]) (ps := ["a", "b"]) (k := 3) (b := b__law_minus) T.F__law_minus sc__law_minus fun cdv A outer s H E hr => by
  have nd := sc__law_minus.nd
  exact ⟨_, (ss_one (ss_ret (se_call (ok__law_plus T) (hr.mono (by decide)) (by rfl) T.g__law_plus T.F__law_plus.kp T.b__law_plus (sa_cons (sv 0) (sa_cons (se_tup (sa_cons (se_neg (se_ix (sv 1) se_int)) (sa_cons (se_ix (sv 1) se_int) sa_nil))) sa_nil)))))⟩
theorem ok__law_sum (T : Tx K mg) : FnOk P w K mg base CX0 4 T.f__law_sum T.fd__law_sum ["numbers"] (spD K 1 m__law_sum) := okD (N := ["numbers", "found", "one"]) (ps := ["numbers"]) (k := 3) (b := b__law_sum) T.F__law_sum sc__law_sum fun cdv A outer s H E hr => by
  have nd := sc__law_sum.nd
  exact ⟨_, (ss_cons (ss_set (i := 1) nd rfl (by first | exact Or.inl rfl | exact Or.inr rfl) (se_tup (sa_cons se_int (sa_cons se_int sa_nil))))
    (ss_cons (ss_for PassesOwn.never rfl (si_seq (sv 0)) (sg_name (i := 2) nd rfl (by first | exact Or.inl rfl | exact Or.inr rfl))
      (ss_one (ss_set (i := 1) nd rfl (by first | exact Or.inl rfl | exact Or.inr rfl) (se_call (ok__law_plus T) (hr.mono (by decide)) (by rfl) T.g__law_plus T.F__law_plus.kp T.b__law_plus (sa_cons (sv 1) (sa_cons (sv 2) sa_nil))))))
    (ss_one (ss_ret (sv 1)))))⟩
theorem ok__law_numbers (T : Tx K mg) : FnOk P w K mg base CX0 4 T.f__law_numbers T.fd__law_numbers ["draws", "many"] (spD K 2 m__law_numbers) := okD (N := ["draws", "many", "k"]) (ps := ["draws", "many"]) (k := 3) (b := b__law_numbers) T.F__law_numbers sc__law_numbers fun cdv A outer s H E hr => by
  have nd := sc__law_numbers.nd
  exact ⟨_, (ss_one (ss_ret (se_lc (own := [("k", 2)]) rfl nd (si_r1 (by rfl) T.n_range (sa_cons (sv 1) sa_nil)) (blkOk_by (N := ["draws", "many", "k"]) (sc := defScope s__law_numbers) (by decide +kernel)) (fun _ _ _ _ _ => (sg_name (i := 2) nd rfl (by first | exact Or.inl rfl | exact Or.inr rfl))) (by decide) (fun _ _ _ _ _ => sts_nil) (fun _ _ _ _ _ => (se_call (ok__law_small T) (hr.mono (by decide)) (by rfl) T.g__law_small T.F__law_small.kp T.b__law_small (sa_cons (se_ix (sv 0) (sv 2)) sa_nil))))))⟩
theorem ok__law_plus_row (T : Tx K mg) : FnOk P w K mg base CX0 4 T.f__law_plus_row T.fd__law_plus_row ["row", "other", "by"] (spD K 3 m__law_plus_row) := okD (N := ["row", "other", "by", "factors", "k"]) (ps := ["row", "other", "by"]) (k := 3) (b := b__law_plus_row) T.F__law_plus_row sc__law_plus_row fun cdv A outer s H E hr => by
  have nd := sc__law_plus_row.nd
  exact ⟨_, (ss_cons (ss_setLc (i := 3) (own := [("k", 4)]) rfl nd rfl rfl (sw_true rfl rfl rfl (by decide +kernel)) (si_r1 (by rfl) T.n_range (sa_cons (se_c_len (by rfl) T.n_len boot_len_ (sa_cons (se_ix (sv 0) se_int) sa_nil)) sa_nil)) (blkOk_by (N := ["row", "other", "by", "factors", "k"]) (sc := defScope s__law_plus_row) (by decide +kernel)) (fun _ _ _ _ _ => (sg_name (i := 4) nd rfl (by first | exact Or.inl rfl | exact Or.inr rfl))) (by decide) (fun _ _ _ _ _ => sts_nil) (fun _ _ _ _ _ => (se_call (ok__law_plus T) (hr.mono (by decide)) (by rfl) T.g__law_plus T.F__law_plus.kp T.b__law_plus (sa_cons (se_ix (se_ix (sv 0) se_int) (sv 4)) (sa_cons (se_call (ok__law_times T) (hr.mono (by decide)) (by rfl) T.g__law_times T.F__law_times.kp T.b__law_times (sa_cons (sv 2) (sa_cons (se_ix (se_ix (sv 1) se_int) (sv 4)) sa_nil))) sa_nil)))))
    (ss_one (ss_frz 3 (ss_ret (se_tup (sa_cons (sv 3) (sa_cons (se_call (ok__law_plus T) (hr.mono (by decide)) (by rfl) T.g__law_plus T.F__law_plus.kp T.b__law_plus (sa_cons (se_ix (sv 0) se_int) (sa_cons (se_call (ok__law_times T) (hr.mono (by decide)) (by rfl) T.g__law_times T.F__law_times.kp T.b__law_times (sa_cons (sv 2) (sa_cons (se_ix (sv 1) se_int) sa_nil))) sa_nil))) sa_nil)))))))⟩
theorem ok_is_solution (T : Tx K mg) : FnOk P w K mg base CX0 5 T.f_is_solution T.fd_is_solution ["count", "rows", "numbers"] (spD K 3 m_is_solution) := okD (N := ["count", "rows", "numbers", "factors", "bound"]) (ps := ["count", "rows", "numbers"]) (k := 4) (b := b_is_solution) T.F_is_solution sc_is_solution fun cdv A outer s H E hr => by
  have nd := sc_is_solution.nd
  exact ⟨_, (ss_cons (ss_if (st_neT hr.units (se_c_len (by rfl) T.n_len boot_len_ (sa_cons (sv 2) sa_nil)) (sv 0))
      (ss_one (ss_ret se_bl))
      ss_nil)
    (ss_one (ss_ret (se_c_all (by rfl) T.n_all boot_all_ (sa_cons (se_lc (own := [("factors", 3), ("bound", 4)]) rfl nd (si_seq (sv 1)) (blkOk_by (N := ["count", "rows", "numbers", "factors", "bound"]) (sc := defScope s_is_solution) (by decide +kernel)) (fun _ _ _ _ _ => (sg_tup2 rfl (pgs_cons (pg_name (i := 3) nd rfl (by first | exact Or.inl rfl | exact Or.inr rfl)) (pgs_cons (pg_name (i := 4) nd rfl (by first | exact Or.inl rfl | exact Or.inr rfl)) pgs_nil)))) (by decide) (fun _ _ _ _ _ => sts_nil) (fun _ _ _ _ _ => (se_eqT hr.units (se_call (ok__row_value T) (hr.mono (by decide)) (by rfl) T.g__row_value T.F__row_value.kp T.b__row_value (sa_cons (sv 3) (sa_cons (sv 2) sa_nil))) (sv 4)))) sa_nil)))))⟩
theorem ok_is_direction (T : Tx K mg) : FnOk P w K mg base CX0 5 T.f_is_direction T.fd_is_direction ["count", "rows", "numbers"] (spD K 3 m_is_direction) := okD (N := ["count", "rows", "numbers", "factors", "_"]) (ps := ["count", "rows", "numbers"]) (k := 4) (b := b_is_direction) T.F_is_direction sc_is_direction fun cdv A outer s H E hr => by
  have nd := sc_is_direction.nd
  exact ⟨_, (ss_cons (ss_if (SW.st (sw_or (st_neT hr.units (se_c_len (by rfl) T.n_len boot_len_ (sa_cons (sv 2) sa_nil)) (sv 0)) (sw_or1 (st_eqT hr.units (sv 2) (se_rep (sa_cons (se_glob (v := .ref T.a_ZERO) (by rfl) T.c_ZERO rfl T.d_ZERO) sa_nil) (sv 0))))))
      (ss_one (ss_ret se_bl))
      ss_nil)
    (ss_one (ss_ret (se_c_all (by rfl) T.n_all boot_all_ (sa_cons (se_lc (own := [("factors", 3), ("_", 4)]) rfl nd (si_seq (sv 1)) (blkOk_by (N := ["count", "rows", "numbers", "factors", "_"]) (sc := defScope s_is_direction) (by decide +kernel)) (fun _ _ _ _ _ => (sg_tup2 rfl (pgs_cons (pg_name (i := 3) nd rfl (by first | exact Or.inl rfl | exact Or.inr rfl)) (pgs_cons (pg_name (i := 4) nd rfl (by first | exact Or.inl rfl | exact Or.inr rfl)) pgs_nil)))) (by decide) (fun _ _ _ _ _ => sts_nil) (fun _ _ _ _ _ => (se_eqT hr.units (se_call (ok__row_value T) (hr.mono (by decide)) (by rfl) T.g__row_value T.F__row_value.kp T.b__row_value (sa_cons (sv 3) (sa_cons (sv 2) sa_nil))) (se_glob (v := .ref T.a_ZERO) (by rfl) T.c_ZERO rfl T.d_ZERO)))) sa_nil)))))⟩
theorem ok__added_up (T : Tx K mg) : FnOk P w K mg base CX0 5 T.f__added_up T.fd__added_up ["count", "rows", "multipliers"] (spD K 3 m__added_up) := okD (N := ["count", "rows", "multipliers", "factors", "at", "row"]) (ps := ["count", "rows", "multipliers"]) (k := 4) (b := b__added_up) T.F__added_up sc__added_up fun cdv A outer s H E hr => by
  have nd := sc__added_up.nd
  exact ⟨_, (ss_cons (ss_setLc (i := 3) (own := [("at", 4)]) rfl nd rfl rfl (sw_true rfl rfl rfl (by decide +kernel)) (si_r1 (by rfl) T.n_range (sa_cons (sv 0) sa_nil)) (blkOk_by (N := ["count", "rows", "multipliers", "factors", "at", "row"]) (sc := defScope s__added_up) (by decide +kernel)) (fun _ _ _ _ _ => (sg_name (i := 4) nd rfl (by first | exact Or.inl rfl | exact Or.inr rfl))) (by decide) (fun _ _ _ _ _ => sts_nil) (fun _ _ _ _ _ => (se_call (ok__row_value T) (hr.mono (by decide)) (by rfl) T.g__row_value T.F__row_value.kp T.b__row_value (sa_cons (se_lc (own := [("row", 5)]) rfl nd (si_seq (sv 1)) (blkOk_by (N := ["count", "rows", "multipliers", "factors", "at", "row"]) (sc := _) (by kernel_rfl)) (fun _ _ _ _ _ => (sg_name (i := 5) nd rfl (by first | exact Or.inl rfl | exact Or.inr rfl))) (by decide) (fun _ _ _ _ _ => sts_nil) (fun _ _ _ _ _ => (se_ix (se_ix (sv 5) se_int) (sv 4)))) (sa_cons (sv 2) sa_nil)))))
    (ss_one (ss_frz 3 (ss_ret (se_tup (sa_cons (sv 3) (sa_cons (se_call (ok__row_value T) (hr.mono (by decide)) (by rfl) T.g__row_value T.F__row_value.kp T.b__row_value (sa_cons (se_lc (own := [("row", 5)]) rfl nd (si_seq (sv 1)) (blkOk_by (N := ["count", "rows", "multipliers", "factors", "at", "row"]) (sc := defScope s__added_up) (by decide +kernel)) (fun _ _ _ _ _ => (sg_name (i := 5) nd rfl (by first | exact Or.inl rfl | exact Or.inr rfl))) (by decide) (fun _ _ _ _ _ => sts_nil) (fun _ _ _ _ _ => (se_ix (sv 5) se_int))) (sa_cons (sv 2) sa_nil))) sa_nil)))))))⟩
theorem ok__law_dot (T : Tx K mg) : FnOk P w K mg base CX0 5 T.f__law_dot T.fd__law_dot ["a", "b"] (spD K 2 m__law_dot) := okD (N := ["a", "b", "k"]) (ps := ["a", "b"]) (k := 4) (b := b__law_dot) T.F__law_dot sc__law_dot fun cdv A outer s H E hr => by
  have nd := sc__law_dot.nd
  exact ⟨_, (ss_one (ss_ret (se_call (ok__law_sum T) (hr.mono (by decide)) (by rfl) T.g__law_sum T.F__law_sum.kp T.b__law_sum (sa_cons (se_lc (own := [("k", 2)]) rfl nd (si_r1 (by rfl) T.n_range (sa_cons (se_c_len (by rfl) T.n_len boot_len_ (sa_cons (sv 0) sa_nil)) sa_nil)) (blkOk_by (N := ["a", "b", "k"]) (sc := defScope s__law_dot) (by decide +kernel)) (fun _ _ _ _ _ => (sg_name (i := 2) nd rfl (by first | exact Or.inl rfl | exact Or.inr rfl))) (by decide) (fun _ _ _ _ _ => sts_nil) (fun _ _ _ _ _ => (se_call (ok__law_times T) (hr.mono (by decide)) (by rfl) T.g__law_times T.F__law_times.kp T.b__law_times (sa_cons (se_ix (sv 0) (sv 2)) (sa_cons (se_ix (sv 1) (sv 2)) sa_nil))))) sa_nil))))⟩
theorem ok__law_mixed (T : Tx K mg) : FnOk P w K mg base CX0 5 T.f__law_mixed T.fd__law_mixed ["rows", "draws"] (spD K 2 m__law_mixed) := okD (N := ["rows", "draws", "found", "k", "at", "other"]) (ps := ["rows", "draws"]) (k := 4) (b := b__law_mixed) T.F__law_mixed sc__law_mixed fun cdv A outer s H E hr => by
  have nd := sc__law_mixed.nd
  exact ⟨_, (ss_cons (ss_set (i := 2) nd rfl (by first | exact Or.inl rfl | exact Or.inr rfl) (se_c_list (by rfl) T.n_list boot_list_ (sa_cons (sv 0) sa_nil)))
    (ss_cons (ss_for PassesOwn.never rfl (si_r1 (by rfl) T.n_range (sa_cons se_int sa_nil)) (sg_name (i := 3) nd rfl (by first | exact Or.inl rfl | exact Or.inr rfl))
      (ss_one (ss_if (st_gt (se_peek (se_c_len (by rfl) T.n_len boot_len_ (sa_cons (sv 2) sa_nil))) se_int)
      (ss_cons (ss_set (i := 4) nd rfl (by first | exact Or.inl rfl | exact Or.inr rfl) (se_mod (se_c_int (by rfl) T.n_int boot_int_ (sa_cons (se_ix (sv 1) (se_mul se_int (sv 3))) sa_nil)) (se_peek (se_c_len (by rfl) T.n_len boot_len_ (sa_cons (sv 2) sa_nil)))))
    (ss_cons (ss_set (i := 5) nd rfl (by first | exact Or.inl rfl | exact Or.inr rfl) (se_mod (se_add (se_add (sv 4) se_int) (se_mod (se_c_int (by rfl) T.n_int boot_int_ (sa_cons (se_ix (sv 1) (se_add (se_mul se_int (sv 3)) se_int)) sa_nil)) (se_sub (se_peek (se_c_len (by rfl) T.n_len boot_len_ (sa_cons (sv 2) sa_nil))) se_int))) (se_peek (se_c_len (by rfl) T.n_len boot_len_ (sa_cons (sv 2) sa_nil)))))
    (ss_one (ss_put (se_call (ok__law_plus_row T) (hr.mono (by decide)) (by rfl) T.g__law_plus_row T.F__law_plus_row.kp T.b__law_plus_row (sa_cons (se_ixO (ov 2) (sv 4)) (sa_cons (se_ixO (ov 2) (sv 5)) (sa_cons (se_ix (se_lst (sa_cons (se_tup (sa_cons se_int (sa_cons se_int sa_nil))) (sa_cons (se_tup (sa_cons (se_neg se_int) (sa_cons se_int sa_nil))) (sa_cons (se_tup (sa_cons se_int (sa_cons se_int sa_nil))) sa_nil)))) (se_mod (se_c_int (by rfl) T.n_int boot_int_ (sa_cons (se_fdiv (se_ix (sv 1) (se_mul se_int (sv 3))) se_int) sa_nil)) se_int)) sa_nil)))) (ov 2) (sv 4)))))
      ss_nil)))
    (ss_cons (ss_if (SW.st (sw_and (st_gt (se_peek (se_c_len (by rfl) T.n_len boot_len_ (sa_cons (sv 2) sa_nil))) se_int) (sw_and1 (st_eqT hr.units (se_mod (se_c_int (by rfl) T.n_int boot_int_ (sa_cons (se_ix (sv 1) se_int) sa_nil)) se_int) se_int))))
      (ss_one (ss_append (ov 2) (se_call (ok__law_plus_row T) (hr.mono (by decide)) (by rfl) T.g__law_plus_row T.F__law_plus_row.kp T.b__law_plus_row (sa_cons (se_ixO (ov 2) se_int) (sa_cons (se_ixO (ov 2) (se_neg se_int)) (sa_cons (se_tup (sa_cons (se_neg se_int) (sa_cons se_int sa_nil))) sa_nil))))))
      ss_nil)
    (ss_cons (ss_if (st_eqT hr.units (se_mod (se_c_int (by rfl) T.n_int boot_int_ (sa_cons (se_ix (sv 1) se_int) sa_nil)) se_int) se_int)
      (ss_one (ss_frz 2 (ss_ret (se_rev (sv 2)))))
      ss_nil)
    (ss_one (ss_retO (ov 2)))))))⟩
theorem ok_refutes (T : Tx K mg) : FnOk P w K mg base CX0 6 T.f_refutes T.fd_refutes ["count", "rows", "multipliers"] (spD K 3 m_refutes) := okD (N := ["count", "rows", "multipliers", "factors", "bound"]) (ps := ["count", "rows", "multipliers"]) (k := 5) (b := b_refutes) T.F_refutes sc_refutes fun cdv A outer s H E hr => by
  have nd := sc_refutes.nd
  exact ⟨_, (ss_cons (ss_if (st_neT hr.units (se_c_len (by rfl) T.n_len boot_len_ (sa_cons (sv 2) sa_nil)) (se_c_len (by rfl) T.n_len boot_len_ (sa_cons (sv 1) sa_nil)))
      (ss_one (ss_ret se_bl))
      ss_nil)
    (ss_cons (ss_asg (se_call (ok__added_up T) (hr.mono (by decide)) (by rfl) T.g__added_up T.F__added_up.kp T.b__added_up (sa_cons (sv 0) (sa_cons (sv 1) (sa_cons (sv 2) sa_nil)))) (sg_tup2 rfl (pgs_cons (pg_name (i := 3) nd rfl (by first | exact Or.inl rfl | exact Or.inr rfl)) (pgs_cons (pg_name (i := 4) nd rfl (by first | exact Or.inl rfl | exact Or.inr rfl)) pgs_nil))))
    (ss_one (ss_ret (se_and (se_eqT hr.units (sv 3) (se_rep (sa_cons (se_glob (v := .ref T.a_ZERO) (by rfl) T.c_ZERO rfl T.d_ZERO) sa_nil) (sv 0))) (se_one (se_neT hr.units (sv 4) (se_glob (v := .ref T.a_ZERO) (by rfl) T.c_ZERO rfl T.d_ZERO))))))))⟩
theorem ok__law_value (T : Tx K mg) : FnOk P w K mg base CX0 6 T.f__law_value T.fd__law_value ["factors", "numbers"] (spD K 2 m__law_value) := okD (N := ["factors", "numbers"]) (ps := ["factors", "numbers"]) (k := 5) (b := b__law_value) T.F__law_value sc__law_value fun cdv A outer s H E hr => by
  have nd := sc__law_value.nd
  exact ⟨_, (ss_one (ss_ret (se_call (ok__law_dot T) (hr.mono (by decide)) (by rfl) T.g__law_dot T.F__law_dot.kp T.b__law_dot (sa_cons (sv 0) (sa_cons (sv 1) sa_nil)))))⟩
theorem ok__law_added (T : Tx K mg) : FnOk P w K mg base CX0 6 T.f__law_added T.fd__law_added ["count", "rows", "multipliers"] (spD K 3 m__law_added) := okD (N := ["count", "rows", "multipliers", "factors", "place", "row"]) (ps := ["count", "rows", "multipliers"]) (k := 5) (b := b__law_added) T.F__law_added sc__law_added fun cdv A outer s H E hr => by
  have nd := sc__law_added.nd
  exact ⟨_, (ss_cons (ss_setLc (i := 3) (own := [("place", 4)]) rfl nd rfl rfl (sw_true rfl rfl rfl (by decide +kernel)) (si_r1 (by rfl) T.n_range (sa_cons (sv 0) sa_nil)) (blkOk_by (N := ["count", "rows", "multipliers", "factors", "place", "row"]) (sc := defScope s__law_added) (by decide +kernel)) (fun _ _ _ _ _ => (sg_name (i := 4) nd rfl (by first | exact Or.inl rfl | exact Or.inr rfl))) (by decide) (fun _ _ _ _ _ => sts_nil) (fun _ _ _ _ _ => (se_call (ok__law_dot T) (hr.mono (by decide)) (by rfl) T.g__law_dot T.F__law_dot.kp T.b__law_dot (sa_cons (se_lc (own := [("row", 5)]) rfl nd (si_seq (sv 1)) (blkOk_by (N := ["count", "rows", "multipliers", "factors", "place", "row"]) (sc := _) (by kernel_rfl)) (fun _ _ _ _ _ => (sg_name (i := 5) nd rfl (by first | exact Or.inl rfl | exact Or.inr rfl))) (by decide) (fun _ _ _ _ _ => sts_nil) (fun _ _ _ _ _ => (se_ix (se_ix (sv 5) se_int) (sv 4)))) (sa_cons (sv 2) sa_nil)))))
    (ss_one (ss_frz 3 (ss_ret (se_tup (sa_cons (sv 3) (sa_cons (se_call (ok__law_dot T) (hr.mono (by decide)) (by rfl) T.g__law_dot T.F__law_dot.kp T.b__law_dot (sa_cons (se_lc (own := [("row", 5)]) rfl nd (si_seq (sv 1)) (blkOk_by (N := ["count", "rows", "multipliers", "factors", "place", "row"]) (sc := defScope s__law_added) (by decide +kernel)) (fun _ _ _ _ _ => (sg_name (i := 5) nd rfl (by first | exact Or.inl rfl | exact Or.inr rfl))) (by decide) (fun _ _ _ _ _ => sts_nil) (fun _ _ _ _ _ => (se_ix (sv 5) se_int))) (sa_cons (sv 2) sa_nil))) sa_nil)))))))⟩
theorem ok__law_solves (T : Tx K mg) : FnOk P w K mg base CX0 7 T.f__law_solves T.fd__law_solves ["count", "rows", "numbers"] (spD K 3 m__law_solves) := okD (N := ["count", "rows", "numbers", "row"]) (ps := ["count", "rows", "numbers"]) (k := 6) (b := b__law_solves) T.F__law_solves sc__law_solves fun cdv A outer s H E hr => by
  have nd := sc__law_solves.nd
  exact ⟨_, (ss_cons (ss_if (st_neT hr.units (se_c_len (by rfl) T.n_len boot_len_ (sa_cons (sv 2) sa_nil)) (sv 0))
      (ss_one (ss_ret se_bl))
      ss_nil)
    (ss_one (ss_ret (se_eqT hr.units (se_c_len (by rfl) T.n_len boot_len_ (sa_cons (se_lc (own := [("row", 3)]) rfl nd (si_seq (sv 1)) (blkOk_by (N := ["count", "rows", "numbers", "row"]) (sc := defScope s__law_solves) (by decide +kernel)) (fun _ _ _ _ _ => (sg_name (i := 3) nd rfl (by first | exact Or.inl rfl | exact Or.inr rfl))) (by decide) (fun _ _ _ _ _ => (sts_one (st_neT hr.units (se_call (ok__law_value T) (hr.mono (by decide)) (by rfl) T.g__law_value T.F__law_value.kp T.b__law_value (sa_cons (se_ix (sv 3) se_int) (sa_cons (sv 2) sa_nil))) (se_ix (sv 3) se_int)))) (fun _ _ _ _ _ => (sv 3))) sa_nil)) se_int))))⟩
theorem ok__law_directs (T : Tx K mg) : FnOk P w K mg base CX0 7 T.f__law_directs T.fd__law_directs ["count", "rows", "numbers"] (spD K 3 m__law_directs) := okD (N := ["count", "rows", "numbers", "row", "one"]) (ps := ["count", "rows", "numbers"]) (k := 6) (b := b__law_directs) T.F__law_directs sc__law_directs fun cdv A outer s H E hr => by
  have nd := sc__law_directs.nd
  exact ⟨_, (ss_cons (ss_if (SW.st (sw_or (st_neT hr.units (se_c_len (by rfl) T.n_len boot_len_ (sa_cons (sv 2) sa_nil)) (sv 0)) (sw_or1 (st_eqT hr.units (se_c_len (by rfl) T.n_len boot_len_ (sa_cons (se_lc (own := [("one", 4)]) rfl nd (si_seq (sv 2)) (blkOk_by (N := ["count", "rows", "numbers", "row", "one"]) (sc := defScope s__law_directs) (by decide +kernel)) (fun _ _ _ _ _ => (sg_name (i := 4) nd rfl (by first | exact Or.inl rfl | exact Or.inr rfl))) (by decide) (fun _ _ _ _ _ => (sts_one (st_neT hr.units (se_ix (sv 4) se_int) se_int))) (fun _ _ _ _ _ => (sv 4))) sa_nil)) se_int))))
      (ss_one (ss_ret se_bl))
      ss_nil)
    (ss_one (ss_ret (se_eqT hr.units (se_c_len (by rfl) T.n_len boot_len_ (sa_cons (se_lc (own := [("row", 3)]) rfl nd (si_seq (sv 1)) (blkOk_by (N := ["count", "rows", "numbers", "row", "one"]) (sc := defScope s__law_directs) (by decide +kernel)) (fun _ _ _ _ _ => (sg_name (i := 3) nd rfl (by first | exact Or.inl rfl | exact Or.inr rfl))) (by decide) (fun _ _ _ _ _ => (sts_one (st_neT hr.units (se_ix (se_call (ok__law_value T) (hr.mono (by decide)) (by rfl) T.g__law_value T.F__law_value.kp T.b__law_value (sa_cons (se_ix (sv 3) se_int) (sa_cons (sv 2) sa_nil))) se_int) se_int))) (fun _ _ _ _ _ => (sv 3))) sa_nil)) se_int))))⟩
theorem ok__law_refutes (T : Tx K mg) : FnOk P w K mg base CX0 7 T.f__law_refutes T.fd__law_refutes ["count", "rows", "multipliers"] (spD K 3 m__law_refutes) := okD (N := ["count", "rows", "multipliers", "factors", "bound", "one"]) (ps := ["count", "rows", "multipliers"]) (k := 6) (b := b__law_refutes) T.F__law_refutes sc__law_refutes fun cdv A outer s H E hr => by
  have nd := sc__law_refutes.nd
  exact ⟨_, (ss_cons (ss_if (st_neT hr.units (se_c_len (by rfl) T.n_len boot_len_ (sa_cons (sv 2) sa_nil)) (se_c_len (by rfl) T.n_len boot_len_ (sa_cons (sv 1) sa_nil)))
      (ss_one (ss_ret se_bl))
      ss_nil)
    (ss_cons (ss_asg (se_call (ok__law_added T) (hr.mono (by decide)) (by rfl) T.g__law_added T.F__law_added.kp T.b__law_added (sa_cons (sv 0) (sa_cons (sv 1) (sa_cons (sv 2) sa_nil)))) (sg_tup2 rfl (pgs_cons (pg_name (i := 3) nd rfl (by first | exact Or.inl rfl | exact Or.inr rfl)) (pgs_cons (pg_name (i := 4) nd rfl (by first | exact Or.inl rfl | exact Or.inr rfl)) pgs_nil))))
    (ss_one (ss_ret (se_and (se_eqT hr.units (se_c_len (by rfl) T.n_len boot_len_ (sa_cons (se_lc (own := [("one", 5)]) rfl nd (si_seq (sv 3)) (blkOk_by (N := ["count", "rows", "multipliers", "factors", "bound", "one"]) (sc := defScope s__law_refutes) (by decide +kernel)) (fun _ _ _ _ _ => (sg_name (i := 5) nd rfl (by first | exact Or.inl rfl | exact Or.inr rfl))) (by decide) (fun _ _ _ _ _ => (sts_one (st_neT hr.units (se_ix (sv 5) se_int) se_int))) (fun _ _ _ _ _ => (sv 5))) sa_nil)) se_int) (se_one (se_neT hr.units (se_ix (sv 4) se_int) se_int)))))))⟩
theorem ok__law_steps (T : Tx K mg) : FnOk P w K mg base CX0 7 T.f__law_steps T.fd__law_steps ["count", "numbers", "draws", "places"] (spD K 4 m__law_steps) := okD (N := ["count", "numbers", "draws", "places", "rows", "place", "factors", "k"]) (ps := ["count", "numbers", "draws", "places"]) (k := 6) (b := b__law_steps) T.F__law_steps sc__law_steps fun cdv A outer s H E hr => by
  have nd := sc__law_steps.nd
  exact ⟨_, (ss_cons (ss_set (i := 4) nd rfl (by first | exact Or.inl rfl | exact Or.inr rfl) (se_lst sa_nil))
    (ss_cons (ss_for PassesOwn.never rfl (si_seq (sv 3)) (sg_name (i := 5) nd rfl (by first | exact Or.inl rfl | exact Or.inr rfl))
      (ss_cons (ss_setLc (i := 6) (own := [("k", 7)]) rfl nd rfl rfl (sw_true rfl rfl rfl (by decide +kernel)) (si_r1 (by rfl) T.n_range (sa_cons (sv 0) sa_nil)) (blkOk_by (N := ["count", "numbers", "draws", "places", "rows", "place", "factors", "k"]) (sc := defScope s__law_steps) (by decide +kernel)) (fun _ _ _ _ _ => (sg_name (i := 7) nd rfl (by first | exact Or.inl rfl | exact Or.inr rfl))) (by decide) (fun _ _ _ _ _ => sts_nil) (fun _ _ _ _ _ => (se_call (ok__law_small T) (hr.mono (by decide)) (by rfl) T.g__law_small T.F__law_small.kp T.b__law_small (sa_cons (se_ix (sv 2) (se_add (se_mul se_int (sv 5)) (sv 7))) sa_nil))))
    (ss_cons (ss_for PassesOwn.never rfl (si_r1 (by rfl) T.n_range (sa_cons (sv 0) sa_nil)) (sg_name (i := 7) nd rfl (by first | exact Or.inl rfl | exact Or.inr rfl))
      (ss_one (ss_if (st_gt (sv 7) (sv 5))
      (ss_one (ss_put (se_tup (sa_cons se_int (sa_cons se_int sa_nil))) (ov 6) (sv 7)))
      ss_nil)))
    (ss_cons (ss_if (st_eqT hr.units (se_ix (se_ixO (ov 6) (sv 5)) se_int) se_int)
      (ss_one (ss_put (se_ix (se_lst (sa_cons (se_tup (sa_cons se_int (sa_cons se_int sa_nil))) (sa_cons (se_tup (sa_cons (se_neg se_int) (sa_cons se_int sa_nil))) (sa_cons (se_tup (sa_cons se_int (sa_cons se_int sa_nil))) sa_nil)))) (se_mod (se_c_int (by rfl) T.n_int boot_int_ (sa_cons (se_ix (sv 2) (se_add (se_mul se_int (sv 5)) se_int)) sa_nil)) se_int)) (ov 6) (sv 5)))
      ss_nil)
    (ss_one (ss_frz 6 (ss_append (ov 4) (se_tup (sa_cons (sv 6) (sa_cons (se_call (ok__law_value T) (hr.mono (by decide)) (by rfl) T.g__law_value T.F__law_value.kp T.b__law_value (sa_cons (sv 6) (sa_cons (sv 1) sa_nil))) sa_nil))))))))))
    (ss_one (ss_retO (ov 4)))))⟩
theorem ok_law (T : Tx K mg) (cdv : Value) (s : Shared) (H : Hp) (hr : Room 7 (callerA.deeper (envOfC "law" (defScope s_law) s.heap.objs.size T.f_law cdv))) : ∃ t, SSs (cxOf CX0 P w K mg base ["script", "draws", "count", "numbers", "places", "rows", "others", "tried", "k", "at", "kept", "one", "actual", "due", "row", "n", "answer"] "law" (defScope s_law) T.f_law cdv callerA [] s H E0).nox (defBody s_law) t b_law := by
  have nd := sc_law.nd
  exact ⟨_, (ss_cons (ss_set (i := 1) nd rfl (by first | exact Or.inl rfl | exact Or.inr rfl) (se_call (ok__law_draws T) (hr.mono (by decide)) (by rfl) T.g__law_draws T.F__law_draws.kp T.b__law_draws (sa_cons (sv 0) (sa_cons se_int sa_nil))))
    (ss_cons (ss_set (i := 2) nd rfl (by first | exact Or.inl rfl | exact Or.inr rfl) (se_add se_int (se_mod (se_c_int (by rfl) T.n_int boot_int_ (sa_cons (se_ixO (ov 1) se_int) sa_nil)) se_int)))
    (ss_cons (ss_set (i := 3) nd rfl (by first | exact Or.inl rfl | exact Or.inr rfl) (se_call (ok__law_numbers T) (hr.mono (by decide)) (by rfl) T.g__law_numbers T.F__law_numbers.kp T.b__law_numbers (sa_cons (se_slO (ov 1) (so_some se_int) (so_some se_int)) (sa_cons (sv 2) sa_nil))))
    (ss_cons (ss_setLc (i := 4) (own := [("k", 8)]) rfl nd rfl rfl (sw_true rfl rfl rfl (by decide +kernel)) (si_r1 (by rfl) T.n_range (sa_cons (sv 2) sa_nil)) (blkOk_by (N := ["script", "draws", "count", "numbers", "places", "rows", "others", "tried", "k", "at", "kept", "one", "actual", "due", "row", "n", "answer"]) (sc := defScope s_law) (by decide +kernel)) (fun _ _ _ _ _ => (sg_name (i := 8) nd rfl (by first | exact Or.inl rfl | exact Or.inr rfl))) (by decide) (fun _ _ _ _ _ => (sts_one (st_gt (se_mod (se_c_int (by rfl) T.n_int boot_int_ (sa_cons (se_ixO (ov 1) (se_add se_int (sv 8))) sa_nil)) se_int) se_int))) (fun _ _ _ _ _ => (sv 8)))
    (ss_cons (ss_frz 3 (ss_frz 4 (ss_set (i := 5) nd rfl (by first | exact Or.inl rfl | exact Or.inr rfl) (se_call (ok__law_mixed T) (hr.mono (by decide)) (by rfl) T.g__law_mixed T.F__law_mixed.kp T.b__law_mixed (sa_cons (se_call (ok__law_steps T) (hr.mono (by decide)) (by rfl) T.g__law_steps T.F__law_steps.kp T.b__law_steps (sa_cons (sv 2) (sa_cons (sv 3) (sa_cons (se_slO (ov 1) (so_some se_int) (so_some se_int)) (sa_cons (sv 4) sa_nil))))) (sa_cons (se_slO (ov 1) (so_some se_int) (so_some se_int)) sa_nil))))))
    (ss_cons (ss_if (st_eqT hr.units (se_mod (se_c_int (by rfl) T.n_int boot_int_ (sa_cons (se_ixO (ov 1) se_int) sa_nil)) se_int) se_int)
      (ss_one (ss_frz 5 (ss_setLc (i := 5) (own := [("k", 8), ("row", 14)]) rfl nd rfl rfl (sw_true rfl rfl rfl (by decide +kernel)) (si_enum (by rfl) T.n_enumerate (sa_cons (sv 5) sa_nil)) (blkOk_by (N := ["script", "draws", "count", "numbers", "places", "rows", "others", "tried", "k", "at", "kept", "one", "actual", "due", "row", "n", "answer"]) (sc := defScope s_law) (by decide +kernel)) (fun _ _ _ _ _ => (sg_tup2 rfl (pgs_cons (pg_name (i := 8) nd rfl (by first | exact Or.inl rfl | exact Or.inr rfl)) (pgs_cons (pg_name (i := 14) nd rfl (by first | exact Or.inl rfl | exact Or.inr rfl)) pgs_nil)))) (by decide) (fun _ _ _ _ _ => sts_nil) (fun _ _ _ _ _ => (se_tup (sa_cons (se_ix (sv 14) se_int) (sa_cons (se_ix (se_lst (sa_cons (se_call (ok__law_small T) (hr.mono (by decide)) (by rfl) T.g__law_small T.F__law_small.kp T.b__law_small (sa_cons (se_ixO (ov 1) (se_add se_int (sv 8))) sa_nil)) (sa_cons (se_ix (sv 14) se_int) sa_nil))) (se_mod (se_c_int (by rfl) T.n_int boot_int_ (sa_cons (se_ixO (ov 1) (se_add se_int (sv 8))) sa_nil)) se_int)) sa_nil)))))))
      ss_nil)
    (ss_cons (ss_frz 5 (ss_if (st_not (st_val (se_call (ok__law_short T) (hr.mono (by decide)) (by rfl) T.g__law_short T.F__law_short.kp T.b__law_short (sa_cons (sv 5) sa_nil))))
      (ss_one (ss_ret se_bl))
      ss_nil))
    (ss_cons (ss_set (i := 6) nd rfl (by first | exact Or.inl rfl | exact Or.inr rfl) (se_call (ok__law_numbers T) (hr.mono (by decide)) (by rfl) T.g__law_numbers T.F__law_numbers.kp T.b__law_numbers (sa_cons (se_slO (ov 1) (so_some se_int) (so_some se_int)) (sa_cons (sv 2) sa_nil))))
    (ss_cons (ss_frz 6 (ss_set (i := 7) nd rfl (by first | exact Or.inl rfl | exact Or.inr rfl) (se_lst (sa_cons (sv 3) (sa_cons (sv 6) (sa_cons (se_lc (own := [("k", 8)]) rfl nd (si_r1 (by rfl) T.n_range (sa_cons (sv 2) sa_nil)) (blkOk_by (N := ["script", "draws", "count", "numbers", "places", "rows", "others", "tried", "k", "at", "kept", "one", "actual", "due", "row", "n", "answer"]) (sc := defScope s_law) (by decide +kernel)) (fun _ _ _ _ _ => (sg_name (i := 8) nd rfl (by first | exact Or.inl rfl | exact Or.inr rfl))) (by decide) (fun _ _ _ _ _ => sts_nil) (fun _ _ _ _ _ => (se_call (ok__law_minus T) (hr.mono (by decide)) (by rfl) T.g__law_minus T.F__law_minus.kp T.b__law_minus (sa_cons (se_ix (sv 3) (sv 8)) (sa_cons (se_ix (sv 6) (sv 8)) sa_nil))))) (sa_cons (se_lc (own := [("k", 8)]) rfl nd (si_r1 (by rfl) T.n_range (sa_cons (sv 2) sa_nil)) (blkOk_by (N := ["script", "draws", "count", "numbers", "places", "rows", "others", "tried", "k", "at", "kept", "one", "actual", "due", "row", "n", "answer"]) (sc := defScope s_law) (by decide +kernel)) (fun _ _ _ _ _ => (sg_name (i := 8) nd rfl (by first | exact Or.inl rfl | exact Or.inr rfl))) (by decide) (fun _ _ _ _ _ => sts_nil) (fun _ _ _ _ _ => (se_tup (sa_cons se_int (sa_cons se_int sa_nil))))) sa_nil)))))))
    (ss_cons (ss_append (ov 7) (se_lc (own := [("row", 14)]) rfl nd (si_seq (sv 5)) (blkOk_by (N := ["script", "draws", "count", "numbers", "places", "rows", "others", "tried", "k", "at", "kept", "one", "actual", "due", "row", "n", "answer"]) (sc := defScope s_law) (by decide +kernel)) (fun _ _ _ _ _ => (sg_name (i := 14) nd rfl (by first | exact Or.inl rfl | exact Or.inr rfl))) (by decide) (fun _ _ _ _ _ => sts_nil) (fun _ _ _ _ _ => (se_tup (sa_cons se_int (sa_cons se_int sa_nil))))))
    (ss_cons (ss_append (ov 7) (se_call (ok__law_numbers T) (hr.mono (by decide)) (by rfl) T.g__law_numbers T.F__law_numbers.kp T.b__law_numbers (sa_cons (se_slO (ov 1) (so_some se_int) (so_some se_int)) (sa_cons (se_c_len (by rfl) T.n_len boot_len_ (sa_cons (sv 5) sa_nil)) sa_nil))))
    (ss_cons (ss_append (ov 7) (se_sl (sv 3) (so_some se_int) so_none))
    (ss_cons (ss_append (ov 7) (se_add (sv 3) (se_lst (sa_cons (se_tup (sa_cons se_int (sa_cons se_int sa_nil))) sa_nil))))
    (ss_cons (ss_for PassesOwn.never rfl (si_r1 (by rfl) T.n_range (sa_cons (se_c_len (by rfl) T.n_len boot_len_ (sa_cons (sv 5) sa_nil)) sa_nil)) (sg_name (i := 8) nd rfl (by first | exact Or.inl rfl | exact Or.inr rfl))
      (ss_one (ss_append (ov 7) (se_lc (own := [("n", 15)]) rfl nd (si_r1 (by rfl) T.n_range (sa_cons (se_c_len (by rfl) T.n_len boot_len_ (sa_cons (sv 5) sa_nil)) sa_nil)) (blkOk_by (N := ["script", "draws", "count", "numbers", "places", "rows", "others", "tried", "k", "at", "kept", "one", "actual", "due", "row", "n", "answer"]) (sc := defScope s_law) (by decide +kernel)) (fun _ _ _ _ _ => (sg_name (i := 15) nd rfl (by first | exact Or.inl rfl | exact Or.inr rfl))) (by decide) (fun _ _ _ _ _ => sts_nil) (fun _ _ _ _ _ => (se_ix (se_lst (sa_cons (se_tup (sa_cons se_int (sa_cons se_int sa_nil))) (sa_cons (se_tup (sa_cons se_int (sa_cons se_int sa_nil))) sa_nil))) (se_c_int (by rfl) T.n_int boot_int_ (sa_cons (se_eqT hr.units (sv 15) (sv 8)) sa_nil))))))))
    (ss_cons (ss_set (i := 9) nd rfl (by first | exact Or.inl rfl | exact Or.inr rfl) (se_mod (se_c_int (by rfl) T.n_int boot_int_ (sa_cons (se_ixO (ov 1) se_int) sa_nil)) (sv 2)))
    (ss_cons (ss_append (ov 7) (se_lc (own := [("n", 15)]) rfl nd (si_r1 (by rfl) T.n_range (sa_cons (sv 2) sa_nil)) (blkOk_by (N := ["script", "draws", "count", "numbers", "places", "rows", "others", "tried", "k", "at", "kept", "one", "actual", "due", "row", "n", "answer"]) (sc := defScope s_law) (by decide +kernel)) (fun _ _ _ _ _ => (sg_name (i := 15) nd rfl (by first | exact Or.inl rfl | exact Or.inr rfl))) (by decide) (fun _ _ _ _ _ => sts_nil) (fun _ _ _ _ _ => (se_ix (se_lst (sa_cons (se_tup (sa_cons se_int (sa_cons se_int sa_nil))) (sa_cons (se_tup (sa_cons se_int (sa_cons se_int sa_nil))) sa_nil))) (se_c_int (by rfl) T.n_int boot_int_ (sa_cons (se_eqT hr.units (sv 15) (sv 9)) sa_nil))))))
    (ss_cons (ss_set (i := 10) nd rfl (by first | exact Or.inl rfl | exact Or.inr rfl) (se_peek (se_c_repr rfl hr.units66 (by rfl) T.n_repr boot_repr_ (sa_cons (se_tup (sa_cons (sv 5) (sa_cons (sv 7) sa_nil))) sa_nil))))
    (ss_cons (ss_frz 7 (ss_for PassesOwn.never rfl (si_seq (sv 7)) (sg_name (i := 11) nd rfl (by first | exact Or.inl rfl | exact Or.inr rfl))
      (ss_cons (ss_set (i := 12) nd rfl (by first | exact Or.inl rfl | exact Or.inr rfl) (se_lst (sa_cons (se_call (ok_is_solution T) (hr.mono (by decide)) (by rfl) T.g_is_solution T.F_is_solution.kp T.b_is_solution (sa_cons (sv 2) (sa_cons (sv 5) (sa_cons (sv 11) sa_nil)))) (sa_cons (se_call (ok_is_direction T) (hr.mono (by decide)) (by rfl) T.g_is_direction T.F_is_direction.kp T.b_is_direction (sa_cons (sv 2) (sa_cons (sv 5) (sa_cons (sv 11) sa_nil)))) (sa_cons (se_call (ok_refutes T) (hr.mono (by decide)) (by rfl) T.g_refutes T.F_refutes.kp T.b_refutes (sa_cons (sv 2) (sa_cons (sv 5) (sa_cons (sv 11) sa_nil)))) sa_nil)))))
    (ss_cons (ss_frz 12 (ss_if (st_not (st_val (se_c_all (by rfl) T.n_all boot_all_ (sa_cons (se_lc (own := [("answer", 16)]) rfl nd (si_seq (sv 12)) (blkOk_by (N := ["script", "draws", "count", "numbers", "places", "rows", "others", "tried", "k", "at", "kept", "one", "actual", "due", "row", "n", "answer"]) (sc := defScope s_law) (by decide +kernel)) (fun _ _ _ _ _ => (sg_name (i := 16) nd rfl (by first | exact Or.inl rfl | exact Or.inr rfl))) (by decide) (fun _ _ _ _ _ => sts_nil) (fun _ _ _ _ _ => (se_isi (T := "bool") (by decide) (by rfl) T.n_isinstance boot_isi (by rfl) T.n_bool boot_bool_ (sv 16)))) sa_nil))))
      (ss_one (ss_ret se_bl))
      ss_nil))
    (ss_cons (ss_set (i := 13) nd rfl (by first | exact Or.inl rfl | exact Or.inr rfl) (se_lst (sa_cons (se_call (ok__law_solves T) (hr.mono (by decide)) (by rfl) T.g__law_solves T.F__law_solves.kp T.b__law_solves (sa_cons (sv 2) (sa_cons (sv 5) (sa_cons (sv 11) sa_nil)))) (sa_cons (se_call (ok__law_directs T) (hr.mono (by decide)) (by rfl) T.g__law_directs T.F__law_directs.kp T.b__law_directs (sa_cons (sv 2) (sa_cons (sv 5) (sa_cons (sv 11) sa_nil)))) (sa_cons (se_call (ok__law_refutes T) (hr.mono (by decide)) (by rfl) T.g__law_refutes T.F__law_refutes.kp T.b__law_refutes (sa_cons (sv 2) (sa_cons (sv 5) (sa_cons (sv 11) sa_nil)))) sa_nil)))))
    (ss_one (ss_frz 13 (ss_if (st_neT hr.units (sv 12) (sv 13))
      (ss_one (ss_ret se_bl))
      ss_nil))))))))
    (ss_one (ss_ret (se_eqT hr.units (se_c_repr rfl hr.units66 (by rfl) T.n_repr boot_repr_ (sa_cons (se_tup (sa_cons (sv 5) (sa_cons (sv 7) sa_nil))) sa_nil)) (sv 10))))))))))))))))))))))⟩
end
theorem all_mk (hlaw : ∀ ns : List Int, ns.length ≤ 63 → m_law [.list (ns.map PyData.int)] = some (.val (.bool true))) {l : PySem.W.OpenLaw} {w : World} {K : PySem.W.Frag} {h : Heap} {mg : Str → Option Value} {fa : Addr} (X : K.In h) (G : h.Ns mainGlobals mg) (hfa : mg "law" = some (.ref fa))
    {od_number an_number : Option Addr} {sl_number : Array (Option Value)} {oc_number kV_number dc_number pm_number cd_number ct_number : Value} {f_number : Addr}
    (a_number : PySem.W.nsIn K mainGlobals "number" = some (some (.ref f_number))) (l_number : K.lookup f_number = some ⟨oc_number, od_number, .func (PySem.W.fnOf "number" "number" (defArgs s_number) (defBody s_number) (defScope s_number) .none kV_number dc_number pm_number an_number cd_number ct_number), sl_number⟩) (c_number : PySem.W.codeIn K cd_number "number" = true) (k_number : PySem.W.keepIn K (.ref f_number) = true)
    {od__law_draws an__law_draws : Option Addr} {sl__law_draws : Array (Option Value)} {oc__law_draws kV__law_draws dc__law_draws pm__law_draws cd__law_draws ct__law_draws : Value} {f__law_draws : Addr}
    (a__law_draws : PySem.W.nsIn K mainGlobals "_law_draws" = some (some (.ref f__law_draws))) (l__law_draws : K.lookup f__law_draws = some ⟨oc__law_draws, od__law_draws, .func (PySem.W.fnOf "_law_draws" "_law_draws" (defArgs s__law_draws) (defBody s__law_draws) (defScope s__law_draws) .none kV__law_draws dc__law_draws pm__law_draws an__law_draws cd__law_draws ct__law_draws), sl__law_draws⟩) (c__law_draws : PySem.W.codeIn K cd__law_draws "_law_draws" = true) (k__law_draws : PySem.W.keepIn K (.ref f__law_draws) = true)
    {od__law_gcd an__law_gcd : Option Addr} {sl__law_gcd : Array (Option Value)} {oc__law_gcd kV__law_gcd dc__law_gcd pm__law_gcd cd__law_gcd ct__law_gcd : Value} {f__law_gcd : Addr}
    (a__law_gcd : PySem.W.nsIn K mainGlobals "_law_gcd" = some (some (.ref f__law_gcd))) (l__law_gcd : K.lookup f__law_gcd = some ⟨oc__law_gcd, od__law_gcd, .func (PySem.W.fnOf "_law_gcd" "_law_gcd" (defArgs s__law_gcd) (defBody s__law_gcd) (defScope s__law_gcd) .none kV__law_gcd dc__law_gcd pm__law_gcd an__law_gcd cd__law_gcd ct__law_gcd), sl__law_gcd⟩) (c__law_gcd : PySem.W.codeIn K cd__law_gcd "_law_gcd" = true) (k__law_gcd : PySem.W.keepIn K (.ref f__law_gcd) = true)
    {od__law_short an__law_short : Option Addr} {sl__law_short : Array (Option Value)} {oc__law_short kV__law_short dc__law_short pm__law_short cd__law_short ct__law_short : Value} {f__law_short : Addr}
    (a__law_short : PySem.W.nsIn K mainGlobals "_law_short" = some (some (.ref f__law_short))) (l__law_short : K.lookup f__law_short = some ⟨oc__law_short, od__law_short, .func (PySem.W.fnOf "_law_short" "_law_short" (defArgs s__law_short) (defBody s__law_short) (defScope s__law_short) .none kV__law_short dc__law_short pm__law_short an__law_short cd__law_short ct__law_short), sl__law_short⟩) (c__law_short : PySem.W.codeIn K cd__law_short "_law_short" = true) (k__law_short : PySem.W.keepIn K (.ref f__law_short) = true)
    {od_plus an_plus : Option Addr} {sl_plus : Array (Option Value)} {oc_plus kV_plus dc_plus pm_plus cd_plus ct_plus : Value} {f_plus : Addr}
    (a_plus : PySem.W.nsIn K mainGlobals "plus" = some (some (.ref f_plus))) (l_plus : K.lookup f_plus = some ⟨oc_plus, od_plus, .func (PySem.W.fnOf "plus" "plus" (defArgs s_plus) (defBody s_plus) (defScope s_plus) .none kV_plus dc_plus pm_plus an_plus cd_plus ct_plus), sl_plus⟩) (c_plus : PySem.W.codeIn K cd_plus "plus" = true) (k_plus : PySem.W.keepIn K (.ref f_plus) = true)
    {od_times an_times : Option Addr} {sl_times : Array (Option Value)} {oc_times kV_times dc_times pm_times cd_times ct_times : Value} {f_times : Addr}
    (a_times : PySem.W.nsIn K mainGlobals "times" = some (some (.ref f_times))) (l_times : K.lookup f_times = some ⟨oc_times, od_times, .func (PySem.W.fnOf "times" "times" (defArgs s_times) (defBody s_times) (defScope s_times) .none kV_times dc_times pm_times an_times cd_times ct_times), sl_times⟩) (c_times : PySem.W.codeIn K cd_times "times" = true) (k_times : PySem.W.keepIn K (.ref f_times) = true)
    {od__law_number an__law_number : Option Addr} {sl__law_number : Array (Option Value)} {oc__law_number kV__law_number dc__law_number pm__law_number cd__law_number ct__law_number : Value} {f__law_number : Addr}
    (a__law_number : PySem.W.nsIn K mainGlobals "_law_number" = some (some (.ref f__law_number))) (l__law_number : K.lookup f__law_number = some ⟨oc__law_number, od__law_number, .func (PySem.W.fnOf "_law_number" "_law_number" (defArgs s__law_number) (defBody s__law_number) (defScope s__law_number) .none kV__law_number dc__law_number pm__law_number an__law_number cd__law_number ct__law_number), sl__law_number⟩) (c__law_number : PySem.W.codeIn K cd__law_number "_law_number" = true) (k__law_number : PySem.W.keepIn K (.ref f__law_number) = true)
    {od_total an_total : Option Addr} {sl_total : Array (Option Value)} {oc_total kV_total dc_total pm_total cd_total ct_total : Value} {f_total : Addr}
    (a_total : PySem.W.nsIn K mainGlobals "total" = some (some (.ref f_total))) (l_total : K.lookup f_total = some ⟨oc_total, od_total, .func (PySem.W.fnOf "total" "total" (defArgs s_total) (defBody s_total) (defScope s_total) .none kV_total dc_total pm_total an_total cd_total ct_total), sl_total⟩) (c_total : PySem.W.codeIn K cd_total "total" = true) (k_total : PySem.W.keepIn K (.ref f_total) = true)
    {od__law_plus an__law_plus : Option Addr} {sl__law_plus : Array (Option Value)} {oc__law_plus kV__law_plus dc__law_plus pm__law_plus cd__law_plus ct__law_plus : Value} {f__law_plus : Addr}
    (a__law_plus : PySem.W.nsIn K mainGlobals "_law_plus" = some (some (.ref f__law_plus))) (l__law_plus : K.lookup f__law_plus = some ⟨oc__law_plus, od__law_plus, .func (PySem.W.fnOf "_law_plus" "_law_plus" (defArgs s__law_plus) (defBody s__law_plus) (defScope s__law_plus) .none kV__law_plus dc__law_plus pm__law_plus an__law_plus cd__law_plus ct__law_plus), sl__law_plus⟩) (c__law_plus : PySem.W.codeIn K cd__law_plus "_law_plus" = true) (k__law_plus : PySem.W.keepIn K (.ref f__law_plus) = true)
    {od__law_times an__law_times : Option Addr} {sl__law_times : Array (Option Value)} {oc__law_times kV__law_times dc__law_times pm__law_times cd__law_times ct__law_times : Value} {f__law_times : Addr}
    (a__law_times : PySem.W.nsIn K mainGlobals "_law_times" = some (some (.ref f__law_times))) (l__law_times : K.lookup f__law_times = some ⟨oc__law_times, od__law_times, .func (PySem.W.fnOf "_law_times" "_law_times" (defArgs s__law_times) (defBody s__law_times) (defScope s__law_times) .none kV__law_times dc__law_times pm__law_times an__law_times cd__law_times ct__law_times), sl__law_times⟩) (c__law_times : PySem.W.codeIn K cd__law_times "_law_times" = true) (k__law_times : PySem.W.keepIn K (.ref f__law_times) = true)
    {od__law_small an__law_small : Option Addr} {sl__law_small : Array (Option Value)} {oc__law_small kV__law_small dc__law_small pm__law_small cd__law_small ct__law_small : Value} {f__law_small : Addr}
    (a__law_small : PySem.W.nsIn K mainGlobals "_law_small" = some (some (.ref f__law_small))) (l__law_small : K.lookup f__law_small = some ⟨oc__law_small, od__law_small, .func (PySem.W.fnOf "_law_small" "_law_small" (defArgs s__law_small) (defBody s__law_small) (defScope s__law_small) .none kV__law_small dc__law_small pm__law_small an__law_small cd__law_small ct__law_small), sl__law_small⟩) (c__law_small : PySem.W.codeIn K cd__law_small "_law_small" = true) (k__law_small : PySem.W.keepIn K (.ref f__law_small) = true)
    {od__row_value an__row_value : Option Addr} {sl__row_value : Array (Option Value)} {oc__row_value kV__row_value dc__row_value pm__row_value cd__row_value ct__row_value : Value} {f__row_value : Addr}
    (a__row_value : PySem.W.nsIn K mainGlobals "_row_value" = some (some (.ref f__row_value))) (l__row_value : K.lookup f__row_value = some ⟨oc__row_value, od__row_value, .func (PySem.W.fnOf "_row_value" "_row_value" (defArgs s__row_value) (defBody s__row_value) (defScope s__row_value) .none kV__row_value dc__row_value pm__row_value an__row_value cd__row_value ct__row_value), sl__row_value⟩) (c__row_value : PySem.W.codeIn K cd__row_value "_row_value" = true) (k__row_value : PySem.W.keepIn K (.ref f__row_value) = true)
    {od__law_minus an__law_minus : Option Addr} {sl__law_minus : Array (Option Value)} {oc__law_minus kV__law_minus dc__law_minus pm__law_minus cd__law_minus ct__law_minus : Value} {f__law_minus : Addr}
    (a__law_minus : PySem.W.nsIn K mainGlobals "_law_minus" = some (some (.ref f__law_minus))) (l__law_minus : K.lookup f__law_minus = some ⟨oc__law_minus, od__law_minus, .func (PySem.W.fnOf "_law_minus" "_law_minus" (defArgs s__law_minus) (defBody s__law_minus) (defScope s__law_minus) .none kV__law_minus dc__law_minus pm__law_minus an__law_minus cd__law_minus ct__law_minus), sl__law_minus⟩) (c__law_minus : PySem.W.codeIn K cd__law_minus "_law_minus" = true) (k__law_minus : PySem.W.keepIn K (.ref f__law_minus) = true)
    {od__law_sum an__law_sum : Option Addr} {sl__law_sum : Array (Option Value)} {oc__law_sum kV__law_sum dc__law_sum pm__law_sum cd__law_sum ct__law_sum : Value} {f__law_sum : Addr}
    (a__law_sum : PySem.W.nsIn K mainGlobals "_law_sum" = some (some (.ref f__law_sum))) (l__law_sum : K.lookup f__law_sum = some ⟨oc__law_sum, od__law_sum, .func (PySem.W.fnOf "_law_sum" "_law_sum" (defArgs s__law_sum) (defBody s__law_sum) (defScope s__law_sum) .none kV__law_sum dc__law_sum pm__law_sum an__law_sum cd__law_sum ct__law_sum), sl__law_sum⟩) (c__law_sum : PySem.W.codeIn K cd__law_sum "_law_sum" = true) (k__law_sum : PySem.W.keepIn K (.ref f__law_sum) = true)
    {od__law_numbers an__law_numbers : Option Addr} {sl__law_numbers : Array (Option Value)} {oc__law_numbers kV__law_numbers dc__law_numbers pm__law_numbers cd__law_numbers ct__law_numbers : Value} {f__law_numbers : Addr}
    (a__law_numbers : PySem.W.nsIn K mainGlobals "_law_numbers" = some (some (.ref f__law_numbers))) (l__law_numbers : K.lookup f__law_numbers = some ⟨oc__law_numbers, od__law_numbers, .func (PySem.W.fnOf "_law_numbers" "_law_numbers" (defArgs s__law_numbers) (defBody s__law_numbers) (defScope s__law_numbers) .none kV__law_numbers dc__law_numbers pm__law_numbers an__law_numbers cd__law_numbers ct__law_numbers), sl__law_numbers⟩) (c__law_numbers : PySem.W.codeIn K cd__law_numbers "_law_numbers" = true) (k__law_numbers : PySem.W.keepIn K (.ref f__law_numbers) = true)
    {od__law_plus_row an__law_plus_row : Option Addr} {sl__law_plus_row : Array (Option Value)} {oc__law_plus_row kV__law_plus_row dc__law_plus_row pm__law_plus_row cd__law_plus_row ct__law_plus_row : Value} {f__law_plus_row : Addr}
    (a__law_plus_row : PySem.W.nsIn K mainGlobals "_law_plus_row" = some (some (.ref f__law_plus_row))) (l__law_plus_row : K.lookup f__law_plus_row = some ⟨oc__law_plus_row, od__law_plus_row, .func (PySem.W.fnOf "_law_plus_row" "_law_plus_row" (defArgs s__law_plus_row) (defBody s__law_plus_row) (defScope s__law_plus_row) .none kV__law_plus_row dc__law_plus_row pm__law_plus_row an__law_plus_row cd__law_plus_row ct__law_plus_row), sl__law_plus_row⟩) (c__law_plus_row : PySem.W.codeIn K cd__law_plus_row "_law_plus_row" = true) (k__law_plus_row : PySem.W.keepIn K (.ref f__law_plus_row) = true)
    {od_is_solution an_is_solution : Option Addr} {sl_is_solution : Array (Option Value)} {oc_is_solution kV_is_solution dc_is_solution pm_is_solution cd_is_solution ct_is_solution : Value} {f_is_solution : Addr}
    (a_is_solution : PySem.W.nsIn K mainGlobals "is_solution" = some (some (.ref f_is_solution))) (l_is_solution : K.lookup f_is_solution = some ⟨oc_is_solution, od_is_solution, .func (PySem.W.fnOf "is_solution" "is_solution" (defArgs s_is_solution) (defBody s_is_solution) (defScope s_is_solution) .none kV_is_solution dc_is_solution pm_is_solution an_is_solution cd_is_solution ct_is_solution), sl_is_solution⟩) (c_is_solution : PySem.W.codeIn K cd_is_solution "is_solution" = true) (k_is_solution : PySem.W.keepIn K (.ref f_is_solution) = true)
    {od_is_direction an_is_direction : Option Addr} {sl_is_direction : Array (Option Value)} {oc_is_direction kV_is_direction dc_is_direction pm_is_direction cd_is_direction ct_is_direction : Value} {f_is_direction : Addr}
    (a_is_direction : PySem.W.nsIn K mainGlobals "is_direction" = some (some (.ref f_is_direction))) (l_is_direction : K.lookup f_is_direction = some ⟨oc_is_direction, od_is_direction, .func (PySem.W.fnOf "is_direction" "is_direction" (defArgs s_is_direction) (defBody s_is_direction) (defScope s_is_direction) .none kV_is_direction dc_is_direction pm_is_direction an_is_direction cd_is_direction ct_is_direction), sl_is_direction⟩) (c_is_direction : PySem.W.codeIn K cd_is_direction "is_direction" = true) (k_is_direction : PySem.W.keepIn K (.ref f_is_direction) = true)
    {od__added_up an__added_up : Option Addr} {sl__added_up : Array (Option Value)} {oc__added_up kV__added_up dc__added_up pm__added_up cd__added_up ct__added_up : Value} {f__added_up : Addr}
    (a__added_up : PySem.W.nsIn K mainGlobals "_added_up" = some (some (.ref f__added_up))) (l__added_up : K.lookup f__added_up = some ⟨oc__added_up, od__added_up, .func (PySem.W.fnOf "_added_up" "_added_up" (defArgs s__added_up) (defBody s__added_up) (defScope s__added_up) .none kV__added_up dc__added_up pm__added_up an__added_up cd__added_up ct__added_up), sl__added_up⟩) (c__added_up : PySem.W.codeIn K cd__added_up "_added_up" = true) (k__added_up : PySem.W.keepIn K (.ref f__added_up) = true)
    {od__law_dot an__law_dot : Option Addr} {sl__law_dot : Array (Option Value)} {oc__law_dot kV__law_dot dc__law_dot pm__law_dot cd__law_dot ct__law_dot : Value} {f__law_dot : Addr}
    (a__law_dot : PySem.W.nsIn K mainGlobals "_law_dot" = some (some (.ref f__law_dot))) (l__law_dot : K.lookup f__law_dot = some ⟨oc__law_dot, od__law_dot, .func (PySem.W.fnOf "_law_dot" "_law_dot" (defArgs s__law_dot) (defBody s__law_dot) (defScope s__law_dot) .none kV__law_dot dc__law_dot pm__law_dot an__law_dot cd__law_dot ct__law_dot), sl__law_dot⟩) (c__law_dot : PySem.W.codeIn K cd__law_dot "_law_dot" = true) (k__law_dot : PySem.W.keepIn K (.ref f__law_dot) = true)
    {od__law_mixed an__law_mixed : Option Addr} {sl__law_mixed : Array (Option Value)} {oc__law_mixed kV__law_mixed dc__law_mixed pm__law_mixed cd__law_mixed ct__law_mixed : Value} {f__law_mixed : Addr}
    (a__law_mixed : PySem.W.nsIn K mainGlobals "_law_mixed" = some (some (.ref f__law_mixed))) (l__law_mixed : K.lookup f__law_mixed = some ⟨oc__law_mixed, od__law_mixed, .func (PySem.W.fnOf "_law_mixed" "_law_mixed" (defArgs s__law_mixed) (defBody s__law_mixed) (defScope s__law_mixed) .none kV__law_mixed dc__law_mixed pm__law_mixed an__law_mixed cd__law_mixed ct__law_mixed), sl__law_mixed⟩) (c__law_mixed : PySem.W.codeIn K cd__law_mixed "_law_mixed" = true) (k__law_mixed : PySem.W.keepIn K (.ref f__law_mixed) = true)
    {od_refutes an_refutes : Option Addr} {sl_refutes : Array (Option Value)} {oc_refutes kV_refutes dc_refutes pm_refutes cd_refutes ct_refutes : Value} {f_refutes : Addr}
    (a_refutes : PySem.W.nsIn K mainGlobals "refutes" = some (some (.ref f_refutes))) (l_refutes : K.lookup f_refutes = some ⟨oc_refutes, od_refutes, .func (PySem.W.fnOf "refutes" "refutes" (defArgs s_refutes) (defBody s_refutes) (defScope s_refutes) .none kV_refutes dc_refutes pm_refutes an_refutes cd_refutes ct_refutes), sl_refutes⟩) (c_refutes : PySem.W.codeIn K cd_refutes "refutes" = true) (k_refutes : PySem.W.keepIn K (.ref f_refutes) = true)
    {od__law_value an__law_value : Option Addr} {sl__law_value : Array (Option Value)} {oc__law_value kV__law_value dc__law_value pm__law_value cd__law_value ct__law_value : Value} {f__law_value : Addr}
    (a__law_value : PySem.W.nsIn K mainGlobals "_law_value" = some (some (.ref f__law_value))) (l__law_value : K.lookup f__law_value = some ⟨oc__law_value, od__law_value, .func (PySem.W.fnOf "_law_value" "_law_value" (defArgs s__law_value) (defBody s__law_value) (defScope s__law_value) .none kV__law_value dc__law_value pm__law_value an__law_value cd__law_value ct__law_value), sl__law_value⟩) (c__law_value : PySem.W.codeIn K cd__law_value "_law_value" = true) (k__law_value : PySem.W.keepIn K (.ref f__law_value) = true)
    {od__law_added an__law_added : Option Addr} {sl__law_added : Array (Option Value)} {oc__law_added kV__law_added dc__law_added pm__law_added cd__law_added ct__law_added : Value} {f__law_added : Addr}
    (a__law_added : PySem.W.nsIn K mainGlobals "_law_added" = some (some (.ref f__law_added))) (l__law_added : K.lookup f__law_added = some ⟨oc__law_added, od__law_added, .func (PySem.W.fnOf "_law_added" "_law_added" (defArgs s__law_added) (defBody s__law_added) (defScope s__law_added) .none kV__law_added dc__law_added pm__law_added an__law_added cd__law_added ct__law_added), sl__law_added⟩) (c__law_added : PySem.W.codeIn K cd__law_added "_law_added" = true) (k__law_added : PySem.W.keepIn K (.ref f__law_added) = true)
    {od__law_solves an__law_solves : Option Addr} {sl__law_solves : Array (Option Value)} {oc__law_solves kV__law_solves dc__law_solves pm__law_solves cd__law_solves ct__law_solves : Value} {f__law_solves : Addr}
    (a__law_solves : PySem.W.nsIn K mainGlobals "_law_solves" = some (some (.ref f__law_solves))) (l__law_solves : K.lookup f__law_solves = some ⟨oc__law_solves, od__law_solves, .func (PySem.W.fnOf "_law_solves" "_law_solves" (defArgs s__law_solves) (defBody s__law_solves) (defScope s__law_solves) .none kV__law_solves dc__law_solves pm__law_solves an__law_solves cd__law_solves ct__law_solves), sl__law_solves⟩) (c__law_solves : PySem.W.codeIn K cd__law_solves "_law_solves" = true) (k__law_solves : PySem.W.keepIn K (.ref f__law_solves) = true)
    {od__law_directs an__law_directs : Option Addr} {sl__law_directs : Array (Option Value)} {oc__law_directs kV__law_directs dc__law_directs pm__law_directs cd__law_directs ct__law_directs : Value} {f__law_directs : Addr}
    (a__law_directs : PySem.W.nsIn K mainGlobals "_law_directs" = some (some (.ref f__law_directs))) (l__law_directs : K.lookup f__law_directs = some ⟨oc__law_directs, od__law_directs, .func (PySem.W.fnOf "_law_directs" "_law_directs" (defArgs s__law_directs) (defBody s__law_directs) (defScope s__law_directs) .none kV__law_directs dc__law_directs pm__law_directs an__law_directs cd__law_directs ct__law_directs), sl__law_directs⟩) (c__law_directs : PySem.W.codeIn K cd__law_directs "_law_directs" = true) (k__law_directs : PySem.W.keepIn K (.ref f__law_directs) = true)
    {od__law_refutes an__law_refutes : Option Addr} {sl__law_refutes : Array (Option Value)} {oc__law_refutes kV__law_refutes dc__law_refutes pm__law_refutes cd__law_refutes ct__law_refutes : Value} {f__law_refutes : Addr}
    (a__law_refutes : PySem.W.nsIn K mainGlobals "_law_refutes" = some (some (.ref f__law_refutes))) (l__law_refutes : K.lookup f__law_refutes = some ⟨oc__law_refutes, od__law_refutes, .func (PySem.W.fnOf "_law_refutes" "_law_refutes" (defArgs s__law_refutes) (defBody s__law_refutes) (defScope s__law_refutes) .none kV__law_refutes dc__law_refutes pm__law_refutes an__law_refutes cd__law_refutes ct__law_refutes), sl__law_refutes⟩) (c__law_refutes : PySem.W.codeIn K cd__law_refutes "_law_refutes" = true) (k__law_refutes : PySem.W.keepIn K (.ref f__law_refutes) = true)
    {od__law_steps an__law_steps : Option Addr} {sl__law_steps : Array (Option Value)} {oc__law_steps kV__law_steps dc__law_steps pm__law_steps cd__law_steps ct__law_steps : Value} {f__law_steps : Addr}
    (a__law_steps : PySem.W.nsIn K mainGlobals "_law_steps" = some (some (.ref f__law_steps))) (l__law_steps : K.lookup f__law_steps = some ⟨oc__law_steps, od__law_steps, .func (PySem.W.fnOf "_law_steps" "_law_steps" (defArgs s__law_steps) (defBody s__law_steps) (defScope s__law_steps) .none kV__law_steps dc__law_steps pm__law_steps an__law_steps cd__law_steps ct__law_steps), sl__law_steps⟩) (c__law_steps : PySem.W.codeIn K cd__law_steps "_law_steps" = true) (k__law_steps : PySem.W.keepIn K (.ref f__law_steps) = true)
    {od_law an_law : Option Addr} {sl_law : Array (Option Value)} {oc_law kV_law dc_law pm_law cd_law ct_law : Value} {f_law : Addr}
    (a_law : PySem.W.nsIn K mainGlobals "law" = some (some (.ref f_law))) (l_law : K.lookup f_law = some ⟨oc_law, od_law, .func (PySem.W.fnOf "law" "law" (defArgs s_law) (defBody s_law) (defScope s_law) .none kV_law dc_law pm_law an_law cd_law ct_law), sl_law⟩) (c_law : PySem.W.codeIn K cd_law "law" = true) (k_law : PySem.W.keepIn K (.ref f_law) = true)
    (z_abs : PySem.W.nsIn K mainGlobals "abs" = some none)
    (z_all : PySem.W.nsIn K mainGlobals "all" = some none)
    (z_bool : PySem.W.nsIn K mainGlobals "bool" = some none)
    (z_enumerate : PySem.W.nsIn K mainGlobals "enumerate" = some none)
    (z_int : PySem.W.nsIn K mainGlobals "int" = some none)
    (z_isinstance : PySem.W.nsIn K mainGlobals "isinstance" = some none)
    (z_len : PySem.W.nsIn K mainGlobals "len" = some none)
    (z_list : PySem.W.nsIn K mainGlobals "list" = some none)
    (z_range : PySem.W.nsIn K mainGlobals "range" = some none)
    (z_repr : PySem.W.nsIn K mainGlobals "repr" = some none)
    (z_zip : PySem.W.nsIn K mainGlobals "zip" = some none)
    (y_gcd : PySem.W.nsIn K mainGlobals "gcd" = some (some (.builtin "math.gcd")))
    {ad_ZERO : Addr} (x_ZERO : PySem.W.nsIn K mainGlobals "ZERO" = some (some (.ref ad_ZERO))) (w_ZERO : ∀ F, Dp K F (.ref ad_ZERO) (.tuple [.int (0), .int (1)]))
    : LawG l.prog w K mg 7 fa := by
  have e := hfa.symm.trans (PySem.W.mg_of X G a_law)
  have e : fa = f_law := by cases e; rfl
  subst e
  let T : Tx K mg := {
      f_number := f_number,
      fd_number := _,
      F_number := fun_mk (st := s_number) l_number c_number k_number,
      g_number := PySem.W.mg_of X G a_number,
      b_number := (fun_mk (st := s_number) l_number c_number k_number).binds (ps := ["n", "d"]) fun _ _ _ _ _ _ us hl => match us, hl with | [_, _], _ => rfl,
      f__law_draws := f__law_draws,
      fd__law_draws := _,
      F__law_draws := fun_mk (st := s__law_draws) l__law_draws c__law_draws k__law_draws,
      g__law_draws := PySem.W.mg_of X G a__law_draws,
      b__law_draws := (fun_mk (st := s__law_draws) l__law_draws c__law_draws k__law_draws).binds (ps := ["script", "count"]) fun _ _ _ _ _ _ us hl => match us, hl with | [_, _], _ => rfl,
      f__law_gcd := f__law_gcd,
      fd__law_gcd := _,
      F__law_gcd := fun_mk (st := s__law_gcd) l__law_gcd c__law_gcd k__law_gcd,
      g__law_gcd := PySem.W.mg_of X G a__law_gcd,
      b__law_gcd := (fun_mk (st := s__law_gcd) l__law_gcd c__law_gcd k__law_gcd).binds (ps := ["a", "b"]) fun _ _ _ _ _ _ us hl => match us, hl with | [_, _], _ => rfl,
      f__law_short := f__law_short,
      fd__law_short := _,
      F__law_short := fun_mk (st := s__law_short) l__law_short c__law_short k__law_short,
      g__law_short := PySem.W.mg_of X G a__law_short,
      b__law_short := (fun_mk (st := s__law_short) l__law_short c__law_short k__law_short).binds (ps := ["rows"]) fun _ _ _ _ _ _ us hl => match us, hl with | [_], _ => rfl,
      f_plus := f_plus,
      fd_plus := _,
      F_plus := fun_mk (st := s_plus) l_plus c_plus k_plus,
      g_plus := PySem.W.mg_of X G a_plus,
      b_plus := (fun_mk (st := s_plus) l_plus c_plus k_plus).binds (ps := ["a", "b"]) fun _ _ _ _ _ _ us hl => match us, hl with | [_, _], _ => rfl,
      f_times := f_times,
      fd_times := _,
      F_times := fun_mk (st := s_times) l_times c_times k_times,
      g_times := PySem.W.mg_of X G a_times,
      b_times := (fun_mk (st := s_times) l_times c_times k_times).binds (ps := ["a", "b"]) fun _ _ _ _ _ _ us hl => match us, hl with | [_, _], _ => rfl,
      f__law_number := f__law_number,
      fd__law_number := _,
      F__law_number := fun_mk (st := s__law_number) l__law_number c__law_number k__law_number,
      g__law_number := PySem.W.mg_of X G a__law_number,
      b__law_number := (fun_mk (st := s__law_number) l__law_number c__law_number k__law_number).binds (ps := ["n", "d"]) fun _ _ _ _ _ _ us hl => match us, hl with | [_, _], _ => rfl,
      f_total := f_total,
      fd_total := _,
      F_total := fun_mk (st := s_total) l_total c_total k_total,
      g_total := PySem.W.mg_of X G a_total,
      b_total := (fun_mk (st := s_total) l_total c_total k_total).binds (ps := ["numbers"]) fun _ _ _ _ _ _ us hl => match us, hl with | [_], _ => rfl,
      f__law_plus := f__law_plus,
      fd__law_plus := _,
      F__law_plus := fun_mk (st := s__law_plus) l__law_plus c__law_plus k__law_plus,
      g__law_plus := PySem.W.mg_of X G a__law_plus,
      b__law_plus := (fun_mk (st := s__law_plus) l__law_plus c__law_plus k__law_plus).binds (ps := ["a", "b"]) fun _ _ _ _ _ _ us hl => match us, hl with | [_, _], _ => rfl,
      f__law_times := f__law_times,
      fd__law_times := _,
      F__law_times := fun_mk (st := s__law_times) l__law_times c__law_times k__law_times,
      g__law_times := PySem.W.mg_of X G a__law_times,
      b__law_times := (fun_mk (st := s__law_times) l__law_times c__law_times k__law_times).binds (ps := ["a", "b"]) fun _ _ _ _ _ _ us hl => match us, hl with | [_, _], _ => rfl,
      f__law_small := f__law_small,
      fd__law_small := _,
      F__law_small := fun_mk (st := s__law_small) l__law_small c__law_small k__law_small,
      g__law_small := PySem.W.mg_of X G a__law_small,
      b__law_small := (fun_mk (st := s__law_small) l__law_small c__law_small k__law_small).binds (ps := ["draw"]) fun _ _ _ _ _ _ us hl => match us, hl with | [_], _ => rfl,
      f__row_value := f__row_value,
      fd__row_value := _,
      F__row_value := fun_mk (st := s__row_value) l__row_value c__row_value k__row_value,
      g__row_value := PySem.W.mg_of X G a__row_value,
      b__row_value := (fun_mk (st := s__row_value) l__row_value c__row_value k__row_value).binds (ps := ["factors", "numbers"]) fun _ _ _ _ _ _ us hl => match us, hl with | [_, _], _ => rfl,
      f__law_minus := f__law_minus,
      fd__law_minus := _,
      F__law_minus := fun_mk (st := s__law_minus) l__law_minus c__law_minus k__law_minus,
      g__law_minus := PySem.W.mg_of X G a__law_minus,
      b__law_minus := (fun_mk (st := s__law_minus) l__law_minus c__law_minus k__law_minus).binds (ps := ["a", "b"]) fun _ _ _ _ _ _ us hl => match us, hl with | [_, _], _ => rfl,
      f__law_sum := f__law_sum,
      fd__law_sum := _,
      F__law_sum := fun_mk (st := s__law_sum) l__law_sum c__law_sum k__law_sum,
      g__law_sum := PySem.W.mg_of X G a__law_sum,
      b__law_sum := (fun_mk (st := s__law_sum) l__law_sum c__law_sum k__law_sum).binds (ps := ["numbers"]) fun _ _ _ _ _ _ us hl => match us, hl with | [_], _ => rfl,
      f__law_numbers := f__law_numbers,
      fd__law_numbers := _,
      F__law_numbers := fun_mk (st := s__law_numbers) l__law_numbers c__law_numbers k__law_numbers,
      g__law_numbers := PySem.W.mg_of X G a__law_numbers,
      b__law_numbers := (fun_mk (st := s__law_numbers) l__law_numbers c__law_numbers k__law_numbers).binds (ps := ["draws", "many"]) fun _ _ _ _ _ _ us hl => match us, hl with | [_, _], _ => rfl,
      f__law_plus_row := f__law_plus_row,
      fd__law_plus_row := _,
      F__law_plus_row := fun_mk (st := s__law_plus_row) l__law_plus_row c__law_plus_row k__law_plus_row,
      g__law_plus_row := PySem.W.mg_of X G a__law_plus_row,
      b__law_plus_row := (fun_mk (st := s__law_plus_row) l__law_plus_row c__law_plus_row k__law_plus_row).binds (ps := ["row", "other", "by"]) fun _ _ _ _ _ _ us hl => match us, hl with | [_, _, _], _ => rfl,
      f_is_solution := f_is_solution,
      fd_is_solution := _,
      F_is_solution := fun_mk (st := s_is_solution) l_is_solution c_is_solution k_is_solution,
      g_is_solution := PySem.W.mg_of X G a_is_solution,
      b_is_solution := (fun_mk (st := s_is_solution) l_is_solution c_is_solution k_is_solution).binds (ps := ["count", "rows", "numbers"]) fun _ _ _ _ _ _ us hl => match us, hl with | [_, _, _], _ => rfl,
      f_is_direction := f_is_direction,
      fd_is_direction := _,
      F_is_direction := fun_mk (st := s_is_direction) l_is_direction c_is_direction k_is_direction,
      g_is_direction := PySem.W.mg_of X G a_is_direction,
      b_is_direction := (fun_mk (st := s_is_direction) l_is_direction c_is_direction k_is_direction).binds (ps := ["count", "rows", "numbers"]) fun _ _ _ _ _ _ us hl => match us, hl with | [_, _, _], _ => rfl,
      f__added_up := f__added_up,
      fd__added_up := _,
      F__added_up := fun_mk (st := s__added_up) l__added_up c__added_up k__added_up,
      g__added_up := PySem.W.mg_of X G a__added_up,
      b__added_up := (fun_mk (st := s__added_up) l__added_up c__added_up k__added_up).binds (ps := ["count", "rows", "multipliers"]) fun _ _ _ _ _ _ us hl => match us, hl with | [_, _, _], _ => rfl,
      f__law_dot := f__law_dot,
      fd__law_dot := _,
      F__law_dot := fun_mk (st := s__law_dot) l__law_dot c__law_dot k__law_dot,
      g__law_dot := PySem.W.mg_of X G a__law_dot,
      b__law_dot := (fun_mk (st := s__law_dot) l__law_dot c__law_dot k__law_dot).binds (ps := ["a", "b"]) fun _ _ _ _ _ _ us hl => match us, hl with | [_, _], _ => rfl,
      f__law_mixed := f__law_mixed,
      fd__law_mixed := _,
      F__law_mixed := fun_mk (st := s__law_mixed) l__law_mixed c__law_mixed k__law_mixed,
      g__law_mixed := PySem.W.mg_of X G a__law_mixed,
      b__law_mixed := (fun_mk (st := s__law_mixed) l__law_mixed c__law_mixed k__law_mixed).binds (ps := ["rows", "draws"]) fun _ _ _ _ _ _ us hl => match us, hl with | [_, _], _ => rfl,
      f_refutes := f_refutes,
      fd_refutes := _,
      F_refutes := fun_mk (st := s_refutes) l_refutes c_refutes k_refutes,
      g_refutes := PySem.W.mg_of X G a_refutes,
      b_refutes := (fun_mk (st := s_refutes) l_refutes c_refutes k_refutes).binds (ps := ["count", "rows", "multipliers"]) fun _ _ _ _ _ _ us hl => match us, hl with | [_, _, _], _ => rfl,
      f__law_value := f__law_value,
      fd__law_value := _,
      F__law_value := fun_mk (st := s__law_value) l__law_value c__law_value k__law_value,
      g__law_value := PySem.W.mg_of X G a__law_value,
      b__law_value := (fun_mk (st := s__law_value) l__law_value c__law_value k__law_value).binds (ps := ["factors", "numbers"]) fun _ _ _ _ _ _ us hl => match us, hl with | [_, _], _ => rfl,
      f__law_added := f__law_added,
      fd__law_added := _,
      F__law_added := fun_mk (st := s__law_added) l__law_added c__law_added k__law_added,
      g__law_added := PySem.W.mg_of X G a__law_added,
      b__law_added := (fun_mk (st := s__law_added) l__law_added c__law_added k__law_added).binds (ps := ["count", "rows", "multipliers"]) fun _ _ _ _ _ _ us hl => match us, hl with | [_, _, _], _ => rfl,
      f__law_solves := f__law_solves,
      fd__law_solves := _,
      F__law_solves := fun_mk (st := s__law_solves) l__law_solves c__law_solves k__law_solves,
      g__law_solves := PySem.W.mg_of X G a__law_solves,
      b__law_solves := (fun_mk (st := s__law_solves) l__law_solves c__law_solves k__law_solves).binds (ps := ["count", "rows", "numbers"]) fun _ _ _ _ _ _ us hl => match us, hl with | [_, _, _], _ => rfl,
      f__law_directs := f__law_directs,
      fd__law_directs := _,
      F__law_directs := fun_mk (st := s__law_directs) l__law_directs c__law_directs k__law_directs,
      g__law_directs := PySem.W.mg_of X G a__law_directs,
      b__law_directs := (fun_mk (st := s__law_directs) l__law_directs c__law_directs k__law_directs).binds (ps := ["count", "rows", "numbers"]) fun _ _ _ _ _ _ us hl => match us, hl with | [_, _, _], _ => rfl,
      f__law_refutes := f__law_refutes,
      fd__law_refutes := _,
      F__law_refutes := fun_mk (st := s__law_refutes) l__law_refutes c__law_refutes k__law_refutes,
      g__law_refutes := PySem.W.mg_of X G a__law_refutes,
      b__law_refutes := (fun_mk (st := s__law_refutes) l__law_refutes c__law_refutes k__law_refutes).binds (ps := ["count", "rows", "multipliers"]) fun _ _ _ _ _ _ us hl => match us, hl with | [_, _, _], _ => rfl,
      f__law_steps := f__law_steps,
      fd__law_steps := _,
      F__law_steps := fun_mk (st := s__law_steps) l__law_steps c__law_steps k__law_steps,
      g__law_steps := PySem.W.mg_of X G a__law_steps,
      b__law_steps := (fun_mk (st := s__law_steps) l__law_steps c__law_steps k__law_steps).binds (ps := ["count", "numbers", "draws", "places"]) fun _ _ _ _ _ _ us hl => match us, hl with | [_, _, _, _], _ => rfl,
      f_law := fa,
      fd_law := _,
      F_law := fun_mk (st := s_law) l_law c_law k_law,
      g_law := PySem.W.mg_of X G a_law,
      b_law := (fun_mk (st := s_law) l_law c_law k_law).binds (ps := ["script"]) fun _ _ _ _ _ _ us hl => match us, hl with | [_], _ => rfl,
      n_abs := PySem.W.mg_none_of X G z_abs,
      n_all := PySem.W.mg_none_of X G z_all,
      n_bool := PySem.W.mg_none_of X G z_bool,
      n_enumerate := PySem.W.mg_none_of X G z_enumerate,
      n_int := PySem.W.mg_none_of X G z_int,
      n_isinstance := PySem.W.mg_none_of X G z_isinstance,
      n_len := PySem.W.mg_none_of X G z_len,
      n_list := PySem.W.mg_none_of X G z_list,
      n_range := PySem.W.mg_none_of X G z_range,
      n_repr := PySem.W.mg_none_of X G z_repr,
      n_zip := PySem.W.mg_none_of X G z_zip,
      m_gcd := PySem.W.mg_of X G y_gcd,
      a_ZERO := ad_ZERO,
      d_ZERO := w_ZERO,
      c_ZERO := PySem.W.mg_of X G x_ZERO }
  exact ⟨T.fd_law, ["script", "draws", "count", "numbers", "places", "rows", "others", "tried", "k", "at", "kept", "one", "actual", "due", "row", "n", "answer"], s_law, "law", "law", b_law, T.F_law, sc_law, fun s v => .of_eq rfl, hlaw, fun base _ _ cdv s H hr => ok_law T cdv s H hr⟩
end Law
open PySem PySem.W PyProof.Rows
set_option maxHeartbeats 0 in
theorem PySem.Challenge.cw_oddkeep_k32_what_lists_are_holds : PySem.Challenge.rw_oddkeep_k32_what_lists_are.Holds := by
  w_on; o_law; k_head; (case hw => w_witness2)
  k_fill
  refine Dn.walkG (l := PySem.Challenge.rw_oddkeep_k32_what_lists_are) (k := 7) rfl rfl ⟨rfl, by decide, by decide⟩ (fun w h Y => PySem.W.kIn_of Y) ?F
  case F =>
    intro w mg fa h KX G hmg
    refine' Law.all_mk Law.hlaw KX G hmg ?a_number ?l_number ?c_number ?k_number ?a__law_draws ?l__law_draws ?c__law_draws ?k__law_draws ?a__law_gcd ?l__law_gcd ?c__law_gcd ?k__law_gcd ?a__law_short ?l__law_short ?c__law_short ?k__law_short ?a_plus ?l_plus ?c_plus ?k_plus ?a_times ?l_times ?c_times ?k_times ?a__law_number ?l__law_number ?c__law_number ?k__law_number ?a_total ?l_total ?c_total ?k_total ?a__law_plus ?l__law_plus ?c__law_plus ?k__law_plus ?a__law_times ?l__law_times ?c__law_times ?k__law_times ?a__law_small ?l__law_small ?c__law_small ?k__law_small ?a__row_value ?l__row_value ?c__row_value ?k__row_value ?a__law_minus ?l__law_minus ?c__law_minus ?k__law_minus ?a__law_sum ?l__law_sum ?c__law_sum ?k__law_sum ?a__law_numbers ?l__law_numbers ?c__law_numbers ?k__law_numbers ?a__law_plus_row ?l__law_plus_row ?c__law_plus_row ?k__law_plus_row ?a_is_solution ?l_is_solution ?c_is_solution ?k_is_solution ?a_is_direction ?l_is_direction ?c_is_direction ?k_is_direction ?a__added_up ?l__added_up ?c__added_up ?k__added_up ?a__law_dot ?l__law_dot ?c__law_dot ?k__law_dot ?a__law_mixed ?l__law_mixed ?c__law_mixed ?k__law_mixed ?a_refutes ?l_refutes ?c_refutes ?k_refutes ?a__law_value ?l__law_value ?c__law_value ?k__law_value ?a__law_added ?l__law_added ?c__law_added ?k__law_added ?a__law_solves ?l__law_solves ?c__law_solves ?k__law_solves ?a__law_directs ?l__law_directs ?c__law_directs ?k__law_directs ?a__law_refutes ?l__law_refutes ?c__law_refutes ?k__law_refutes ?a__law_steps ?l__law_steps ?c__law_steps ?k__law_steps ?a_law ?l_law ?c_law ?k_law ?z_abs ?z_all ?z_bool ?z_enumerate ?z_int ?z_isinstance ?z_len ?z_list ?z_range ?z_repr ?z_zip ?y_gcd ?x_ZERO ?w_ZERO
    (case a_number => k_is); (case l_number => k_is); (case c_number => k_is); (case k_number => k_is)
    (case a__law_draws => k_is); (case l__law_draws => k_is); (case c__law_draws => k_is); (case k__law_draws => k_is)
    (case a__law_gcd => k_is); (case l__law_gcd => k_is); (case c__law_gcd => k_is); (case k__law_gcd => k_is)
    (case a__law_short => k_is); (case l__law_short => k_is); (case c__law_short => k_is); (case k__law_short => k_is)
    (case a_plus => k_is); (case l_plus => k_is); (case c_plus => k_is); (case k_plus => k_is)
    (case a_times => k_is); (case l_times => k_is); (case c_times => k_is); (case k_times => k_is)
    (case a__law_number => k_is); (case l__law_number => k_is); (case c__law_number => k_is); (case k__law_number => k_is)
    (case a_total => k_is); (case l_total => k_is); (case c_total => k_is); (case k_total => k_is)
    (case a__law_plus => k_is); (case l__law_plus => k_is); (case c__law_plus => k_is); (case k__law_plus => k_is)
    (case a__law_times => k_is); (case l__law_times => k_is); (case c__law_times => k_is); (case k__law_times => k_is)
    (case a__law_small => k_is); (case l__law_small => k_is); (case c__law_small => k_is); (case k__law_small => k_is)
    (case a__row_value => k_is); (case l__row_value => k_is); (case c__row_value => k_is); (case k__row_value => k_is)
    (case a__law_minus => k_is); (case l__law_minus => k_is); (case c__law_minus => k_is); (case k__law_minus => k_is)
    (case a__law_sum => k_is); (case l__law_sum => k_is); (case c__law_sum => k_is); (case k__law_sum => k_is)
    (case a__law_numbers => k_is); (case l__law_numbers => k_is); (case c__law_numbers => k_is); (case k__law_numbers => k_is)
    (case a__law_plus_row => k_is); (case l__law_plus_row => k_is); (case c__law_plus_row => k_is); (case k__law_plus_row => k_is)
    (case a_is_solution => k_is); (case l_is_solution => k_is); (case c_is_solution => k_is); (case k_is_solution => k_is)
    (case a_is_direction => k_is); (case l_is_direction => k_is); (case c_is_direction => k_is); (case k_is_direction => k_is)
    (case a__added_up => k_is); (case l__added_up => k_is); (case c__added_up => k_is); (case k__added_up => k_is)
    (case a__law_dot => k_is); (case l__law_dot => k_is); (case c__law_dot => k_is); (case k__law_dot => k_is)
    (case a__law_mixed => k_is); (case l__law_mixed => k_is); (case c__law_mixed => k_is); (case k__law_mixed => k_is)
    (case a_refutes => k_is); (case l_refutes => k_is); (case c_refutes => k_is); (case k_refutes => k_is)
    (case a__law_value => k_is); (case l__law_value => k_is); (case c__law_value => k_is); (case k__law_value => k_is)
    (case a__law_added => k_is); (case l__law_added => k_is); (case c__law_added => k_is); (case k__law_added => k_is)
    (case a__law_solves => k_is); (case l__law_solves => k_is); (case c__law_solves => k_is); (case k__law_solves => k_is)
    (case a__law_directs => k_is); (case l__law_directs => k_is); (case c__law_directs => k_is); (case k__law_directs => k_is)
    (case a__law_refutes => k_is); (case l__law_refutes => k_is); (case c__law_refutes => k_is); (case k__law_refutes => k_is)
    (case a__law_steps => k_is); (case l__law_steps => k_is); (case c__law_steps => k_is); (case k__law_steps => k_is)
    (case a_law => k_is); (case l_law => k_is); (case c_law => k_is); (case k_law => k_is)
    (case z_abs => k_is); (case z_all => k_is); (case z_bool => k_is); (case z_enumerate => k_is)
    (case z_int => k_is); (case z_isinstance => k_is); (case z_len => k_is); (case z_list => k_is)
    (case z_range => k_is); (case z_repr => k_is); (case z_zip => k_is); (case y_gcd => k_is)
    (case x_ZERO => k_is); (case w_ZERO => exact Dn.tup_c (by k_is) (by rfl))

