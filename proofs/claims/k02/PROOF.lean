import PyProof.Rows.All
import HandS.ForMost
import HandS.Wide
import HandS.Zip
import PyProof.TupleKey
import HandS.Lambda
import HandS.IsInst
import KE.GoesEnum
import PyProof.MinMaxWalk
import HandS.Style
import HandS.SetFor
import HandS.NoneIn
import KE.KMathG
import HandS.StrMore
import HandS.TupAny
import KE.KUnpackStar
import HandS.ExcIs
import HandS.ExcField
import KE.KExcIs
import HandS.WordsExc
import HandS.RaiseMore
import HandS.FStr
import HandS.EndOwn
import KE.KNestM
import HandS.ExcInit
import HandS.MakeKwOnly
import HandS.ExcOwn
import HandS.TupMul
import Wide.All
import OpenK.AllK
import Wide.FinOn
import PySem.Challenge.RW_learnprices_k02_whole_a_day
set_option Elab.async false
set_option linter.all false
set_option maxRecDepth 100000
set_option maxHeartbeats 2000000
/-! Fw1: deep values, what stands for them, the frame of slots, what a reading is worth -/
namespace Fw
open PySem PySem.Spec PyProof.Rows L2

abbrev KI := Sum Int (List Int)
def kiH (k : KI) : Int := match k with
  | .inl i => hashInt i
  | .inr l => reduceHash (Builtin.Tuple.tupleHashOf (l.map hashInt))
def nh (ks : List KI) : Int := reduceHash (Builtin.Tuple.tupleHashOf (ks.map kiH))
/-- the dict at a, its entries: a key, the tuple that is it, the value -/
def dctO (a : Addr) (xs : List (List KI × Addr × Value)) : HO := .ext fun h => xs.length ≤ sizeLine ∧ (a == sysModules) = false ∧ (xs.map (·.1)).Nodup ∧
  ∃ o es ep, h.get? a = some o ∧ o.ExactDict ∧ o.data = .dict es ep ∧ es.toList = xs.map fun x => (⟨nh x.1, .ref x.2.1, x.2.2⟩ : DictEntry)
def kiAt (K : PySem.W.Frag) (H : Hp) (k : KI) (v : V) : Prop := match k with
  | .inl i => v = .int i
  | .inr l => ∃ b, v = .ref b ∧ SqT K H b (l.map .int)
def kisAt (K : PySem.W.Frag) (H : Hp) : List KI → List V → Prop
  | [], vs => vs = []
  | k :: ks, vs => ∃ v r, vs = v :: r ∧ kiAt K H k v ∧ kisAt K H ks r
def keyAt (K : PySem.W.Frag) (H : Hp) (ks : List KI) (q : Addr) : Prop := ∃ vs, SqT K H q vs ∧ kisAt K H ks vs

theorem dct_ne {a c : Addr} {xs : List (List KI × Addr × Value)} {q : Str} : dctO a xs ≠ LamX.CodeO c q := fun z => by
  unfold dctO LamX.CodeO at z
  have e := HO.ext.inj z
  obtain ⟨ob, hob⟩ : ∃ ob : Obj, ob = { cls := .none, data := .fields #[.none, .str q 0] } := ⟨_, rfl⟩
  obtain ⟨hh, hhe⟩ : ∃ hh : Heap, hh = ⟨Array.replicate (c + 1) ob, {}⟩ := ⟨_, rfl⟩
  have g : ∀ b o, hh.get? b = some o → o = ob := fun b o h1 => by
    rw [hhe] at h1
    unfold Heap.get? at h1
    simp only [Array.getElem?_replicate] at h1
    split at h1
    · cases h1
    · split at h1
      · exact (Option.some.inj h1).symm
      · cases h1
  have gc : hh.get? c = some ob := by
    rw [hhe]
    unfold Heap.get?
    simp only [Array.getElem?_replicate]
    rw [if_pos (Nat.lt_succ_self c), hob]
  have hc := congrFun e hh
  have t : (∃ (oc : Obj) (vs : Array Value) (t : Tok), hh.get? c = some oc ∧ oc.data = .fields vs ∧ vs[1]? = some (.str q t)) :=
    ⟨ob, #[.none, .str q 0], 0, gc, by rw [hob], rfl⟩
  rw [← hc] at t
  obtain ⟨_, _, _, o, es, ep, h1, _, h3, _⟩ := t
  rw [g a o h1, hob] at h3
  cases h3
/-- deep values; rng: the law's own drawing list; dic: keys, values -/
inductive D where
  | non | bl (b : Bool) | int (i : Int) | str (x : Str) | rng | ty (n : String) | tup (l : List D) | lst (l : List D) | dic (ks : List (List KI)) (l : List D)

/-- no list within -/
def D.lf : D → Bool
  | .tup l => lfs l
  | .lst _ => false
  | .dic _ _ => false
  | _ => true
where lfs : List D → Bool
  | [] => true
  | d :: l => d.lf && lfs l

mutual
/-- v stands for d in H; no list of it lies at an address of B -/
def Is (K : PySem.W.Frag) (ra : Addr) (B : Addr → Prop) (H : Hp) : D → V → Prop
  | .non, v => v = .non
  | .bl b, v => v = .bl b
  | .int i, v => v = .int i
  | .str x, v => v = .str x
  | .rng, v => v = .ref ra
  | .ty n, v => v = .ty n
  | .tup l, v => ∃ a xs, v = .ref a ∧ SqT K H a xs ∧ IsL K ra B H l xs
  | .lst l, v => ∃ a xs, v = .ref a ∧ ¬ B a ∧ H a = some (.lst xs) ∧ IsL K ra B H l xs
  | .dic ks l, v => ∃ a xs us, v = .ref a ∧ ¬ B a ∧ H a = some (dctO a xs) ∧ xs.map (·.1) = ks ∧ (∀ x ∈ xs, keyAt K H x.1 x.2.1) ∧ Vals us (xs.map (·.2.2)) ∧ IsL K ra B H l us
def IsL (K : PySem.W.Frag) (ra : Addr) (B : Addr → Prop) (H : Hp) : List D → List V → Prop
  | [], xs => xs = []
  | d :: l, xs => ∃ v r, xs = v :: r ∧ Is K ra B H d v ∧ IsL K ra B H l r
end

/-- what never changes -/
def keepO : HO → Prop
  | .lst _ => False
  | .ext _ => False
  | .tbl _ => False
  | _ => True
/-- all stands as it stood, but what may change at B -/
def Ex (B : Addr → Prop) (H H' : Hp) : Prop := ∀ a o, H a = some o → (B a → keepO o) → H' a = some o
theorem Ex.refl {B : Addr → Prop} {H : Hp} : Ex B H H := fun _ _ h _ => h
theorem Ex.trans {B : Addr → Prop} {H H1 H2 : Hp} (a : Ex B H H1) (b : Ex B H1 H2) : Ex B H H2 := fun x o h n => b x o (a x o h n) n
theorem Ex.mono {B B' : Addr → Prop} {H H' : Hp} (e : Ex B H H') (h : ∀ a, B a → B' a) : Ex B' H H' := fun a o ha n => e a o ha fun b => n (h a b)
theorem Ex.lst {B : Addr → Prop} {H H' : Hp} (e : Ex B H H') {a : Addr} {xs : List V} (h : H a = some (.lst xs)) (n : ¬ B a) : H' a = some (.lst xs) := e a _ h fun b => absurd b n
theorem Ex.new {B : Addr → Prop} {H : Hp} {p : Addr} {o : HO} (h : H p = none) : Ex B H (upd H p o) := fun a u e _ => by
  rw [upd_ne (ne_of_none e h)]; exact e
theorem Ex.putO {B : Addr → Prop} {H : Hp} {p : Addr} {o o' : HO} (h : H p = some o) (k : ¬ keepO o) (b : B p) : Ex B H (upd H p o') := fun a u e n => by
  by_cases q : a = p
  · subst q; rw [h] at e; cases e; exact absurd (n b) k
  · rw [upd_ne q]; exact e
theorem Ex.put {B : Addr → Prop} {H : Hp} {p : Addr} {xs ys : List V} (h : H p = some (.lst xs)) (b : B p) : Ex B H (upd H p (.lst ys)) := Ex.putO h id b
theorem Ex.tup {K : PySem.W.Frag} {B : Addr → Prop} {H H' : Hp} (e : Ex B H H') {a : Addr} {xs : List V} (h : SqT K H a xs) : SqT K H' a xs := by
  rcases h with (h | ⟨o, h⟩) | h
  · exact .inl (.inl (e _ _ h fun _ => trivial))
  · exact .inl (.inr ⟨o, e _ _ h fun _ => trivial⟩)
  · exact .inr h
theorem Ex.some' {B : Addr → Prop} {H H' : Hp} (e : Ex B H H') {a : Addr} (n : ¬ B a) (h : H a ≠ none) : H' a ≠ none := by
  cases q : H a with
  | none => exact absurd q h
  | some o => rw [e a o q fun b => absurd b n]; intro z; cases z

theorem Ex.ext {B : Addr → Prop} {H H' : Hp} (e : Ex B H H') {a : Addr} {φ : Heap → Prop} (h : H a = some (.ext φ)) (n : ¬ B a) : H' a = some (.ext φ) := e a _ h fun b => absurd b n
section
variable {K : PySem.W.Frag} {ra : Addr} {B B' : Addr → Prop} {H H' : Hp}
theorem kisAt.step (e : Ex B' H H') : ∀ {ks : List KI} {vs : List V}, kisAt K H ks vs → kisAt K H' ks vs
  | [], _, h => h
  | k :: ks, _, h => by
    obtain ⟨v, r, h1, h2, h3⟩ := h
    refine ⟨v, r, h1, ?_, kisAt.step e h3⟩
    cases k with
    | inl i => exact h2
    | inr l => obtain ⟨b, h4, h5⟩ := h2; exact ⟨b, h4, e.tup h5⟩
theorem keyAt.step (e : Ex B' H H') {ks : List KI} {q : Addr} (h : keyAt K H ks q) : keyAt K H' ks q := let ⟨vs, h1, h2⟩ := h; ⟨vs, e.tup h1, h2.step e⟩
mutual
theorem Is.step (hb : ∀ a, B' a → B a) (e : Ex B' H H') : ∀ {d : D} {v : V}, Is K ra B H d v → Is K ra B H' d v
  | .non, _, h => h
  | .bl _, _, h => h
  | .int _, _, h => h
  | .str _, _, h => h
  | .rng, _, h => h
  | .ty _, _, h => h
  | .tup l, _, h => by
    obtain ⟨a, xs, h1, h2, h3⟩ := h
    exact ⟨a, xs, h1, e.tup h2, IsL.step hb e h3⟩
  | .lst l, _, h => by
    obtain ⟨a, xs, h1, h2, h3, h4⟩ := h
    exact ⟨a, xs, h1, h2, e.lst h3 (fun q => h2 (hb a q)), IsL.step hb e h4⟩
  | .dic ks l, _, h => by
    obtain ⟨a, xs, us, h1, h2, h3, h4, h5, h6, h7⟩ := h
    exact ⟨a, xs, us, h1, h2, e.ext h3 (fun q => h2 (hb a q)), h4, fun x hx => (h5 x hx).step e, h6, IsL.step hb e h7⟩
theorem IsL.step (hb : ∀ a, B' a → B a) (e : Ex B' H H') : ∀ {l : List D} {xs : List V}, IsL K ra B H l xs → IsL K ra B H' l xs
  | [], _, h => h
  | d :: l, _, h => by
    obtain ⟨v, r, h1, h2, h3⟩ := h
    exact ⟨v, r, h1, Is.step hb e h2, IsL.step hb e h3⟩
end
mutual
theorem Is.anti (hb : ∀ a, B' a → B a) : ∀ {d : D} {v : V}, Is K ra B H d v → Is K ra B' H d v
  | .non, _, h => h
  | .bl _, _, h => h
  | .int _, _, h => h
  | .str _, _, h => h
  | .rng, _, h => h
  | .ty _, _, h => h
  | .tup l, _, h => by
    obtain ⟨a, xs, h1, h2, h3⟩ := h
    exact ⟨a, xs, h1, h2, IsL.anti hb h3⟩
  | .lst l, _, h => by
    obtain ⟨a, xs, h1, h2, h3, h4⟩ := h
    exact ⟨a, xs, h1, fun q => h2 (hb a q), h3, IsL.anti hb h4⟩
  | .dic ks l, _, h => by
    obtain ⟨a, xs, us, h1, h2, h3, h4, h5, h6, h7⟩ := h
    exact ⟨a, xs, us, h1, fun q => h2 (hb a q), h3, h4, h5, h6, IsL.anti hb h7⟩
theorem IsL.anti (hb : ∀ a, B' a → B a) : ∀ {l : List D} {xs : List V}, IsL K ra B H l xs → IsL K ra B' H l xs
  | [], _, h => h
  | d :: l, _, h => by
    obtain ⟨v, r, h1, h2, h3⟩ := h
    exact ⟨v, r, h1, Is.anti hb h2, IsL.anti hb h3⟩
end
mutual
theorem Is.bar (hb : ∀ a, B' a → B a ∨ H a = none) : ∀ {d : D} {v : V}, Is K ra B H d v → Is K ra B' H d v
  | .non, _, h => h
  | .bl _, _, h => h
  | .int _, _, h => h
  | .str _, _, h => h
  | .rng, _, h => h
  | .ty _, _, h => h
  | .tup l, _, h => by
    obtain ⟨a, xs, h1, h2, h3⟩ := h
    exact ⟨a, xs, h1, h2, IsL.bar hb h3⟩
  | .lst l, _, h => by
    obtain ⟨a, xs, h1, h2, h3, h4⟩ := h
    refine ⟨a, xs, h1, fun q => ?_, h3, IsL.bar hb h4⟩
    rcases hb a q with z | z
    · exact h2 z
    · rw [h3] at z; cases z
  | .dic ks l, _, h => by
    obtain ⟨a, xs, us, h1, h2, h3, h4, h5, h6, h7⟩ := h
    refine ⟨a, xs, us, h1, fun q => ?_, h3, h4, h5, h6, IsL.bar hb h7⟩
    rcases hb a q with z | z
    · exact h2 z
    · rw [h3] at z; cases z
theorem IsL.bar (hb : ∀ a, B' a → B a ∨ H a = none) : ∀ {l : List D} {xs : List V}, IsL K ra B H l xs → IsL K ra B' H l xs
  | [], _, h => h
  | d :: l, _, h => by
    obtain ⟨v, r, h1, h2, h3⟩ := h
    exact ⟨v, r, h1, Is.bar hb h2, IsL.bar hb h3⟩
end
mutual
theorem Is.lf : ∀ {d : D} {v : V}, d.lf = true → Is K ra B H d v → Is K ra B' H d v
  | .non, _, _, h => h
  | .bl _, _, _, h => h
  | .int _, _, _, h => h
  | .str _, _, _, h => h
  | .rng, _, _, h => h
  | .ty _, _, _, h => h
  | .tup l, _, q, h => by
    obtain ⟨a, xs, h1, h2, h3⟩ := h
    exact ⟨a, xs, h1, h2, IsL.lf (by simpa [D.lf] using q) h3⟩
  | .lst l, _, q, h => by simp [D.lf] at q
  | .dic ks l, _, q, h => by simp [D.lf] at q
theorem IsL.lf : ∀ {l : List D} {xs : List V}, D.lf.lfs l = true → IsL K ra B H l xs → IsL K ra B' H l xs
  | [], _, _, h => h
  | d :: l, _, q, h => by
    obtain ⟨v, r, h1, h2, h3⟩ := h
    simp [D.lf.lfs] at q
    exact ⟨v, r, h1, Is.lf q.1 h2, IsL.lf q.2 h3⟩
end
theorem IsL.length : ∀ {l : List D} {xs : List V}, IsL K ra B H l xs → xs.length = l.length
  | [], _, h => by cases h; rfl
  | d :: l, _, h => by
    obtain ⟨v, r, rfl, h2, h3⟩ := h
    simp [IsL.length h3]
theorem IsL.get : ∀ {l : List D} {xs : List V} {i : Nat} {d : D}, IsL K ra B H l xs → l[i]? = some d → ∃ v, xs[i]? = some v ∧ Is K ra B H d v
  | [], _, _, _, _, h => by simp at h
  | d :: l, _, 0, d', h, q => by
    obtain ⟨v, r, rfl, h2, h3⟩ := h
    simp at q; subst q
    exact ⟨v, rfl, h2⟩
  | d :: l, _, i + 1, d', h, q => by
    obtain ⟨v, r, rfl, h2, h3⟩ := h
    have := IsL.get (i := i) (d := d') h3 (by simpa using q)
    simpa using this
theorem IsL.append : ∀ {l m : List D} {xs ys : List V}, IsL K ra B H l xs → IsL K ra B H m ys → IsL K ra B H (l ++ m) (xs ++ ys)
  | [], _, _, _, h, k => by cases h; exact k
  | d :: l, m, _, ys, h, k => by
    obtain ⟨v, r, rfl, h2, h3⟩ := h
    exact ⟨v, r ++ ys, rfl, h2, IsL.append h3 k⟩
theorem IsL.one {d : D} {v : V} (h : Is K ra B H d v) : IsL K ra B H [d] [v] := ⟨v, [], rfl, h, rfl⟩
theorem IsL.set : ∀ {l : List D} {xs : List V} {i : Nat} {d : D} {v : V}, IsL K ra B H l xs → Is K ra B H d v → IsL K ra B H (l.set i d) (xs.set i v)
  | [], _, _, _, _, h, _ => by cases h; rfl
  | d :: l, _, 0, d', v', h, q => by
    obtain ⟨v, r, rfl, h2, h3⟩ := h
    exact ⟨v', r, rfl, q, h3⟩
  | d :: l, _, i + 1, d', v', h, q => by
    obtain ⟨v, r, rfl, h2, h3⟩ := h
    exact ⟨v, r.set i v', rfl, h2, IsL.set h3 q⟩
theorem IsL.drop : ∀ {l : List D} {xs : List V} (n : Nat), IsL K ra B H l xs → IsL K ra B H (l.drop n) (xs.drop n)
  | _, _, 0, h => h
  | [], _, _ + 1, h => by cases h; rfl
  | d :: l, _, n + 1, h => by
    obtain ⟨v, r, rfl, h2, h3⟩ := h
    exact IsL.drop n h3
theorem IsL.take : ∀ {l : List D} {xs : List V} (n : Nat), IsL K ra B H l xs → IsL K ra B H (l.take n) (xs.take n)
  | _, _, 0, _ => rfl
  | [], _, _ + 1, h => by cases h; rfl
  | d :: l, _, n + 1, h => by
    obtain ⟨v, r, rfl, h2, h3⟩ := h
    exact ⟨v, r.take n, rfl, h2, IsL.take n h3⟩
theorem IsL.ints : ∀ {ns : List Int} {xs : List V}, IsL K ra B H (ns.map D.int) xs → xs = ns.map V.int
  | [], _, h => h
  | n :: ns, _, h => by
    obtain ⟨v, r, rfl, h2, h3⟩ := h
    have e : v = V.int n := h2
    rw [e, IsL.ints h3]; rfl
theorem IsL.of_ints : ∀ {ns : List Int}, IsL K ra B H (ns.map D.int) (ns.map V.int)
  | [] => rfl
  | n :: ns => ⟨_, _, rfl, rfl, IsL.of_ints⟩
theorem IsL.snoc {l : List D} {xs : List V} {d : D} {v : V} (h : IsL K ra B H l xs) (q : Is K ra B H d v) : IsL K ra B H (l ++ [d]) (xs ++ [v]) := h.append (.one q)
end

/-! ### dicts of one's own: keys are tuples of ints and of tuples of ints -/
def DicIs (K : PySem.W.Frag) (ra : Addr) (B : Addr → Prop) (H : Hp) : List (List KI × D) → List (List KI × Addr × Value) → Prop
  | [], xs => xs = []
  | kv :: r, xs => ∃ x xr v, xs = x :: xr ∧ kv.1 = x.1 ∧ keyAt K H x.1 x.2.1 ∧ RelV v x.2.2 ∧ Is K ra B H kv.2 v ∧ DicIs K ra B H r xr
/-- a thing of one's own that changes -/
inductive Con where
  | lst (l : List D) | dic (kvs : List (List KI × D))
def ConIs (K : PySem.W.Frag) (ra : Addr) (B : Addr → Prop) (H : Hp) (c : Con) (a : Addr) : Prop := match c with
  | .lst l => ∃ xs, H a = some (.lst xs) ∧ IsL K ra B H l xs
  | .dic kvs => ∃ xs, H a = some (dctO a xs) ∧ DicIs K ra B H kvs xs
section
variable {K : PySem.W.Frag} {ra : Addr} {B B' : Addr → Prop} {H H' : Hp}
theorem DicIs.step (hb : ∀ a, B' a → B a) (e : Ex B' H H') : ∀ {kvs : List (List KI × D)} {xs : List (List KI × Addr × Value)}, DicIs K ra B H kvs xs → DicIs K ra B H' kvs xs
  | [], _, h => h
  | kv :: r, _, h => by
    obtain ⟨x, xr, v, h1, h2, h3, h4, h5, h6⟩ := h
    exact ⟨x, xr, v, h1, h2, h3.step e, h4, Is.step hb e h5, DicIs.step hb e h6⟩
theorem DicIs.anti (hb : ∀ a, B' a → B a) : ∀ {kvs : List (List KI × D)} {xs : List (List KI × Addr × Value)}, DicIs K ra B H kvs xs → DicIs K ra B' H kvs xs
  | [], _, h => h
  | kv :: r, _, h => by
    obtain ⟨x, xr, v, h1, h2, h3, h4, h5, h6⟩ := h
    exact ⟨x, xr, v, h1, h2, h3, h4, Is.anti hb h5, DicIs.anti hb h6⟩
theorem DicIs.bar (hb : ∀ a, B' a → B a ∨ H a = none) : ∀ {kvs : List (List KI × D)} {xs : List (List KI × Addr × Value)}, DicIs K ra B H kvs xs → DicIs K ra B' H kvs xs
  | [], _, h => h
  | kv :: r, _, h => by
    obtain ⟨x, xr, v, h1, h2, h3, h4, h5, h6⟩ := h
    exact ⟨x, xr, v, h1, h2, h3, h4, Is.bar hb h5, DicIs.bar hb h6⟩
variable {c : Con} {a : Addr}
theorem ConIs.some (h : ConIs K ra B H c a) : ∃ o, H a = .some o ∧ ¬ keepO o := by
  cases c with
  | lst l => obtain ⟨xs, h1, _⟩ := h; exact ⟨_, h1, id⟩
  | dic l => obtain ⟨xs, h1, _⟩ := h; exact ⟨_, h1, id⟩
theorem ConIs.there (h : ConIs K ra B H c a) : H a ≠ none := by obtain ⟨o, h1, _⟩ := h.some; rw [h1]; intro z; cases z
theorem ConIs.step (hb : ∀ a, B' a → B a) (e : Ex B' H H') (n : ¬ B' a) (h : ConIs K ra B H c a) : ConIs K ra B H' c a := by
  cases c with
  | lst l => obtain ⟨xs, h1, h2⟩ := h; exact ⟨xs, e a _ h1 fun z => absurd z n, IsL.step hb e h2⟩
  | dic l => obtain ⟨xs, h1, h2⟩ := h; exact ⟨xs, e a _ h1 fun z => absurd z n, DicIs.step hb e h2⟩
/-- the thing itself is kept -/
theorem ConIs.stay (hb : ∀ a, B' a → B a) (e : Ex B' H H') (n : H' a = H a) (h : ConIs K ra B H c a) : ConIs K ra B H' c a := by
  cases c with
  | lst l => obtain ⟨xs, h1, h2⟩ := h; exact ⟨xs, n.trans h1, IsL.step hb e h2⟩
  | dic l => obtain ⟨xs, h1, h2⟩ := h; exact ⟨xs, n.trans h1, DicIs.step hb e h2⟩
theorem ConIs.anti (hb : ∀ a, B' a → B a) (h : ConIs K ra B H c a) : ConIs K ra B' H c a := by
  cases c with
  | lst l => obtain ⟨xs, h1, h2⟩ := h; exact ⟨xs, h1, IsL.anti hb h2⟩
  | dic l => obtain ⟨xs, h1, h2⟩ := h; exact ⟨xs, h1, DicIs.anti hb h2⟩
theorem ConIs.bar (hb : ∀ a, B' a → B a ∨ H a = none) (h : ConIs K ra B H c a) : ConIs K ra B' H c a := by
  cases c with
  | lst l => obtain ⟨xs, h1, h2⟩ := h; exact ⟨xs, h1, IsL.bar hb h2⟩
  | dic l => obtain ⟨xs, h1, h2⟩ := h; exact ⟨xs, h1, DicIs.bar hb h2⟩
end

/-! ### the frame -/
inductive Sl where
  | no | im (d : D) | bo (d : D) | ow (c : Con)
structure G where
  m : Int
  cs : List Int
  k : Int
structure Exn where
  cls : Nat
  arg : D
inductive Out (α : Type) where
  | ok (a : α) | ex (x : Exn)
/-- whether a def of the name x stands in K -/
def hasFn (K : PySem.W.Frag) (x : Str) : Bool := K.any fun p => match p.2.data with
  | .func fd => fd.name == x
  | _ => false
/-- the tables of code objects that are followed: of the defs that hold lambdas -/
def tabOf (K : PySem.W.Frag) (o : Obj) : Option (Addr × Str) := match o.data with
  | .func fd => if ([("best_given" : Str), "_law_refusals", "_law_refuses", "_law_told", "_law_fair"].any fun x => fd.name == x) || (fd.name == ("law" : Str) && hasFn K "_law_kind") then (match fd.code with
    | .ref c => (match K.lookup c with
      | some oc => (match oc.data with
        | .fields vs => (match vs[11]? with
          | some (Value.ref P) => some (P, fd.qualname ++ (".<locals>.<lambda>" : Str))
          | _ => none)
        | _ => none)
      | none => none)
    | _ => none) else none
  | _ => none
def tabsK (K : PySem.W.Frag) : List (Addr × Str) := K.filterMap fun p => tabOf K p.2
structure Fx where
  ra : Addr
  rb : Addr
  H0 : Hp
  B : Addr → Prop
  T : List (Addr × Str)
def isR (F : Fx) (a : Addr) : Prop := a = F.ra ∨ a = F.rb ∨ a ∈ F.T.map (·.1)
/-- the drawing list as it stands -/
structure GOk (F : Fx) (g : G) (H : Hp) : Prop where
  ne : F.ra ≠ F.rb
  a : H F.ra = some (.lst [.int g.m, .ref F.rb, .int g.k])
  b : H F.rb = some (.lst (g.cs.map .int))
  sm : g.cs.length ≤ 1000
  tab : LamX.Tabs F.T H
theorem GOk.there {F : Fx} {g : G} {H : Hp} (k : GOk F g H) {a : Addr} (h : isR F a) : H a ≠ none := by
  rcases h with q | q | q
  · rw [q, k.a]; intro z; cases z
  · rw [q, k.b]; intro z; cases z
  · obtain ⟨p, hp, rfl⟩ := List.mem_map.mp q
    obtain ⟨ps, h1, _⟩ := k.tab p hp
    rw [h1]; intro z; cases z
/-- a list is changed -/
theorem tabs_put {T : List (Addr × Str)} {H : Hp} {a : Addr} {xs : List V} {o : HO} (k : LamX.Tabs T H) (h : H a = some (.lst xs)) : LamX.Tabs T (upd H a o) := fun p hp => by
  obtain ⟨ps, h1, h2, h3⟩ := k p hp
  have np : p.1 ≠ a := fun z => by rw [z, h] at h1; cases h1
  refine ⟨ps, by rw [upd_ne np]; exact h1, h2, fun pos cv hc => ?_⟩
  obtain ⟨c, e1, e2⟩ := h3 pos cv hc
  refine ⟨c, e1, ?_⟩
  rw [upd_ne (fun z => ?_)]
  · exact e2
  · rw [z, h] at e2
    have z := Option.some.inj e2
    unfold LamX.CodeO at z
    cases z
/-- an object that is neither drawing list nor table is changed -/
theorem GOk.put {F : Fx} {g : G} {H : Hp} (k : GOk F g H) {a : Addr} {o x : HO} (na : ¬ isR F a) (h : H a = some x) (hx : ∀ c q, x ≠ LamX.CodeO c q := by intro c q z; unfold LamX.CodeO at z; cases z) : GOk F g (upd H a o) := by
  have ga : F.ra ≠ a := fun z => na (.inl z.symm)
  have gb : F.rb ≠ a := fun z => na (.inr (.inl z.symm))
  refine ⟨k.ne, by rw [upd_ne ga]; exact k.a, by rw [upd_ne gb]; exact k.b, k.sm, fun p hp => ?_⟩
  obtain ⟨ps, h1, h2, h3⟩ := k.tab p hp
  have np : p.1 ≠ a := fun z => na (.inr (.inr (z ▸ List.mem_map.mpr ⟨p, hp, rfl⟩)))
  refine ⟨ps, by rw [upd_ne np]; exact h1, h2, fun pos cv hc => ?_⟩
  obtain ⟨c, e1, e2⟩ := h3 pos cv hc
  refine ⟨c, e1, ?_⟩
  rw [upd_ne (fun z => ?_)]
  · exact e2
  · rw [z, h] at e2
    exact hx _ _ (Option.some.inj e2)
def Own (ρ : List Sl) (σ : L2.St) (a : Addr) : Prop := ∃ (i : Nat) (l : Con), ρ[i]? = some (Sl.ow l) ∧ σ[i]? = some (some (V.ref a))
/-- barred for what is one's own | for what is lent -/
def imB (F : Fx) (ρ : List Sl) (σ : L2.St) (a : Addr) : Prop := F.H0 a ≠ none ∨ Own ρ σ a ∨ F.B a
def boB (F : Fx) (a : Addr) : Prop := isR F a ∨ F.H0 a = none
def SlOk (K : PySem.W.Frag) (F : Fx) (ρ : List Sl) (σ : L2.St) (H : Hp) : Sl → Option V → Prop
  | .no, _ => True
  | .im d, x => ∃ v, x = some v ∧ Is K F.ra (imB F ρ σ) H d v
  | .bo d, x => ∃ v, x = some v ∧ Is K F.ra (boB F) H d v
  | .ow l, x => ∃ a, x = some (.ref a) ∧ F.H0 a = none ∧ ¬ F.B a ∧ ConIs K F.ra (imB F ρ σ) H l a
structure Rep (K : PySem.W.Frag) (F : Fx) (ρ : List Sl) (g : G) (σ : L2.St) (H : Hp) : Prop where
  len : σ.length = ρ.length
  sl : ∀ (i : Nat) (s : Sl), ρ[i]? = some s → ∃ x : Option V, σ[i]? = some x ∧ SlOk K F ρ σ H s x
  dis : ∀ (i j : Nat) (li lj : Con) (x : Option V), ρ[i]? = some (Sl.ow li) → ρ[j]? = some (Sl.ow lj) → σ[i]? = some x → σ[j]? = some x → i = j
  gok : GOk F g H
  gin : ∀ a, isR F a → F.H0 a ≠ none
  bok : ∀ a, F.B a → ¬ isR F a ∧ H a ≠ none ∧ F.H0 a = none
  ext : Ex (isR F) F.H0 H
  tk : F.T = tabsK K

section
variable {K : PySem.W.Frag} {F : Fx} {ρ ρ' : List Sl} {g g' : G} {σ σ' : L2.St} {H H' : Hp}
theorem Rep.own (R : Rep K F ρ g σ H) {a : Addr} (h : Own ρ σ a) : F.H0 a = none ∧ ¬ isR F a ∧ ¬ F.B a ∧ H a ≠ none := by
  obtain ⟨i, l, h1, h2⟩ := h
  obtain ⟨x, hx, s⟩ := R.sl i _ h1
  obtain ⟨b, e1, e2, e3, e4⟩ := s
  rw [h2] at hx
  have e : some (V.ref a) = some (V.ref b) := (Option.some.inj hx).trans e1
  cases e
  exact ⟨e2, fun q => R.gin a q e2, e3, e4.there⟩
theorem Rep.im_r (R : Rep K F ρ g σ H) : ∀ a, isR F a → imB F ρ σ a := fun a h => .inl (R.gin a h)
/-- what stood ahead stands, whatever it is -/
theorem Rep.there (R : Rep K F ρ g σ H) {a : Addr} (h : F.H0 a ≠ none) : H a ≠ none := by
  by_cases q : isR F a
  · exact R.gok.there q
  · exact R.ext.some' q h
theorem SlOk.step (R : Rep K F ρ g σ H) (e : Ex (isR F) H H') : ∀ {s : Sl} {x : Option V}, (∃ i : Nat, ρ[i]? = some s ∧ σ[i]? = some x) → SlOk K F ρ σ H s x → SlOk K F ρ σ H' s x
  | .no, _, _, _ => trivial
  | .im d, _, _, ⟨v, h1, h2⟩ => ⟨v, h1, Is.step R.im_r e h2⟩
  | .bo d, _, _, ⟨v, h1, h2⟩ => ⟨v, h1, Is.step (fun a q => .inl q) e h2⟩
  | .ow l, _, ⟨i, hi, hx⟩, ⟨a, h1, h2, h3, h4⟩ => ⟨a, h1, h2, h3, ConIs.step R.im_r e (R.own ⟨i, l, hi, by rw [hx, h1]⟩).2.1 h4⟩
theorem Rep.step (R : Rep K F ρ g σ H) (e : Ex (isR F) H H') (k : GOk F g' H') : Rep K F ρ g' σ H' where
  len := R.len
  sl := fun i s h => let ⟨x, hx, q⟩ := R.sl i s h; ⟨x, hx, SlOk.step R e ⟨i, h, hx⟩ q⟩
  dis := R.dis
  gok := k
  gin := R.gin
  bok := fun a h => let ⟨h1, h2, h3⟩ := R.bok a h; ⟨h1, e.some' h1 h2, h3⟩
  ext := R.ext.trans e
  tk := R.tk
theorem own_set {i : Nat} {s : Sl} {x : Option V} (hs : ∀ l, s ≠ .ow l) {a : Addr} (h : Own (ρ.set i s) (σ.set i x) a) : Own ρ σ a ∧ ∃ (j : Nat), j ≠ i ∧ (∃ l, ρ[j]? = some (Sl.ow l)) ∧ σ[j]? = some (some (V.ref a)) := by
  obtain ⟨j, l, h1, h2⟩ := h
  by_cases q : i = j
  · subst q
    rw [List.getElem?_set] at h1
    split at h1
    · split at h1
      · cases h1; exact absurd rfl (hs l)
      · cases h1
    · exact absurd rfl (by assumption)
  · rw [List.getElem?_set_ne q] at h1 h2
    exact ⟨⟨j, l, h1, h2⟩, j, fun z => q z.symm, ⟨l, h1⟩, h2⟩
theorem SlOk.own (hb : ∀ a, Own ρ' σ' a → Own ρ σ a) : ∀ {s : Sl} {x : Option V}, SlOk K F ρ σ H s x → SlOk K F ρ' σ' H s x := by
  have q : ∀ a, imB F ρ' σ' a → imB F ρ σ a := fun a z => by
    rcases z with z | z | z
    · exact .inl z
    · exact .inr (.inl (hb a z))
    · exact .inr (.inr z)
  intro s x h
  cases s with
  | no => trivial
  | im d => obtain ⟨v, h1, h2⟩ := h; exact ⟨v, h1, Is.anti q h2⟩
  | bo d => exact h
  | ow l => obtain ⟨a, h1, h2, h3, h4⟩ := h; exact ⟨a, h1, h2, h3, ConIs.anti q h4⟩
/-- a slot takes what is no list of one's own -/
theorem Rep.set (R : Rep K F ρ g σ H) {i : Nat} {s : Sl} {x : Option V} (hs : ∀ l, s ≠ .ow l) (h : SlOk K F ρ σ H s x) : Rep K F (ρ.set i s) g (σ.set i x) H where
  len := by simp [R.len]
  sl := fun j s' hj => by
    have hb : ∀ a, Own (ρ.set i s) (σ.set i x) a → Own ρ σ a := fun a q => (own_set hs q).1
    by_cases q : i = j
    · subst q
      rw [List.getElem?_set] at hj
      simp only [if_true] at hj
      split at hj
      · rename_i hlt
        cases hj
        exact ⟨x, by rw [List.getElem?_set]; simp [R.len, hlt], SlOk.own hb h⟩
      · cases hj
    · rw [List.getElem?_set_ne q] at hj
      obtain ⟨y, hy, k⟩ := R.sl j s' hj
      exact ⟨y, by rw [List.getElem?_set_ne q]; exact hy, SlOk.own hb k⟩
  dis := fun j k lj lk y h1 h2 h3 h4 => by
    have n1 : i ≠ j := fun z => by
      subst z
      rw [List.getElem?_set] at h1
      simp only [if_true] at h1
      split at h1
      · cases h1; exact hs _ rfl
      · cases h1
    have n2 : i ≠ k := fun z => by
      subst z
      rw [List.getElem?_set] at h2
      simp only [if_true] at h2
      split at h2
      · cases h2; exact hs _ rfl
      · cases h2
    rw [List.getElem?_set_ne n1] at h1 h3
    rw [List.getElem?_set_ne n2] at h2 h4
    exact R.dis j k lj lk y h1 h2 h3 h4
  gok := R.gok
  gin := R.gin
  bok := R.bok
  ext := R.ext
  tk := R.tk
/-- a slot is forgotten in the mirror alone -/
theorem Rep.forget (R : Rep K F ρ g σ H) (i : Nat) : Rep K F (ρ.set i .no) g σ H := by
  by_cases hi : i < σ.length
  · have e : σ.set i σ[i] = σ := List.set_getElem_self hi
    have := R.set (i := i) (s := .no) (x := σ[i]) (fun l => by intro z; cases z) trivial
    rw [e] at this
    exact this
  · have e : ρ.set i .no = ρ := List.set_eq_of_length_le (by have := R.len; omega)
    rw [e]; exact R
/-- a list of one's own is set free -/
theorem Rep.freeze (R : Rep K F ρ g σ H) {i : Nat} {l : List D} (h : ρ[i]? = some (.ow (.lst l))) : Rep K F (ρ.set i (.im (.lst l))) g σ H := by
  obtain ⟨x, hx, a, h1, h2, h3, xs, h4, h5⟩ := R.sl i _ h
  have hi : i < σ.length := (List.getElem?_eq_some_iff.mp hx).1
  have e : σ.set i x = σ := by
    have := (List.getElem?_eq_some_iff.mp hx).2
    rw [← this]; exact List.set_getElem_self hi
  subst h1
  have R1 := R.forget i
  have nb : ¬ imB F (ρ.set i .no) σ a := fun z => by
    rcases z with z | z | z
    · exact z h2
    · obtain ⟨j, l', q1, q2⟩ := z
      by_cases q : i = j
      · subst q
        rw [List.getElem?_set] at q1
        simp only [if_true] at q1
        split at q1 <;> cases q1
      · rw [List.getElem?_set_ne q] at q1
        exact q (R.dis i j _ l' _ h q1 hx q2)
    · exact h3 z
  have hb : ∀ b, imB F (ρ.set i .no) σ b → imB F ρ σ b := fun b z => by
    rcases z with z | z | z
    · exact .inl z
    · obtain ⟨j, l', q1, q2⟩ := z
      by_cases q : i = j
      · subst q
        rw [List.getElem?_set] at q1
        simp only [if_true] at q1
        split at q1 <;> cases q1
      · rw [List.getElem?_set_ne q] at q1
        exact .inr (.inl ⟨j, l', q1, q2⟩)
    · exact .inr (.inr z)
  have := R1.set (i := i) (s := .im (.lst l)) (x := some (.ref a)) (fun l => by intro z; cases z) ⟨_, rfl, a, xs, rfl, nb, h4, IsL.anti hb h5⟩
  rw [e, List.set_set] at this
  exact this
/-- what a piece of the body leaves -/
structure Fr (F : Fx) (ρ : List Sl) (σ : L2.St) (H : Hp) (ρ' : List Sl) (σ' : L2.St) (H' : Hp) : Prop where
  ex : Ex (fun a => isR F a ∨ Own ρ σ a) H H'
  ow : ∀ a, Own ρ' σ' a → Own ρ σ a ∨ H a = none
theorem Fr.refl : Fr F ρ σ H ρ σ H := ⟨Ex.refl, fun _ h => .inl h⟩
theorem Fr.trans {ρ2 : List Sl} {σ2 : L2.St} {H2 : Hp} (a : Fr F ρ σ H ρ' σ' H') (b : Fr F ρ' σ' H' ρ2 σ2 H2) (R : Rep K F ρ g σ H) (R' : Rep K F ρ' g' σ' H') : Fr F ρ σ H ρ2 σ2 H2 where
  ex := fun x o h n => b.ex x o (a.ex x o h n) fun q => by
    rcases q with q | q
    · exact n (.inl q)
    · rcases a.ow x q with z | z
      · exact n (.inr z)
      · rw [h] at z; cases z
  ow := fun x h => by
    rcases b.ow x h with z | z
    · exact a.ow x z
    · cases q : H x with
      | none => exact .inr rfl
      | some o =>
        by_cases w : Own ρ σ x
        · exact .inl w
        · exfalso
          by_cases r : isR F x
          · exact R'.gok.there r z
          · rw [a.ex x o q fun y => absurd y (fun y => y.elim r w)] at z; cases z
theorem Fr.of (e : Ex (isR F) H H') : Fr F ρ σ H ρ σ H' := ⟨e.mono fun _ h => .inl h, fun _ h => .inl h⟩
end
end Fw

set_option Elab.async false
set_option linter.all false
set_option maxRecDepth 100000
set_option maxHeartbeats 2000000
/-! Fw2: what a reading is worth: expressions -/
namespace Fw
open PySem PySem.Spec PyProof.Rows L2

abbrev MV (α : Type) := List Sl → G → Option (Out α × G)
def mret {α : Type} (a : α) : MV α := fun _ g => some (.ok a, g)
def mbind {α β : Type} (m : MV α) (f : α → MV β) : MV β := fun ρ g => match m ρ g with
  | some (.ok a, g1) => f a ρ g1
  | some (.ex x, g1) => some (.ex x, g1)
  | none => none
def mlift {α : Type} (o : Option α) : MV α := fun _ g => match o with
  | some a => some (.ok a, g)
  | none => none
def mno {α : Type} : MV α := fun _ _ => none
abbrev IXT := Exn → Value → Option Addr → Hp → Prop

/-- what is wanted of an exception -/
def XPost (E : XK) (ix : IXT) (F : Fx) (H : Hp) (g : G) (x : Exn) : Prop := ∀ cls dd H', Ex (isR F) H H' → GOk F g H' → ix x cls dd H' → E cls dd H'
def bad (b : Bool) (F : Fx) (ρ : List Sl) (σ : L2.St) (a : Addr) : Prop := if b = true then imB F ρ σ a else isR F a
def Post {α : Type} (r : Out α) (ok : α → Prop) (no : Exn → Prop) : Prop := match r with
  | .ok a => ok a
  | .ex x => no x
/-- an expression's reading t is worth m; b: its value is one's own, else lent -/
def RE (K : PySem.W.Frag) (E : XK) (ix : IXT) (b : Bool) (t : TE) (m : MV D) : Prop := ∀ F ρ g σ H, Rep K F ρ g σ H → ∀ r g', m ρ g = some (r, g') → ∀ Q : VK,
  Post r (fun d => ∀ v H', Ex (isR F) H H' → GOk F g' H' → Is K F.ra (bad b F ρ σ) H' d v → Q v H') (XPost E ix F H g') → t σ H Q
/-- a new list -/
def RF (K : PySem.W.Frag) (E : XK) (ix : IXT) (t : TE) (m : MV (List D)) : Prop := ∀ F ρ g σ H, Rep K F ρ g σ H → ∀ r g', m ρ g = some (r, g') → ∀ Q : VK,
  Post r (fun l => ∀ a xs H', Ex (isR F) H H' → GOk F g' H' → H a = none → H' a = some (.lst xs) → IsL K F.ra (fun b => imB F ρ σ b ∨ b = a) H' l xs → Q (.ref a) H') (XPost E ix F H g') → t σ H Q
def RT (K : PySem.W.Frag) (E : XK) (ix : IXT) (t : TT) (m : MV Bool) : Prop := ∀ F ρ g σ H, Rep K F ρ g σ H → ∀ r g', m ρ g = some (r, g') → ∀ Q : Bool → Hp → Prop,
  Post r (fun c => ∀ H', Ex (isR F) H H' → GOk F g' H' → Q c H') (XPost E ix F H g') → t σ H Q
def RA (K : PySem.W.Frag) (E : XK) (ix : IXT) (b : Bool) (t : TA) (m : MV (List D)) : Prop := ∀ F ρ g σ H, Rep K F ρ g σ H → ∀ r g', m ρ g = some (r, g') → ∀ Q : List V → Hp → Prop,
  Post r (fun l => ∀ vs H', Ex (isR F) H H' → GOk F g' H' → IsL K F.ra (bad b F ρ σ) H' l vs → Q vs H') (XPost E ix F H g') → t σ H Q

section
variable {K : PySem.W.Frag} {E : XK} {ix : IXT} {F : Fx} {ρ : List Sl} {g g' g1 : G} {σ : L2.St} {H H' H1 : Hp} {b b1 b2 : Bool} {t ta tb tc : TE} {m ma mb mc : MV D} {tt uu : TT} {mt mu : MV Bool} {α β : Type}
theorem bad_r (R : Rep K F ρ g σ H) : ∀ a, isR F a → bad b F ρ σ a := fun a h => by
  unfold bad
  cases b with
  | true => exact R.im_r a h
  | false => exact h
theorem Rep.bad_own {d : D} {v : V} (R : Rep K F ρ g σ H) (h : Is K F.ra (bad true F ρ σ) H' d v) : Is K F.ra (bad b F ρ σ) H' d v :=
  Is.anti (fun a q => by
    cases b with
    | true => exact q
    | false => exact R.im_r a q) h
theorem XPost.mono {x : Exn} (e : Ex (isR F) H H1) (h : XPost E ix F H g x) : XPost E ix F H1 g x := fun cls dd H' q => h cls dd H' (e.trans q)
theorem GOk.is (k : GOk F g H) (k' : GOk F g' H) : g.m = g'.m ∧ g.k = g'.k ∧ g.cs = g'.cs := by
  have a := k.a.symm.trans k'.a
  have b := k.b.symm.trans k'.b
  have a' : [V.int g.m, .ref F.rb, .int g.k] = [V.int g'.m, .ref F.rb, .int g'.k] := by injection a with z; injection z
  have b' : g.cs.map V.int = g'.cs.map V.int := by injection b with z; injection z
  simp only [List.cons.injEq, V.int.injEq, and_true, true_and] at a'
  exact ⟨a'.1, a'.2, (List.map_inj_right (fun x y h => by injection h)).mp b'⟩

/-- one part of an expression -/
theorem RE.one {r : Out β} {k : D → MV β} {S : V → Hp → Prop} (h : RE K E ix b t m) (R : Rep K F ρ g σ H) (e : mbind m k ρ g = some (r, g'))
    (hx : ∀ x, r = .ex x → XPost E ix F H g' x)
    (hk : ∀ d v H1 g1, Ex (isR F) H H1 → Rep K F ρ g1 σ H1 → Is K F.ra (bad b F ρ σ) H1 d v → k d ρ g1 = some (r, g') → S v H1) : t σ H S := by
  unfold mbind at e
  split at e
  · rename_i a g1 hm
    exact h F ρ g σ H R _ _ hm S fun v H1 e1 k1 i1 => hk a v H1 g1 e1 (R.step e1 k1) i1 e
  · rename_i x g1 hm
    cases e
    exact h F ρ g σ H R _ _ hm S (hx x rfl)
  · cases e
theorem RT.one {r : Out β} {k : Bool → MV β} {S : Bool → Hp → Prop} (h : RT K E ix tt mt) (R : Rep K F ρ g σ H) (e : mbind mt k ρ g = some (r, g'))
    (hx : ∀ x, r = .ex x → XPost E ix F H g' x)
    (hk : ∀ c H1 g1, Ex (isR F) H H1 → Rep K F ρ g1 σ H1 → k c ρ g1 = some (r, g') → S c H1) : tt σ H S := by
  unfold mbind at e
  split at e
  · rename_i a g1 hm
    exact h F ρ g σ H R _ _ hm S fun H1 e1 k1 => hk a H1 g1 e1 (R.step e1 k1) e
  · rename_i x g1 hm
    cases e
    exact h F ρ g σ H R _ _ hm S (hx x rfl)
  · cases e
theorem RA.one {r : Out β} {ts : TA} {ms : MV (List D)} {k : List D → MV β} {S : List V → Hp → Prop} (h : RA K E ix b ts ms) (R : Rep K F ρ g σ H) (e : mbind ms k ρ g = some (r, g'))
    (hx : ∀ x, r = .ex x → XPost E ix F H g' x)
    (hk : ∀ l vs H1 g1, Ex (isR F) H H1 → Rep K F ρ g1 σ H1 → IsL K F.ra (bad b F ρ σ) H1 l vs → k l ρ g1 = some (r, g') → S vs H1) : ts σ H S := by
  unfold mbind at e
  split at e
  · rename_i a g1 hm
    exact h F ρ g σ H R _ _ hm S fun vs H1 e1 k1 i1 => hk a vs H1 g1 e1 (R.step e1 k1) i1 e
  · rename_i x g1 hm
    cases e
    exact h F ρ g σ H R _ _ hm S (hx x rfl)
  · cases e
theorem RF.one {r : Out β} {k : List D → MV β} {S : V → Hp → Prop} {ml : MV (List D)} (h : RF K E ix t ml) (R : Rep K F ρ g σ H) (e : mbind ml k ρ g = some (r, g'))
    (hx : ∀ x, r = .ex x → XPost E ix F H g' x)
    (hk : ∀ l a xs H1 g1, Ex (isR F) H H1 → Rep K F ρ g1 σ H1 → H a = none → H1 a = some (.lst xs) → IsL K F.ra (fun b => imB F ρ σ b ∨ b = a) H1 l xs → k l ρ g1 = some (r, g') → S (.ref a) H1) : t σ H S := by
  unfold mbind at e
  split at e
  · rename_i a g1 hm
    exact h F ρ g σ H R _ _ hm S fun p xs H1 e1 k1 n1 l1 i1 => hk a p xs H1 g1 e1 (R.step e1 k1) n1 l1 i1 e
  · rename_i x g1 hm
    cases e
    exact h F ρ g σ H R _ _ hm S (hx x rfl)
  · cases e
theorem mlift_some {o : Option α} {r : Out α} (h : mlift o ρ g = some (r, g')) : ∃ a, o = some a ∧ r = .ok a ∧ g' = g := by
  unfold mlift at h
  split at h
  · cases h; exact ⟨_, rfl, rfl, rfl⟩
  · cases h
theorem mret_some {a : α} {r : Out α} (h : mret a ρ g = some (r, g')) : r = .ok a ∧ g' = g := by
  unfold mret at h; cases h; exact ⟨rfl, rfl⟩
theorem Post.x {r : Out α} {ok : α → Prop} {no : Exn → Prop} (h : Post r ok no) : ∀ x, r = .ex x → no x := fun x e => by subst e; exact h

/-! ### values -/
def mVar (i : Nat) : MV D := fun ρ g => match ρ[i]? with
  | some (.im d) => some (.ok d, g)
  | _ => none
def mVarB (i : Nat) : MV D := fun ρ g => match ρ[i]? with
  | some (.im d) => some (.ok d, g)
  | some (.bo d) => some (.ok d, g)
  | some (.ow (.lst l)) => some (.ok (.lst l), g)
  | _ => none
theorem re_var {i : Nat} : RE K E ix true (tVar i) (mVar i) := fun F ρ g σ H R r g' e Q h => by
  unfold mVar at e
  split at e
  · rename_i d hd
    cases e
    obtain ⟨x, hx, v, rfl, hv⟩ := R.sl i _ hd
    exact ⟨v, hx, h v H Ex.refl R.gok hv⟩
  · cases e
theorem rb_var {i : Nat} : RE K E ix false (tVar i) (mVarB i) := fun F ρ g σ H R r g' e Q h => by
  unfold mVarB at e
  split at e
  · rename_i d hd
    cases e
    obtain ⟨x, hx, v, rfl, hv⟩ := R.sl i _ hd
    exact ⟨v, hx, h v H Ex.refl R.gok (Is.anti R.im_r hv)⟩
  · rename_i d hd
    cases e
    obtain ⟨x, hx, v, rfl, hv⟩ := R.sl i _ hd
    exact ⟨v, hx, h v H Ex.refl R.gok (Is.anti (fun a q => .inl q) hv)⟩
  · rename_i l hl
    cases e
    obtain ⟨x, hx, a, rfl, q2, q3, xs, q4, q5⟩ := R.sl i _ hl
    exact ⟨.ref a, hx, h _ H Ex.refl R.gok ⟨a, xs, rfl, (R.own ⟨i, _, hl, hx⟩).2.1, q4, IsL.anti R.im_r q5⟩⟩
  · cases e
theorem re_c {d : D} {v : V} (hv : ∀ ra B H, Is K ra B H d v) : RE K E ix b (tC v) (mret d) := fun F ρ g σ H R r g' e Q h => by
  cases e
  exact h v H Ex.refl R.gok (hv _ _ _)
theorem re_int {n : Int} : RE K E ix b (tC (.int n)) (mret (.int n)) := re_c fun _ _ _ => rfl
theorem re_bl {c : Bool} : RE K E ix b (tC (.bl c)) (mret (.bl c)) := re_c fun _ _ _ => rfl
theorem re_non : RE K E ix b (tC .non) (mret .non) := re_c fun _ _ _ => rfl
theorem re_str {x : Str} : RE K E ix b (tC (.str x)) (mret (.str x)) := re_c fun _ _ _ => rfl
/-- lent for own: what is one's own may be lent -/
theorem re_lend (h : RE K E ix true t m) : RE K E ix false t m := fun F ρ g σ H R r g' e Q q => h F ρ g σ H R r g' e Q (by
  cases r with
  | ok d => exact fun v H' e1 k1 i1 => q v H' e1 k1 (Is.anti R.im_r i1)
  | ex x => exact q)
def mLf (m : MV D) : MV D := mbind m fun d => if d.lf = true then mret d else mno
/-- what has no list within is one's own -/
theorem re_lf (h : RE K E ix false t m) : RE K E ix b t (mLf m) := fun F ρ g σ H R r g' e Q q =>
  h.one R e q.x fun d v H1 g1 e1 R1 i1 k1 => by
    split at k1
    · rename_i hd
      cases k1
      exact q v H1 e1 R1.gok (Is.lf hd i1)
    · cases k1

/-- an operation of two values that gives a value without list -/
def Sc2 (K : PySem.W.Frag) (r : R2) (f : D → D → Option D) : Prop := ∀ (ra : Addr) (B B' : Addr → Prop) (H : Hp) (x y c : D) (p q : V), Is K ra B H x p → Is K ra B' H y q → f x y = some c →
  ∃ z : V, (∀ ra B H, Is K ra B H c z) ∧ ∀ Q : VK, Q z H → r p q H Q
def mOp (f : D → D → Option D) (ma mb : MV D) : MV D := mbind ma fun x => mbind mb fun y => mlift (f x y)
theorem re_op {r : R2} {f : D → D → Option D} (hs : Sc2 K r f) (ha : RE K E ix b1 ta ma) (hb : RE K E ix b2 tb mb) : RE K E ix b (tOp r ta tb) (mOp f ma mb) := fun F ρ g σ H R r g' e Q q =>
  ha.one R e q.x fun x p H1 g1 e1 R1 i1 k1 => hb.one R1 k1 (fun z hz => (q.x z hz).mono e1) fun y w H2 g2 e2 R2 i2 k2 => by
    obtain ⟨c, hc, rfl, rfl⟩ := mlift_some k2
    obtain ⟨z, hz, hq⟩ := hs _ _ _ H2 x y c p w (Is.step (bad_r R) e2 i1) i2 hc
    exact hq Q (q z H2 (e1.trans e2) R2.gok (hz _ _ _))
def Sc1 (K : PySem.W.Frag) (r : V → Hp → VK → Prop) (f : D → Option D) : Prop := ∀ (ra : Addr) (B : Addr → Prop) (H : Hp) (x c : D) (p : V), Is K ra B H x p → f x = some c →
  ∃ z : V, (∀ ra B H, Is K ra B H c z) ∧ ∀ Q : VK, Q z H → r p H Q
def mUn (f : D → Option D) (ma : MV D) : MV D := mbind ma fun x => mlift (f x)
theorem re_un {r : V → Hp → VK → Prop} {f : D → Option D} (hs : Sc1 K r f) (ha : RE K E ix b1 ta ma) : RE K E ix b (tUn r ta) (mUn f ma) := fun F ρ g σ H R r g' e Q q =>
  ha.one R e q.x fun x p H1 g1 e1 R1 i1 k1 => by
    obtain ⟨c, hc, rfl, rfl⟩ := mlift_some k1
    obtain ⟨z, hz, hq⟩ := hs _ _ H1 x c p i1 hc
    exact hq Q (q z H1 e1 R1.gok (hz _ _ _))
def ScN (K : PySem.W.Frag) (r : List V → Hp → VK → Prop) (f : List D → Option D) : Prop := ∀ (ra : Addr) (B : Addr → Prop) (H : Hp) (l : List D) (c : D) (vs : List V), IsL K ra B H l vs → f l = some c →
  ∃ z : V, (∀ ra B H, Is K ra B H c z) ∧ ∀ Q : VK, Q z H → r vs H Q
def mCB (f : List D → Option D) (ms : MV (List D)) : MV D := mbind ms fun l => mlift (f l)
theorem re_cb {r : List V → Hp → VK → Prop} {f : List D → Option D} {ts : TA} {ms : MV (List D)} (hs : ScN K r f) (ha : RA K E ix b1 ts ms) : RE K E ix b (tCB r ts) (mCB f ms) := fun F ρ g σ H R r g' e Q q =>
  ha.one R e q.x fun l vs H1 g1 e1 R1 i1 k1 => by
    obtain ⟨c, hc, rfl, rfl⟩ := mlift_some k1
    obtain ⟨z, hz, hq⟩ := hs _ _ H1 l c vs i1 hc
    exact hq Q (q z H1 e1 R1.gok (hz _ _ _))
/-! ### argument lists -/
def mNil : MV (List D) := mret []
def mCons (m : MV D) (ms : MV (List D)) : MV (List D) := mbind m fun d => mbind ms fun l => mret (d :: l)
theorem ra_nil : RA K E ix b tNil mNil := fun F ρ g σ H R r g' e Q h => by
  cases e
  exact h [] H Ex.refl R.gok rfl
theorem ra_cons {ts : TA} {ms : MV (List D)} (ha : RE K E ix b ta ma) (hs : RA K E ix b ts ms) : RA K E ix b (tCons ta ts) (mCons ma ms) := fun F ρ g σ H R r g' e Q q =>
  ha.one R e q.x fun x p H1 g1 e1 R1 i1 k1 => hs.one R1 k1 (fun z hz => (q.x z hz).mono e1) fun l vs H2 g2 e2 R2 i2 k2 => by
    cases k2
    exact q (p :: vs) H2 (e1.trans e2) R2.gok ⟨p, vs, rfl, Is.step (bad_r R) e2 i1, i2⟩
/-! ### tuples, lists -/
def small (n : Nat) : Bool := decide (n ≤ 1000000)
theorem small_line {n : Nat} (h : small n = true) : n < sizeLine := Nat.lt_of_le_of_lt (of_decide_eq_true h) (by decide)
def mTup (ms : MV (List D)) : MV D := mbind ms fun l => if small l.length = true then mret (.tup l) else mno
theorem re_tup {ts : TA} {ms : MV (List D)} (hs : RA K E ix b ts ms) : RE K E ix b (tTup ts) (mTup ms) := fun F ρ g σ H R r g' e Q q =>
  hs.one R e q.x fun l vs H1 g1 e1 R1 i1 k1 => by
    split at k1
    · rename_i hz
      cases k1
      refine ⟨by rw [i1.length]; exact Nat.le_of_lt (small_line hz), fun p hp => ?_⟩
      have en : Ex (isR F) H1 (upd H1 p (.tup vs)) := Ex.new hp
      exact q (.ref p) _ (e1.trans en) (by
        have k := R1.gok
        exact ⟨k.ne, (by rw [upd_ne (ne_of_none k.a hp)]; exact k.a), by rw [upd_ne (ne_of_none k.b hp)]; exact k.b, k.sm, LamX.Tabs.ext k.tab fun b o e => by rw [upd_ne (ne_of_none e hp)]; exact e⟩) ⟨p, vs, rfl, SqT.of upd_same, IsL.step (bad_r R) en i1⟩
    · cases k1
theorem GOk.new {p : Addr} {o : HO} (k : GOk F g H) (hp : H p = none) : GOk F g (upd H p o) :=
  ⟨k.ne, (by rw [upd_ne (ne_of_none k.a hp)]; exact k.a), by rw [upd_ne (ne_of_none k.b hp)]; exact k.b, k.sm, LamX.Tabs.ext k.tab fun b o e => by rw [upd_ne (ne_of_none e hp)]; exact e⟩
def mLst (ms : MV (List D)) : MV (List D) := mbind ms fun l => if small l.length = true then mret l else mno
theorem rf_lst {ts : TA} {ms : MV (List D)} (hs : RA K E ix true ts ms) : RF K E ix (tLst ts) (mLst ms) := fun F ρ g σ H R r g' e Q q =>
  hs.one R e q.x fun l vs H1 g1 e1 R1 i1 k1 => by
    split at k1
    · rename_i hz
      cases k1
      refine ⟨by rw [i1.length]; exact Nat.le_of_lt (small_line hz), fun p hp => ?_⟩
      have en : Ex (isR F) H1 (upd H1 p (.lst vs)) := Ex.new hp
      have hH : H p = none := by
        cases z : H p with
        | none => rfl
        | some o =>
          by_cases w : isR F p
          · exact absurd hp (R1.gok.there w)
          · rw [e1 p o z fun c => absurd c w] at hp; cases hp
      exact q p vs _ (e1.trans en) (R1.gok.new hp) hH upd_same (IsL.step (fun a c => .inl (R.im_r a c)) en (IsL.bar (fun a c => by
        rcases c with c | c
        · exact .inl c
        · rw [c]; exact .inr hp) i1))
    · cases k1
/-- a new list as a value -/
def mFr (ml : MV (List D)) : MV D := mbind ml fun l => mret (.lst l)
theorem fresh_im (R : Rep K F ρ g σ H) {a : Addr} (h : H a = none) : ¬ imB F ρ σ a := fun z => by
  rcases z with z | z | z
  · exact absurd h (R.there z)
  · exact absurd h (R.own z).2.2.2
  · exact absurd h (R.bok a z).2.1
theorem re_new {ml : MV (List D)} (h : RF K E ix t ml) : RE K E ix b t (mFr ml) := fun F ρ g σ H R r g' e Q q =>
  h.one R e q.x fun l a xs H1 g1 e1 R1 n1 l1 i1 k1 => by
    cases k1
    exact q (.ref a) H1 e1 R1.gok (R.bad_own ⟨a, xs, rfl, fresh_im R n1, l1, IsL.anti (fun c z => .inl z) i1⟩)
/-! ### and, or, not, if -/
def asB (d : D) : Option Bool := match d with
  | .bl c => some c
  | _ => none
def mB (m : MV D) : MV Bool := mbind m fun d => mlift (asB d)
theorem asB_is {d : D} {c : Bool} {ra : Addr} {B : Addr → Prop} {v : V} (h : asB d = some c) (i : Is K ra B H d v) : v = .bl c ∧ d = .bl c := by
  unfold asB at h
  split at h
  · cases h; exact ⟨i, rfl⟩
  · cases h
theorem rt_test (h : RE K E ix b t m) : RT K E ix (tTest t) (mB m) := fun F ρ g σ H R r g' e Q q =>
  h.one R e q.x fun d v H1 g1 e1 R1 i1 k1 => by
    obtain ⟨c, hc, rfl, rfl⟩ := mlift_some k1
    exact ⟨c, (asB_is hc i1).1, q H1 e1 R1.gok⟩
theorem rt_B (h : RE K E ix b t m) : RT K E ix (tB t) (mB m) := rt_test h
def mAnd (ma mb : MV D) : MV D := mbind (mB ma) fun c => if c = true then mb else mret (.bl false)
def mOr (ma mb : MV D) : MV D := mbind (mB ma) fun c => if c = true then mret (.bl true) else mb
def mNot (ma : MV D) : MV D := mbind (mB ma) fun c => mret (.bl (!c))
theorem re_then {r : Out D} {Q : VK} (hb : RE K E ix b tb mb) (R : Rep K F ρ g σ H) (R1 : Rep K F ρ g1 σ H1) (e1 : Ex (isR F) H H1) (k : mb ρ g1 = some (r, g')) (q : Post r (fun d => ∀ v H', Ex (isR F) H H' → GOk F g' H' → Is K F.ra (bad b F ρ σ) H' d v → Q v H') (XPost E ix F H g')) : tb σ H1 Q :=
  hb F ρ g1 σ H1 R1 r g' k Q (by
    cases r with
    | ok d => exact fun v H' e2 k2 i2 => q v H' (e1.trans e2) k2 i2
    | ex x => exact XPost.mono e1 q)
theorem re_and (ha : RE K E ix b1 ta ma) (hb : RE K E ix b tb mb) : RE K E ix b (tAndV ta tb) (mAnd ma mb) := fun F ρ g σ H R r g' e Q q =>
  (rt_test ha).one (S := fun c H1 => if c = true then tb σ H1 Q else Q (.bl false) H1) R e q.x fun c H1 g1 e1 R1 k1 => by
    cases c with
    | true => simp only [if_true] at k1 ⊢; exact re_then hb R R1 e1 k1 q
    | false =>
      simp only [Bool.false_eq_true, if_false] at k1 ⊢
      cases k1
      exact q _ H1 e1 R1.gok rfl
theorem re_or (ha : RE K E ix b1 ta ma) (hb : RE K E ix b tb mb) : RE K E ix b (tOrV ta tb) (mOr ma mb) := fun F ρ g σ H R r g' e Q q =>
  (rt_test ha).one (S := fun c H1 => if c = true then Q (.bl true) H1 else tb σ H1 Q) R e q.x fun c H1 g1 e1 R1 k1 => by
    cases c with
    | true =>
      simp only [if_true] at k1 ⊢
      cases k1
      exact q _ H1 e1 R1.gok rfl
    | false => simp only [Bool.false_eq_true, if_false] at k1 ⊢; exact re_then hb R R1 e1 k1 q
theorem re_not (ha : RE K E ix b1 ta ma) : RE K E ix b (tNotV ta) (mNot ma) := fun F ρ g σ H R r g' e Q q =>
  (rt_test ha).one (S := fun c H1 => Q (.bl (!c)) H1) R e q.x fun c H1 g1 e1 R1 k1 => by
    cases k1
    exact q _ H1 e1 R1.gok rfl
def mTAnd (ma mb : MV Bool) : MV Bool := mbind ma fun c => if c = true then mb else mret false
def mTOr (ma mb : MV Bool) : MV Bool := mbind ma fun c => if c = true then mret true else mb
def mTNot (ma : MV Bool) : MV Bool := mbind ma fun c => mret (!c)
theorem rt_then {r : Out Bool} {Q : Bool → Hp → Prop} (hb : RT K E ix uu mu) (R1 : Rep K F ρ g1 σ H1) (e1 : Ex (isR F) H H1) (k : mu ρ g1 = some (r, g')) (q : Post r (fun d => ∀ H', Ex (isR F) H H' → GOk F g' H' → Q d H') (XPost E ix F H g')) : uu σ H1 Q :=
  hb F ρ g1 σ H1 R1 r g' k Q (by
    cases r with
    | ok d => exact fun H' e2 k2 => q H' (e1.trans e2) k2
    | ex x => exact XPost.mono e1 q)
theorem rt_and (ha : RT K E ix tt mt) (hb : RT K E ix uu mu) : RT K E ix (tAnd tt uu) (mTAnd mt mu) := fun F ρ g σ H R r g' e Q q =>
  ha.one R e q.x fun c H1 g1 e1 R1 k1 => by
    cases c with
    | true => simp only [if_true] at k1 ⊢; exact rt_then hb R1 e1 k1 q
    | false =>
      simp only [Bool.false_eq_true, if_false] at k1 ⊢
      cases k1
      exact q H1 e1 R1.gok
theorem rt_or (ha : RT K E ix tt mt) (hb : RT K E ix uu mu) : RT K E ix (tOr tt uu) (mTOr mt mu) := fun F ρ g σ H R r g' e Q q =>
  ha.one R e q.x fun c H1 g1 e1 R1 k1 => by
    cases c with
    | true =>
      simp only [if_true] at k1 ⊢
      cases k1
      exact q H1 e1 R1.gok
    | false => simp only [Bool.false_eq_true, if_false] at k1 ⊢; exact rt_then hb R1 e1 k1 q
theorem rt_not (ha : RT K E ix tt mt) : RT K E ix (tNot tt) (mTNot mt) := fun F ρ g σ H R r g' e Q q =>
  ha.one R e q.x fun c H1 g1 e1 R1 k1 => by
    cases k1
    exact q H1 e1 R1.gok
def mIf (mt : MV Bool) (ma mb : MV D) : MV D := mbind mt fun c => if c = true then ma else mb
theorem re_if (ht : RT K E ix tt mt) (ha : RE K E ix b ta ma) (hb : RE K E ix b tb mb) : RE K E ix b (tIf tt ta tb) (mIf mt ma mb) := fun F ρ g σ H R r g' e Q q =>
  ht.one R e q.x fun c H1 g1 e1 R1 k1 => by
    cases c with
    | true => simp only [if_true] at k1 ⊢; exact re_then ha R R1 e1 k1 q
    | false => simp only [Bool.false_eq_true, if_false] at k1 ⊢; exact re_then hb R R1 e1 k1 q
/-! ### a < b < c -/
def mChain (f f' : D → D → Option D) (ma mb mc : MV D) : MV D := mbind ma fun x => mbind mb fun y => mbind (mlift ((f x y).bind asB)) fun c => if c = true then mbind mc fun z => mlift (f' y z) else mret (.bl false)
theorem re_chain {r r' : R2} {f f' : D → D → Option D} (hs : Sc2 K r f) (hs' : Sc2 K r' f') (ha : RE K E ix b1 ta ma) (hb : RE K E ix b2 tb mb) {b3 : Bool} (hc : RE K E ix b3 tc mc) : RE K E ix b (tChain r r' ta tb tc) (mChain f f' ma mb mc) := fun F ρ g σ H R r g' e Q q =>
  ha.one R e q.x fun x p H1 g1 e1 R1 i1 k1 => hb.one R1 k1 (fun z hz => (q.x z hz).mono e1) fun y w H2 g2 e2 R2 i2 k2 => by
    have k2' := k2
    unfold mbind at k2'
    split at k2'
    · rename_i c g3 hm
      obtain ⟨c', hc', hr, rfl⟩ := mlift_some hm
      cases hr
      cases hf : f x y with
      | none => rw [hf] at hc'; cases hc'
      | some d =>
        rw [hf] at hc'
        obtain ⟨z, hz, hq⟩ := hs _ _ _ H2 x y d p w (Is.step (bad_r R) e2 i1) i2 hf
        have hcd : asB d = some c := hc'
        have e' : z = .bl c := (asB_is (K := K) (ra := F.ra) (B := fun _ => True) hcd (hz F.ra (fun _ => True) H)).1
        refine hq _ ⟨c, e', ?_⟩
        cases c with
        | true =>
          simp only [if_true] at k2' ⊢
          exact hc.one R2 k2' (fun z hz => (q.x z hz).mono (e1.trans e2)) fun z' u H3 g4 e3 R3 i3 k3 => by
            obtain ⟨c2, hc2, rfl, rfl⟩ := mlift_some k3
            obtain ⟨z2, hz2, hq2⟩ := hs' _ _ _ H3 y z' c2 w u (Is.step (bad_r R) e3 i2) i3 hc2
            exact hq2 Q (q z2 H3 ((e1.trans e2).trans e3) R3.gok (hz2 _ _ _))
        | false =>
          simp only [Bool.false_eq_true, if_false] at k2' ⊢
          cases k2'
          exact q _ H2 (e1.trans e2) R2.gok rfl
    · rename_i x' g3 hm
      obtain ⟨c', hc', hr, _⟩ := mlift_some hm
      cases hr
    · cases k2'
end
end Fw

set_option Elab.async false
set_option linter.all false
set_option maxRecDepth 100000
set_option maxHeartbeats 2000000
/-! Fw3: operations on deep values; items, slices, calls, comprehensions -/
namespace Fw
open PySem PySem.Spec PyProof.Rows L2

/-! ### operations -/
def dII (f : Int → Int → D) (x y : D) : Option D := match x, y with
  | .int i, .int j => some (f i j)
  | _, _ => none
def dIIc (c : Int → Int → Bool) (f : Int → Int → D) (x y : D) : Option D := match x, y with
  | .int i, .int j => if c i j = true then some (f i j) else none
  | _, _ => none
/-- an int or a truth -/
inductive Fl0 : D → V → Prop
  | int (i : Int) : Fl0 (.int i) (.int i)
  | bl (c : Bool) : Fl0 (.bl c) (.bl c)
section
variable {K : PySem.W.Frag}
theorem sc_II {fd : Int → Int → D} {fv : Int → Int → V} (h : ∀ i j ra B H, Is K ra B H (fd i j) (fv i j)) : Sc2 K (rI0 fv) (dII fd) := fun ra B B' H x y c p q hp hq e => by
  unfold dII at e
  split at e
  · rename_i i j
    cases e
    exact ⟨fv i j, fun _ _ _ => h _ _ _ _ _, fun Q k => ⟨i, j, hp, hq, k⟩⟩
  · cases e
theorem sc_IIc {C : Int → Int → Prop} {c : Int → Int → Bool} {fd : Int → Int → D} {fv : Int → Int → V} (hc : ∀ i j, c i j = true → C i j) (h : ∀ i j ra B H, Is K ra B H (fd i j) (fv i j)) : Sc2 K (rI C fv) (dIIc c fd) := fun ra B B' H x y c' p q hp hq e => by
  unfold dIIc at e
  split at e
  · rename_i i j
    split at e
    · rename_i hcc
      cases e
      exact ⟨fv i j, fun _ _ _ => h _ _ _ _ _, fun Q k => ⟨i, j, hp, hq, hc i j hcc, k⟩⟩
    · cases e
  · cases e
end
def dAdd := dII fun i j => .int (i + j)
def dSub := dII fun i j => .int (i - j)
def smallI (i : Int) : Bool := decide (-1000000000000000000 < i ∧ i < 1000000000000000000)
def dMul := dIIc (fun i j => smallI i || smallI j) fun i j => .int (i * j)
def dDiv := dIIc (fun _ j => decide (0 < j ∧ j < 1000000000)) fun i j => .int (i / j)
def dMod := dIIc (fun _ j => decide (0 < j)) fun i j => .int (i % j)
def dPow := dIIc (fun i j => decide (0 ≤ j ∧ j ≤ 100) && smallI i) fun i j => .int (i ^ j.toNat)
def dLt := dII fun i j => .bl (decide (i < j))
def dLe := dII fun i j => .bl (decide (i ≤ j))
def dGt := dII fun i j => .bl (decide (j < i))
def dGe := dII fun i j => .bl (decide (j ≤ i))
section
variable {K : PySem.W.Frag}
theorem sc_add : Sc2 K (rI0 fun i j => .int (i + j)) dAdd := sc_II fun _ _ _ _ _ => rfl
theorem sc_sub : Sc2 K (rI0 fun i j => .int (i - j)) dSub := sc_II fun _ _ _ _ _ => rfl
theorem sc_mul : Sc2 K (rI CMul fun i j => .int (i * j)) dMul := sc_IIc (fun i j h => by
  simp only [smallI, Bool.or_eq_true, decide_eq_true_eq] at h
  unfold CMul
  omega) fun _ _ _ _ _ => rfl
theorem sc_div : Sc2 K (rI CDiv fun i j => .int (i / j)) dDiv := sc_IIc (fun i j h => by
  simp only [decide_eq_true_eq] at h
  unfold CDiv
  omega) fun _ _ _ _ _ => rfl
theorem sc_mod : Sc2 K (rI (fun _ j => 0 < j) fun i j => .int (i % j)) dMod := sc_IIc (fun i j h => by
  simp only [decide_eq_true_eq] at h
  exact h) fun _ _ _ _ _ => rfl
theorem sc_pow : Sc2 K (rI CPow fun i j => .int (i ^ j.toNat)) dPow := sc_IIc (fun i j h => by
  simp only [smallI, Bool.and_eq_true, decide_eq_true_eq] at h
  unfold CPow
  omega) fun _ _ _ _ _ => rfl
theorem sc_lt : Sc2 K (rI0 fun i j => .bl (decide (i < j))) dLt := sc_II fun _ _ _ _ _ => rfl
theorem sc_le : Sc2 K (rI0 fun i j => .bl (decide (i ≤ j))) dLe := sc_II fun _ _ _ _ _ => rfl
theorem sc_gt : Sc2 K (rI0 fun i j => .bl (decide (j < i))) dGt := sc_II fun _ _ _ _ _ => rfl
theorem sc_ge : Sc2 K (rI0 fun i j => .bl (decide (j ≤ i))) dGe := sc_II fun _ _ _ _ _ => rfl
end
/-- == of none, bools, ints, texts -/
def scD (x y : D) : Option Bool := match x, y with
  | .non, .non => some true
  | .bl a, .bl b => some (a == b)
  | .int i, .int j => some (decide (i = j))
  | .str a, .str b => some (decide (a = b))
  | .non, .int _ => some false
  | .int _, .non => some false
  | .non, .str _ => some false
  | .str _, .non => some false
  | .int _, .str _ => some false
  | .str _, .int _ => some false
  | _, _ => none
def dEq (x y : D) : Option D := (scD x y).map .bl
def dNe (x y : D) : Option D := (scD x y).map fun c => .bl (!c)
section
variable {K : PySem.W.Frag}
theorem scD_ok {ra : Addr} {B B' : Addr → Prop} {H : Hp} {x y : D} {p q : V} {c : Bool} (hp : Is K ra B H x p) (hq : Is K ra B' H y q) (e : scD x y = some c) : scal p q = true ∧ decide (p = q) = c := by
  unfold scD at e
  split at e <;> first
    | (cases e; done)
    | (cases (show p = _ from hp); cases (show q = _ from hq); cases e; refine ⟨by decide, ?_⟩; simp; done)
    | (cases (show p = _ from hp); cases (show q = _ from hq); cases e; refine ⟨rfl, ?_⟩; simp [Bool.beq_eq_decide_eq]; done)
    | skip
theorem sc_eq : Sc2 K rEq dEq := fun ra B B' H x y c p q hp hq e => by
  unfold dEq at e
  cases hs : scD x y with
  | none => rw [hs] at e; cases e
  | some b =>
    rw [hs] at e
    cases e
    obtain ⟨h1, h2⟩ := scD_ok hp hq hs
    exact ⟨.bl b, fun _ _ _ => rfl, fun Q k => ⟨h1, by rw [h2]; exact k⟩⟩
theorem sc_ne : Sc2 K rNe dNe := fun ra B B' H x y c p q hp hq e => by
  unfold dNe at e
  cases hs : scD x y with
  | none => rw [hs] at e; cases e
  | some b =>
    rw [hs] at e
    cases e
    obtain ⟨h1, h2⟩ := scD_ok hp hq hs
    exact ⟨.bl (!b), fun _ _ _ => rfl, fun Q k => ⟨h1, by rw [h2]; exact k⟩⟩
end
def dIsN (x : D) : D := match x with
  | .non => .bl true
  | _ => .bl false
def dIsN2 (x y : D) : Option D := match y with
  | .non => some (dIsN x)
  | _ => none
def dNotN2 (x y : D) : Option D := match y with
  | .non => some (match dIsN x with | .bl c => .bl (!c) | z => z)
  | _ => none
section
variable {K : PySem.W.Frag}
theorem isN_ok {ra : Addr} {B : Addr → Prop} {H : Hp} {x : D} {p : V} (hp : Is K ra B H x p) : dIsN x = .bl (decide (p = .non)) := by
  cases x with
  | non => cases (show p = _ from hp); rfl
  | bl b => cases (show p = _ from hp); rfl
  | int b => cases (show p = _ from hp); rfl
  | str b => cases (show p = _ from hp); rfl
  | rng => cases (show p = _ from hp); rfl
  | ty n => cases (show p = _ from hp); rfl
  | tup l => obtain ⟨a, xs, rfl, _⟩ := hp; rfl
  | lst l => obtain ⟨a, xs, rfl, _⟩ := hp; rfl
  | dic ks l => obtain ⟨a, xs, us, rfl, _⟩ := hp; rfl
theorem sc_isN : Sc2 K (fun x y H Q => y = .non ∧ Q (.bl (decide (x = .non))) H) dIsN2 := fun ra B B' H x y c p q hp hq e => by
  unfold dIsN2 at e
  split at e
  · cases e
    rw [isN_ok hp]
    exact ⟨_, fun _ _ _ => rfl, fun Q k => ⟨hq, k⟩⟩
  · cases e
theorem sc_notN : Sc2 K (fun x y H Q => y = .non ∧ Q (.bl (!decide (x = .non))) H) dNotN2 := fun ra B B' H x y c p q hp hq e => by
  unfold dNotN2 at e
  split at e
  · rw [isN_ok hp] at e
    cases e
    exact ⟨_, fun _ _ _ => rfl, fun Q k => ⟨hq, k⟩⟩
  · cases e
end
/-! ### built-ins -/
def fLen (l : List D) : Option D := match l with
  | [.tup m] => some (.int m.length)
  | [.lst m] => some (.int m.length)
  | _ => none
def fMax2 (l : List D) : Option D := match l with
  | [.int i, .int j] => some (.int (if j > i then j else i))
  | _ => none
def fMin2 (l : List D) : Option D := match l with
  | [.int i, .int j] => some (.int (if j < i then j else i))
  | _ => none
def fInt1 (l : List D) : Option D := match l with
  | [.int i] => some (.int i)
  | [.bl c] => some (.int (if c then 1 else 0))
  | _ => none
def fAbs (l : List D) : Option D := match l with
  | [.int i] => some (.int (if i < 0 then -i else i))
  | _ => none
def unI (l : List D) : Option (List Int) := match l with
  | [] => some []
  | .int i :: r => (unI r).map (i :: ·)
  | _ :: _ => none
def unB (l : List D) : Option (List Bool) := match l with
  | [] => some []
  | .bl i :: r => (unB r).map (i :: ·)
  | _ :: _ => none
theorem unI_is : ∀ {l : List D} {ns : List Int}, unI l = some ns → l = ns.map D.int
  | [], _, h => by unfold unI at h; cases h; rfl
  | .int i :: r, _, h => by
    unfold unI at h
    cases e : unI r with
    | none => rw [e] at h; cases h
    | some ms => rw [e] at h; cases h; rw [unI_is e]; rfl
  | .non :: _, _, h => by simp [unI] at h
  | .bl _ :: _, _, h => by simp [unI] at h
  | .str _ :: _, _, h => by simp [unI] at h
  | .rng :: _, _, h => by simp [unI] at h
  | .ty _ :: _, _, h => by simp [unI] at h
  | .dic _ _ :: _, _, h => by simp [unI] at h
  | .tup _ :: _, _, h => by simp [unI] at h
  | .lst _ :: _, _, h => by simp [unI] at h
theorem unB_is : ∀ {l : List D} {ns : List Bool}, unB l = some ns → l = ns.map D.bl
  | [], _, h => by unfold unB at h; cases h; rfl
  | .bl i :: r, _, h => by
    unfold unB at h
    cases e : unB r with
    | none => rw [e] at h; cases h
    | some ms => rw [e] at h; cases h; rw [unB_is e]; rfl
  | .non :: _, _, h => by simp [unB] at h
  | .int _ :: _, _, h => by simp [unB] at h
  | .str _ :: _, _, h => by simp [unB] at h
  | .rng :: _, _, h => by simp [unB] at h
  | .ty _ :: _, _, h => by simp [unB] at h
  | .dic _ _ :: _, _, h => by simp [unB] at h
  | .tup _ :: _, _, h => by simp [unB] at h
  | .lst _ :: _, _, h => by simp [unB] at h
@[simp] theorem unI_map (ns : List Int) : unI (ns.map D.int) = some ns := by
  induction ns with
  | nil => rfl
  | cons a r ih => simp [unI, ih]
@[simp] theorem unB_map (ns : List Bool) : unB (ns.map D.bl) = some ns := by
  induction ns with
  | nil => rfl
  | cons a r ih => simp [unB, ih]
theorem IsL.bools {K : PySem.W.Frag} {ra : Addr} {B : Addr → Prop} {H : Hp} : ∀ {ns : List Bool} {xs : List V}, IsL K ra B H (ns.map D.bl) xs → xs = ns.map V.bl
  | [], _, h => h
  | n :: ns, _, h => by
    obtain ⟨v, r, rfl, h2, h3⟩ := h
    have e : v = V.bl n := h2
    rw [e, IsL.bools h3]; rfl
def fSum (l : List D) : Option D := match l with
  | [.lst m] => (unI m).map fun ns => .int ns.sum
  | _ => none
def fAll (l : List D) : Option D := match l with
  | [.lst m] => (unB m).map fun ns => .bl (ns.all id)
  | _ => none
def fAny (l : List D) : Option D := match l with
  | [.lst m] => (unB m).map fun ns => .bl (ns.any id)
  | _ => none
def maxL : List Int → Int
  | [] => 0
  | [a] => a
  | a :: r => if a < maxL r then maxL r else a
def minL : List Int → Int
  | [] => 0
  | [a] => a
  | a :: r => if minL r < a then minL r else a
theorem maxL_is : ∀ {ns : List Int}, ns ≠ [] → maxL ns ∈ ns ∧ ∀ y ∈ ns, y ≤ maxL ns
  | [], h => absurd rfl h
  | [a], _ => by simp [maxL]
  | a :: b :: r, _ => by
    obtain ⟨h1, h2⟩ := maxL_is (ns := b :: r) (by simp)
    unfold maxL
    split
    · refine ⟨List.mem_cons_of_mem _ h1, fun y hy => ?_⟩
      rcases List.mem_cons.mp hy with z | z
      · omega
      · exact h2 y z
    · refine ⟨List.mem_cons_self, fun y hy => ?_⟩
      rcases List.mem_cons.mp hy with z | z
      · omega
      · have := h2 y z; omega
theorem minL_is : ∀ {ns : List Int}, ns ≠ [] → minL ns ∈ ns ∧ ∀ y ∈ ns, minL ns ≤ y
  | [], h => absurd rfl h
  | [a], _ => by simp [minL]
  | a :: b :: r, _ => by
    obtain ⟨h1, h2⟩ := minL_is (ns := b :: r) (by simp)
    unfold minL
    split
    · refine ⟨List.mem_cons_of_mem _ h1, fun y hy => ?_⟩
      rcases List.mem_cons.mp hy with z | z
      · omega
      · exact h2 y z
    · refine ⟨List.mem_cons_self, fun y hy => ?_⟩
      rcases List.mem_cons.mp hy with z | z
      · omega
      · have := h2 y z; omega
def fMaxL (l : List D) : Option D := match l with
  | [.lst m] => (unI m).bind fun ns => if ns = [] then none else some (.int (maxL ns))
  | _ => none
def fMinL (l : List D) : Option D := match l with
  | [.lst m] => (unI m).bind fun ns => if ns = [] then none else some (.int (minL ns))
  | _ => none
section
variable {K : PySem.W.Frag}
theorem sc_len : ScN K (fun xs H Q => ∃ p ys, xs = [.ref p] ∧ (SqL K H p ys ∨ SqT K H p ys) ∧ Q (.int ys.length) H) fLen := fun ra B H l c vs hl e => by
  unfold fLen at e
  split at e
  · rename_i m
    cases e
    obtain ⟨v, r, rfl, ⟨a, xs, rfl, h2, h3⟩, h4⟩ := hl
    cases h4
    exact ⟨_, fun _ _ _ => rfl, fun Q k => ⟨a, xs, rfl, .inr h2, by rw [h3.length]; exact k⟩⟩
  · rename_i m
    cases e
    obtain ⟨v, r, rfl, ⟨a, xs, rfl, h2, h3, h5⟩, h4⟩ := hl
    cases h4
    exact ⟨_, fun _ _ _ => rfl, fun Q k => ⟨a, xs, rfl, .inl (SqL.of h3), by rw [h5.length]; exact k⟩⟩
  · cases e
theorem sc_max2 : ScN K (fun xs H Q => ∃ i j, xs = [.int i, .int j] ∧ Q (.int (if j > i then j else i)) H) fMax2 := fun ra B H l c vs hl e => by
  unfold fMax2 at e
  split at e
  · cases e
    obtain ⟨v, r, rfl, h2, u, r2, rfl, h3, h4⟩ := hl
    cases h4
    exact ⟨_, fun _ _ _ => rfl, fun Q k => ⟨_, _, by rw [show v = _ from h2, show u = _ from h3], k⟩⟩
  · cases e
theorem sc_min2 : ScN K (fun xs H Q => ∃ i j, xs = [.int i, .int j] ∧ Q (.int (if j < i then j else i)) H) fMin2 := fun ra B H l c vs hl e => by
  unfold fMin2 at e
  split at e
  · cases e
    obtain ⟨v, r, rfl, h2, u, r2, rfl, h3, h4⟩ := hl
    cases h4
    exact ⟨_, fun _ _ _ => rfl, fun Q k => ⟨_, _, by rw [show v = _ from h2, show u = _ from h3], k⟩⟩
  · cases e
theorem sc_int1 : ScN K (fun xs H Q => (∃ i, xs = [.int i] ∧ Q (.int i) H) ∨ ∃ k, xs = [.bl k] ∧ Q (.int (if k then 1 else 0)) H) fInt1 := fun ra B H l c vs hl e => by
  unfold fInt1 at e
  split at e
  · cases e
    obtain ⟨v, r, rfl, h2, h4⟩ := hl
    cases h4
    exact ⟨_, fun _ _ _ => rfl, fun Q k => .inl ⟨_, by rw [show v = _ from h2], k⟩⟩
  · cases e
    obtain ⟨v, r, rfl, h2, h4⟩ := hl
    cases h4
    exact ⟨_, fun _ _ _ => rfl, fun Q k => .inr ⟨_, by rw [show v = _ from h2], k⟩⟩
  · cases e
theorem sc_abs : ScN K (fun xs H Q => ∃ i, xs = [.int i] ∧ Q (.int (if i < 0 then -i else i)) H) fAbs := fun ra B H l c vs hl e => by
  unfold fAbs at e
  split at e
  · cases e
    obtain ⟨v, r, rfl, h2, h4⟩ := hl
    cases h4
    exact ⟨_, fun _ _ _ => rfl, fun Q k => ⟨_, by rw [show v = _ from h2], k⟩⟩
  · cases e
theorem one_lst {ra : Addr} {B : Addr → Prop} {H : Hp} {m : List D} {vs : List V} (h : IsL K ra B H [.lst m] vs) : ∃ a xs, vs = [.ref a] ∧ H a = some (.lst xs) ∧ IsL K ra B H m xs := by
  obtain ⟨v, r, rfl, ⟨a, xs, rfl, _, h3, h5⟩, h4⟩ := h
  cases h4
  exact ⟨a, xs, rfl, h3, h5⟩
theorem sc_sum : ScN K (rSum K) fSum := fun ra B H l c vs hl e => by
  unfold fSum at e
  split at e
  · rename_i m
    cases hu : unI m with
    | none => rw [hu] at e; cases e
    | some ns =>
      rw [hu] at e
      cases e
      rw [unI_is hu] at hl
      obtain ⟨a, xs, rfl, h3, h5⟩ := one_lst hl
      rw [h5.ints] at h3
      exact ⟨_, fun _ _ _ => rfl, fun Q k => ⟨a, ns, rfl, SqL.of h3, k⟩⟩
  · cases e
theorem sc_all : ScN K (rAll K) fAll := fun ra B H l c vs hl e => by
  unfold fAll at e
  split at e
  · rename_i m
    cases hu : unB m with
    | none => rw [hu] at e; cases e
    | some ns =>
      rw [hu] at e
      cases e
      rw [unB_is hu] at hl
      obtain ⟨a, xs, rfl, h3, h5⟩ := one_lst hl
      rw [h5.bools] at h3
      exact ⟨_, fun _ _ _ => rfl, fun Q k => ⟨a, ns, rfl, SqL.of h3, k⟩⟩
  · cases e
theorem sc_any : ScN K (rAny K) fAny := fun ra B H l c vs hl e => by
  unfold fAny at e
  split at e
  · rename_i m
    cases hu : unB m with
    | none => rw [hu] at e; cases e
    | some ns =>
      rw [hu] at e
      cases e
      rw [unB_is hu] at hl
      obtain ⟨a, xs, rfl, h3, h5⟩ := one_lst hl
      rw [h5.bools] at h3
      exact ⟨_, fun _ _ _ => rfl, fun Q k => ⟨a, ns, rfl, SqL.of h3, k⟩⟩
  · cases e
theorem sc_maxL : ScN K (rMax K) fMaxL := fun ra B H l c vs hl e => by
  unfold fMaxL at e
  split at e
  · rename_i m
    cases hu : unI m with
    | none => rw [hu] at e; cases e
    | some ns =>
      rw [hu] at e
      by_cases hn : ns = []
      · rw [hn] at e; cases e
      · simp only [Option.bind_some, if_neg hn] at e
        cases e
        rw [unI_is hu] at hl
        obtain ⟨a, xs, rfl, h3, h5⟩ := one_lst hl
        rw [h5.ints] at h3
        obtain ⟨z1, z2⟩ := maxL_is hn
        refine ⟨_, fun _ _ _ => rfl, fun Q k => ⟨a, ns, rfl, SqL.of h3, List.length_pos_iff.mpr hn, fun m' h1 h2 => ?_⟩⟩
        have : m' = maxL ns := Int.le_antisymm (z2 m' h1) (h2 _ z1)
        rw [this]; exact k
  · cases e
theorem sc_minL : ScN K (rMin K) fMinL := fun ra B H l c vs hl e => by
  unfold fMinL at e
  split at e
  · rename_i m
    cases hu : unI m with
    | none => rw [hu] at e; cases e
    | some ns =>
      rw [hu] at e
      by_cases hn : ns = []
      · rw [hn] at e; cases e
      · simp only [Option.bind_some, if_neg hn] at e
        cases e
        rw [unI_is hu] at hl
        obtain ⟨a, xs, rfl, h3, h5⟩ := one_lst hl
        rw [h5.ints] at h3
        obtain ⟨z1, z2⟩ := minL_is hn
        refine ⟨_, fun _ _ _ => rfl, fun Q k => ⟨a, ns, rfl, SqL.of h3, List.length_pos_iff.mpr hn, fun m' h1 h2 => ?_⟩⟩
        have : m' = minL ns := Int.le_antisymm (h2 _ z1) (z2 m' h1)
        rw [this]; exact k
  · cases e
end
/-! ### items -/
def dIx (x y : D) : Option D := match x, y with
  | .tup l, .int i => atI l i
  | .lst l, .int i => atI l i
  | _, _ => none
section
variable {K : PySem.W.Frag} {E : XK} {ix : IXT} {F : Fx} {ρ : List Sl} {g g' g1 : G} {σ : L2.St} {H H' H1 : Hp} {b b1 b2 : Bool} {t ta tb tc : TE} {m ma mb mc : MV D} {tt uu : TT} {mt mu : MV Bool}
theorem IsL.at {ra : Addr} {B : Addr → Prop} {l : List D} {xs : List V} {i : Int} {d : D} (h : IsL K ra B H l xs) (e : atI l i = some d) : ∃ v, atI xs i = some v ∧ Is K ra B H d v := by
  unfold atI at e ⊢
  rw [h.length]
  cases q : ixN l.length i with
  | none => rw [q] at e; cases e
  | some j => rw [q] at e; exact h.get e
theorem re_ix (ha : RE K E ix b ta ma) (hb : RE K E ix b1 tb mb) : RE K E ix b (tOp (rIx K) ta tb) (mOp dIx ma mb) := fun F ρ g σ H R r g' e Q q =>
  ha.one R e q.x fun x p H1 g1 e1 R1 i1 k1 => hb.one R1 k1 (fun z hz => (q.x z hz).mono e1) fun y w H2 g2 e2 R2 i2 k2 => by
    obtain ⟨c, hc, rfl, rfl⟩ := mlift_some k2
    have i1' := Is.step (bad_r R) e2 i1
    unfold dIx at hc
    split at hc
    · rename_i l i
      obtain ⟨a, xs, rfl, h2, h3⟩ := i1'
      obtain ⟨v, hv, iv⟩ := h3.at hc
      exact .inr (.inl ⟨a, xs, i, v, rfl, i2, h2, hv, q v H2 (e1.trans e2) R2.gok iv⟩)
    · rename_i l i
      obtain ⟨a, xs, rfl, _, h2, h3⟩ := i1'
      obtain ⟨v, hv, iv⟩ := h3.at hc
      exact .inl ⟨a, xs, i, v, rfl, i2, SqL.of h2, hv, q v H2 (e1.trans e2) R2.gok iv⟩
    · cases hc
/-! ### slices -/
def RO (K : PySem.W.Frag) (E : XK) (ix : IXT) (t : TO) (m : MV (Option Int)) : Prop := ∀ F ρ g σ H, Rep K F ρ g σ H → ∀ r g', m ρ g = some (r, g') → ∀ Q : Option Int → Hp → Prop,
  Post r (fun c => ∀ H', Ex (isR F) H H' → GOk F g' H' → Q c H') (XPost E ix F H g') → t σ H Q
def asI (d : D) : Option Int := match d with
  | .int i => some i
  | _ => none
theorem asI_is {d : D} {c : Int} {ra : Addr} {B : Addr → Prop} {v : V} (h : asI d = some c) (i : Is K ra B H d v) : v = .int c := by
  unfold asI at h
  split at h
  · cases h; exact i
  · cases h
def mPart (m : MV D) : MV (Option Int) := mbind m fun d => mbind (mlift (asI d)) fun i => mret (some i)
theorem ro_no : RO K E ix tNoPart (mret none) := fun F ρ g σ H R r g' e Q q => by
  cases e
  exact q H Ex.refl R.gok
theorem ro_part (h : RE K E ix b t m) : RO K E ix (tPart t) (mPart m) := fun F ρ g σ H R r g' e Q q =>
  h.one R e q.x fun d v H1 g1 e1 R1 i1 k1 => by
    cases hd : asI d with
    | none => rw [hd] at k1; cases k1
    | some i =>
      rw [hd] at k1
      cases k1
      exact ⟨i, asI_is hd i1, q H1 e1 R1.gok⟩
theorem RO.one {β : Type} {r : Out β} {to : TO} {mo : MV (Option Int)} {k : Option Int → MV β} {S : Option Int → Hp → Prop} (h : RO K E ix to mo) (R : Rep K F ρ g σ H) (e : mbind mo k ρ g = some (r, g'))
    (hx : ∀ x, r = .ex x → XPost E ix F H g' x)
    (hk : ∀ c H1 g1, Ex (isR F) H H1 → Rep K F ρ g1 σ H1 → k c ρ g1 = some (r, g') → S c H1) : to σ H S := by
  unfold mbind at e
  split at e
  · rename_i a g1 hm
    exact h F ρ g σ H R _ _ hm S fun H1 e1 k1 => hk a H1 g1 e1 (R.step e1 k1) e
  · rename_i x g1 hm
    cases e
    exact h F ρ g σ H R _ _ hm S (hx x rfl)
  · cases e
def cutD (l : List D) (lo hi : Option Int) : List D := (l.drop (HT.sIx l.length 0 lo)).take (HT.sIx l.length l.length hi - HT.sIx l.length 0 lo)
def wholeD (l : List D) (lo hi : Option Int) : Bool := decide (HT.sIx l.length 0 lo = 0) && decide (HT.sIx l.length l.length hi = l.length)
theorem IsL.cut {ra : Addr} {B : Addr → Prop} {l : List D} {xs : List V} {lo hi : Option Int} (h : IsL K ra B H l xs) : IsL K ra B H (cutD l lo hi) (cutV xs lo hi) := by
  unfold cutD cutV
  rw [h.length]
  exact (h.drop _).take _
/-- t[lo:hi] of a tuple, not the whole of it -/
def mSlT (m : MV D) (ml mh : MV (Option Int)) : MV D := mbind m fun d => mbind ml fun lo => mbind mh fun hi => mlift (match d with
  | .tup l => if wholeD l lo hi = true then none else some (.tup (cutD l lo hi))
  | _ => none)
theorem re_slT {tl th : TO} {ml mh : MV (Option Int)} (h : RE K E ix b t m) (hl : RO K E ix tl ml) (hh : RO K E ix th mh) : RE K E ix b (tSl (rSlT K) t tl th) (mSlT m ml mh) := fun F ρ g σ H R r g' e Q q =>
  h.one R e q.x fun d v H1 g1 e1 R1 i1 k1 => hl.one R1 k1 (fun z hz => (q.x z hz).mono e1) fun lo H2 g2 e2 R2 k2 => hh.one R2 k2 (fun z hz => (q.x z hz).mono (e1.trans e2)) fun hi H3 g3 e3 R3 k3 => by
    obtain ⟨c, hc, rfl, rfl⟩ := mlift_some k3
    split at hc
    · rename_i l
      split at hc
      · cases hc
      · rename_i hw
        cases hc
        obtain ⟨a, xs, rfl, h2, h3⟩ := Is.step (bad_r R) (e2.trans e3) i1
        refine ⟨a, xs, rfl, h2, fun z => hw ?_, fun p hp => ?_⟩
        · unfold wholeD
          rw [h3.length] at z
          rw [decide_eq_true z.1, decide_eq_true z.2]; rfl
        · have en : Ex (isR F) H3 (upd H3 p (.tup (cutV xs lo hi))) := Ex.new hp
          exact q (.ref p) _ (((e1.trans e2).trans e3).trans en) (R3.gok.new hp) ⟨p, _, rfl, SqT.of upd_same, IsL.step (bad_r R) en h3.cut⟩
    · cases hc
/-- xs[lo:hi] of a list: a new one -/
def mSlL (m : MV D) (ml mh : MV (Option Int)) : MV (List D) := mbind m fun d => mbind ml fun lo => mbind mh fun hi => mlift (match d with
  | .lst l => some (cutD l lo hi)
  | _ => none)
theorem fresh_back (R : Rep K F ρ g σ H) (e : Ex (isR F) H H1) (k : GOk F g1 H1) {p : Addr} (hp : H1 p = none) : H p = none := by
  cases z : H p with
  | none => rfl
  | some o =>
    by_cases w : isR F p
    · exact absurd hp (k.there w)
    · rw [e p o z fun c => absurd c w] at hp; cases hp
/-- what one needs for a new list -/
theorem rf_put {l : List D} {xs : List V} {p : Addr} {Q : VK} (R : Rep K F ρ g σ H) (e : Ex (isR F) H H1) (k : GOk F g' H1) (hp : H1 p = none) (i : IsL K F.ra (imB F ρ σ) H1 l xs)
    (q : ∀ a xs H', Ex (isR F) H H' → GOk F g' H' → H a = none → H' a = some (.lst xs) → IsL K F.ra (fun b => imB F ρ σ b ∨ b = a) H' l xs → Q (.ref a) H') : Q (.ref p) (upd H1 p (.lst xs)) := by
  have en : Ex (isR F) H1 (upd H1 p (.lst xs)) := Ex.new hp
  exact q p xs _ (e.trans en) (k.new hp) (fresh_back R e k hp) upd_same (IsL.step (fun a c => .inl (R.im_r a c)) en (IsL.bar (fun a c => by
    rcases c with c | c
    · exact .inl c
    · rw [c]; exact .inr hp) i))
theorem rf_slL {tl th : TO} {ml mh : MV (Option Int)} (h : RE K E ix true t m) (hl : RO K E ix tl ml) (hh : RO K E ix th mh) : RF K E ix (tSl (rSlL K) t tl th) (mSlL m ml mh) := fun F ρ g σ H R r g' e Q q =>
  h.one R e q.x fun d v H1 g1 e1 R1 i1 k1 => hl.one R1 k1 (fun z hz => (q.x z hz).mono e1) fun lo H2 g2 e2 R2 k2 => hh.one R2 k2 (fun z hz => (q.x z hz).mono (e1.trans e2)) fun hi H3 g3 e3 R3 k3 => by
    obtain ⟨c, hc, rfl, rfl⟩ := mlift_some k3
    split at hc
    · rename_i l
      cases hc
      obtain ⟨a, xs, rfl, _, h2, h3⟩ := Is.step (bad_r R) (e2.trans e3) i1
      exact ⟨a, xs, rfl, SqL.of h2, fun p hp => rf_put R ((e1.trans e2).trans e3) R3.gok hp h3.cut q⟩
    · cases hc
/-! ### tuple(x), list(x), + of lists, of tuples, * of lists -/
def mTupOf (ms : MV (List D)) : MV D := mbind ms fun l => mlift (match l with
  | [.lst m] => some (.tup m)
  | [.tup m] => some (.tup m)
  | _ => none)
theorem re_tupOf {ts : TA} {ms : MV (List D)} (h : RA K E ix b ts ms) : RE K E ix b (tCB (fun xs H Q => ∃ p ys, xs = [.ref p] ∧ ((SqL K H p ys ∧ ∀ l, H l = none → Q (.ref l) (upd H l (.tup ys))) ∨ (SqT K H p ys ∧ Q (.ref p) H))) ts) (mTupOf ms) := fun F ρ g σ H R r g' e Q q =>
  h.one R e q.x fun l vs H1 g1 e1 R1 i1 k1 => by
    obtain ⟨c, hc, rfl, rfl⟩ := mlift_some k1
    split at hc
    · rename_i m
      cases hc
      obtain ⟨a, xs, rfl, h3, h5⟩ := one_lst i1
      refine ⟨a, xs, rfl, .inl ⟨SqL.of h3, fun p hp => ?_⟩⟩
      have en : Ex (isR F) H1 (upd H1 p (.tup xs)) := Ex.new hp
      exact q (.ref p) _ (e1.trans en) (R1.gok.new hp) ⟨p, _, rfl, SqT.of upd_same, IsL.step (bad_r R) en h5⟩
    · rename_i m
      cases hc
      obtain ⟨v, r, rfl, ⟨a, xs, rfl, h3, h5⟩, h4⟩ := i1
      cases h4
      exact ⟨a, xs, rfl, .inr ⟨h3, q _ H1 e1 R1.gok ⟨a, xs, rfl, h3, h5⟩⟩⟩
    · cases hc
def mListOf (ms : MV (List D)) : MV (List D) := mbind ms fun l => mlift (match l with
  | [.lst m] => some m
  | [.tup m] => some m
  | _ => none)
theorem rf_listOf {ts : TA} {ms : MV (List D)} (h : RA K E ix true ts ms) : RF K E ix (tCB (fun xs H Q => ∃ p ys, xs = [.ref p] ∧ (SqL K H p ys ∨ SqT K H p ys) ∧ ∀ l, H l = none → Q (.ref l) (upd H l (.lst ys))) ts) (mListOf ms) := fun F ρ g σ H R r g' e Q q =>
  h.one R e q.x fun l vs H1 g1 e1 R1 i1 k1 => by
    obtain ⟨c, hc, rfl, rfl⟩ := mlift_some k1
    split at hc
    · rename_i m
      cases hc
      obtain ⟨a, xs, rfl, h3, h5⟩ := one_lst i1
      exact ⟨a, xs, rfl, .inl (SqL.of h3), fun p hp => rf_put R e1 R1.gok hp h5 q⟩
    · rename_i m
      cases hc
      obtain ⟨v, r, rfl, ⟨a, xs, rfl, h3, h5⟩, h4⟩ := i1
      cases h4
      exact ⟨a, xs, rfl, .inr h3, fun p hp => rf_put R e1 R1.gok hp h5 q⟩
    · cases hc
def mCat (ma mb : MV D) : MV (List D) := mbind ma fun x => mbind mb fun y => mlift (match x, y with
  | .lst l, .lst k => if small (l.length + k.length) = true then some (l ++ k) else none
  | _, _ => none)
theorem rf_cat (ha : RE K E ix true ta ma) (hb : RE K E ix true tb mb) : RF K E ix (tOp rCat ta tb) (mCat ma mb) := fun F ρ g σ H R r g' e Q q =>
  ha.one R e q.x fun x p H1 g1 e1 R1 i1 k1 => hb.one R1 k1 (fun z hz => (q.x z hz).mono e1) fun y w H2 g2 e2 R2 i2 k2 => by
    obtain ⟨c, hc, rfl, rfl⟩ := mlift_some k2
    split at hc
    · rename_i l k
      split at hc
      · rename_i hz
        cases hc
        obtain ⟨a, xs, rfl, _, h2, h3⟩ := Is.step (bad_r R) e2 i1
        obtain ⟨a', ys, rfl, _, h2', h3'⟩ := i2
        exact ⟨a, a', xs, ys, rfl, rfl, h2, h2', by rw [h3.length, h3'.length]; exact Nat.le_of_lt (small_line hz), fun p hp => rf_put R (e1.trans e2) R2.gok hp (h3.append h3') q⟩
      · cases hc
    · cases hc
def mCatT (ma mb : MV D) : MV D := mbind ma fun x => mbind mb fun y => mlift (match x, y with
  | .tup l, .tup k => if l.isEmpty = true then none else if small (l.length + k.length) = true then some (.tup (l ++ k)) else none
  | _, _ => none)
theorem re_catT (ha : RE K E ix b ta ma) (hb : RE K E ix b tb mb) : RE K E ix b (tOp (rCatT K) ta tb) (mCatT ma mb) := fun F ρ g σ H R r g' e Q q =>
  ha.one R e q.x fun x p H1 g1 e1 R1 i1 k1 => hb.one R1 k1 (fun z hz => (q.x z hz).mono e1) fun y w H2 g2 e2 R2 i2 k2 => by
    obtain ⟨c, hc, rfl, rfl⟩ := mlift_some k2
    split at hc
    · rename_i l k
      split at hc
      · cases hc
      · rename_i hne
        split at hc
        · rename_i hz
          cases hc
          obtain ⟨a, xs, rfl, h2, h3⟩ := Is.step (bad_r R) e2 i1
          obtain ⟨a', ys, rfl, h2', h3'⟩ := i2
          have hx : xs ≠ [] := fun z => by
            have := h3.length; rw [z] at this
            cases l with
            | nil => exact hne rfl
            | cons _ _ => simp at this
          refine ⟨a, a', xs, ys, rfl, rfl, h2, h2', hx, by rw [h3.length, h3'.length]; exact Nat.le_of_lt (small_line hz), fun z => ?_, fun _ p hp => ?_⟩
          · have hk : k = [] := by
              have := h3'.length; rw [z] at this
              cases k with
              | nil => rfl
              | cons _ _ => simp at this
            subst hk
            rw [List.append_nil] at q
            exact q (.ref a) H2 (e1.trans e2) R2.gok ⟨a, xs, rfl, h2, h3⟩
          · have en : Ex (isR F) H2 (upd H2 p (.tup (xs ++ ys))) := Ex.new hp
            exact q (.ref p) _ ((e1.trans e2).trans en) (R2.gok.new hp) ⟨p, _, rfl, SqT.of upd_same, IsL.step (bad_r R) en (h3.append h3')⟩
        · cases hc
    · cases hc
def mRep (ma mb : MV D) : MV (List D) := mbind ma fun x => mbind mb fun y => mlift (match x, y with
  | .lst l, .int k => if small (l.length * k.toNat) && smallI k = true then some (List.replicate k.toNat l).flatten else none
  | _, _ => none)
theorem IsL.rep {ra : Addr} {B : Addr → Prop} {l : List D} {xs : List V} (h : IsL K ra B H l xs) : ∀ n, IsL K ra B H (List.replicate n l).flatten (List.replicate n xs).flatten
  | 0 => rfl
  | n + 1 => by
    rw [List.replicate_succ, List.replicate_succ, List.flatten_cons, List.flatten_cons]
    exact h.append (h.rep n)
theorem rf_rep (ha : RE K E ix true ta ma) (hb : RE K E ix b tb mb) : RF K E ix (tOp rRep ta tb) (mRep ma mb) := fun F ρ g σ H R r g' e Q q =>
  ha.one R e q.x fun x p H1 g1 e1 R1 i1 k1 => hb.one R1 k1 (fun z hz => (q.x z hz).mono e1) fun y w H2 g2 e2 R2 i2 k2 => by
    obtain ⟨c, hc, rfl, rfl⟩ := mlift_some k2
    split at hc
    · rename_i l k
      split at hc
      · rename_i hz
        cases hc
        simp only [Bool.and_eq_true] at hz
        obtain ⟨a, xs, rfl, _, h2, h3⟩ := Is.step (bad_r R) e2 i1
        have hk := hz.2
        simp only [smallI, decide_eq_true_eq] at hk
        exact ⟨a, k, xs, rfl, i2, h2, by omega, by omega, by rw [h3.length]; exact Nat.le_of_lt (small_line hz.1), fun p hp => rf_put R (e1.trans e2) R2.gok hp (h3.rep _) q⟩
      · cases hc
    · cases hc
/-! ### a def's promise -/
abbrev PhiT := List D → G → Option (Out D × G)
def spOf (K : PySem.W.Frag) (ix : IXT) (n : Nat) (φ : PhiT) : Sp := fun vs H Q E => ∃ (ra rb : Addr) (ds : List D) (g : G) (r : Out D) (g' : G), ds.length = n ∧ GOk ⟨ra, rb, H, fun _ => False, tabsK K⟩ g H ∧
  IsL K ra (isR ⟨ra, rb, H, fun _ => False, tabsK K⟩) H ds vs ∧ φ ds g = some (r, g') ∧
  Post r (fun d => ∀ v H', Ex (isR ⟨ra, rb, H, fun _ => False, tabsK K⟩) H H' → GOk ⟨ra, rb, H, fun _ => False, tabsK K⟩ g' H' → Is K ra (fun a => H a ≠ none) H' d v → Q v H') (XPost E ix ⟨ra, rb, H, fun _ => False, tabsK K⟩ H g')
theorem spOf_len {n : Nat} {φ : PhiT} {vs : List V} {Q : VK} (h : spOf K ix n φ vs H Q E) : vs.length = n := by
  obtain ⟨ra, rb, ds, g, r, g', h1, _, h2, _⟩ := h
  rw [h2.length, h1]
def mCall (n : Nat) (φ : PhiT) (ms : MV (List D)) : MV D := mbind ms fun l => if l.length = n then fun _ g => φ l g else mno
theorem GOk.to {F' : Fx} (k : GOk F g H) (ha : F'.ra = F.ra) (hb : F'.rb = F.rb) (hT : F'.T = F.T := by rfl) : GOk F' g H := ⟨by rw [ha, hb]; exact k.ne, by rw [ha, hb]; exact k.a, by rw [hb]; exact k.b, k.sm, by rw [hT]; exact k.tab⟩
theorem call_post {r : Out D} {Q : VK} (R : Rep K F ρ g σ H) (R1 : Rep K F ρ g1 σ H1) (e1 : Ex (isR F) H H1) (q : Post r (fun d => ∀ v H', Ex (isR F) H H' → GOk F g' H' → Is K F.ra (bad b F ρ σ) H' d v → Q v H') (XPost E ix F H g')) :
    Post r (fun d => ∀ v H', Ex (isR ⟨F.ra, F.rb, H1, fun _ => False, F.T⟩) H1 H' → GOk ⟨F.ra, F.rb, H1, fun _ => False, F.T⟩ g' H' → Is K F.ra (fun a => H1 a ≠ none) H' d v → Q v H') (XPost E ix ⟨F.ra, F.rb, H1, fun _ => False, F.T⟩ H1 g') := by
  cases r with
  | ok d =>
    intro v H' e2 k2 i2
    refine q v H' (e1.trans e2) (k2.to rfl rfl) (R.bad_own (Is.anti (fun a z => ?_) i2))
    have z' : imB F ρ σ a := z
    rcases z' with z | z | z
    · exact R1.there z
    · exact (R1.own z).2.2.2
    · exact (R1.bok a z).2.1
  | ex x => exact fun cls dd H' e2 k2 h2 => q cls dd H' (e1.trans e2) (k2.to rfl rfl) h2
theorem re_call {n : Nat} {φ : PhiT} {ts : TA} {ms : MV (List D)} (h : RA K E ix false ts ms) : RE K E ix b (tCall (spOf K ix n φ) [] E ts) (mCall n φ ms) := fun F ρ g σ H R r g' e Q q =>
  h.one R e q.x fun l vs H1 g1 e1 R1 i1 k1 => by
    split at k1
    · rename_i hl
      rw [List.append_nil]
      unfold spOf
      rw [← R.tk]
      exact ⟨F.ra, F.rb, l, g1, r, g', hl, R1.gok.to rfl rfl, i1, k1, call_post R R1 e1 q⟩
    · cases k1
/-- a call of a def that never raises, from one that may -/
def mCall0 (n : Nat) (φ : PhiT) (ms : MV (List D)) : MV D := mbind ms fun l => if l.length = n then (fun _ g => match φ l g with
  | some (.ok d, g') => some (.ok d, g')
  | _ => none) else mno
theorem re_call0 {n : Nat} {φ : PhiT} {ts : TA} {ms : MV (List D)} {E' : XK} {ix' : IXT} (h : RA K E ix false ts ms) : RE K E ix b (tCall (spOf K ix' n φ) [] E' ts) (mCall0 n φ ms) := fun F ρ g σ H R r g' e Q q =>
  h.one R e q.x fun l vs H1 g1 e1 R1 i1 k1 => by
    split at k1
    · rename_i hl
      rw [List.append_nil]
      dsimp only at k1
      split at k1
      · rename_i d g'' hφ
        cases k1
        unfold spOf
        rw [← R.tk]
        exact ⟨F.ra, F.rb, l, g1, .ok d, _, hl, R1.gok.to rfl rfl, i1, hφ, call_post (E := E) (ix := ix) (r := .ok d) R R1 e1 q⟩
      · cases k1
    · cases k1
end
end Fw

set_option Elab.async false
set_option linter.all false
set_option maxRecDepth 100000
set_option maxHeartbeats 2000000
/-! Fw4: targets, walks, comprehensions, statements -/
namespace Fw
open PySem PySem.Spec PyProof.Rows L2

section
variable {K : PySem.W.Frag} {E : XK} {ix : IXT} {F : Fx} {ρ ρ' : List Sl} {g g' g1 : G} {σ σ' : L2.St} {H H' H1 : Hp} {b b1 b2 : Bool} {t ta tb tc : TE} {m ma mb mc : MV D} {tt uu : TT} {mt mu : MV Bool}
/-! ### targets -/
/-- a target stores in the slots ks what is one's own -/
abbrev BndT := D → List Sl → Option (List Sl)
def RG (K : PySem.W.Frag) (gg : TG) (bd : BndT) (ks : List Nat) : Prop := ∀ F ρ g σ H, Rep K F ρ g σ H → ∀ d v, Is K F.ra (imB F ρ σ) H d v → ∀ ρ', bd d ρ = some ρ' → ∀ Q : L2.St → Hp → Prop,
  (∀ σ', Rep K F ρ' g σ' H → Fr F ρ σ H ρ' σ' H → σ'.length = σ.length → (∀ j : Nat, j ∉ ks → σ'[j]? = σ[j]? ∧ ρ'[j]? = ρ[j]?) → Q σ' H) → gg v σ H Q
def RGs (K : PySem.W.Frag) (gg : TGs) (bd : List D → List Sl → Option (List Sl)) (ks : List Nat) : Prop := ∀ F ρ g σ H, Rep K F ρ g σ H → ∀ l vs, IsL K F.ra (imB F ρ σ) H l vs → ∀ ρ', bd l ρ = some ρ' → ∀ Q : L2.St → Hp → Prop,
  (∀ σ', Rep K F ρ' g σ' H → Fr F ρ σ H ρ' σ' H → σ'.length = σ.length → (∀ j : Nat, j ∉ ks → σ'[j]? = σ[j]? ∧ ρ'[j]? = ρ[j]?) → Q σ' H) → gg vs σ H Q
def bName (i : Nat) : BndT := fun d ρ => some (ρ.set i (.im d))
theorem own_set_im {i : Nat} {s : Sl} {x : Option V} (hs : ∀ l, s ≠ .ow l) (a : Addr) : Own (ρ.set i s) (σ.set i x) a → Own ρ σ a := fun h => (own_set hs h).1
theorem rg_name {i : Nat} : RG K (gName i) (bName i) [i] := fun F ρ g σ H R d v hi ρ' e Q q => by
  cases e
  refine q (σ.set i (some v)) (R.set (fun l => by intro z; cases z) ⟨v, rfl, hi⟩) ⟨Ex.refl, fun a h => .inl (own_set_im (fun l => by intro z; cases z) a h)⟩ (by simp) fun j hj => ?_
  have hij : i ≠ j := fun z => hj (by rw [z]; exact List.mem_cons_self)
  exact ⟨List.getElem?_set_ne hij, List.getElem?_set_ne hij⟩
def bNil : List D → List Sl → Option (List Sl) := fun l ρ => match l with
  | [] => some ρ
  | _ => none
def bCons (bd : BndT) (bs : List D → List Sl → Option (List Sl)) : List D → List Sl → Option (List Sl) := fun l ρ => match l with
  | [] => none
  | d :: r => match bd d ρ with
    | some ρ1 => bs r ρ1
    | none => none
theorem rgs_nil : RGs K gNil bNil [] := fun F ρ g σ H R l vs hi ρ' e Q q => by
  unfold bNil at e
  split at e
  · cases e
    cases hi
    exact ⟨rfl, q σ R Fr.refl rfl fun _ _ => ⟨rfl, rfl⟩⟩
  · cases e
theorem Is.fr {d : D} {v : V} (f : Fr F ρ σ H ρ' σ' H') (h : Is K F.ra (imB F ρ σ) H d v) (hr : ∀ a, isR F a → imB F ρ σ a) : Is K F.ra (imB F ρ' σ') H' d v := by
  have h1 : Is K F.ra (fun a => imB F ρ σ a ∨ H a = none) H d v := Is.bar (fun a z => z) h
  have h2 := Is.step (fun a z => by
    rcases z with z | z
    · exact .inl (hr a z)
    · exact .inl (.inr (.inl z))) f.ex h1
  exact Is.anti (fun a z => by
    rcases z with z | z | z
    · exact .inl (.inl z)
    · rcases f.ow a z with w | w
      · exact .inl (.inr (.inl w))
      · exact .inr w
    · exact .inl (.inr (.inr z))) h2
theorem IsL.fr : ∀ {l : List D} {vs : List V} (f : Fr F ρ σ H ρ' σ' H') (h : IsL K F.ra (imB F ρ σ) H l vs) (hr : ∀ a, isR F a → imB F ρ σ a), IsL K F.ra (imB F ρ' σ') H' l vs
  | [], _, _, h, _ => h
  | d :: l, _, f, h, hr => by
    obtain ⟨v, r, rfl, h2, h3⟩ := h
    exact ⟨v, r, rfl, Is.fr f h2 hr, IsL.fr f h3 hr⟩
theorem rgs_cons {gg : TG} {gs : TGs} {bd : BndT} {bs : List D → List Sl → Option (List Sl)} {k1 k2 : List Nat} (h1 : RG K gg bd k1) (h2 : RGs K gs bs k2) : RGs K (gCons gg gs) (bCons bd bs) (k1 ++ k2) := fun F ρ g σ H R l vs hi ρ' e Q q => by
  unfold bCons at e
  split at e
  · cases e
  · rename_i d r
    split at e
    · rename_i ρ1 hρ
      obtain ⟨v, vs', rfl, i1, i2⟩ := hi
      refine ⟨v, vs', rfl, h1 F ρ g σ H R d v i1 ρ1 hρ _ fun σ1 R1 f1 l1 n1 => h2 F ρ1 g σ1 H R1 r vs' (i2.fr f1 R.im_r) ρ' e Q fun σ2 R2 f2 l2 n2 => q σ2 R2 (f1.trans f2 R R1) (l2.trans l1) fun j hj => ?_⟩
      rw [List.mem_append, not_or] at hj
      exact ⟨(n2 j hj.2).1.trans (n1 j hj.1).1, (n2 j hj.2).2.trans (n1 j hj.1).2⟩
    · cases e
def bTup (n : Nat) (bs : List D → List Sl → Option (List Sl)) : BndT := fun d ρ => match d with
  | .tup l => if l.length = n then bs l ρ else none
  | _ => none
theorem rg_tup {n : Nat} {gs : TGs} {bs : List D → List Sl → Option (List Sl)} {ks : List Nat} (h : RGs K gs bs ks) : RG K (gTup K n gs) (bTup n bs) ks := fun F ρ g σ H R d v hi ρ' e Q q => by
  unfold bTup at e
  split at e
  · rename_i l
    split at e
    · rename_i hl
      obtain ⟨a, xs, rfl, h2, h3⟩ := hi
      exact ⟨a, xs, rfl, h2, by rw [h3.length, hl], h F ρ g σ H R l xs h3 ρ' e Q q⟩
    · cases e
  · cases e
/-! ### walks -/
def ItOk (K : PySem.W.Frag) (F : Fx) (ρ : List Sl) (σ : L2.St) (J : It) (ds : List D) (H1 : Hp) : Prop := ∀ H2, Ex (fun a => isR F a ∨ Own ρ σ a ∨ F.B a) H1 H2 → ∀ i : Nat, (i = ds.length → J.stop i H2) ∧
  ∀ d, ds[i]? = some d → J.go i H2 ∧ ∀ x H3, J.yld i H2 x H3 → Ex (fun _ => False) H2 H3 ∧ Is K F.ra (fun a => imB F ρ σ a ∨ H1 a = none) H3 d x
def RI (K : PySem.W.Frag) (E : XK) (ix : IXT) (wi : TI) (m : MV (List D)) : Prop := ∀ F ρ g σ H, Rep K F ρ g σ H → ∀ r g', m ρ g = some (r, g') → ∀ R : It → Hp → Prop,
  Post r (fun ds => ∀ J H1, Ex (isR F) H H1 → GOk F g' H1 → ItOk K F ρ σ J ds H1 → R J H1) (XPost E ix F H g') → wi σ H R
def asT (d : D) : Option (List D) := match d with
  | .tup l => some l
  | _ => none
def asL (d : D) : Option (List D) := match d with
  | .lst l => some l
  | _ => none
theorem asT_is {d : D} {l : List D} (h : asT d = some l) : d = .tup l := by
  unfold asT at h
  split at h
  · cases h; rfl
  · cases h
theorem asL_is {d : D} {l : List D} (h : asL d = some l) : d = .lst l := by
  unfold asL at h
  split at h
  · cases h; rfl
  · cases h
def mItT (m : MV D) : MV (List D) := mbind m fun d => mlift (asT d)
def mItL (m : MV D) : MV (List D) := mbind m fun d => mlift (asL d)
theorem itt_ok {l : List D} {xs : List V} {a : Addr} (hr : ∀ a, isR F a → imB F ρ σ a) (h2 : SqT K H1 a xs) (h3 : IsL K F.ra (imB F ρ σ) H1 l xs) : ItOk K F ρ σ (Itt K a) l H1 := fun H2 e2 i => by
  have hs : SqT K H2 a xs := e2.tup h2
  refine ⟨fun hi => ⟨xs, hs, by rw [h3.length]; exact Nat.le_of_eq hi.symm⟩, fun d hd => ?_⟩
  obtain ⟨v, hv, _⟩ := h3.get hd
  refine ⟨⟨xs, v, hs, hv⟩, fun x H3 y => ?_⟩
  obtain ⟨rfl, y⟩ := y
  have hx := y xs hs
  have i1 : IsL K F.ra (fun a => imB F ρ σ a ∨ H1 a = none) H1 l xs := IsL.bar (fun a z => z) h3
  have i2 := IsL.step (fun a z => by
    rcases z with z | z | z
    · exact Or.inl (hr a z)
    · exact Or.inl (.inr (.inl z))
    · exact Or.inl (.inr (.inr z))) e2 i1
  obtain ⟨v', hv', iv⟩ := i2.get hd
  rw [hx] at hv'
  cases hv'
  exact ⟨Ex.refl, iv⟩
theorem ri_tup (h : RE K E ix true t m) : RI K E ix (iTup K t) (mItT m) := fun F ρ g σ H R r g' e S q =>
  h.one R e q.x fun d v H1 g1 e1 R1 i1 k1 => by
    obtain ⟨l, hl, rfl, rfl⟩ := mlift_some k1
    rw [asT_is hl] at i1
    obtain ⟨a, xs, rfl, h2, h3⟩ := i1
    exact ⟨a, rfl, ⟨xs, h2⟩, q _ H1 e1 R1.gok (itt_ok R.im_r h2 h3)⟩
theorem itl_ok {l : List D} {xs : List V} {a : Addr} (hr : ∀ a, isR F a → imB F ρ σ a) (na : ¬ (isR F a ∨ Own ρ σ a ∨ F.B a)) (h2 : H1 a = some (.lst xs)) (h3 : IsL K F.ra (imB F ρ σ) H1 l xs) : ItOk K F ρ σ (Itl K a) l H1 := fun H2 e2 i => by
  have hs : SqL K H2 a xs := SqL.of (e2.lst h2 na)
  refine ⟨fun hi => ⟨xs, hs, by rw [h3.length]; exact Nat.le_of_eq hi.symm⟩, fun d hd => ?_⟩
  obtain ⟨v, hv, _⟩ := h3.get hd
  refine ⟨⟨xs, v, hs, hv⟩, fun x H3 y => ?_⟩
  obtain ⟨rfl, y⟩ := y
  have hx := y xs hs
  have i1 : IsL K F.ra (fun a => imB F ρ σ a ∨ H1 a = none) H1 l xs := IsL.bar (fun a z => z) h3
  have i2 := IsL.step (fun a z => by
    rcases z with z | z | z
    · exact Or.inl (hr a z)
    · exact Or.inl (.inr (.inl z))
    · exact Or.inl (.inr (.inr z))) e2 i1
  obtain ⟨v', hv', iv⟩ := i2.get hd
  rw [hx] at hv'
  cases hv'
  exact ⟨Ex.refl, iv⟩
theorem ri_list (h : RE K E ix true t m) : RI K E ix (iList K t) (mItL m) := fun F ρ g σ H R r g' e S q =>
  h.one R e q.x fun d v H1 g1 e1 R1 i1 k1 => by
    obtain ⟨l, hl, rfl, rfl⟩ := mlift_some k1
    rw [asL_is hl] at i1
    obtain ⟨a, xs, rfl, nb, h2, h3⟩ := i1
    exact ⟨a, rfl, ⟨xs, SqL.of h2⟩, q _ H1 e1 R1.gok (itl_ok R.im_r (fun z => by
      rcases z with z | z | z
      · exact nb (R.im_r a z)
      · exact nb (.inr (.inl z))
      · exact nb (.inr (.inr z))) h2 h3)⟩
/-- a lent list of what has no list within, none of one's own -/
def bigI (i : Int) : Bool := decide (-(2 ^ 62) ≤ i ∧ i < 2 ^ 62)
def rngD (lo : Int) (n : Nat) : List D := (List.range n).map fun (i : Nat) => D.int (lo + (i : Int))
def mRng1 (ms : MV (List D)) : MV (List D) := mbind ms fun l => mlift (match l with
  | [.int j] => if bigI j = true then some (rngD 0 j.toNat) else none
  | _ => none)
def mRng2 (ms : MV (List D)) : MV (List D) := mbind ms fun l => mlift (match l with
  | [.int i, .int j] => if bigI i && bigI j = true then some (rngD i (j - i).toNat) else none
  | _ => none)
theorem itr_ok {lo : Int} {n : Nat} : ItOk K F ρ σ (Itr lo n) (rngD lo n) H1 := fun H2 e2 i => by
  have hl : (rngD lo n).length = n := by simp [rngD]
  refine ⟨fun hi => by rw [hl] at hi; exact Nat.le_of_eq hi.symm, fun d hd => ?_⟩
  have hi : i < n := by rw [← hl]; exact (List.getElem?_eq_some_iff.mp hd).1
  have hd' : d = .int (lo + i) := by
    simp only [rngD, List.getElem?_map] at hd
    rw [List.getElem?_range hi] at hd
    cases hd; rfl
  subst hd'
  refine ⟨hi, fun x H3 y => ?_⟩
  obtain ⟨rfl, rfl⟩ := y
  exact ⟨Ex.refl, rfl⟩
theorem ri_rng1 {ts : TA} {ms : MV (List D)} (h : RA K E ix b ts ms) : RI K E ix (iRng1 ts) (mRng1 ms) := fun F ρ g σ H R r g' e S q =>
  h.one R e q.x fun l vs H1 g1 e1 R1 i1 k1 => by
    obtain ⟨ds, hc, rfl, rfl⟩ := mlift_some k1
    split at hc
    · rename_i j
      split at hc
      · rename_i hj
        cases hc
        obtain ⟨v, r, rfl, h2, h4⟩ := i1
        cases h4
        have hj' : -(2 ^ 62) ≤ j ∧ j < 2 ^ 62 := of_decide_eq_true hj
        exact ⟨j, by rw [show v = _ from h2], hj'.1, hj'.2, q _ H1 e1 R1.gok itr_ok⟩
      · cases hc
    · cases hc
theorem ri_rng2 {ts : TA} {ms : MV (List D)} (h : RA K E ix b ts ms) : RI K E ix (iRng2 ts) (mRng2 ms) := fun F ρ g σ H R r g' e S q =>
  h.one R e q.x fun l vs H1 g1 e1 R1 i1 k1 => by
    obtain ⟨ds, hc, rfl, rfl⟩ := mlift_some k1
    split at hc
    · rename_i i j
      split at hc
      · rename_i hj
        cases hc
        simp only [Bool.and_eq_true, decide_eq_true_eq] at hj
        obtain ⟨v, r, rfl, h2, u, r2, rfl, h3, h4⟩ := i1
        cases h4
        have hi' : -(2 ^ 62) ≤ i ∧ i < 2 ^ 62 := of_decide_eq_true hj.1
        have hj' : -(2 ^ 62) ≤ j ∧ j < 2 ^ 62 := of_decide_eq_true hj.2
        exact ⟨i, j, by rw [show v = _ from h2, show u = _ from h3], ⟨hi'.1, hi'.2, hj'.1, hj'.2⟩, q _ H1 e1 R1.gok itr_ok⟩
      · cases hc
    · cases hc
theorem Ex.keepR (k : GOk F g H) (e : Ex (fun _ => False) H H') : GOk F g H' := ⟨k.ne, e _ _ k.a fun z => z.elim, e _ _ k.b fun z => z.elim, k.sm, LamX.Tabs.ext k.tab fun b o h => e b o h fun z => z.elim⟩
/-! ### list comprehensions -/
def wipeS (ρ : List Sl) : List Nat → List Sl
  | [] => ρ
  | v :: vs => (wipeS ρ vs).set v .no
theorem Rep.wiped (R : Rep K F ρ g σ H) : ∀ vs : List Nat, Rep K F (wipeS ρ vs) g (wipe σ vs) H
  | [] => R
  | v :: vs => (R.wiped vs).set (fun l => by intro z; cases z) trivial
theorem own_wipe : ∀ (vs : List Nat) (a : Addr), Own (wipeS ρ vs) (wipe σ vs) a → Own ρ σ a
  | [], _, h => h
  | v :: vs, a, h => own_wipe vs a (own_set_im (fun l => by intro z; cases z) a h)
theorem wipe_get (σ : L2.St) (j : Nat) : ∀ vs : List Nat, (wipe σ vs)[j]? = if j ∈ vs then (if j < σ.length then some none else none) else σ[j]?
  | [] => by simp [wipe]
  | v :: vs => by
    unfold wipe
    rw [List.getElem?_set, wipe_length, wipe_get σ j vs]
    by_cases q : v = j
    · subst q; simp
    · rw [if_neg q]
      have : (j ∈ v :: vs) ↔ j ∈ vs := ⟨fun z => (List.mem_cons.mp z).elim (fun w => absurd w.symm q) id, List.mem_cons_of_mem _⟩
      simp only [this]
theorem wipe_eq {vs : List Nat} (hl : σ'.length = σ.length) (h : ∀ j, j ∉ vs → σ'[j]? = σ[j]?) : wipe σ' vs = wipe σ vs := by
  apply List.ext_getElem?
  intro j
  rw [wipe_get, wipe_get, hl]
  split
  · rfl
  · exact h j (by assumption)
theorem wipe_wipe (σ : L2.St) (vs : List Nat) : wipe (wipe σ vs) vs = wipe σ vs := by
  apply List.ext_getElem?
  intro j
  rw [wipe_get, wipe_length, wipe_get]
  split
  · rfl
  · rfl
def lcGo (bd : BndT) (mt : MV Bool) (me : MV D) (ρ : List Sl) : List D → G → Option (List D × G)
  | [], g => some ([], g)
  | d :: ds, g => match bd d ρ with
    | none => none
    | some ρ1 => match mt ρ1 g with
      | some (.ok true, g1) => (match me ρ1 g1 with
        | some (.ok y, g2) => (match lcGo bd mt me ρ ds g2 with
          | some (ys, g3) => some (y :: ys, g3)
          | none => none)
        | _ => none)
      | some (.ok false, g1) => lcGo bd mt me ρ ds g1
      | _ => none
def mLc (mi : MV (List D)) (bd : BndT) (vs : List Nat) (mt : MV Bool) (me : MV D) : MV (List D) := mbind mi fun ds => fun ρ g =>
  if small ds.length = true then (match lcGo bd mt me (wipeS ρ vs) ds g with
    | some (l, g') => some (.ok l, g')
    | none => none) else none
theorem rt_yes : RT K E ix tYes (mret true) := fun F ρ g σ H R r g' e Q q => by
  cases e
  exact q H Ex.refl R.gok
theorem wipeS_get (ρ : List Sl) (j : Nat) : ∀ vs : List Nat, (wipeS ρ vs)[j]? = if j ∈ vs then (if j < ρ.length then some Sl.no else none) else ρ[j]?
  | [] => by simp [wipeS]
  | v :: vs => by
    have hlen : ∀ ws : List Nat, (wipeS ρ ws).length = ρ.length := fun ws => by
      induction ws with
      | nil => rfl
      | cons w ws ih => unfold wipeS; rw [List.length_set, ih]
    unfold wipeS
    rw [List.getElem?_set, hlen, wipeS_get ρ j vs]
    by_cases q : v = j
    · subst q; simp
    · rw [if_neg q]
      have : (j ∈ v :: vs) ↔ j ∈ vs := ⟨fun z => (List.mem_cons.mp z).elim (fun w => absurd w.symm q) id, List.mem_cons_of_mem _⟩
      simp only [this]
/-- the frame in which a comprehension's elements are reckoned: its new list barred, and what its own names hide -/
def lcF (F : Fx) (ρ : List Sl) (σ : L2.St) (vs : List Nat) (p : Addr) : Fx := ⟨F.ra, F.rb, F.H0, fun a => F.B a ∨ a = p ∨ (Own ρ σ a ∧ ¬ Own (wipeS ρ vs) (wipe σ vs) a), F.T⟩
theorem own_wipe_not {vs : List Nat} {i : Nat} {s : Sl} (h : (wipeS ρ vs)[i]? = some s) (hs : s ≠ .no) : i ∉ vs ∧ ρ[i]? = some s ∧ (wipe σ vs)[i]? = σ[i]? := by
  rw [wipeS_get] at h
  split at h
  · split at h
    · cases h; exact absurd rfl hs
    · cases h
  · rename_i hn
    exact ⟨hn, h, by rw [wipe_get, if_neg hn]⟩
theorem Rep.lc (R : Rep K F ρ g σ H) {p : Addr} (hp : H p = none) (e : Ex (isR F) H H1) (k : GOk F g1 H1) (hp1 : H1 p ≠ none) (vs : List Nat) : Rep K (lcF F ρ σ vs p) (wipeS ρ vs) g1 (wipe σ vs) H1 := by
  have Rw := R.wiped vs
  have hH0 : F.H0 p = none := by
    cases z : F.H0 p with
    | none => rfl
    | some o => exact absurd hp (R.there (by rw [z]; intro w; cases w))
  have nR : ¬ isR F p := fun z => R.gin p z hH0
  have hsub : ∀ a, imB (lcF F ρ σ vs p) (wipeS ρ vs) (wipe σ vs) a → imB F ρ σ a ∨ a = p := fun a z => by
    rcases z with z | z | z | z | z
    · exact .inl (.inl z)
    · exact .inl (.inr (.inl (own_wipe vs a z)))
    · exact .inl (.inr (.inr z))
    · exact .inr z
    · exact .inl (.inr (.inl z.1))
  have hr' : ∀ a, isR F a → imB F ρ σ a ∨ a = p := fun a z => .inl (R.im_r a z)
  have bar : ∀ a, imB F ρ σ a ∨ a = p → imB F ρ σ a ∨ H a = none := fun a z => by
    rcases z with z | z
    · exact .inl z
    · rw [z]; exact .inr hp
  refine ⟨Rw.len, fun i s hi => ?_, fun i j li lj x h1 h2 h3 h4 => ?_, k.to rfl rfl, R.gin, fun a ha => ?_, R.ext.trans e, R.tk⟩
  · by_cases hs : s = .no
    · subst hs
      have hlt : i < (wipe σ vs).length := by rw [Rw.len]; exact (List.getElem?_eq_some_iff.mp hi).1
      exact ⟨(wipe σ vs)[i], List.getElem?_eq_getElem hlt, trivial⟩
    · obtain ⟨hn, h1, h2⟩ := own_wipe_not (σ := σ) hi hs
      obtain ⟨x, hx, so⟩ := R.sl i s h1
      refine ⟨x, h2.trans hx, ?_⟩
      cases s with
      | no => trivial
      | im d =>
        obtain ⟨v, q1, q2⟩ := so
        exact ⟨v, q1, Is.anti hsub (Is.step hr' e (Is.bar bar q2))⟩
      | bo d =>
        obtain ⟨v, q1, q2⟩ := so
        exact ⟨v, q1, Is.step (fun a z => .inl z) e q2⟩
      | ow l =>
        obtain ⟨a, q1, q2, q3, q4⟩ := so
        have oa : Own (wipeS ρ vs) (wipe σ vs) a := ⟨i, l, hi, by rw [h2, hx, q1]⟩
        have oa' : Own ρ σ a := ⟨i, l, h1, by rw [hx, q1]⟩
        refine ⟨a, q1, q2, fun z => ?_, ConIs.anti hsub (ConIs.step (B := fun c => imB F ρ σ c ∨ c = p) hr' e (R.own oa').2.1 (ConIs.bar bar q4))⟩
        rcases z with z | z | z
        · exact q3 z
        · exact q4.there (z ▸ hp)
        · exact z.2 oa
  · obtain ⟨_, a1, a2⟩ := own_wipe_not (σ := σ) h1 (by intro z; cases z)
    obtain ⟨_, b1, b2⟩ := own_wipe_not (σ := σ) h2 (by intro z; cases z)
    exact R.dis i j li lj x a1 b1 (a2 ▸ h3) (b2 ▸ h4)
  · rcases ha with z | z | z
    · obtain ⟨w1, w2, w3⟩ := R.bok a z
      exact ⟨w1, e.some' w1 w2, w3⟩
    · rw [z]; exact ⟨nR, hp1, hH0⟩
    · obtain ⟨w1, w2, w3, w4⟩ := R.own z.1
      exact ⟨w2, e.some' w2 w4, w1⟩
theorem rf_lc {wi : TI} {gg : TG} {te : TE} {vs ks : List Nat} {mi : MV (List D)} {bd : BndT} {me : MV D} (hi : RI K E ix wi mi) (hg : RG K gg bd ks) (ht : RT K E ix tt mt) (he : RE K E ix true te me) (hk : ∀ k ∈ ks, k ∈ vs := by decide) :
    RF K E ix (tLc wi gg tt te vs) (mLc mi bd vs mt me) := fun F ρ g σ H R r g' e Q q => by
  unfold mLc mbind at e
  split at e
  rotate_left
  · rename_i x g1 hm
    cases e
    exact hi F ρ g σ H R _ _ hm _ q
  · cases e
  rename_i ds g1 hm
  dsimp only at e
  split at e
  rotate_left
  · cases e
  rename_i hz
  split at e
  rotate_left
  · cases e
  rename_i l gE hl
  cases e
  refine hi F ρ g σ H R _ _ hm _ fun J H1 e1 k1 it Dl hD => ?_
  have R1 : Rep K F ρ g1 σ H1 := R.step e1 k1
  have hH0 : F.H0 Dl = none := by
    cases z : F.H0 Dl with
    | none => rfl
    | some o => exact absurd hD (R1.there (by rw [z]; intro w; cases w))
  have nR : ¬ isR F Dl := fun z => R1.gin Dl z hH0
  have hb : ∀ a, isR F a → imB F ρ σ a ∨ a = Dl := fun a z => .inl (R.im_r a z)
  refine ⟨fun i mm H2 => mm = ds.length - i ∧ i ≤ ds.length ∧ ∃ (acc : List D) (xs : List V) (gi : G) (rest : List D), Ex (isR F) H1 H2 ∧ GOk F gi H2 ∧ H2 Dl = some (.lst xs) ∧
    IsL K F.ra (fun b => imB F ρ σ b ∨ b = Dl) H2 acc xs ∧ acc.length ≤ i ∧ lcGo bd mt me (wipeS ρ vs) (ds.drop i) gi = some (rest, g') ∧ acc ++ rest = l, ⟨ds.length, rfl, Nat.zero_le _, [], [], g1, l, Ex.new hD, R1.gok.new hD, upd_same, rfl, Nat.le_refl _, by rw [List.drop_zero]; exact hl, rfl⟩, ?_⟩
  rintro i mm H2 ⟨rfl, hi', acc, xs, gi, rest, e2, k2, hDl, ia, hal, hgo, hcat⟩
  by_cases hlt : i < ds.length
  · have hd : ds[i]? = some ds[i] := List.getElem?_eq_getElem hlt
    generalize hdd : ds[i] = d at hd
    have hdrop : ds.drop i = d :: ds.drop (i + 1) := by rw [← hdd]; exact List.drop_eq_getElem_cons hlt
    rw [hdrop] at hgo
    unfold lcGo at hgo
    split at hgo
    · cases hgo
    rename_i ρ1 hρ1
    obtain ⟨go, yl⟩ := (it H2 (e2.mono fun _ z => .inl z) i).2 d hd
    have fin : ∀ (acc' : List D) (xs' : List V) (g2 : G) (H' : Hp), Ex (isR F) H1 H' → GOk F g2 H' → H' Dl = some (.lst xs') → IsL K F.ra (fun b => imB F ρ σ b ∨ b = Dl) H' acc' xs' → acc'.length ≤ i + 1 → (∃ rest', lcGo bd mt me (wipeS ρ vs) (ds.drop (i + 1)) g2 = some (rest', g') ∧ acc' ++ rest' = l) →
        (fun H' => ∃ (acc : List D) (xs : List V) (gi : G) (rest : List D), Ex (isR F) H1 H' ∧ GOk F gi H' ∧ H' Dl = some (.lst xs) ∧ IsL K F.ra (fun b => imB F ρ σ b ∨ b = Dl) H' acc xs ∧ acc.length ≤ i + 1 ∧ lcGo bd mt me (wipeS ρ vs) (ds.drop (i + 1)) gi = some (rest, g') ∧ acc ++ rest = l) H' :=
      fun acc' xs' g2 H' a b c d e ⟨rest', f, h⟩ => ⟨acc', xs', g2, rest', a, b, c, d, e, f, h⟩
    refine .inr ⟨go, _, fun H' nx => ⟨ds.length - (i + 1), by omega, rfl, hlt, nx⟩, fun x H3 y => ?_⟩
    obtain ⟨e3, i3⟩ := yl x H3 y
    have e23 : Ex (isR F) H2 H3 := e3.mono fun _ z => z.elim
    have k3 : GOk F gi H3 := Ex.keepR k2 e3
    have e13 := e2.trans e23
    have d3 : H3 Dl = some (.lst xs) := e3 Dl _ hDl fun z => z.elim
    have R3 : Rep K (lcF F ρ σ vs Dl) (wipeS ρ vs) gi (wipe σ vs) H3 := R1.lc hD e13 k3 (by rw [d3]; intro z; cases z) vs
    have i3' : Is K F.ra (imB (lcF F ρ σ vs Dl) (wipeS ρ vs) (wipe σ vs)) H3 d x := Is.anti (fun a z => by
      rcases z with z | z | z | z | z
      · exact .inl (.inl z)
      · exact .inl (.inr (.inl (own_wipe vs a z)))
      · exact .inl (.inr (.inr z))
      · rw [z]; exact .inr hD
      · exact .inl (.inr (.inl z.1))) i3
    refine hg _ _ gi _ H3 R3 d x i3' ρ1 hρ1 _ fun σ1 R4 f4 l4 n4 => ⟨?_, ?_⟩
    · rw [← wipe_wipe σ vs]
      exact wipe_eq l4 fun j hj => (n4 j (fun z => hj (hk j z))).1
    -- what an element may hold
    have big : ∀ a, imB F ρ σ a ∨ a = Dl → imB (lcF F ρ σ vs Dl) ρ1 σ1 a := fun a z => by
      rcases z with z | z
      · rcases z with z | z | z
        · exact .inl z
        · by_cases w : Own (wipeS ρ vs) (wipe σ vs) a
          · obtain ⟨j, lj, w1, w2⟩ := w
            have hj := (own_wipe_not (σ := σ) w1 (by intro z; cases z)).1
            obtain ⟨m1, m2⟩ := n4 j (fun z => hj (hk j z))
            exact .inr (.inl ⟨j, lj, m2.trans w1, m1.trans w2⟩)
          · exact .inr (.inr (.inr (.inr ⟨z, w⟩)))
        · exact .inr (.inr (.inl z))
      · exact .inr (.inr (.inr (.inl z)))
    split at hgo
    · rename_i g2 hmt
      split at hgo
      · rename_i y g3 hme
        split at hgo
        · rename_i ys g4 hys
          cases hgo
          refine ht _ ρ1 gi σ1 H3 R4 _ _ hmt _ fun H4 e4 k4 => ?_
          rw [if_pos rfl]
          refine he _ ρ1 g2 σ1 H4 (R4.step e4 k4) _ _ hme _ fun v H5 e5 k5 i5 => ?_
          have e35 : Ex (isR F) H3 H5 := Ex.trans e4 e5
          have d5 : H5 Dl = some (.lst xs) := e35.lst d3 nR
          have ep : Ex (fun a => imB F ρ σ a ∨ a = Dl) H5 (upd H5 Dl (.lst (xs ++ [v]))) := Ex.put d5 (.inr rfl)
          have k5' : GOk F g3 H5 := k5.to rfl rfl
          refine ⟨xs, d5, ?_, fin (acc ++ [y]) (xs ++ [v]) g3 _ (fun a o ha nn => ?_) (k5'.put nR d5) upd_same ?_ (by simp; omega) ⟨ys, hys, by rw [List.append_assoc]; exact hcat⟩⟩
          · rw [ia.length]
            exact Nat.lt_of_le_of_lt (Nat.le_trans hal hi') (small_line hz)
          · rw [upd_ne (ne_of_none ha hD)]
            exact (e13.trans e35) a o ha nn
          · refine IsL.step (fun _ z => z) ep (IsL.snoc (IsL.step hb (e23.trans e35) ia) (Is.anti (fun a z => big a z) i5))
        · cases hgo
      · cases hgo
    · rename_i g2 hmt
      refine ht _ ρ1 gi σ1 H3 R4 _ _ hmt _ fun H4 e4 k4 => ?_
      rw [if_neg Bool.false_ne_true]
      have e34 : Ex (isR F) H3 H4 := e4
      exact fin acc xs g2 H4 (e13.trans e34) (k4.to rfl rfl) (e34.lst d3 nR) (IsL.step hb (e23.trans e34) ia) (by omega) ⟨rest, hgo, hcat⟩
    · cases hgo
  · have hie : i = ds.length := by omega
    subst hie
    rw [List.drop_length] at hgo
    cases hgo
    rw [List.append_nil] at hcat
    subst hcat
    refine .inl ⟨(it H2 (e2.mono fun _ z => .inl z) ds.length).1 rfl, ?_⟩
    exact q Dl xs H2 (e1.trans e2) k2 (fresh_back R e1 k1 hD) hDl ia
end
end Fw

set_option Elab.async false
set_option linter.all false
set_option maxRecDepth 100000
set_option maxHeartbeats 2000000
/-! Fw5: statements, defs -/
namespace Fw
open PySem PySem.Spec PyProof.Rows L2

inductive Fl where
  | nx | rt (d : D) | bk | ct | ex (x : Exn)
abbrev MSt := List Sl → G → Option (Fl × List Sl × G)
/-- what is wanted behind a statement -/
def SPost (K : PySem.W.Frag) (E : XK) (ix : IXT) (F : Fx) (ρ : List Sl) (σ : L2.St) (H : Hp) (De : Ends) (fl : Fl) (ρ' : List Sl) (g' : G) : Prop := match fl with
  | .nx => ∀ σ' H', Rep K F ρ' g' σ' H' → Fr F ρ σ H ρ' σ' H' → De.nx σ' H'
  | .bk => ∀ σ' H', Rep K F ρ' g' σ' H' → Fr F ρ σ H ρ' σ' H' → De.bk σ' H'
  | .ct => ∀ σ' H', Rep K F ρ' g' σ' H' → Fr F ρ σ H ρ' σ' H' → De.ct σ' H'
  | .rt d => ∀ v H', Ex (isR F) F.H0 H' → GOk F g' H' → Is K F.ra (fun a => F.H0 a ≠ none) H' d v → De.rt v H'
  | .ex x => XPost E ix F F.H0 g' x
def RS (K : PySem.W.Frag) (E : XK) (ix : IXT) (t : TS) (m : MSt) : Prop := ∀ F ρ g σ H, Rep K F ρ g σ H → ∀ fl ρ' g', m ρ g = some (fl, ρ', g') → ∀ De : Ends, SPost K E ix F ρ σ H De fl ρ' g' → t De σ H

section
variable {K : PySem.W.Frag} {E : XK} {ix : IXT} {F : Fx} {ρ ρ' ρ1 : List Sl} {g g' g1 : G} {σ σ' σ1 : L2.St} {H H' H1 : Hp} {b b1 b2 : Bool} {t ta tb tc : TE} {m ma mb mc : MV D} {tt uu : TT} {mt mu : MV Bool} {t1 t2 ts : TS} {m1 m2 ms : MSt}
theorem SPost.x {De : Ends} {fl : Fl} (q : SPost K E ix F ρ σ H De fl ρ' g') (R : Rep K F ρ g σ H) (x : Exn) (h : fl = .ex x) : XPost E ix F H g' x := by
  subst h
  exact XPost.mono R.ext q
/-- an end that is wanted from further on -/
theorem SPost.on {De : Ends} {fl : Fl} (q : SPost K E ix F ρ σ H De fl ρ' g') (R : Rep K F ρ g σ H) (R1 : Rep K F ρ1 g1 σ1 H1) (f : Fr F ρ σ H ρ1 σ1 H1) : SPost K E ix F ρ1 σ1 H1 De fl ρ' g' := by
  cases fl with
  | nx => exact fun σ' H' R' f' => q σ' H' R' (f.trans f' R R1)
  | bk => exact fun σ' H' R' f' => q σ' H' R' (f.trans f' R R1)
  | ct => exact fun σ' H' R' f' => q σ' H' R' (f.trans f' R R1)
  | rt d => exact q
  | ex x => exact q

def mSeq (m1 m2 : MSt) : MSt := fun ρ g => match m1 ρ g with
  | some (.nx, ρ1, g1) => m2 ρ1 g1
  | some (fl, ρ1, g1) => some (fl, ρ1, g1)
  | none => none
def mNx : MSt := fun ρ g => some (.nx, ρ, g)
def mNv : MSt := fun _ _ => none
theorem rs_nx : RS K E ix tNext mNx := fun F ρ g σ H R fl ρ' g' e De q => by
  cases e
  exact q σ H R Fr.refl
theorem rs_never {t : TS} : RS K E ix t mNv := fun F ρ g σ H R fl ρ' g' e De q => by cases e
theorem rs_seq (h1 : RS K E ix t1 m1) (h2 : RS K E ix t2 m2) : RS K E ix (tSeq t1 t2) (mSeq m1 m2) := fun F ρ g σ H R fl ρ' g' e De q => by
  unfold mSeq at e
  cases hm : m1 ρ g with
  | none => rw [hm] at e; cases e
  | some p =>
    obtain ⟨fl1, ρ1, g1⟩ := p
    rw [hm] at e
    cases fl1 with
    | nx => exact h1 F ρ g σ H R _ _ _ hm { De with nx := t2 De } fun σ1 H1 R1 f1 => h2 F ρ1 g1 σ1 H1 R1 fl ρ' g' e De (q.on R R1 f1)
    | bk => cases e; exact h1 F ρ g σ H R _ _ _ hm { De with nx := t2 De } q
    | ct => cases e; exact h1 F ρ g σ H R _ _ _ hm { De with nx := t2 De } q
    | rt d => cases e; exact h1 F ρ g σ H R _ _ _ hm { De with nx := t2 De } q
    | ex x => cases e; exact h1 F ρ g σ H R _ _ _ hm { De with nx := t2 De } q
/-! ### assignments -/
def mAsg (m : MV D) (bd : BndT) : MSt := fun ρ g => match m ρ g with
  | some (.ok d, g1) => (match bd d ρ with
    | some ρ1 => some (.nx, ρ1, g1)
    | none => none)
  | some (.ex x, g1) => some (.ex x, ρ, g1)
  | none => none
theorem rs_asg {gg : TG} {bd : BndT} {ks : List Nat} (h : RE K E ix true t m) (hg : RG K gg bd ks) : RS K E ix (tAsg t gg) (mAsg m bd) := fun F ρ g σ H R fl ρ' g' e De q => by
  unfold mAsg at e
  split at e
  · rename_i d g1 hm
    split at e
    · rename_i ρ1 hb
      cases e
      refine h F ρ g σ H R _ _ hm _ fun v H1 e1 k1 i1 => hg F ρ g' σ H1 (R.step e1 k1) d v i1 ρ' hb _ fun σ1 R1 f1 _ _ => q σ1 H1 R1 ?_
      exact (Fr.of e1).trans f1 R (R.step e1 k1)
    · cases e
  · rename_i x g1 hm
    cases e
    exact h F ρ g σ H R _ _ hm _ (XPost.mono R.ext q)
  · cases e
/-- a slot takes a new list for its own -/
theorem Rep.set_ow (R : Rep K F ρ g σ H) (e1 : Ex (isR F) H H1) (k1 : GOk F g1 H1) {a : Addr} {l : Con} (hn : H a = none) (hi : ConIs K F.ra (fun b => imB F ρ σ b ∨ b = a) H1 l a) (i : Nat) (hlt : i < ρ.length) :
    Rep K F (ρ.set i (.ow l)) g1 (σ.set i (some (.ref a))) H1 ∧ Fr F ρ σ H (ρ.set i (.ow l)) (σ.set i (some (.ref a))) H1 := by
  have R1 := R.step e1 k1
  have hH0 : F.H0 a = none := by
    cases z : F.H0 a with
    | none => rfl
    | some o => exact absurd hn (R.there (by rw [z]; intro w; cases w))
  have nB : ¬ F.B a := fun z => (R.bok a z).2.1 hn
  have own : ∀ c, Own (ρ.set i (.ow l)) (σ.set i (some (.ref a))) c → Own ρ σ c ∨ c = a := fun c h => by
    obtain ⟨j, l', h1, h2⟩ := h
    by_cases q : i = j
    · subst q
      rw [List.getElem?_set] at h2
      simp only [if_true] at h2
      by_cases hq : i < σ.length
      · simp only [hq, if_true] at h2; cases h2; exact .inr rfl
      · simp only [hq, if_false] at h2; cases h2
    · rw [List.getElem?_set_ne q] at h1 h2
      exact .inl ⟨j, l', h1, h2⟩
  have hsub : ∀ c, imB F (ρ.set i (.ow l)) (σ.set i (some (.ref a))) c → imB F ρ σ c ∨ c = a := fun c z => by
    rcases z with z | z | z
    · exact .inl (.inl z)
    · rcases own c z with z | z
      · exact .inl (.inr (.inl z))
      · exact .inr z
    · exact .inl (.inr (.inr z))
  have hr' : ∀ c, isR F c → imB F ρ σ c ∨ c = a := fun c z => .inl (R.im_r c z)
  have bar : ∀ c, imB F ρ σ c ∨ c = a → imB F ρ σ c ∨ H c = none := fun c z => by
    rcases z with z | z
    · exact .inl z
    · rw [z]; exact .inr hn
  have hltσ : i < σ.length := by rw [R.len]; exact hlt
  refine ⟨⟨by simp [R.len], fun j s hj => ?_, fun j k lj lk x h1 h2 h3 h4 => ?_, k1, R.gin, R1.bok, R1.ext, R.tk⟩, ⟨e1.mono fun _ z => .inl z, fun c h => ?_⟩⟩
  · by_cases q : i = j
    · subst q
      rw [List.getElem?_set] at hj
      simp only [if_true, hlt] at hj
      cases hj
      exact ⟨_, by rw [List.getElem?_set]; simp only [if_true, hltσ], a, rfl, hH0, nB, ConIs.anti hsub hi⟩
    · rw [List.getElem?_set_ne q] at hj
      obtain ⟨x, hx, so⟩ := R.sl j s hj
      refine ⟨x, by rw [List.getElem?_set_ne q]; exact hx, ?_⟩
      cases s with
      | no => trivial
      | im d =>
        obtain ⟨v, q1, q2⟩ := so
        exact ⟨v, q1, Is.anti hsub (Is.step hr' e1 (Is.bar bar q2))⟩
      | bo d =>
        obtain ⟨v, q1, q2⟩ := so
        exact ⟨v, q1, Is.step (fun c z => .inl z) e1 q2⟩
      | ow l' =>
        obtain ⟨a', q1, q2, q3, q4⟩ := so
        exact ⟨a', q1, q2, q3, ConIs.anti hsub (ConIs.step (B := fun c => imB F ρ σ c ∨ c = a) hr' e1 (R.own ⟨j, l', hj, by rw [hx, q1]⟩).2.1 (ConIs.bar bar q4))⟩
  · by_cases qj : i = j
    · by_cases qk : i = k
      · rw [← qj, ← qk]
      · exfalso
        subst qj
        rw [List.getElem?_set] at h3
        simp only [if_true, hltσ] at h3
        rw [List.getElem?_set_ne qk] at h2 h4
        cases h3
        exact (R.own ⟨k, lk, h2, h4⟩).2.2.2 hn
    · by_cases qk : i = k
      · exfalso
        subst qk
        rw [List.getElem?_set] at h4
        simp only [if_true, hltσ] at h4
        rw [List.getElem?_set_ne qj] at h1 h3
        cases h4
        exact (R.own ⟨j, lj, h1, h3⟩).2.2.2 hn
      · rw [List.getElem?_set_ne qj] at h1 h3
        rw [List.getElem?_set_ne qk] at h2 h4
        exact R.dis j k lj lk x h1 h2 h3 h4
  · rcases own c h with z | z
    · exact .inl z
    · rw [z]; exact .inr hn
def mOwn (i : Nat) (ml : MV (List D)) : MSt := fun ρ g => match ml ρ g with
  | some (.ok l, g1) => if i < ρ.length then some (.nx, ρ.set i (.ow (.lst l)), g1) else none
  | some (.ex x, g1) => some (.ex x, ρ, g1)
  | none => none
theorem rs_own {i : Nat} {ml : MV (List D)} (h : RF K E ix t ml) : RS K E ix (tAsg t (gName i)) (mOwn i ml) := fun F ρ g σ H R fl ρ' g' e De q => by
  unfold mOwn at e
  split at e
  · rename_i l g1 hm
    split at e
    · rename_i hlt
      cases e
      refine h F ρ g σ H R _ _ hm _ fun a xs H1 e1 k1 hn ha hi => ?_
      obtain ⟨R1, f1⟩ := R.set_ow (l := .lst l) e1 k1 hn ⟨xs, ha, hi⟩ i hlt
      exact q _ H1 R1 f1
    · cases e
  · rename_i x g1 hm
    cases e
    exact h F ρ g σ H R _ _ hm _ (XPost.mono R.ext q)
  · cases e
/-- a list of one's own is changed -/
theorem Rep.put (R : Rep K F ρ g σ H) {i : Nat} {l l' : Con} {a : Addr} {o o' : HO} (hi : ρ[i]? = some (.ow l)) (hx : σ[i]? = some (some (.ref a))) (ha : H a = some o) (hko : ¬ keepO o) (h : ConIs K F.ra (imB F ρ σ) (upd H a o') l' a) :
    Rep K F (ρ.set i (.ow l')) g σ (upd H a o') ∧ Fr F ρ σ H (ρ.set i (.ow l')) σ (upd H a o') := by
  have oa : Own ρ σ a := ⟨i, l, hi, hx⟩
  obtain ⟨o1, o2, o3, o4⟩ := R.own oa
  have hlt : i < ρ.length := (List.getElem?_eq_some_iff.mp hi).1
  have own : ∀ c, Own (ρ.set i (.ow l')) σ c → Own ρ σ c := fun c h => by
    obtain ⟨j, l', h1, h2⟩ := h
    by_cases q : i = j
    · subst q; rw [hx] at h2; cases h2; exact oa
    · rw [List.getElem?_set_ne q] at h1
      exact ⟨j, l', h1, h2⟩
  have own2 : ∀ c, Own ρ σ c → Own (ρ.set i (.ow l')) σ c := fun c h => by
    obtain ⟨j, l2, h1, h2⟩ := h
    by_cases q : i = j
    · subst q; exact ⟨i, l', by rw [List.getElem?_set]; simp [hlt], h2⟩
    · exact ⟨j, l2, by rw [List.getElem?_set_ne q]; exact h1, h2⟩
  have ep : Ex (fun c => isR F c ∨ Own ρ σ c) H (upd H a o') := Ex.putO ha hko (.inr oa)
  have epi : Ex (imB F ρ σ) H (upd H a o') := Ex.putO ha hko (.inr (.inl oa))
  have hsub : ∀ c, imB F (ρ.set i (.ow l')) σ c → imB F ρ σ c := fun c z => by
    rcases z with z | z | z
    · exact .inl z
    · exact .inr (.inl (own c z))
    · exact .inr (.inr z)
  have nco : ∀ c q, o ≠ LamX.CodeO c q := fun c q z => by
    obtain ⟨x, hx', so⟩ := R.sl i _ hi
    rw [hx] at hx'
    cases hx'
    obtain ⟨b, eb, _, _, ci⟩ := so
    cases eb
    cases l with
    | lst l =>
      obtain ⟨xs, h1, _⟩ := ci
      rw [ha] at h1
      rw [Option.some.inj h1] at z
      unfold LamX.CodeO at z
      cases z
    | dic l =>
      obtain ⟨xs, h1, _⟩ := ci
      rw [ha] at h1
      rw [Option.some.inj h1] at z
      exact dct_ne z
  have epb : Ex (boB F) H (upd H a o') := Ex.putO ha hko (.inr o1)
  refine ⟨⟨by simp [R.len], fun j s hj => ?_, fun j k lj lk x h1 h2 h3 h4 => ?_, R.gok.put o2 ha nco, R.gin, fun c hc => ?_, fun c o hc nn => ?_, R.tk⟩, ⟨ep, fun c z => .inl (own c z)⟩⟩
  · by_cases q : i = j
    · subst q
      rw [List.getElem?_set] at hj
      simp only [if_true, hlt] at hj
      cases hj
      exact ⟨_, hx, a, rfl, o1, o3, ConIs.anti hsub h⟩
    · rw [List.getElem?_set_ne q] at hj
      obtain ⟨x, hx', so⟩ := R.sl j s hj
      refine ⟨x, hx', ?_⟩
      cases s with
      | no => trivial
      | im d =>
        obtain ⟨v, q1, q2⟩ := so
        exact ⟨v, q1, Is.anti hsub (Is.step (fun _ z => z) epi q2)⟩
      | bo d =>
        obtain ⟨v, q1, q2⟩ := so
        exact ⟨v, q1, Is.step (fun _ z => z) epb q2⟩
      | ow l2 =>
        obtain ⟨a', q1, q2, q3, q4⟩ := so
        have hne : a' ≠ a := fun z => by
          subst z
          exact q (R.dis i j l l2 (some (.ref a')) hi hj hx (by rw [hx', q1]))
        exact ⟨a', q1, q2, q3, ConIs.anti hsub (ConIs.stay (fun _ z => z) epi (upd_ne hne) q4)⟩
  · have f : ∀ (n : Nat) (ln : Con), (ρ.set i (.ow l'))[n]? = some (.ow ln) → ∃ lm, ρ[n]? = some (.ow lm) := fun n ln hn => by
      by_cases q : i = n
      · subst q; exact ⟨l, hi⟩
      · rw [List.getElem?_set_ne q] at hn; exact ⟨ln, hn⟩
    obtain ⟨lj', h1'⟩ := f j lj h1
    obtain ⟨lk', h2'⟩ := f k lk h2
    exact R.dis j k lj' lk' x h1' h2' h3 h4
  · obtain ⟨w1, w2, w3⟩ := R.bok c hc
    have hca : c ≠ a := fun z => o3 (z ▸ hc)
    exact ⟨w1, by rw [upd_ne hca]; exact w2, w3⟩
  · have hca : c ≠ a := fun z => by rw [z, o1] at hc; cases hc
    rw [upd_ne hca]
    exact R.ext c o hc nn
/-- xs.append(e), xs of one's own -/
theorem Rep.own_at (R : Rep K F ρ g σ H) {i : Nat} {l : List D} (hl : ρ[i]? = some (Sl.ow (.lst l))) : ∃ a xs, σ[i]? = some (some (V.ref a)) ∧ H a = some (.lst xs) ∧ IsL K F.ra (imB F ρ σ) H l xs ∧ ¬ isR F a := by
  obtain ⟨x, hx, a, rfl, _, _, xs, q4, q5⟩ := R.sl i _ hl
  exact ⟨a, xs, hx, q4, q5, (R.own ⟨i, _, hl, hx⟩).2.1⟩
theorem Rep.putL (R : Rep K F ρ g σ H) {i : Nat} {l l' : List D} {a : Addr} {xs ys : List V} (hi : ρ[i]? = some (.ow (.lst l))) (hx : σ[i]? = some (some (.ref a))) (ha : H a = some (.lst xs)) (h : IsL K F.ra (imB F ρ σ) H l' ys) :
    Rep K F (ρ.set i (.ow (.lst l'))) g σ (upd H a (.lst ys)) ∧ Fr F ρ σ H (ρ.set i (.ow (.lst l'))) σ (upd H a (.lst ys)) :=
  R.put hi hx ha id ⟨ys, upd_same, IsL.step (fun _ z => z) (Ex.put ha (.inr (.inl ⟨i, _, hi, hx⟩))) h⟩
def getOw (s : Option Sl) : Option (List D) := match s with
  | some (.ow (.lst l)) => some l
  | _ => none
theorem getOw_is {s : Option Sl} {l : List D} (h : getOw s = some l) : s = some (.ow (.lst l)) := by
  unfold getOw at h
  split at h
  · cases h; rfl
  · cases h
def mApp (i : Nat) (m : MV D) : MSt := fun ρ g => match getOw ρ[i]? with
  | none => none
  | some l => match m ρ g with
    | some (.ok d, g1) => if small l.length = true then some (.nx, ρ.set i (.ow (.lst (l ++ [d]))), g1) else none
    | some (.ex x, g1) => some (.ex x, ρ, g1)
    | none => none
theorem rs_app {i : Nat} (h : RE K E ix true t m) : RS K E ix (tDrop (tBM K "list" rAppend (tVar i) (tCons t tNil))) (mApp i m) := fun F ρ g σ H R fl ρ' g' e De q => by
  unfold mApp at e
  split at e
  · cases e
  rename_i l hl'
  have hl := getOw_is hl'
  obtain ⟨a, xs, hx, ha, hi, nR⟩ := R.own_at hl
  refine ⟨_, hx, .inl ⟨rfl, xs, SqL.of ha⟩, ?_⟩
  split at e
  · rename_i d g1 hm
    split at e
    · rename_i hz
      cases e
      refine h F ρ g σ H R _ _ hm _ fun v H1 e1 k1 i1 => ?_
      have R1 := R.step e1 k1
      have ha1 := e1.lst ha nR
      refine ⟨a, xs, v, rfl, rfl, ha1, by rw [hi.length]; exact small_line hz, ?_⟩
      obtain ⟨R2, f2⟩ := R1.putL hl hx ha1 (IsL.snoc (IsL.step R.im_r e1 hi) i1)
      exact q σ _ R2 ((Fr.of e1).trans f2 R R1)
    · cases e
  · rename_i x g1 hm
    cases e
    exact h F ρ g σ H R _ _ hm _ (XPost.mono R.ext q)
  · cases e
/-- xs[k] = e, xs of one's own: e first -/
def mSetI (i : Nat) (mk m : MV D) : MSt := fun ρ g => match m ρ g with
  | some (.ok d, g1) => (match getOw ρ[i]? with
    | none => none
    | some l => match mk ρ g1 with
      | some (.ok z, g2) => (match (asI z).bind (ixN l.length) with
        | some j => some (.nx, ρ.set i (.ow (.lst (l.set j d))), g2)
        | none => none)
      | some (.ex x, g2) => some (.ex x, ρ, g2)
      | none => none)
  | some (.ex x, g1) => some (.ex x, ρ, g1)
  | none => none
theorem asI_bind {z : D} {n : Nat} {j : Nat} {ra : Addr} {B : Addr → Prop} {v : V} (h : (asI z).bind (ixN n) = some j) (i : Is K ra B H z v) : ∃ k, v = .int k ∧ ixN n k = some j := by
  cases hz : asI z with
  | none => rw [hz] at h; cases h
  | some k => rw [hz] at h; exact ⟨k, asI_is hz i, h⟩
theorem rs_setI {i : Nat} (hk : RE K E ix b ta mc) (h : RE K E ix true t m) : RS K E ix (tAsg t (gSub (tVar i) ta rSetL)) (mSetI i mc m) := fun F ρ g σ H R fl ρ' g' e De q => by
  unfold mSetI at e
  split at e
  · rename_i d g1 hm
    split at e
    · cases e
    rename_i l hl'
    have hl := getOw_is hl'
    obtain ⟨a, xs, hx, ha, hi, nR⟩ := R.own_at hl
    refine h F ρ g σ H R _ _ hm _ fun v H1 e1 k1 i1 => ⟨_, hx, ?_⟩
    have R1 := R.step e1 k1
    have ha1 := e1.lst ha nR
    split at e
    · rename_i z g2 hmk
      split at e
      · rename_i j hj
        cases e
        refine hk F ρ g1 σ H1 R1 _ _ hmk _ fun w H2 e2 k2 i2 => ?_
        obtain ⟨k, rfl, hj'⟩ := asI_bind hj i2
        have R2 := R1.step e2 k2
        have ha2 := e2.lst ha1 nR
        have hi2 := IsL.step R.im_r (e1.trans e2) hi
        refine ⟨a, xs, k, j, rfl, rfl, ha2, by rw [hi.length]; exact hj', ?_⟩
        obtain ⟨R3, f3⟩ := R2.putL hl hx ha2 (IsL.set hi2 (Is.step R.im_r e2 i1))
        exact q σ _ R3 ((Fr.of (e1.trans e2)).trans f3 R R2)
      · cases e
    · rename_i x g2 hmk
      cases e
      exact hk F ρ g1 σ H1 R1 _ _ hmk _ (XPost.mono R1.ext q)
    · cases e
  · rename_i x g1 hm
    cases e
    exact h F ρ g σ H R _ _ hm _ (XPost.mono R.ext q)
  · cases e
/-- xs[k] += e of ints, xs of one's own -/
def mAugI (f : Int → Int → Int) (i : Nat) (mk m : MV D) : MSt := fun ρ g => match getOw ρ[i]? with
  | none => none
  | some l => match mk ρ g with
    | some (.ok z, g1) => (match (asI z).bind fun k => if 0 ≤ k then (l[k.toNat]?.bind asI).map fun o => (k.toNat, o) else none with
      | none => none
      | some (j, o) => match m ρ g1 with
        | some (.ok y, g2) => (match asI y with
          | some y' => some (.nx, ρ.set i (.ow (.lst (l.set j (.int (f o y'))))), g2)
          | none => none)
        | some (.ex x, g2) => some (.ex x, ρ, g2)
        | none => none)
    | some (.ex x, g1) => some (.ex x, ρ, g1)
    | none => none
/-- xs[k], read for an augmented store -/
def rGetL : V → V → Hp → VK → Prop := fun x y H Q => ∃ (p : Addr) (xs : List V) (k : Int) (v : V), x = .ref p ∧ y = .int k ∧ H p = some (.lst xs) ∧ 0 ≤ k ∧ xs[k.toNat]? = some v ∧ Q v H
theorem rs_augI {i : Nat} {f : Int → Int → Int} (hk : RE K E ix b ta mc) (h : RE K E ix b1 t m) : RS K E ix (tAugS (tVar i) ta t rGetL (ipI f) rSetL) (mAugI f i mc m) := fun F ρ g σ H R fl ρ' g' e De q => by
  unfold mAugI at e
  split at e
  · cases e
  rename_i l hl'
  have hl := getOw_is hl'
  obtain ⟨a, xs, hx, ha, hi, nR⟩ := R.own_at hl
  refine ⟨_, hx, ?_⟩
  split at e
  · rename_i z g1 hmk
    split at e
    · cases e
    rename_i j o hj
    refine hk F ρ g σ H R _ _ hmk _ fun w H1 e1 k1 i1 => ?_
    have R1 := R.step e1 k1
    have ha1 := e1.lst ha nR
    cases hz : asI z with
    | none => rw [hz] at hj; cases hj
    | some k =>
      rw [hz] at hj
      have hw := asI_is hz i1
      subst hw
      simp only [Option.bind_some] at hj
      by_cases h0 : 0 ≤ k
      · rw [if_pos h0] at hj
        cases hd : l[k.toNat]? with
        | none => rw [hd] at hj; cases hj
        | some d =>
          rw [hd] at hj
          simp only [Option.bind_some] at hj
          cases ho : asI d with
          | none => rw [ho] at hj; cases hj
          | some o' =>
            rw [ho] at hj
            cases hj
            obtain ⟨vd, hvd, ivd⟩ := (IsL.step R.im_r e1 hi).get hd
            have := asI_is ho ivd
            subst this
            have hlt : k.toNat < l.length := (List.getElem?_eq_some_iff.mp hd).1
            have hn : ixN xs.length k = some k.toNat := by
              unfold ixN
              rw [if_pos h0, if_pos (by rw [hi.length]; omega)]
            refine ⟨a, xs, k, _, rfl, rfl, ha1, h0, hvd, ?_⟩
            split at e
            · rename_i y g2 hm
              split at e
              · rename_i y' hy
                cases e
                refine h F ρ g1 σ H1 R1 _ _ hm _ fun u H2 e2 k2 i2 => ?_
                have hu := asI_is hy i2
                subst hu
                refine ⟨o, y', rfl, rfl, ?_⟩
                have R2 := R1.step e2 k2
                have ha2 := e2.lst ha1 nR
                refine ⟨a, xs, k, k.toNat, rfl, rfl, ha2, hn, ?_⟩
                obtain ⟨R3, f3⟩ := R2.putL hl hx ha2 (IsL.set (d := .int (f o y')) (v := .int (f o y')) (IsL.step R.im_r (e1.trans e2) hi) rfl)
                exact q σ _ R3 ((Fr.of (e1.trans e2)).trans f3 R R2)
              · cases e
            · rename_i x g2 hm
              cases e
              exact h F ρ g1 σ H1 R1 _ _ hm _ (XPost.mono R1.ext q)
            · cases e
      · rw [if_neg h0] at hj; cases hj
  · rename_i x g1 hmk
    cases e
    exact hk F ρ g σ H R _ _ hmk _ (XPost.mono R.ext q)
  · cases e
/-- x += e of ints, x a name -/
def getI (s : Option Sl) : Option Int := match s with
  | some (.im (.int i)) => some i
  | _ => none
theorem getI_is {s : Option Sl} {i : Int} (h : getI s = some i) : s = some (.im (.int i)) := by
  unfold getI at h
  split at h
  · cases h; rfl
  · cases h
def mAug (f : Int → Int → Int) (i : Nat) (m : MV D) : MSt := fun ρ g => match getI ρ[i]? with
  | none => none
  | some o => match m ρ g with
    | some (.ok y, g1) => (match asI y with
      | some y' => some (.nx, ρ.set i (.im (.int (f o y'))), g1)
      | none => none)
    | some (.ex x, g1) => some (.ex x, ρ, g1)
    | none => none
theorem rs_aug {i : Nat} {f : Int → Int → Int} (h : RE K E ix b t m) : RS K E ix (tAug i t (ipI f)) (mAug f i m) := fun F ρ g σ H R fl ρ' g' e De q => by
  unfold mAug at e
  split at e
  · cases e
  rename_i o ho
  obtain ⟨x, hx, v, rfl, hv⟩ := R.sl i _ (getI_is ho)
  refine ⟨v, hx, ?_⟩
  split at e
  · rename_i y g1 hm
    split at e
    · rename_i y' hy
      cases e
      refine h F ρ g σ H R _ _ hm _ fun u H1 e1 k1 i1 => ?_
      have R1 := R.step e1 k1
      refine ⟨o, y', hv, asI_is hy i1, ?_⟩
      refine q _ H1 (R1.set (fun l => by intro z; cases z) ⟨_, rfl, rfl⟩) ?_
      exact ⟨e1.mono fun _ z => .inl z, fun a z => .inl (own_set_im (fun l => by intro z; cases z) a z)⟩
    · cases e
  · rename_i x g1 hm
    cases e
    exact h F ρ g σ H R _ _ hm _ (XPost.mono R.ext q)
  · cases e
/-! ### ends, ifs, loops -/
def mRet (m : MV D) : MSt := fun ρ g => match m ρ g with
  | some (.ok d, g1) => some (.rt d, ρ, g1)
  | some (.ex x, g1) => some (.ex x, ρ, g1)
  | none => none
theorem rs_ret (h : RE K E ix true t m) : RS K E ix (tRet t) (mRet m) := fun F ρ g σ H R fl ρ' g' e De q => by
  unfold mRet at e
  split at e
  · rename_i d g1 hm
    cases e
    exact h F ρ g σ H R _ _ hm _ fun v H1 e1 k1 i1 => q v H1 (R.ext.trans e1) k1 (Is.anti (fun a z => .inl z) i1)
  · rename_i x g1 hm
    cases e
    exact h F ρ g σ H R _ _ hm _ (XPost.mono R.ext q)
  · cases e
def mRetN : MSt := fun ρ g => some (.rt .non, ρ, g)
theorem rs_retN : RS K E ix tRetN mRetN := fun F ρ g σ H R fl ρ' g' e De q => by
  cases e
  exact q .non H R.ext R.gok rfl
def mDrop (m : MV D) : MSt := fun ρ g => match m ρ g with
  | some (.ok _, g1) => some (.nx, ρ, g1)
  | some (.ex x, g1) => some (.ex x, ρ, g1)
  | none => none
theorem rs_drop (h : RE K E ix b t m) : RS K E ix (tDrop t) (mDrop m) := fun F ρ g σ H R fl ρ' g' e De q => by
  unfold mDrop at e
  split at e
  · rename_i d g1 hm
    cases e
    exact h F ρ g σ H R _ _ hm _ fun v H1 e1 k1 i1 => q σ H1 (R.step e1 k1) (Fr.of e1)
  · rename_i x g1 hm
    cases e
    exact h F ρ g σ H R _ _ hm _ (XPost.mono R.ext q)
  · cases e
def mBk : MSt := fun ρ g => some (.bk, ρ, g)
def mCt : MSt := fun ρ g => some (.ct, ρ, g)
theorem rs_bk : RS K E ix tBreak mBk := fun F ρ g σ H R fl ρ' g' e De q => by
  cases e
  exact q σ H R Fr.refl
theorem rs_ct : RS K E ix tCont mCt := fun F ρ g σ H R fl ρ' g' e De q => by
  cases e
  exact q σ H R Fr.refl
def mIfS (mt : MV Bool) (m1 m2 : MSt) : MSt := fun ρ g => match mt ρ g with
  | some (.ok true, g1) => m1 ρ g1
  | some (.ok false, g1) => m2 ρ g1
  | some (.ex x, g1) => some (.ex x, ρ, g1)
  | none => none
theorem rs_if (ht : RT K E ix tt mt) (h1 : RS K E ix t1 m1) (h2 : RS K E ix t2 m2) : RS K E ix (tIfS tt t1 t2) (mIfS mt m1 m2) := fun F ρ g σ H R fl ρ' g' e De q => by
  unfold mIfS at e
  split at e
  · rename_i g1 hm
    refine ht F ρ g σ H R _ _ hm _ fun H1 e1 k1 => ?_
    rw [if_pos rfl]
    exact h1 F ρ g1 σ H1 (R.step e1 k1) fl ρ' g' e De (q.on R (R.step e1 k1) (Fr.of e1))
  · rename_i g1 hm
    refine ht F ρ g σ H R _ _ hm _ fun H1 e1 k1 => ?_
    rw [if_neg Bool.false_ne_true]
    exact h2 F ρ g1 σ H1 (R.step e1 k1) fl ρ' g' e De (q.on R (R.step e1 k1) (Fr.of e1))
  · rename_i x g1 hm
    cases e
    exact ht F ρ g σ H R _ _ hm _ (XPost.mono R.ext q)
  · cases e
/-- what is forgotten, what is set free, ahead of the rest -/
def vForget : List Nat → List Sl → List Sl
  | [], ρ => ρ
  | i :: is, ρ => vForget is (ρ.set i .no)
theorem Rep.forgets (R : Rep K F ρ g σ H) : ∀ is : List Nat, Rep K F (vForget is ρ) g σ H ∧ Fr F ρ σ H (vForget is ρ) σ H := by
  intro is
  induction is generalizing ρ with
  | nil => exact ⟨R, Fr.refl⟩
  | cons i is ih =>
    obtain ⟨R1, f1⟩ := ih (R.forget i)
    refine ⟨R1, ⟨Ex.refl, fun a h => ?_⟩⟩
    rcases f1.ow a h with z | z
    · obtain ⟨j, l, h1, h2⟩ := z
      by_cases q : i = j
      · subst q
        rw [List.getElem?_set] at h1
        simp only [if_true] at h1
        split at h1 <;> cases h1
      · rw [List.getElem?_set_ne q] at h1
        exact .inl ⟨j, l, h1, h2⟩
    · exact .inr z
def mFg (is : List Nat) (m : MSt) : MSt := fun ρ g => m (vForget is ρ) g
theorem rs_fg {is : List Nat} (h : RS K E ix ts ms) : RS K E ix ts (mFg is ms) := fun F ρ g σ H R fl ρ' g' e De q => by
  obtain ⟨R1, f1⟩ := R.forgets is
  exact h F _ g σ H R1 fl ρ' g' e De (q.on R R1 f1)
/-- behind a statement some slots are forgotten -/
def mFgE (is : List Nat) (m : MSt) : MSt := fun ρ g => match m ρ g with
  | some (.nx, ρ1, g1) => some (.nx, vForget is ρ1, g1)
  | some (.ct, ρ1, g1) => some (.ct, vForget is ρ1, g1)
  | some (.bk, ρ1, g1) => some (.bk, vForget is ρ1, g1)
  | r => r
theorem rs_fgE {is : List Nat} (h : RS K E ix ts ms) : RS K E ix ts (mFgE is ms) := fun F ρ g σ H R fl ρ' g' e De q => by
  unfold mFgE at e
  cases hm : ms ρ g with
  | none => rw [hm] at e; cases e
  | some p =>
    obtain ⟨fl1, ρ1, g1⟩ := p
    rw [hm] at e
    cases fl1 with
    | nx =>
      cases e
      exact h F ρ g σ H R _ _ _ hm De fun σ' H' R' f' => let ⟨R2, f2⟩ := R'.forgets is; q σ' H' R2 (f'.trans f2 R R')
    | ct =>
      cases e
      exact h F ρ g σ H R _ _ _ hm De fun σ' H' R' f' => let ⟨R2, f2⟩ := R'.forgets is; q σ' H' R2 (f'.trans f2 R R')
    | bk =>
      cases e
      exact h F ρ g σ H R _ _ _ hm De fun σ' H' R' f' => let ⟨R2, f2⟩ := R'.forgets is; q σ' H' R2 (f'.trans f2 R R')
    | rt d => cases e; exact h F ρ g σ H R _ _ _ hm De q
    | ex x => cases e; exact h F ρ g σ H R _ _ _ hm De q
/-- a list of one's own is set free ahead of the rest -/
def vFree (i : Nat) (ρ : List Sl) : List Sl := match getOw ρ[i]? with
  | some l => ρ.set i (.im (.lst l))
  | none => ρ
def mFree (i : Nat) (m : MSt) : MSt := fun ρ g => m (vFree i ρ) g
theorem rs_free {i : Nat} (h : RS K E ix ts ms) : RS K E ix ts (mFree i ms) := fun F ρ g σ H R fl ρ' g' e De q => by
  unfold mFree vFree at e
  split at e
  · rename_i l hl
    have hl' := getOw_is hl
    have R1 := R.freeze hl'
    refine h F _ g σ H R1 fl ρ' g' e De (q.on R R1 ⟨Ex.refl, fun a ha => .inl ?_⟩)
    obtain ⟨j, l2, h1, h2⟩ := ha
    by_cases w : i = j
    · subst w
      rw [List.getElem?_set] at h1
      simp only [if_true] at h1
      split at h1 <;> cases h1
    · rw [List.getElem?_set_ne w] at h1
      exact ⟨j, l2, h1, h2⟩
  · exact h F _ g σ H R fl ρ' g' e De q
def forGo (bd : BndT) (body : MSt) : List D → MSt
  | [], ρ, g => some (.nx, ρ, g)
  | d :: ds, ρ, g => match bd d ρ with
    | none => none
    | some ρ1 => match body ρ1 g with
      | some (.nx, ρ2, g2) => forGo bd body ds ρ2 g2
      | some (.ct, ρ2, g2) => forGo bd body ds ρ2 g2
      | some (.bk, ρ2, g2) => some (.nx, ρ2, g2)
      | some (.rt d, ρ2, g2) => some (.rt d, ρ2, g2)
      | some (.ex x, ρ2, g2) => some (.ex x, ρ2, g2)
      | none => none
def mFor (mi : MV (List D)) (bd : BndT) (body : MSt) : MSt := fun ρ g => match mi ρ g with
  | some (.ok ds, g1) => forGo bd body ds ρ g1
  | some (.ex x, g1) => some (.ex x, ρ, g1)
  | none => none
theorem rs_for {wi : TI} {mi : MV (List D)} {gg : TG} {bd : BndT} {ks : List Nat} (hi : RI K E ix wi mi) (hg : RG K gg bd ks) (hb : RS K E ix ts ms) : RS K E ix (tFor wi gg ts) (mFor mi bd ms) := fun F ρ g σ H R fl ρ' g' e De q => by
  unfold mFor at e
  split at e
  rotate_left
  · rename_i x g1 hm
    cases e
    exact hi F ρ g σ H R _ _ hm _ (XPost.mono R.ext q)
  · cases e
  rename_i ds g1 hm
  refine hi F ρ g σ H R _ _ hm _ fun J H1 e1 k1 it => ?_
  have R1 := R.step e1 k1
  have q1 : SPost K E ix F ρ σ H1 De fl ρ' g' := q.on R R1 (Fr.of e1)
  refine ⟨fun i mm σ2 H2 => mm = ds.length - i ∧ i ≤ ds.length ∧ ∃ ρ2 g2, Rep K F ρ2 g2 σ2 H2 ∧ Fr F ρ σ H1 ρ2 σ2 H2 ∧ forGo bd ms (ds.drop i) ρ2 g2 = some (fl, ρ', g'), ⟨ds.length, rfl, Nat.zero_le _, ρ, g1, R1, Fr.refl, e⟩, ?_⟩
  intro i mm σ2 H2 hW
  obtain ⟨rfl, hi', ρ2, g2, R2, f2, hgo⟩ := hW
  by_cases hlt : i < ds.length
  · have hd : ds[i]? = some ds[i] := List.getElem?_eq_getElem hlt
    generalize hdd : ds[i] = d at hd
    have hdrop : ds.drop i = d :: ds.drop (i + 1) := by rw [← hdd]; exact List.drop_eq_getElem_cons hlt
    rw [hdrop] at hgo
    unfold forGo at hgo
    split at hgo
    · cases hgo
    rename_i ρ3 hρ3
    obtain ⟨go, yl⟩ := (it H2 (f2.ex.mono fun _ z => z.elim .inl fun z => .inr (.inl z)) i).2 d hd
    refine .inr ⟨go, fun σ' H' => ∃ ρ4 g4, Rep K F ρ4 g4 σ' H' ∧ Fr F ρ σ H1 ρ4 σ' H' ∧ forGo bd ms (ds.drop (i + 1)) ρ4 g4 = some (fl, ρ', g'), fun σ' H' ⟨ρ4, g4, a, b, c⟩ => ⟨ds.length - (i + 1), by omega, rfl, hlt, ρ4, g4, a, b, c⟩, fun x H3 y => ?_⟩
    obtain ⟨e3, i3⟩ := yl x H3 y
    have e23 : Ex (isR F) H2 H3 := e3.mono fun _ z => z.elim
    have R3 := R2.step e23 (Ex.keepR R2.gok e3)
    have f3 : Fr F ρ σ H1 ρ2 σ2 H3 := f2.trans (Fr.of e23) R1 R2
    have i3' : Is K F.ra (imB F ρ2 σ2) H3 d x := Is.anti (fun a z => by
      rcases z with z | z | z
      · exact .inl (.inl z)
      · rcases f2.ow a z with w | w
        · exact .inl (.inr (.inl w))
        · exact .inr w
      · exact .inl (.inr (.inr z))) i3
    refine hg F ρ2 g2 σ2 H3 R3 d x i3' ρ3 hρ3 _ fun σ4 R4 f4 _ _ => ?_
    have f04 := f3.trans f4 R1 R3
    cases hbd : ms ρ3 g2 with
    | none => rw [hbd] at hgo; cases hgo
    | some p =>
      obtain ⟨fl5, ρ5, g5⟩ := p
      rw [hbd] at hgo
      cases fl5 with
      | nx => exact hb F ρ3 g2 σ4 H3 R4 _ _ _ hbd _ fun σ' H' R' f' => ⟨ρ5, g5, R', f04.trans f' R1 R4, hgo⟩
      | ct => exact hb F ρ3 g2 σ4 H3 R4 _ _ _ hbd _ fun σ' H' R' f' => ⟨ρ5, g5, R', f04.trans f' R1 R4, hgo⟩
      | bk => cases hgo; exact hb F ρ3 g2 σ4 H3 R4 _ _ _ hbd _ fun σ' H' R' f' => q1 σ' H' R' (f04.trans f' R1 R4)
      | rt v => cases hgo; exact hb F ρ3 g2 σ4 H3 R4 _ _ _ hbd _ q
      | ex v => cases hgo; exact hb F ρ3 g2 σ4 H3 R4 _ _ _ hbd _ q
  · have hie : i = ds.length := by omega
    subst hie
    rw [List.drop_length] at hgo
    cases hgo
    exact .inl ⟨(it H2 (f2.ex.mono fun _ z => z.elim .inl fun z => .inr (.inl z)) ds.length).1 rfl, q1 σ2 H2 R2 f2⟩
def whileGo (mt : MV Bool) (body : MSt) : Nat → MSt
  | 0, _, _ => none
  | n + 1, ρ, g => match mt ρ g with
    | some (.ok false, g1) => some (.nx, ρ, g1)
    | some (.ok true, g1) => (match body ρ g1 with
      | some (.nx, ρ2, g2) => whileGo mt body n ρ2 g2
      | some (.ct, ρ2, g2) => whileGo mt body n ρ2 g2
      | some (.bk, ρ2, g2) => some (.nx, ρ2, g2)
      | some (.rt d, ρ2, g2) => some (.rt d, ρ2, g2)
      | some (.ex x, ρ2, g2) => some (.ex x, ρ2, g2)
      | none => none)
    | some (.ex x, g1) => some (.ex x, ρ, g1)
    | none => none
theorem rs_while {n : Nat} (ht : RT K E ix tt mt) (hb : RS K E ix ts ms) : RS K E ix (tWhile tt ts) (whileGo mt ms n) := fun F ρ g σ H R fl ρ' g' e De q => by
  refine ⟨fun n σ2 H2 => ∃ ρ2 g2, Rep K F ρ2 g2 σ2 H2 ∧ Fr F ρ σ H ρ2 σ2 H2 ∧ whileGo mt ms n ρ2 g2 = some (fl, ρ', g'), ⟨n, ρ, g, R, Fr.refl, e⟩, ?_⟩
  intro n σ2 H2 hW
  obtain ⟨ρ2, g2, R2, f2, hgo⟩ := hW
  cases n with
  | zero => cases hgo
  | succ n =>
    unfold whileGo at hgo
    split at hgo
    · rename_i g3 hm
      cases hgo
      refine ht F _ g2 σ2 H2 R2 _ _ hm _ fun H3 e3 k3 => ?_
      rw [if_neg Bool.false_ne_true]
      exact q σ2 H3 (R2.step e3 k3) (f2.trans (Fr.of e3) R R2)
    · rename_i g3 hm
      refine ht F ρ2 g2 σ2 H2 R2 _ _ hm _ fun H3 e3 k3 => ?_
      rw [if_pos rfl]
      have R3 := R2.step e3 k3
      have f3 := f2.trans (Fr.of e3) R R2
      refine ⟨fun σ' H' => ∃ ρ4 g4, Rep K F ρ4 g4 σ' H' ∧ Fr F ρ σ H ρ4 σ' H' ∧ whileGo mt ms n ρ4 g4 = some (fl, ρ', g'), fun σ' H' z => ⟨n, Nat.lt_succ_self n, z⟩, ?_⟩
      cases hbd : ms ρ2 g3 with
      | none => rw [hbd] at hgo; cases hgo
      | some p =>
        obtain ⟨fl5, ρ5, g5⟩ := p
        rw [hbd] at hgo
        cases fl5 with
        | nx => exact hb F ρ2 g3 σ2 H3 R3 _ _ _ hbd _ fun σ' H' R' f' => ⟨ρ5, g5, R', f3.trans f' R R3, hgo⟩
        | ct => exact hb F ρ2 g3 σ2 H3 R3 _ _ _ hbd _ fun σ' H' R' f' => ⟨ρ5, g5, R', f3.trans f' R R3, hgo⟩
        | bk => cases hgo; exact hb F ρ2 g3 σ2 H3 R3 _ _ _ hbd _ fun σ' H' R' f' => q σ' H' R' (f3.trans f' R R3)
        | rt v => cases hgo; exact hb F ρ2 g3 σ2 H3 R3 _ _ _ hbd _ q
        | ex v => cases hgo; exact hb F ρ2 g3 σ2 H3 R3 _ _ _ hbd _ q
    · rename_i x g3 hm
      cases hgo
      exact ht F _ g2 σ2 H2 R2 _ _ hm _ (XPost.mono R2.ext q)
    · cases hgo
/-! ### a def keeps its promise -/
def mkSl (d : D) : Sl := if d.lf = true then .im d else .bo d
def start0 (n : Nat) (ds : List D) : List Sl := ds.map mkSl ++ List.replicate (n - ds.length) .no
def phi (n : Nat) (m : MSt) : PhiT := fun ds g => match m (start0 n ds) g with
  | some (.rt d, _, g1) => some (.ok d, g1)
  | some (.nx, _, g1) => some (.ok .non, g1)
  | some (.ex x, _, g1) => some (.ex x, g1)
  | _ => none
theorem rep_start {ra rb : Addr} {N : List Str} {ds : List D} {vs : List V} (k : GOk ⟨ra, rb, H, fun _ => False, tabsK K⟩ g H) (h : IsL K ra (isR ⟨ra, rb, H, fun _ => False, tabsK K⟩) H ds vs) : Rep K ⟨ra, rb, H, fun _ => False, tabsK K⟩ (start0 N.length ds) g (L2.start N vs) H := by
  have no : ∀ (i : Nat) l, (start0 N.length ds)[i]? ≠ some (.ow l) := fun i l z => by
    unfold start0 at z
    by_cases hi : i < ds.length
    · rw [List.getElem?_append_left (by simpa using hi), List.getElem?_map] at z
      cases hd : ds[i]? with
      | none => rw [hd] at z; cases z
      | some d =>
        rw [hd] at z
        simp only [Option.map_some] at z
        unfold mkSl at z
        split at z <;> cases z
    · rw [List.getElem?_append_right (by simpa using hi), List.getElem?_replicate] at z
      split at z <;> cases z
  refine ⟨?_, fun i s hs => ?_, fun i j li lj x h1 => absurd h1 (no i li), k, fun a ha => ?_, fun a ha => ha.elim, Ex.refl, rfl⟩
  · unfold L2.start start0; simp [h.length]
  · unfold start0 at hs
    unfold L2.start
    by_cases hi : i < ds.length
    · rw [List.getElem?_append_left (by simpa using hi), List.getElem?_map] at hs
      cases hd : ds[i]? with
      | none => rw [hd] at hs; cases hs
      | some d =>
        rw [hd] at hs
        cases hs
        obtain ⟨v, hv, iv⟩ := h.get hd
        refine ⟨some v, by rw [List.getElem?_append_left (by simp [h.length]; exact hi), List.getElem?_map, hv]; rfl, ?_⟩
        unfold mkSl
        split
        · rename_i hf
          exact ⟨v, rfl, Is.lf hf iv⟩
        · exact ⟨v, rfl, Is.bar (fun a z => z) iv⟩
    · rw [List.getElem?_append_right (by simpa using hi), List.getElem?_replicate] at hs
      split at hs
      · rename_i hlt
        cases hs
        refine ⟨none, ?_, trivial⟩
        rw [List.getElem?_append_right (by simp [h.length]; omega), List.getElem?_replicate]
        simp only [List.length_map, h.length] at hlt ⊢
        rw [if_pos hlt]
      · cases hs
  · exact k.there ha
theorem pure_fn {n : Nat} {N : List Str} {vs : List V} {Q : VK} {t : TS} {m : MSt} (h : RS K E ix t m) (hs : spOf K ix n (phi N.length m) vs H Q E) : t { nx := fun _ H' => Q .non H', rt := Q } (L2.start N vs) H := by
  obtain ⟨ra, rb, ds, g, r, g', hl, k, hi, hφ, q⟩ := hs
  have R := rep_start (N := N) k hi
  unfold phi at hφ
  split at hφ
  · rename_i d ρ1 g1 hm
    cases hφ
    exact h _ _ g _ H R _ _ _ hm _ q
  · rename_i ρ1 g1 hm
    cases hφ
    exact h _ _ g _ H R _ _ _ hm _ fun σ' H' R' f' => q .non H' R'.ext R'.gok rfl
  · rename_i x ρ1 g1 hm
    cases hφ
    exact h _ _ g _ H R _ _ _ hm _ q
  · cases hφ
section
variable {P : Program} {w : World} {mg : Str → Option Value} {base : Heap}
/-- a def from which nothing is raised -/
theorem fn_ok0 {x qual : Str} {st : Stmt} {f : Addr} {fd : FuncData} {N ps : List Str} {k n : Nat} {t : TS} {m : MSt} (Fu : Fun K x qual st f fd) (S : FnScope N ps (defScope st)) (hn : ps.length = n) (hr : ∀ E, RS K E ix t m)
    (hp : ∀ (cdv : Value) (A : Around) (outer : List Env) (s : Shared) (H : Hp) (E : XK), Room k (A.deeper (envOfC qual (defScope st) s.heap.objs.size f cdv)) →
      PSs (cxOf CX0 P w K mg base N qual (defScope st) f cdv A outer s H E).nox (defBody st) t) : FnOk P w K mg base CX0 (k + 1) f fd ps (spOf K ix n (phi N.length m)) := by
  refine Fu.ok S (fun vs H Q E h => by rw [spOf_len h, hn]) fun cdv A outer s H vs Q E hroom hsp => ⟨t, hp cdv A outer s H E hroom, ?_⟩
  exact pure_fn (hr E) hsp
end
end
end Fw

set_option Elab.async false
set_option linter.all false
set_option maxRecDepth 100000
set_option maxHeartbeats 4000000
/-! Fw6: enumerate of a tuple, an item read for an augmented store, isinstance, truth, deep == -/
namespace Fw
open PySem PySem.Spec PyProof.Rows L2

/-! ### enumerate(t), t a tuple -/
theorem made_enum {v : Value} {o : Obj} {P : Heap → Prop} (B : Begins v o P) :
    Meets (Builtin.«enumerate.__new__» ⟨[.type "enumerate", v], []⟩) (fun _ R s => P s.heap ∧
      R (.ok (.ret (.ref (s.heap.push o).objs.size))) { s with heap := (s.heap.push o).push { cls := .type "enumerate", data := .fields #[.none, .bool false, .ref s.heap.objs.size, rawInt 0, .none, .none] } }) :=
  .of_wp fun prog w A R s ⟨hP, hR⟩ => by
    obtain ⟨hp, gs, dr, tk, os⟩ := s
    have sub := sub_enumerate
    have step : ∀ {A' : Around} {E : Value → Shared → Prop} {Q : Value → Shared → Prop}, Q (.ref hp.objs.size) ⟨hp.push o, gs, dr, tk, os⟩ → wpAny (model prog w) A' (pyIter v) Q E ⟨hp, gs, dr, tk, os⟩ :=
      fun q => B.iter prog w _ _ ⟨hp, gs, dr, tk, os⟩ _ hP q
    wp_walk using step
    refine wpAny_stack_any fun stk => wpAny_pure ?_
    split
    · rename_i c _ _ _ _ _
      cases (c == Value.type "enumerate") <;> (wp_walk using step; exact ⟨_, rfl, hR⟩)
    · (wp_walk using step; exact ⟨_, rfl, hR⟩)
section
variable {prog : Program} {w : World} {A : Around} {E : Value → Shared → Prop} {s : Shared}
theorem call_enum {v : Value} {o : Obj} {P : Heap → Prop} {Q : Value → Shared → Prop} (B : Begins v o P) (hP : P s.heap)
    (h : ∀ h', IsEnum h' (s.heap.objs.size + 1) s.heap.objs.size 0 .none → h'.get? s.heap.objs.size = some o → (∀ b u, s.heap.get? b = some u → h'.get? b = some u) → Q (.ref (s.heap.objs.size + 1)) { s with heap := h' }) :
    wpAny (model prog w) A (call (.type "enumerate") [v]) Q E s := by
  refine callType_new F.called_enumerate (by decide) (F.typeCall_enumerate_1 _) (F.newCall_enumerate_1 _) (fun obj => F.args_object_init_2 obj _) F.entry_enumerate_new (made_enum B) ⟨hP, ?_⟩
  have hz : (s.heap.push o).objs.size = s.heap.objs.size + 1 := Heap.size_push ..
  have he : IsEnum ((s.heap.push o).push { cls := .type "enumerate", data := .fields #[.none, .bool false, .ref s.heap.objs.size, rawInt 0, .none, .none] }) (s.heap.objs.size + 1) s.heap.objs.size 0 .none := by
    have q := Heap.get?_push_size (s.heap.push o) (o := { cls := .type "enumerate", data := .fields #[.none, .bool false, .ref s.heap.objs.size, rawInt 0, .none, .none] }) rfl
    rw [hz] at q
    exact q
  rw [hz]
  exact ⟨⟨_, he, rfl⟩, h _ he (Heap.get?_push_of_some _ (Heap.get?_push_size _ B.free)) fun b u x => Heap.get?_push_of_some _ (Heap.get?_push_of_some _ x)⟩
end
/-- the tuple at a, each item in a new pair -/
def Itet (K : PySem.W.Frag) (a : Addr) : It :=
  ⟨fun i H => ∃ (xs : List V) (x : V), SqT K H a xs ∧ xs[i]? = some x,
    fun i H v H' => ∃ p x, v = .ref p ∧ H p = none ∧ H' = upd H p (.tup [.int (i : Nat), x]) ∧ ∀ xs, SqT K H a xs → xs[i]? = some x,
    fun i H => ∃ xs : List V, SqT K H a xs ∧ xs.length = i⟩
theorem turn_enumT {P : Program} {w : World} {K : PySem.W.Frag} {elts : List Expr} {kk : Nat} {tpos : Pos} (a e it : Addr) :
    Turn P w K (.Tuple elts kk tpos) (Itet K a) [e, it] e (fun i h => (∃ old, IsEnum h e it ((i : Nat) : Int) old) ∧ h.IsTupleIter it a i ∧ e ≠ it ∧ a ≠ e ∧ a ≠ it) where
  mem := by simp
  obj := fun i h st b hb => by
    obtain ⟨⟨old, he⟩, ⟨o, ho, hc, hd⟩, _⟩ := st
    rcases List.mem_cons.mp hb with z | z
    · rw [z]
      exact ⟨_, he, fun v q => nomatch q⟩
    · exact ⟨o, by rw [List.mem_singleton.mp z]; exact ho, fun v q => by rw [hd] at q; cases q⟩
  keep := fun i h h' st k => by
    obtain ⟨⟨old, he⟩, hi, hne⟩ := st
    exact ⟨⟨old, k e (by simp) _ he⟩, hi.at fun o q => k it (by simp) o q, hne⟩
  item := by
    intro X hP hw hK hc i pins s σ H E I hf ⟨⟨old, he⟩, hit, hne, hae, hai⟩ ⟨xs, x, hq, hx⟩
    subst hP hw hK
    obtain ⟨its, rv, p, hz⟩ := I.tuple hq
    obtain ⟨u, hu, ru⟩ := rv.get hx
    have hel : e < s.heap.objs.size := Heap.lt_size he
    have hil : it < s.heap.objs.size := by obtain ⟨_, q, _⟩ := hit; exact Heap.lt_size q
    have hlt : i < its.toArray.size := by rw [List.size_toArray]; exact (List.getElem?_eq_some_iff.mp hu).1
    refine wpAny_pyNext_enum_itemD (Draws.tuple (A := X.A.in1) (I.ok.hd hc) it a hai its.toArray) he ⟨hit, p⟩ hlt hne (by
      intro q
      rcases List.mem_cons.mp q with q | q
      · exact hne q
      · exact hae (List.mem_singleton.mp q).symm) fun v h' tk hv ho hst hT hsz hk => ?_
    have hv' : v = u := by
      have q : its[i]? = some v := by simpa using hv
      rw [hu] at q
      exact (Option.some.inj q).symm
    subst hv'
    refine ⟨_, rfl, wpAny_letOwnedTupleGo_enum (s := { s with heap := h', toks := tk + 1 }) ho fun h'' he' sb => ?_⟩
    have hT2 : h''.get? s.heap.objs.size = some { cls := .type "tuple", data := .seq #[.int i tk, v] } := (sb.2 _ (Nat.ne_of_gt hel)).trans hT
    have new : ObjOk X.prog X.w (upd H s.heap.objs.size (.tup [.int (i : Nat), x])) h'' s.heap.objs.size (.tup [.int (i : Nat), x]) :=
      ⟨Nat.le_trans (by decide : 2 ≤ 16) (by decide), [.int i tk, v], .cons ⟨_, rfl⟩ (.cons ru .nil), ⟨_, hT2, rfl, _, rfl⟩⟩
    have I1 : Inv X pins σ (upd H s.heap.objs.size (.tup [.int (i : Nat), x])) { s with heap := h'', toks := tk + 1 } :=
      I.turnedNew (t' := tk + 1) (ch := [e, it]) (fun b ob hb q => (sb.2 b (fun z => hb (by simp [z]))).trans (hk b ob (fun z => hb (by simp [z])) (fun z => hb (by simp [z])) q)) hf (Nat.le_refl _) new
    refine ⟨.ref s.heap.objs.size, _, I1, rfl, ⟨_, x, rfl, I.hok.fresh (Nat.le_refl _), rfl, fun ys hy => by rw [I.tuple_inj hy hq]; exact hx⟩, ⟨⟨v, ?_⟩, ?_, hne, hae, hai⟩, fun b hb => ?_⟩
    · have q : ((i + 1 : Nat) : Int) = (i : Int) + 1 := by omega
      rw [q]; exact he'
    · exact hst.1.at fun o q => (sb.2 it (Ne.symm hne)).trans q
    · have hb' : b < s.heap.objs.size := by
        rcases List.mem_cons.mp hb with z | z
        · rw [z]; exact hel
        · rw [show b = it by simpa using z]; exact hil
      rw [upd_ne (Nat.ne_of_lt hb')]
      exact (hf b hb).1
  done := by
    intro X hP hw hK hc i pins s σ H E I hf ⟨⟨old, he⟩, hit, hne, hae, hai⟩ ⟨xs, hq, hx⟩
    subst hP hw hK
    obtain ⟨its, rv, p, hz⟩ := I.tuple hq
    obtain ⟨f0, f1, f2, f3, f4, f5⟩ := hf it (by simp)
    have hi : i = its.toArray.size := by rw [List.size_toArray, ← rv.length]; exact hx.symm
    subst hi
    exact wpAny_pyNext_enum_endD (Draws.tuple (A := X.A.in1) (I.ok.hd hc) it a hai its.toArray) he ⟨hit, p⟩ fun h' eb => ⟨rfl, I.turned (t' := s.toks) (fun b o hb q => eb b o hb q) f0 f1 f3 f4 f5⟩
  self := fun A i s Q E st h => by
    obtain ⟨⟨_, he⟩, _⟩ := st
    exact wpAny_pyIter_enum he h
/-- enumerate of a list or of a tuple -/
def iEnumA (K : PySem.W.Frag) (ta : TA) : TI := fun σ H R => ta σ H fun vs H1 => ∃ a xs, vs = [.ref a] ∧ ((SqL K H1 a xs ∧ R (Ite K a) H1) ∨ (SqT K H1 a xs ∧ R (Itet K a) H1))
theorem pi_enumA {X : Cx} {e : Expr} {ta : TA} {p pos tpos : Pos} {elts : List Expr} {kk : Nat} (hg : Gl X "enumerate") (hm : X.mg "enumerate" = none) (ha : PA X [e] ta) (hs : starEach [e] X.env = [(false, eval e X.env)] := by rfl) :
    PI X (.Tuple elts kk tpos) (.Call (.Name "enumerate" p) [e] [] pos) (iEnumA X.K ta) := by
  refine ⟨fun pins s σ H R I h => Call_ (ld_blt I hg hm boot_enumerate (PyProof.Rows.callWith_type1 (thn (ha.run pos pins s σ H _ I h) fun us s1 hh => ?_) hs rfl))⟩
  obtain ⟨vs, H1, I1, r1, a, xs, rfl, q⟩ := hh
  cases r1 with
  | cons r rr =>
    cases rr
    cases r
    have fresh : ∀ b, b ∈ [s1.heap.objs.size + 1, s1.heap.objs.size] → FpOk X pins H1 b := fun b hb => by
      have hle : s1.heap.objs.size ≤ b := by
        rcases List.mem_cons.mp hb with z | z
        · rw [z]; exact Nat.le_add_right _ _
        · rw [List.mem_singleton.mp z]; exact Nat.le_refl _
      exact I1.fpOk hle (I1.hok.fresh hle)
    rcases q with ⟨hq, q⟩ | ⟨hq, q⟩
    · obtain ⟨its, rv, pl, hz⟩ := I1.list hq
      refine call_enumerate_list pl.isList fun h' he hit hsz hk => wpAny_pyIter_enum he ?_
      exact ⟨s1.heap.objs.size + 1, [s1.heap.objs.size + 1, s1.heap.objs.size], _, _, H1, rfl, I1.kept (t' := s1.toks) hk, turn_enum a (s1.heap.objs.size + 1) s1.heap.objs.size, ⟨⟨.none, he⟩, hit, Nat.succ_ne_self _⟩, fresh, q⟩
    · obtain ⟨its, rv, pl, hz⟩ := I1.tuple hq
      have hlt : a < s1.heap.objs.size := by obtain ⟨o, ho, _⟩ := id pl; exact Heap.lt_size ho
      refine call_enum (begins_tuple a its.toArray) pl fun h' he hit hk => wpAny_pyIter_enum he ?_
      exact ⟨s1.heap.objs.size + 1, [s1.heap.objs.size + 1, s1.heap.objs.size], _, _, H1, rfl, I1.kept (t' := s1.toks) hk, turn_enumT a (s1.heap.objs.size + 1) s1.heap.objs.size, ⟨⟨.none, he⟩, ⟨_, hit, rfl, rfl⟩, Nat.succ_ne_self _, Nat.ne_of_lt (Nat.lt_succ_of_lt hlt), Nat.ne_of_lt hlt⟩, fresh, q⟩
/-! ### the frame's side -/
section
variable {K : PySem.W.Frag} {E : XK} {ix : IXT} {F : Fx} {ρ ρ' ρ1 : List Sl} {g g' g1 : G} {σ σ' σ1 : L2.St} {H H' H1 : Hp} {b b1 b2 : Bool} {t ta tb tc : TE} {m ma mb mc : MV D} {tt uu : TT} {mt mu : MV Bool}
def enumD (n : Nat) : List D → List D
  | [] => []
  | d :: l => .tup [.int (n : Int), d] :: enumD (n + 1) l
theorem enumD_length : ∀ (n : Nat) (l : List D), (enumD n l).length = l.length
  | _, [] => rfl
  | n, _ :: l => by simp [enumD, enumD_length (n + 1) l]
theorem enumD_get : ∀ (n : Nat) (l : List D) (i : Nat) (d : D), (enumD n l)[i]? = some d → ∃ d', l[i]? = some d' ∧ d = .tup [.int ((n + i : Nat) : Int), d']
  | _, [], i, d, h => by simp [enumD] at h
  | n, c :: l, 0, d, h => by
    simp only [enumD, List.getElem?_cons_zero, Option.some.injEq] at h
    exact ⟨c, rfl, by rw [← h]; rfl⟩
  | n, c :: l, i + 1, d, h => by
    simp only [enumD, List.getElem?_cons_succ] at h
    obtain ⟨d', h1, h2⟩ := enumD_get (n + 1) l i d h
    exact ⟨d', by simpa using h1, by rw [h2]; congr 3; omega⟩
def mEnum (ms : MV (List D)) : MV (List D) := mbind ms fun l => mlift (match l with
  | [.tup m] => some (enumD 0 m)
  | [.lst m] => some (enumD 0 m)
  | _ => none)
theorem ri_enum {ts : TA} {ms : MV (List D)} (h : RA K E ix true ts ms) : RI K E ix (iEnumA K ts) (mEnum ms) := fun F ρ g σ H R r g' e S q =>
  h.one R e q.x fun l vs H1 g1 e1 R1 i1 k1 => by
    obtain ⟨ds, hc, rfl, rfl⟩ := mlift_some k1
    have stp : ∀ {m : List D} {xs : List V} {H2 : Hp}, IsL K F.ra (imB F ρ σ) H1 m xs → Ex (fun a => isR F a ∨ Own ρ σ a ∨ F.B a) H1 H2 → IsL K F.ra (fun a => imB F ρ σ a ∨ H1 a = none) H2 m xs := fun h3 e2 =>
      IsL.step (fun a z => by
        rcases z with z | z | z
        · exact Or.inl (R.im_r a z)
        · exact Or.inl (.inr (.inl z))
        · exact Or.inl (.inr (.inr z))) e2 (IsL.bar (fun a z => z) h3)
    split at hc
    · rename_i m
      cases hc
      obtain ⟨v, r, rfl, ⟨a, xs, rfl, h2, h3⟩, h4⟩ := i1
      cases h4
      refine ⟨a, xs, rfl, .inr ⟨h2, q _ H1 e1 R1.gok fun H2 e2 i => ?_⟩⟩
      have hs : SqT K H2 a xs := e2.tup h2
      refine ⟨fun hi => ⟨xs, hs, by rw [h3.length, hi, enumD_length]⟩, fun d hd => ?_⟩
      obtain ⟨d', hd', rfl⟩ := enumD_get _ _ _ _ hd
      obtain ⟨w, hw, iw⟩ := (stp h3 e2).get hd'
      refine ⟨⟨xs, w, hs, hw⟩, fun x H3 y => ?_⟩
      obtain ⟨p, x', rfl, hp, rfl, y⟩ := y
      have hx := y xs hs
      rw [hw] at hx
      cases hx
      have en : Ex (fun _ => False) H2 (upd H2 p (.tup [.int (i : Nat), w])) := Ex.new hp
      refine ⟨en, p, _, rfl, SqT.of upd_same, _, _, rfl, ?_, _, _, rfl, Is.step (fun _ z => z.elim) en iw, rfl⟩
      show _ = _
      rw [Nat.zero_add]
    · rename_i m
      cases hc
      obtain ⟨a, xs, rfl, nb, h2, h3⟩ : ∃ a xs, vs = [.ref a] ∧ ¬ imB F ρ σ a ∧ H1 a = some (.lst xs) ∧ IsL K F.ra (imB F ρ σ) H1 m xs := by
        obtain ⟨v, r, rfl, ⟨a, xs, rfl, h1, h2, h3⟩, h4⟩ := i1
        cases h4
        exact ⟨a, xs, rfl, h1, h2, h3⟩
      refine ⟨a, xs, rfl, .inl ⟨SqL.of h2, q _ H1 e1 R1.gok fun H2 e2 i => ?_⟩⟩
      have hs : SqL K H2 a xs := SqL.of (e2.lst h2 fun z => by
        rcases z with z | z | z
        · exact nb (R.im_r a z)
        · exact nb (.inr (.inl z))
        · exact nb (.inr (.inr z)))
      refine ⟨fun hi => ⟨xs, hs, by rw [h3.length, hi, enumD_length]; exact Nat.le_refl _⟩, fun d hd => ?_⟩
      obtain ⟨d', hd', rfl⟩ := enumD_get _ _ _ _ hd
      obtain ⟨w, hw, iw⟩ := (stp h3 e2).get hd'
      refine ⟨⟨xs, w, hs, hw⟩, fun x H3 y => ?_⟩
      obtain ⟨p, x', rfl, hp, rfl, y⟩ := y
      have hx := y xs hs
      rw [hw] at hx
      cases hx
      have en : Ex (fun _ => False) H2 (upd H2 p (.tup [.int (i : Nat), w])) := Ex.new hp
      refine ⟨en, p, _, rfl, SqT.of upd_same, _, _, rfl, ?_, _, _, rfl, Is.step (fun _ z => z.elim) en iw, rfl⟩
      show _ = _
      rw [Nat.zero_add]
    · cases hc
/-! ### an item read for an augmented store -/
theorem get_listA {X : Cx} : PGet X rGetL := by
  intro pins s σ H o i ov iv Q I ro ri h
  obtain ⟨p, xs, k, v, rfl, rfl, hp, h0, hv, q⟩ := h
  cases ro
  obtain ⟨t, rfl⟩ := ri
  obtain ⟨its, rv, pl, hz⟩ := I.list (SqL.of hp)
  obtain ⟨u, hu, ru⟩ := rv.get hv
  have hlt := (List.getElem?_eq_some_iff.mp hv).1
  have hn := line63
  exact PySem.wpAny_getItem_list pl.isList h0 (by omega) (by simpa using hu) ⟨v, H, I, ru, q⟩
/-! ### truth -/
def dTru (d : D) : Option Bool := match d with
  | .non => some false
  | .bl c => some c
  | .int i => some (i != 0)
  | .tup l => some (!l.isEmpty)
  | .lst l => some (!l.isEmpty)
  | _ => none
def mTru (m : MV D) : MV Bool := mbind m fun d => mlift (dTru d)
theorem IsL.emp {ra : Addr} {B : Addr → Prop} {l : List D} {xs : List V} (h : IsL K ra B H l xs) : xs.isEmpty = l.isEmpty := by
  have q := h.length
  cases l <;> cases xs <;> simp at q ⊢
theorem rt_tru (h : RE K E ix b t m) : RT K E ix (fun σ H Q => t σ H fun x H' => ∃ k, TruV K x H' k ∧ Q k H') (mTru m) := fun F ρ g σ H R r g' e Q q =>
  h.one R e q.x fun d v H1 g1 e1 R1 i1 k1 => by
    obtain ⟨c, hc, rfl, rfl⟩ := mlift_some k1
    unfold dTru at hc
    split at hc <;> try (cases hc; done)
    · cases hc; cases (show v = _ from i1); exact ⟨_, rfl, q H1 e1 R1.gok⟩
    · cases hc; cases (show v = _ from i1); exact ⟨_, rfl, q H1 e1 R1.gok⟩
    · cases hc; cases (show v = _ from i1); exact ⟨_, rfl, q H1 e1 R1.gok⟩
    · cases hc
      obtain ⟨a, xs, rfl, h2, h3⟩ := i1
      exact ⟨_, .inr (.inl ⟨xs, h2, rfl⟩), by rw [h3.emp]; exact q H1 e1 R1.gok⟩
    · cases hc
      obtain ⟨a, xs, rfl, _, h2, h3⟩ := i1
      exact ⟨_, .inl ⟨xs, SqL.of h2, rfl⟩, by rw [h3.emp]; exact q H1 e1 R1.gok⟩
/-! ### isinstance by built-in classes -/
def tyD (d : D) : Option String := match d with
  | .non => some "NoneType"
  | .bl _ => some "bool"
  | .int _ => some "int"
  | .str _ => some "str"
  | .tup _ => some "tuple"
  | .lst _ => some "list"
  | _ => none
theorem tyD_is {ra : Addr} {B : Addr → Prop} {d : D} {v : V} {n : String} (i : Is K ra B H d v) (h : tyD d = some n) : TyX K H v (.type n) := by
  unfold tyD at h
  split at h <;> try (cases h; done)
  · cases h; cases (show v = _ from i); exact .base .non
  · cases h; cases (show v = _ from i); exact .base (.bl _)
  · cases h; cases (show v = _ from i); exact .base (.int _)
  · cases h; cases (show v = _ from i); exact .base (.str _)
  · cases h
    obtain ⟨a, xs, rfl, h2, h3⟩ := i
    rcases h2 with (h2 | ⟨o, h2⟩) | ⟨o, its, n, h2, hc, _⟩
    · exact .base (.tup h2)
    · exact .fTuple h2
    · exact .kTuple h2 hc
  · cases h
    obtain ⟨a, xs, rfl, _, h2, h3⟩ := i
    exact .base (.lst h2)
/-- the classes that are asked for -/
def isTy (a b : String) : Option Bool := if b = "int" then some (a = "int" || a = "bool") else if b = "bool" ∨ b = "str" ∨ b = "tuple" ∨ b = "list" then some (decide (a = b)) else none
def tyNames : List String := ["NoneType", "bool", "int", "str", "tuple", "list"]
theorem tyD_mem {d : D} {n : String} (h : tyD d = some n) : n ∈ tyNames := by
  unfold tyD at h
  split at h <;> cases h <;> decide
theorem isTy_tab : ∀ a ∈ tyNames, ∀ b ∈ ["int", "bool", "str", "tuple", "list"], ∀ r, isTy a b = some r → kitB a b = some r := by decide +kernel
theorem isTy_kit {a b : String} {r : Bool} (ha : a ∈ tyNames) (h : isTy a b = some r) : kitB a b = some r := by
  refine isTy_tab a ha b ?_ r h
  unfold isTy at h
  split at h
  · rename_i e; rw [e]; decide
  · split at h
    · rename_i e; rcases e with e | e | e | e <;> rw [e] <;> decide
    · cases h
def fIsi (l : List D) : Option D := match l with
  | [d, .ty n] => (tyD d).bind fun t => (isTy t n).map .bl
  | _ => none
theorem sc_isi : ScN K (rIsi K) fIsi := fun ra B H l c vs hl e => by
  unfold fIsi at e
  split at e
  · rename_i d n
    obtain ⟨v, r, rfl, h2, u, r2, rfl, h3, h4⟩ := hl
    cases h4
    cases (show u = _ from h3)
    cases ht : tyD d with
    | none => rw [ht] at e; cases e
    | some t =>
      rw [ht] at e
      simp only [Option.bind_some] at e
      cases hk : isTy t n with
      | none => rw [hk] at e; cases e
      | some x =>
        rw [hk] at e
        cases e
        exact ⟨_, fun _ _ _ => rfl, fun Q k => ⟨v, .ty n, .type t, .type n, x, rfl, .ty n, tyD_is h2 ht, kit_ty (isTy_kit (tyD_mem ht) hk), k⟩⟩
  · cases e
end
end Fw

set_option Elab.async false
set_option linter.all false
set_option maxRecDepth 100000
set_option maxHeartbeats 4000000
/-! Fw7: min of a list of tuples of ints; == of deep values; pairs of stores -/
namespace Fw
open PySem PySem.Spec PyProof.Rows L2

/-! ### min(rows), rows tuples of ints -/
section
variable {prog : Program} {w : World} {A : Around} {I : Addr} {fp wr : List Addr} {n : Nat} {P : Nat → Value → Prop} {St : Nat → Heap → Prop}
/-- what stood stands -/
def Kp (wr : List Addr) (h0 h : Heap) : Prop := ∀ b o, b ∉ wr → h0.get? b = some o → h.get? b = some o
def CmpAt (prog : Program) (w : World) (A : Around) (wr : List Addr) (h0 : Heap) (P : Nat → Value → Prop) (bt : Nat → Nat → Bool) : Prop :=
  ∀ i j vi vj (s : Shared) (Q E : Value → Shared → Prop), Kp wr h0 s.heap → P i vi → P j vj → Q (.bool (bt i j)) s → wpAny (model prog w) A (richCompare .Lt vi vj) Q E s
theorem min_rest (W : Walks prog w A.in1 I fp wr n P St) {h0 : Heap} {bt : Nat → Nat → Bool} (hc : CmpAt prog w A.in1 wr h0 P bt) {S : Addr} (hS : S ∉ fp) (hn : h0.get? S = none) {R : Result → Shared → Prop} :
    ∀ (k j : Nat) (s : Shared) (vb : Value) (c : Nat), n - (j + 1) = k → j + 1 ≤ n → St (j + 1) s.heap → P (argBest bt j) vb → Kp wr h0 s.heap →
    s.heap.get? S = some { cls := .type "list", dict := none, data := .seq #[vb, vb] c, slots := #[] } →
    (∀ v h' tk, P (argBest bt (n - 1)) v → Kp wr h0 h' → R (.ok (.ret v)) { s with heap := h', toks := tk }) →
    codeAny (model prog w) A (.builtin "min.loop" ⟨[.ref I, .none, .ref S], []⟩) R s := by
  have hw : S ∉ wr := fun q => hS (W.sub _ q)
  have nm : (toString "min" ++ toString ".loop" : String) = "min.loop" := by decide
  have kS : ∀ {h h' : Heap}, Kp wr h0 h → (∀ b, b ≠ S → h'.get? b = h.get? b) → Kp wr h0 h' := fun {h h'} kp q b o hb e => by
    have ne : b ≠ S := fun z => by rw [z, hn] at e; cases e
    rw [q b ne]; exact kp b o hb e
  intro k
  induction k with
  | zero =>
    intro j s vb c hk hj st pb kp sS done
    have e : j + 1 = n := by omega
    refine codeAny_builtin F.entry_min_loop ?_
    rw [Around.under_plainId F.plain_min_loop _]
    show wpAny _ A.in1 (seqItems? (.ref S) >>= _) _ _ s
    refine wpAny_bind (wpAny_seqItems sS rfl ?_)
    show wpAny _ A.in1 (tryCatch (pyNext (.ref I)) _ >>= _) _ _ s
    refine wpAny_bind (wpAny_tryCatch (W.done s _ _ (e ▸ st) fun h' tk kh => ?_))
    have sS' := kh S _ hw sS
    show wpAny _ A.in1 (updateSeq S (fun _ => #[]) >>= _) _ _ _
    refine wpAny_bind (wpAny_updateSeq sS' rfl (wpAny_bind (wpAny_letGo (wpAny_pure (done vb _ tk (by rw [← e]; exact pb) ?_)))))
    exact kS (fun b o hb q => kh b o hb (kp b o hb q)) fun b ne => Heap.get?_update_other _ _ (Ne.symm ne)
  | succ k ih =>
    intro j s vb c hk hj st pb kp sS done
    have lt : j + 1 < n := by omega
    refine codeAny_builtin F.entry_min_loop ?_
    rw [Around.under_plainId F.plain_min_loop _]
    show wpAny _ A.in1 (seqItems? (.ref S) >>= _) _ _ s
    refine wpAny_bind (wpAny_seqItems sS rfl ?_)
    show wpAny _ A.in1 (tryCatch (pyNext (.ref I)) _ >>= _) _ _ s
    refine wpAny_bind (wpAny_tryCatch (W.item (j + 1) s _ _ lt st fun v h' tk pv st' kh => ?_))
    have sS' := kh S _ hw sS
    have kp' : Kp wr h0 h' := fun b o hb q => kh b o hb (kp b o hb q)
    show wpAny _ A.in1 (tryCatch (holding [v, v] (richCompare .Lt v vb >>= _)) _ >>= _) _ _ _
    refine wpAny_bind (wpAny_tryCatch (wpAny_holding (wpAny_bind (hc (j + 1) (argBest bt j) v vb _ _ _ kp' pv pb ?_))))
    refine wpAny_bind (wpAny_holding (wpAny_truthy_bool (wpAny_bind (wpAny_letGo (wpAny_pure ?_)))))
    cases hb : bt (j + 1) (argBest bt j) with
    | true =>
      simp only [if_true]
      refine wpAny_bind (wpAny_updateSeq sS' rfl (wpAny_bind (wpAny_letGo ?_)))
      rw [nm]
      refine wpAny_pure ⟨plainId_quiet F.plain_min_loop _, ih (j + 1) _ v _ (by omega) lt (W.frame _ _ _ st' fun b hbf o q => ?_) (by simp only [argBest, hb, if_true]; exact pv) (kS kp' fun b ne => Heap.get?_update_other _ _ (Ne.symm ne)) (Heap.get?_update_self _ sS' rfl) done⟩
      exact (Heap.get?_update_other _ _ (fun z : S = b => hS (by rw [z]; exact hbf))).trans q
    | false =>
      simp only [Bool.false_eq_true, if_false]
      refine wpAny_bind (wpAny_letGo ?_)
      rw [nm]
      exact wpAny_pure ⟨plainId_quiet F.plain_min_loop _, ih (j + 1) _ vb c (by omega) lt st' (by simp only [argBest, hb, Bool.false_eq_true, if_false]; exact pb) kp' sS' done⟩
theorem min_first (W : Walks prog w A.in1 I fp wr n P St) {h0 : Heap} {bt : Nat → Nat → Bool} (hc : CmpAt prog w A.in1 wr h0 P bt) {S : Addr} (hS : S ∉ fp) (hn : h0.get? S = none) (h1 : 0 < n) {R : Result → Shared → Prop} {s : Shared} {c : Nat}
    (st : St 0 s.heap) (kp : Kp wr h0 s.heap) (sS : s.heap.get? S = some { cls := .type "list", dict := none, data := .seq #[] c, slots := #[] })
    (done : ∀ v h' tk, P (argBest bt (n - 1)) v → Kp wr h0 h' → R (.ok (.ret v)) { s with heap := h', toks := tk }) :
    codeAny (model prog w) A (.builtin "min.loop" ⟨[.ref I, .none, .ref S], []⟩) R s := by
  have hw : S ∉ wr := fun q => hS (W.sub _ q)
  have nm : (toString "min" ++ toString ".loop" : String) = "min.loop" := by decide
  refine codeAny_builtin F.entry_min_loop ?_
  rw [Around.under_plainId F.plain_min_loop _]
  show wpAny _ A.in1 (seqItems? (.ref S) >>= _) _ _ s
  refine wpAny_bind (wpAny_seqItems sS rfl ?_)
  show wpAny _ A.in1 (tryCatch (pyNext (.ref I)) _ >>= _) _ _ s
  refine wpAny_bind (wpAny_tryCatch (W.item 0 s _ _ h1 st fun v h' tk pv st' kh => ?_))
  have sS' := kh S _ hw sS
  show wpAny _ A.in1 (updateSeq S (fun _ => #[v, v]) >>= _) _ _ _
  refine wpAny_bind (wpAny_updateSeq sS' rfl ?_)
  rw [nm]
  refine wpAny_pure ⟨plainId_quiet F.plain_min_loop _, min_rest W hc hS hn _ 0 _ v _ rfl h1 (W.frame _ _ _ st' fun b hbf o q => ?_) pv (fun b o hb q => ?_) (Heap.get?_update_self _ sS' rfl) done⟩
  · exact (Heap.get?_update_other _ _ (fun z : S = b => hS (by rw [z]; exact hbf))).trans q
  · have ne : b ≠ S := fun z => by rw [z, hn] at q; cases q
    exact (Heap.get?_update_other _ _ (Ne.symm ne)).trans (kh b o hb (kp b o hb q))
end
section
variable {prog : Program} {w : World} {A : Around} {E : Value → Shared → Prop} {s : Shared}
/-- min of a list, its items compared where all stands that stood -/
theorem call_min_list {l : Addr} {items : Array Value} {Q : Value → Shared → Prop} {bt : Nat → Nat → Bool} (hh : A.handled = none) (hl : s.heap.IsList l items) (hn : 0 < items.size)
    (hc : ∀ wr, (∀ b ∈ wr, s.heap.get? b = none) → CmpAt prog w A.in1 wr s.heap (fun i v => items[i]? = some v) bt)
    (h : ∀ v h' tk, items[argBest bt (items.size - 1)]? = some v → (∀ b o, s.heap.get? b = some o → h'.get? b = some o) → Q v { s with heap := h', toks := tk }) :
    wpAny (model prog w) A (call (.builtin "min") [.ref l]) Q E s := by
  have nm : (toString "min" ++ toString ".loop" : String) = "min.loop" := by decide
  refine call_function_tree F.kind_min F.plain_min F.entry_min (F.args_min1 _) ?_
  show wpAny _ A.in1 (Builtin.Builtins.bindParams "min" ["key", "default"] 0 ⟨[], []⟩ >>= _) _ _ s
  refine wpAny_bind (wpAny_of_eq (show Builtin.Builtins.bindParams "min" ["key", "default"] 0 ⟨[], []⟩ = pure [none, none] from rfl) (wpAny_bind (wpAny_pure (wpAny_bind ?_))))
  refine wpAny_pyIter_list hl ?_
  have hlt : l < s.heap.objs.size := by obtain ⟨_, e, _⟩ := hl; exact Heap.lt_size e
  have sz : (s.heap.push { cls := .type "list_iterator", data := .fields #[.ref l, .int 0 0] }).objs.size = s.heap.objs.size + 1 := Heap.size_push ..
  have none_at : ∀ b, s.heap.objs.size ≤ b → s.heap.get? b = none := fun b hb => by
    cases q : s.heap.get? b with
    | none => rfl
    | some o => exact absurd (Heap.lt_size q) (Nat.not_lt.mpr hb)
  refine wpAny_bind (wpAny_newObj_type ?_)
  rw [nm]
  have W := Walks.list (prog := prog) (w := w) (A := A.in1) hh s.heap.objs.size l (Nat.ne_of_lt hlt) items
  refine wpAny_pure ⟨plainId_quiet F.plain_min_loop _, min_first W (hc [s.heap.objs.size] fun b hb => none_at b (by rw [List.mem_singleton.mp hb]; exact Nat.le_refl _)) (S := (s.heap.push { cls := .type "list_iterator", data := .fields #[.ref l, .int 0 0] }).objs.size) (fun hb => ?_) (none_at _ (by rw [sz]; exact Nat.le_succ _)) hn ⟨?_, ?_⟩ (fun b o hb q => ?_) (Heap.get?_push_size _ rfl) fun v h' tk hP kp => h v h' tk hP fun b o q => kp b o (fun hb => ?_) q⟩
  · rw [sz] at hb
    rcases List.mem_cons.mp hb with z | z
    · exact Nat.succ_ne_self s.heap.objs.size z
    · have e : s.heap.objs.size + 1 = l := List.mem_singleton.mp z
      rw [← e] at hlt
      exact Nat.not_succ_le_self _ (Nat.le_of_lt hlt)
  · exact ⟨_, Heap.get?_push_of_some _ (Heap.get?_push_size _ rfl), rfl, rfl⟩
  · exact (hl.push _).push _
  · exact Heap.get?_push_of_some _ (Heap.get?_push_of_some _ q)
  · rw [List.mem_singleton.mp hb] at q
    exact absurd (Heap.lt_size q) (Nat.lt_irrefl _)
end
/-! ### the rule, and its worth -/
def lexL (a b : List Int) : Bool := HT.lexLt a b
def rMinT (K : PySem.W.Frag) : List V → Hp → VK → Prop := fun vs H Q => ∃ (a : Addr) (xs : List V) (rows : List (List Int)), vs = [V.ref a] ∧ SqL K H a xs ∧ rows.length = xs.length ∧ 0 < rows.length ∧
  (∀ (i : Nat) (v : V) (r : List Int), xs[i]? = some v → rows[i]? = some r → ∃ p, v = .ref p ∧ SqT K H p (r.map V.int)) ∧
  ∀ v, xs[argBest (fun i j => lexL (rows.getD i []) (rows.getD j [])) (rows.length - 1)]? = some v → Q v H
theorem cr_minT {X : Cx} (hc : X.calm = true) (hu : X.A.units + 8 < cLine) : CallR X (.builtin "min") (rMinT X.K) := by
  intro pins s σ H vs us Q I r h
  obtain ⟨a, xs, rows, rfl, hs, hlen, hpos, hrow, q⟩ := h
  obtain ⟨its, rv, hl, _⟩ := I.list hs
  rw [Vals.ref1 r]
  have hil := rv.length
  refine call_min_list (bt := fun i j => lexL (rows.getD i []) (rows.getD j [])) (I.ok.hd hc) hl.isList (by rw [List.size_toArray]; omega) (fun wr hwr i j vi vj s' Q' E' kp hi hj hq => ?_) fun v h' tk hv hk => ?_
  · have get : ∀ (i : Nat) (u : Value), its.toArray[i]? = some u → ∃ p items, u = .ref p ∧ IsTup s'.heap p items ∧ IntsAre items.toList (rows.getD i []) := fun i u hu => by
      have hu' : its[i]? = some u := by simpa using hu
      have hlt : i < its.length := (List.getElem?_eq_some_iff.mp hu').1
      have hx : xs[i]? = some xs[i] := List.getElem?_eq_getElem (by omega)
      have hr : rows[i]? = some rows[i] := List.getElem?_eq_getElem (by omega)
      obtain ⟨p, e, ht⟩ := hrow i _ _ hx hr
      obtain ⟨u', hu2, ru⟩ := rv.get hx
      rw [hu'] at hu2
      cases hu2
      rw [e] at ru
      cases ru
      obtain ⟨its2, rv2, ⟨o, ho, ht2⟩, _⟩ := I.tuple ht
      refine ⟨p, its2.toArray, rfl, ⟨o, kp p o (fun z => ?_) ho, ht2⟩, ?_⟩
      · rw [hwr p z] at ho; cases ho
      · have : rows.getD i [] = rows[i] := by rw [List.getD_eq_getElem?_getD, hr]; rfl
        rw [this]
        simpa using rv2.ints
    obtain ⟨p1, i1, rfl, t1, n1⟩ := get i vi hi
    obtain ⟨p2, i2, rfl, t2, n2⟩ := get j vj hj
    have := HT.lt_tupInts (A := X.A.in1) (prog := X.prog) (w := X.w) (E := E') (Q := Q') t1 t2 n1 n2 (by show X.A.units + 1 < cLine; omega) hq
    exact this
  · have hv' : its[argBest (fun i j => lexL (rows.getD i []) (rows.getD j [])) (its.toArray.size - 1)]? = some v := by simpa using hv
    have sz : its.toArray.size - 1 = rows.length - 1 := by rw [List.size_toArray, ← hil, hlen]
    rw [sz] at hv'
    have hlt := (List.getElem?_eq_some_iff.mp hv').1
    have hx : xs[argBest (fun i j => lexL (rows.getD i []) (rows.getD j [])) (rows.length - 1)]? = some xs[argBest (fun i j => lexL (rows.getD i []) (rows.getD j [])) (rows.length - 1)] := List.getElem?_eq_getElem (by omega)
    obtain ⟨u, hu2, ru⟩ := rv.get hx
    rw [hv'] at hu2
    cases hu2
    exact ⟨_, H, I.kept hk, ru, q _ hx⟩
end Fw

set_option Elab.async false
set_option linter.all false
set_option maxRecDepth 100000
set_option maxHeartbeats 4000000
/-! Fw8: several stores at once; min of rows; deep == -/
namespace Fw
open PySem PySem.Spec PyProof.Rows L2
section
variable {K : PySem.W.Frag} {E : XK} {ix : IXT} {F : Fx} {ρ ρ' ρ1 : List Sl} {g g' g1 : G} {σ σ' σ1 : L2.St} {H H' H1 : Hp} {b b1 b2 : Bool} {t ta tb tc : TE} {m ma mb mc : MV D} {tt uu : TT} {mt mu : MV Bool}
/-! ### a, b = x, y -/
/-- a new thing of one's own -/
def RN (K : PySem.W.Frag) (E : XK) (ix : IXT) (t : TE) (m : MV Con) : Prop := ∀ F ρ g σ H, Rep K F ρ g σ H → ∀ r g', m ρ g = some (r, g') → ∀ Q : VK,
  Post r (fun c => ∀ a H', Ex (isR F) H H' → GOk F g' H' → H a = none → ConIs K F.ra (fun b => imB F ρ σ b ∨ b = a) H' c a → Q (.ref a) H') (XPost E ix F H g') → t σ H Q
inductive Stp where
  | im (m : MV D) | ow (m : MV (List D)) | od (m : MV Con)
inductive RPar (K : PySem.W.Frag) (E : XK) (ix : IXT) : TA → List Stp → Prop
  | nil : RPar K E ix tNil []
  | im {t : TE} {m : MV D} {ts : TA} {ss : List Stp} (h : RE K E ix true t m) (hs : RPar K E ix ts ss) : RPar K E ix (tCons t ts) (.im m :: ss)
  | ow {t : TE} {m : MV (List D)} {ts : TA} {ss : List Stp} (h : RF K E ix t m) (hs : RPar K E ix ts ss) : RPar K E ix (tCons t ts) (.ow m :: ss)
  | od {t : TE} {m : MV Con} {ts : TA} {ss : List Stp} (h : RN K E ix t m) (hs : RPar K E ix ts ss) : RPar K E ix (tCons t ts) (.od m :: ss)
def parGo (ρ0 : List Sl) : List Stp → List Nat → MSt
  | [], [], ρ, g => some (.nx, ρ, g)
  | .im m :: ss, i :: is, ρ, g => (match m ρ0 g with
    | some (.ok d, g1) => parGo ρ0 ss is (ρ.set i (.im d)) g1
    | _ => none)
  | .ow m :: ss, i :: is, ρ, g => (match m ρ0 g with
    | some (.ok l, g1) => if i < ρ.length then parGo ρ0 ss is (ρ.set i (.ow (.lst l))) g1 else none
    | _ => none)
  | .od m :: ss, i :: is, ρ, g => (match m ρ0 g with
    | some (.ok l, g1) => if i < ρ.length then parGo ρ0 ss is (ρ.set i (.ow l)) g1 else none
    | _ => none)
  | _, _, _, _ => none
def setAll (σ : L2.St) : List Nat → List V → L2.St
  | i :: is, v :: vs => setAll (σ.set i (some v)) is vs
  | _, _ => σ
/-- a frame with more barred -/
theorem par_ok {ts : TA} {ss : List Stp} (hp : RPar K E ix ts ss) : ∀ {F FC : Fx} {ρ0 ρ ρ' : List Sl} {σ0 σ : L2.St} {g g' : G} {H : Hp} {is : List Nat} {fl : Fl}, Rep K FC ρ0 g σ0 H → Rep K F ρ g σ H → FC.ra = F.ra → FC.rb = F.rb → FC.H0 = F.H0 →
    (∀ a, imB F ρ σ a → imB FC ρ0 σ0 a) → parGo ρ0 ss is ρ g = some (fl, ρ', g') → ∀ Q : List V → Hp → Prop,
    (fl = .nx → ∀ vs H', vs.length = is.length → Rep K F ρ' g' (setAll σ is vs) H' → Fr F ρ σ H ρ' (setAll σ is vs) H' → Q vs H') → ts σ0 H Q := by
  induction hp with
  | nil =>
    intro F FC ρ0 ρ ρ' σ0 σ g g' H is fl RC R e1 e2 e3 hb hgo Q q
    cases is with
    | nil => cases hgo; exact q rfl [] H rfl R Fr.refl
    | cons _ _ => cases hgo
  | @im t m ts ss h hs ih =>
    intro F FC ρ0 ρ ρ' σ0 σ g g' H is fl RC R e1 e2 e3 hb hgo Q q
    cases is with
    | nil => cases hgo
    | cons i is =>
      unfold parGo at hgo
      split at hgo
      · rename_i d g1 hm
        refine h FC ρ0 g σ0 H RC _ _ hm _ fun v H1 ex k1 i1 => ?_
        have exF : Ex (isR F) H H1 := ex.mono fun a z => by unfold isR at z ⊢; rw [← e1, ← e2, ← RC.tk.trans R.tk.symm]; exact z
        have kF : GOk F g1 H1 := k1.to e1.symm e2.symm (R.tk.trans RC.tk.symm)
        have R1 := R.step exF kF
        have i1' : Is K F.ra (imB F ρ σ) H1 d v := by rw [e1] at i1; exact Is.anti hb i1
        have R2 := R1.set (i := i) (s := .im d) (x := some v) (fun l => by intro z; cases z) ⟨v, rfl, i1'⟩
        have f2 : Fr F ρ σ H (ρ.set i (.im d)) (σ.set i (some v)) H1 := ⟨exF.mono fun _ z => .inl z, fun a z => .inl (own_set_im (fun l => by intro z; cases z) a z)⟩
        refine ih (RC.step ex k1) R2 e1 e2 e3 (fun a z => hb a ?_) hgo _ fun hf vs H' hl R' f' => q hf (v :: vs) H' (by simp [hl]) R' (f2.trans f' R R2)
        rcases z with z | z | z
        · exact .inl z
        · exact .inr (.inl (own_set_im (fun l => by intro z; cases z) a z))
        · exact .inr (.inr z)
      · cases hgo
  | @ow t m ts ss h hs ih =>
    intro F FC ρ0 ρ ρ' σ0 σ g g' H is fl RC R e1 e2 e3 hb hgo Q q
    cases is with
    | nil => cases hgo
    | cons i is =>
      unfold parGo at hgo
      split at hgo
      · rename_i l g1 hm
        split at hgo
        · rename_i hlt
          refine h FC ρ0 g σ0 H RC _ _ hm _ fun a xs H1 ex k1 hn ha hi => ?_
          have exF : Ex (isR F) H H1 := ex.mono fun a z => by unfold isR at z ⊢; rw [← e1, ← e2, ← RC.tk.trans R.tk.symm]; exact z
          have kF : GOk F g1 H1 := k1.to e1.symm e2.symm (R.tk.trans RC.tk.symm)
          have hi' : IsL K F.ra (fun c => imB F ρ σ c ∨ c = a) H1 l xs := by
            rw [e1] at hi
            exact IsL.anti (fun c z => z.elim (fun z => .inl (hb c z)) .inr) hi
          obtain ⟨R1, f1⟩ := R.set_ow (l := .lst l) exF kF hn ⟨xs, ha, hi'⟩ i hlt
          have RC1 : Rep K (lcF FC ρ0 σ0 [] a) ρ0 g1 σ0 H1 := RC.lc hn ex k1 (by rw [ha]; intro z; cases z) []
          refine ih RC1 R1 e1 e2 e3 (fun c z => ?_) hgo _ fun hf vs H' hl R' f' => q hf (.ref a :: vs) H' (by simp [hl]) R' (f1.trans f' R R1)
          have big : ∀ c, imB F ρ σ c ∨ c = a → imB (lcF FC ρ0 σ0 [] a) ρ0 σ0 c := fun c z => by
            rcases z with z | z
            · rcases hb c z with z | z | z
              · exact .inl z
              · exact .inr (.inl z)
              · exact .inr (.inr (.inl z))
            · exact .inr (.inr (.inr (.inl z)))
          refine big c ?_
          rcases z with z | z | z
          · exact .inl (.inl z)
          · obtain ⟨j, l', h1, h2⟩ := z
            by_cases w : i = j
            · subst w
              rw [List.getElem?_set] at h2
              simp only [if_true] at h2
              split at h2
              · cases h2; exact .inr rfl
              · cases h2
            · rw [List.getElem?_set_ne w] at h1 h2
              exact .inl (.inr (.inl ⟨j, l', h1, h2⟩))
          · exact .inl (.inr (.inr z))
        · cases hgo
      · cases hgo
  | @od t m ts ss h hs ih =>
    intro F FC ρ0 ρ ρ' σ0 σ g g' H is fl RC R e1 e2 e3 hb hgo Q q
    cases is with
    | nil => cases hgo
    | cons i is =>
      unfold parGo at hgo
      split at hgo
      · rename_i l g1 hm
        split at hgo
        · rename_i hlt
          refine h FC ρ0 g σ0 H RC _ _ hm _ fun a H1 ex k1 hn hi => ?_
          have exF : Ex (isR F) H H1 := ex.mono fun a z => by unfold isR at z ⊢; rw [← e1, ← e2, ← RC.tk.trans R.tk.symm]; exact z
          have kF : GOk F g1 H1 := k1.to e1.symm e2.symm (R.tk.trans RC.tk.symm)
          have hi' : ConIs K F.ra (fun c => imB F ρ σ c ∨ c = a) H1 l a := by
            rw [e1] at hi
            exact ConIs.anti (fun c z => z.elim (fun z => .inl (hb c z)) .inr) hi
          obtain ⟨R1, f1⟩ := R.set_ow (l := l) exF kF hn hi' i hlt
          have RC1 : Rep K (lcF FC ρ0 σ0 [] a) ρ0 g1 σ0 H1 := RC.lc hn ex k1 hi.there []
          refine ih RC1 R1 e1 e2 e3 (fun c z => ?_) hgo _ fun hf vs H' hl R' f' => q hf (.ref a :: vs) H' (by simp [hl]) R' (f1.trans f' R R1)
          have big : ∀ c, imB F ρ σ c ∨ c = a → imB (lcF FC ρ0 σ0 [] a) ρ0 σ0 c := fun c z => by
            rcases z with z | z
            · rcases hb c z with z | z | z
              · exact .inl z
              · exact .inr (.inl z)
              · exact .inr (.inr (.inl z))
            · exact .inr (.inr (.inr (.inl z)))
          refine big c ?_
          rcases z with z | z | z
          · exact .inl (.inl z)
          · obtain ⟨j, l', h1, h2⟩ := z
            by_cases w : i = j
            · subst w
              rw [List.getElem?_set] at h2
              simp only [if_true] at h2
              split at h2
              · cases h2; exact .inr rfl
              · cases h2
            · rw [List.getElem?_set_ne w] at h1 h2
              exact .inl (.inr (.inl ⟨j, l', h1, h2⟩))
          · exact .inl (.inr (.inr z))
        · cases hgo
      · cases hgo
theorem parGo_nx {ρ0 : List Sl} : ∀ {ss : List Stp} {is : List Nat} {ρ ρ' : List Sl} {g g' : G} {fl : Fl}, parGo ρ0 ss is ρ g = some (fl, ρ', g') → fl = .nx := by
  intro ss
  induction ss with
  | nil =>
    intro is ρ ρ' g g' fl h
    cases is <;> cases h
    rfl
  | cons s ss ih =>
    intro is ρ ρ' g g' fl h
    cases is with
    | nil => cases s <;> cases h
    | cons i is =>
      cases s with
      | im m =>
        unfold parGo at h
        split at h
        · exact ih h
        · cases h
      | ow m =>
        unfold parGo at h
        split at h
        · split at h
          · exact ih h
          · cases h
        · cases h
      | od m =>
        unfold parGo at h
        split at h
        · split at h
          · exact ih h
          · cases h
        · cases h
def mPar (ss : List Stp) (is : List Nat) : MSt := fun ρ g => parGo ρ ss is ρ g
theorem rs_par {i j : Nat} {ts : TA} {ss : List Stp} (hp : RPar K E ix ts ss) : RS K E ix (tPar i j ts) (mPar ss [i, j]) := fun F ρ g σ H R fl ρ' g' e De q => by
  have hf := parGo_nx e
  subst hf
  refine par_ok hp R R rfl rfl rfl (fun _ z => z) e _ fun _ vs H' hl R' f' => ?_
  match vs, hl with
  | [v, w], _ => exact ⟨v, w, rfl, q _ H' R' f'⟩
theorem rs_par3 {i j l : Nat} {ts : TA} {ss : List Stp} (hp : RPar K E ix ts ss) : RS K E ix (tPar3 i j l ts) (mPar ss [i, j, l]) := fun F ρ g σ H R fl ρ' g' e De q => by
  have hf := parGo_nx e
  subst hf
  refine par_ok hp R R rfl rfl rfl (fun _ z => z) e _ fun _ vs H' hl R' f' => ?_
  match vs, hl with
  | [u, v, w], _ => exact ⟨u, v, w, rfl, q _ H' R' f'⟩
/-- a, b, .. = (x, y, ..): the tuple is made, its items stored in plain names -/
def gNames : List Nat → TGs
  | [] => gNil
  | i :: is => gCons (gName i) (gNames is)
theorem gNames_run {De : L2.St → Hp → Prop} : ∀ {is : List Nat} {vs : List V} {σ : L2.St} {H : Hp}, vs.length = is.length → De (setAll σ is vs) H → gNames is vs σ H De
  | [], [], _, _, _, q => ⟨rfl, q⟩
  | i :: is, v :: vs, σ, H, hl, q => ⟨v, vs, rfl, gNames_run (is := is) (vs := vs) (by simpa using hl) q⟩
theorem rs_parT {is : List Nat} {ts : TA} {ss : List Stp} (hp : RPar K E ix ts ss) (hz : is.length ≤ 100 := by decide) : RS K E ix (tAsg (tTup ts) (gTup K is.length (gNames is))) (mPar ss is) := fun F ρ g σ H R fl ρ' g' e De q => by
  have hf := parGo_nx e
  subst hf
  refine par_ok hp R R rfl rfl rfl (fun _ z => z) e _ fun _ vs H' hl R' f' => ⟨?_, fun p hp' => ?_⟩
  · rw [hl]; exact Nat.le_trans hz (by decide)
  · have en : Ex (isR F) H' (upd H' p (.tup vs)) := Ex.new hp'
    have R2 := R'.step en (R'.gok.new hp')
    exact ⟨p, vs, rfl, SqT.of upd_same, hl, gNames_run hl (q _ _ R2 (f'.trans (Fr.of en) R R'))⟩
/-! ### min(rows) -/
def unR (l : List D) : Option (List (List Int)) := match l with
  | [] => some []
  | .tup r :: l => (unI r).bind fun ns => (unR l).map (ns :: ·)
  | _ :: _ => none
theorem unR_is : ∀ {l : List D} {rows : List (List Int)}, unR l = some rows → l = rows.map fun r => D.tup (r.map D.int)
  | [], _, h => by unfold unR at h; cases h; rfl
  | .tup r :: l, _, h => by
    unfold unR at h
    cases e : unI r with
    | none => rw [e] at h; cases h
    | some ns =>
      rw [e] at h
      cases e2 : unR l with
      | none => rw [e2] at h; cases h
      | some ms => rw [e2] at h; cases h; rw [unI_is e, unR_is e2]; rfl
  | .non :: _, _, h => by simp [unR] at h
  | .bl _ :: _, _, h => by simp [unR] at h
  | .int _ :: _, _, h => by simp [unR] at h
  | .str _ :: _, _, h => by simp [unR] at h
  | .rng :: _, _, h => by simp [unR] at h
  | .ty _ :: _, _, h => by simp [unR] at h
  | .dic _ _ :: _, _, h => by simp [unR] at h
  | .lst _ :: _, _, h => by simp [unR] at h
theorem unR_map : ∀ (rows : List (List Int)), unR (rows.map fun r => D.tup (r.map D.int)) = some rows
  | [] => rfl
  | r :: rows => by simp [unR, unR_map rows]
def minRow (rows : List (List Int)) : Option (List Int) := rows[argBest (fun i j => lexL (rows.getD i []) (rows.getD j [])) (rows.length - 1)]?
def mMinT (ms : MV (List D)) : MV D := mbind ms fun l => mlift (match l with
  | [.lst m] => (unR m).bind fun rows => (minRow rows).map fun r => .tup (r.map .int)
  | _ => none)
theorem re_minT {ts : TA} {ms : MV (List D)} (h : RA K E ix b ts ms) : RE K E ix b (tCB (rMinT K) ts) (mMinT ms) := fun F ρ g σ H R r g' e Q q =>
  h.one R e q.x fun l vs H1 g1 e1 R1 i1 k1 => by
    obtain ⟨c, hc, rfl, rfl⟩ := mlift_some k1
    split at hc
    · rename_i m
      cases hu : unR m with
      | none => rw [hu] at hc; cases hc
      | some rows =>
        rw [hu] at hc
        simp only [Option.bind_some] at hc
        cases hr : minRow rows with
        | none => rw [hr] at hc; cases hc
        | some r0 =>
          rw [hr] at hc
          cases hc
          rw [unR_is hu] at i1
          obtain ⟨a, xs, rfl, h3, h5⟩ := one_lst i1
          have hlen : rows.length = xs.length := by rw [h5.length, List.length_map]
          have hpos : 0 < rows.length := by
            cases rows with
            | nil => unfold minRow at hr; simp at hr
            | cons _ _ => simp
          refine ⟨a, xs, rows, rfl, SqL.of h3, hlen, hpos, fun i v r hv hr' => ?_, fun v hv => ?_⟩
          · have hd : (rows.map fun r => D.tup (r.map D.int))[i]? = some (D.tup (r.map D.int)) := by rw [List.getElem?_map, hr']; rfl
            obtain ⟨v', hv', p, ys, e', h6, h7⟩ := h5.get hd
            rw [hv] at hv'
            cases hv'
            rw [h7.ints] at h6
            exact ⟨p, e', h6⟩
          · have hd : (rows.map fun r => D.tup (r.map D.int))[argBest (fun i j => lexL (rows.getD i []) (rows.getD j [])) (rows.length - 1)]? = some (D.tup (r0.map D.int)) := by
              rw [List.getElem?_map]
              unfold minRow at hr
              rw [hr]; rfl
            obtain ⟨v', hv', iv⟩ := h5.get hd
            rw [hv] at hv'
            cases hv'
            exact q v H1 e1 R1.gok iv
    · cases hc
/-! ### == of deep values -/
mutual
def toP : D → Option PyData
  | .non => some .none
  | .bl c => some (.bool c)
  | .int i => some (.int i)
  | .str x => some (.str x)
  | .tup l => (toPs l).map .tuple
  | .lst l => (toPs l).map .list
  | _ => none
def toPs : List D → Option (List PyData)
  | [] => some []
  | d :: l => match toP d, toPs l with
    | some p, some ps => some (p :: ps)
    | _, _ => none
end
mutual
theorem toP_is {ra : Addr} {B : Addr → Prop} : ∀ {d : D} {v : V} {p : PyData}, Is K ra B H d v → toP d = some p → Dp K H v p
  | .non, _, _, h, e => by cases (show _ = _ from h); simp [toP] at e; rw [← e]; exact .non
  | .bl c, _, _, h, e => by cases (show _ = _ from h); simp [toP] at e; rw [← e]; exact .bl c
  | .int i, _, _, h, e => by cases (show _ = _ from h); simp [toP] at e; rw [← e]; exact .int i
  | .str x, _, _, h, e => by cases (show _ = _ from h); simp [toP] at e; rw [← e]; exact .str x
  | .rng, _, _, _, e => by simp [toP] at e
  | .ty _, _, _, _, e => by simp [toP] at e
  | .dic _ _, _, _, _, e => by simp [toP] at e
  | .tup l, _, _, h, e => by
    obtain ⟨a, xs, rfl, h2, h3⟩ := h
    simp only [toP, Option.map_eq_some_iff] at e
    obtain ⟨ps, e1, rfl⟩ := e
    exact .tup h2 (toPs_is h3 e1)
  | .lst l, _, _, h, e => by
    obtain ⟨a, xs, rfl, _, h2, h3⟩ := h
    simp only [toP, Option.map_eq_some_iff] at e
    obtain ⟨ps, e1, rfl⟩ := e
    exact .lst (SqL.of h2) (toPs_is h3 e1)
theorem toPs_is {ra : Addr} {B : Addr → Prop} : ∀ {l : List D} {xs : List V} {ps : List PyData}, IsL K ra B H l xs → toPs l = some ps → DpAll K H xs ps
  | [], _, _, h, e => by cases h; unfold toPs at e; cases e; exact .nil
  | d :: l, _, _, h, e => by
    obtain ⟨v, r, rfl, h2, h3⟩ := h
    unfold toPs at e
    split at e
    · rename_i p ps h4 h5
      cases e
      exact .cons (toP_is h2 h4) (toPs_is h3 h5)
    · cases e
end
/-- what may be compared so: without dicts, not too deep -/
def eqD (x y : D) : Option Bool := match toP x, toP y with
  | some p, some q => if SeqAt.shaped p && SeqAt.shaped q = true then some (PyData.eqv p q) else none
  | _, _ => none
def dEqD (x y : D) : Option D := (eqD x y).map .bl
def dNeD (x y : D) : Option D := (eqD x y).map fun c => .bl (!c)
theorem eqD_ok {x y : D} {c : Bool} (h : eqD x y = some c) : ∃ p q, toP x = some p ∧ toP y = some q ∧ SeqAt.shaped p = true ∧ SeqAt.shaped q = true ∧ PyData.eqv p q = c := by
  unfold eqD at h
  split at h
  · rename_i p q h1 h2
    split at h
    · rename_i hs
      cases h
      simp only [Bool.and_eq_true, decide_eq_true_eq] at hs
      exact ⟨p, q, h1, h2, hs.1, hs.2, rfl⟩
    · cases h
  · cases h
theorem sc_eqD : Sc2 K (rEqD K) dEqD := fun ra B B' H x y c p q hp hq e => by
  unfold dEqD at e
  cases hs : eqD x y with
  | none => rw [hs] at e; cases e
  | some b =>
    rw [hs] at e
    cases e
    obtain ⟨d1, d2, h1, h2, h3, h4, h5⟩ := eqD_ok hs
    exact ⟨.bl b, fun _ _ _ => rfl, fun Q k => ⟨d1, d2, toP_is hp h1, toP_is hq h2, h3, h4, by rw [h5]; exact k⟩⟩
theorem sc_neD : Sc2 K (rNeD K) dNeD := fun ra B B' H x y c p q hp hq e => by
  unfold dNeD at e
  cases hs : eqD x y with
  | none => rw [hs] at e; cases e
  | some b =>
    rw [hs] at e
    cases e
    obtain ⟨d1, d2, h1, h2, h3, h4, h5⟩ := eqD_ok hs
    exact ⟨.bl (!b), fun _ _ _ => rfl, fun Q k => ⟨d1, d2, toP_is hp h1, toP_is hq h2, h3, h4, by rw [h5]; exact k⟩⟩
end
end Fw

set_option Elab.async false
set_option linter.all false
set_option maxRecDepth 100000
set_option maxHeartbeats 4000000
/-! Fw9: short words for what is printed of a program -/
namespace Fw
open PySem PySem.Spec PyProof.Rows L2

abbrev rAddI : R2 := rI0 fun i j => .int (i + j)
abbrev rSubI : R2 := rI0 fun i j => .int (i - j)
abbrev rMulI : R2 := rI CMul fun i j => .int (i * j)
abbrev rDivI : R2 := rI CDiv fun i j => .int (i / j)
abbrev rModI : R2 := rI (fun _ j => 0 < j) fun i j => .int (i % j)
abbrev rPowI : R2 := rI CPow fun i j => .int (i ^ j.toNat)
abbrev rLtI : R2 := rI0 fun i j => .bl (decide (i < j))
abbrev rLeI : R2 := rI0 fun i j => .bl (decide (i ≤ j))
abbrev rGtI : R2 := rI0 fun i j => .bl (decide (j < i))
abbrev rGeI : R2 := rI0 fun i j => .bl (decide (j ≤ i))
abbrev rIsNo : R2 := fun x y H Q => y = .non ∧ Q (.bl (decide (x = .non))) H
abbrev rNotNo : R2 := fun x y H Q => y = .non ∧ Q (.bl (!decide (x = .non))) H
abbrev rNegI : V → Hp → VK → Prop := rU fun i => .int (-i)
abbrev rLenA (K : PySem.W.Frag) : List V → Hp → VK → Prop := fun xs H Q => ∃ p ys, xs = [.ref p] ∧ (SqL K H p ys ∨ SqT K H p ys) ∧ Q (.int ys.length) H
abbrev rMax2I : List V → Hp → VK → Prop := fun xs H Q => ∃ i j, xs = [.int i, .int j] ∧ Q (.int (if j > i then j else i)) H
abbrev rMin2I : List V → Hp → VK → Prop := fun xs H Q => ∃ i j, xs = [.int i, .int j] ∧ Q (.int (if j < i then j else i)) H
abbrev rIntA : List V → Hp → VK → Prop := fun xs H Q => (∃ i, xs = [.int i] ∧ Q (.int i) H) ∨ ∃ k, xs = [.bl k] ∧ Q (.int (if k then 1 else 0)) H
abbrev rTupOf (K : PySem.W.Frag) : List V → Hp → VK → Prop := fun xs H Q => ∃ p ys, xs = [.ref p] ∧ ((SqL K H p ys ∧ ∀ l, H l = none → Q (.ref l) (upd H l (.tup ys))) ∨ (SqT K H p ys ∧ Q (.ref p) H))
abbrev rListOf (K : PySem.W.Frag) : List V → Hp → VK → Prop := fun xs H Q => ∃ p ys, xs = [.ref p] ∧ (SqL K H p ys ∨ SqT K H p ys) ∧ ∀ l, H l = none → Q (.ref l) (upd H l (.lst ys))
abbrev tTruK (K : PySem.W.Frag) (t : TE) : TT := fun σ H Q => t σ H fun x H' => ∃ k, TruV K x H' k ∧ Q k H'
def dNeg (x : D) : Option D := match x with
  | .int i => some (.int (-i))
  | _ => none
section
variable {K : PySem.W.Frag}
theorem sc_neg : Sc1 K rNegI dNeg := fun ra B H x c p hp e => by
  unfold dNeg at e
  split at e
  · cases e
    exact ⟨_, fun _ _ _ => rfl, fun Q k => ⟨_, hp, k⟩⟩
  · cases e
end
section
variable {X : Cx} {x : Str} {n : Int} {pos p : Pos} {e : Expr} {es : List Expr} {t : TA} {k nn : Nat} {sp : Sp}
theorem pe_gi (h : ∃ tk, X.mg x = some (.int n tk)) (hg : Gl X x := by rfl) (hd : (x == ("__debug__" : Str)) = false := by decide) : PE X (.Name x pos) (tC (.int n)) := by
  obtain ⟨tk, h⟩ := h
  exact pe_glob hg h ⟨tk, rfl⟩ hd
theorem pe_ty {T : String} (hm : X.mg x = none) (hv : bootBuiltins x = some (.type T)) (hg : Gl X x := by rfl) (hn : x ≠ "__name__" := by decide) (hd : (x == ("__debug__" : Str)) = false := by decide) : PE X (.Name x pos) (tC (.ty T)) := pe_bltn hg hm hv rfl hn hd
theorem re_ty {K : PySem.W.Frag} {E : XK} {ix : IXT} {b : Bool} {T : String} : RE K E ix b (tC (.ty T)) (mret (.ty T)) := re_c fun _ _ _ => rfl
/-- a def of the text that may be called -/
structure Cal (P : Program) (w : World) (K : PySem.W.Frag) (mg : Str → Option Value) (base : Heap) (CX : CXT) (k : Nat) (x : Str) (sp : Sp) : Prop where
  ex : ∃ (f : Addr) (fd : FuncData) (ps : List Str), FnOk P w K mg base CX k f fd ps sp ∧ mg x = some (.ref f) ∧ PySem.W.keepIn K (.ref f) = true ∧ Binds K fd ps []
theorem pe_cal (c : Cal X.prog X.w X.K X.mg X.base CX0 k x sp) (hr : Room k X.A) (ha : PA X (e :: es) t) (hg : Gl X x := by rfl) (hdb : (x == ("__debug__" : Str)) = false := by decide) (he : starEach (e :: es) X.env = (false, eval e X.env) :: starEach es X.env := by rfl) (hpl : (backTo pos (starEach es X.env)).any (·.1) = false := by rfl) :
    PE X (.Call (.Name x p) (e :: es) [] pos) (tCall sp [] E0 t) := by
  obtain ⟨f, fd, ps, F, hm, hk, hb⟩ := c.ex
  exact pe_call F hr hg hm hk hb .nil pass0 ha hdb he hpl
theorem Room.lift {j k : Nat} {A : Around} (r : Room k A) (h : j ≤ k) : Room j A := r.mono h
end
end Fw
namespace Fw
open PySem PySem.Spec PyProof.Rows L2
theorem units8 {k : Nat} {A : Around} (r : Room k A) : A.units + 8 < cLine := by have := r.un; omega
abbrev rDivW : R2 := rI CDivW fun i j => .int (i / j)
/-- a def whose reading is shown by hand -/
theorem fn_okR {P : Program} {w : World} {K : PySem.W.Frag} {mg : Str → Option Value} {base : Heap} {ix : IXT} {x qual : Str} {st : Stmt} {f : Addr} {fd : FuncData} {N ps : List Str} {k n : Nat} {t : TS} {φ : PhiT} (Fu : Fun K x qual st f fd) (S : FnScope N ps (defScope st)) (hn : ps.length = n)
    (hr : ∀ vs H Q E, spOf K ix n φ vs H Q E → t { nx := fun _ H' => Q .non H', rt := Q } (L2.start N vs) H)
    (hp : ∀ (cdv : Value) (A : Around) (outer : List Env) (s : Shared) (H : Hp) (E : XK), Room k (A.deeper (envOfC qual (defScope st) s.heap.objs.size f cdv)) →
      PSs (cxOf CX0 P w K mg base N qual (defScope st) f cdv A outer s H E).nox (defBody st) t) : FnOk P w K mg base CX0 (k + 1) f fd ps (spOf K ix n φ) :=
  Fu.ok S (fun vs H Q E h => by rw [spOf_len h, hn]) fun cdv A outer s H vs Q E hroom hsp => ⟨t, hp cdv A outer s H E hroom, hr vs H Q E hsp⟩
/-- a number is drawn below n -/
def nextG (n : Int) (g : G) : Int × G :=
  let L := g.cs.length
  let c : Int := (g.cs ++ [0]).getD (g.k % (if (L : Int) > 1 then (L : Int) else 1)).toNat 0
  if 1000000000000000000 ≤ c then (c % n, ⟨g.m, g.cs.set (g.k % (L : Int)).toNat (c / n), g.k⟩)
  else
    let m' := (g.m * 48271 + c * 69621 + 11) % 2147483647
    (m' / 7 % n, ⟨m', g.cs, g.k + 1⟩)
def ph__law_next : PhiT := fun ds g => match ds with
  | [.rng, .int n] => if 0 < n ∧ n < 1000000000000000000 then some (.ok (.int (nextG n g).1), (nextG n g).2) else none
  | _ => none
theorem nextG_len (n : Int) (g : G) : (nextG n g).2.cs.length = g.cs.length := by
  unfold nextG
  dsimp only
  generalize (g.cs ++ [0]).getD (g.k % (if (g.cs.length : Int) > 1 then (g.cs.length : Int) else 1)).toNat 0 = c
  split <;> simp
end Fw

set_option Elab.async false
set_option linter.all false
set_option maxRecDepth 100000
set_option maxHeartbeats 4000000
/-! Dk1: keys that are tuples of ints and of tuples of ints -/
namespace Fw
open PySem PySem.Spec PyProof.Rows L2



section
variable {prog : Program} {w : World}
def kiIs (prog : Program) (w : World) (h : Heap) (k : KI) (v : Value) : Prop := match k with
  | .inl i => (PySem.intKind prog w).is i v = true
  | .inr l => ∃ b, v = .ref b ∧ IsTupleKey (PySem.intKind prog w) h l b
inductive KIs (prog : Program) (w : World) (h : Heap) : List KI → List Value → Prop
  | nil : KIs prog w h [] []
  | cons {k : KI} {v : Value} {ks : List KI} {vs : List Value} (a : kiIs prog w h k v) (t : KIs prog w h ks vs) : KIs prog w h (k :: ks) (v :: vs)
def NestKey (prog : Program) (w : World) (h : Heap) (ks : List KI) (a : Addr) : Prop := ∃ o items n, h.get? a = some o ∧ o.cls = .type "tuple" ∧ o.data = .seq items n ∧ KIs prog w h ks items.toList
def kiHash (prog : Program) (w : World) (k : KI) : Int := match k with
  | .inl i => (PySem.intKind prog w).hash i
  | .inr l => tupleKeyHash (PySem.intKind prog w) l
def kiDraw (k : KI) : Nat := match k with
  | .inl _ => 1
  | .inr l => l.length + 1
def kisDraw (ks : List KI) : Nat := (ks.map kiDraw).sum
theorem kiIs.inj {h : Heap} {x y : KI} {v : Value} (a : kiIs prog w h x v) (b : kiIs prog w h y v) : x = y := by
  cases x with
  | inl i =>
    cases y with
    | inl j => rw [(PySem.intKind prog w).inj v i j a b]
    | inr l =>
      obtain ⟨c, rfl, _⟩ := b
      obtain ⟨t, e⟩ := Value.isInt_shape (show Value.isInt i (.ref c) = true from a)
      cases e
  | inr l =>
    obtain ⟨c, rfl, hl⟩ := a
    cases y with
    | inl j =>
      obtain ⟨t, e⟩ := Value.isInt_shape (show Value.isInt j (.ref c) = true from b)
      cases e
    | inr m =>
      obtain ⟨c', e, hm⟩ := b
      cases e
      rw [hl.inj hm]
theorem KIs.inj {h : Heap} {vs : List Value} : ∀ {x y : List KI}, KIs prog w h x vs → KIs prog w h y vs → x = y := by
  intro x y hx hy
  induction hx generalizing y with
  | nil => cases hy; rfl
  | cons a t ih =>
    cases hy with
    | cons b u => rw [a.inj b, ih u]
theorem KIs.length {h : Heap} {x : List KI} {vs : List Value} (hx : KIs prog w h x vs) : x.length = vs.length := by
  induction hx with
  | nil => rfl
  | cons _ _ ih => simp [ih]
theorem NestKey.typeIs {s : Shared} {ks : List KI} {a : Addr} (x : NestKey prog w s.heap ks a) : s.TypeIs (.ref a) "tuple" := let ⟨o, _, _, ho, hc, _⟩ := x; ⟨o, ho, hc⟩
theorem NestKey.inj {h : Heap} {a : Addr} {x y : List KI} (hx : NestKey prog w h x a) (hy : NestKey prog w h y a) : x = y := by
  obtain ⟨o, items, n, ho, _, hd, hi⟩ := hx
  obtain ⟨o', items', n', ho', _, hd', hi'⟩ := hy
  rw [ho] at ho'
  cases ho'
  rw [hd] at hd'
  cases hd'
  exact hi.inj hi'
theorem KIs.mapH {h h' : Heap} {ks : List KI} {vs : List Value} (k : ∀ l b, IsTupleKey (PySem.intKind prog w) h l b → IsTupleKey (PySem.intKind prog w) h' l b) (x : KIs prog w h ks vs) : KIs prog w h' ks vs := by
  induction x with
  | nil => exact .nil
  | @cons ki v ks vs a t ih =>
    refine .cons ?_ ih
    cases ki with
    | inl i => exact a
    | inr l => obtain ⟨b, e, hb⟩ := a; exact ⟨b, e, k l b hb⟩
theorem NestKey.keeps {h h' : Heap} {ks : List KI} {a d : Addr} {o : Obj} {es ep} (x : NestKey prog w h ks a) (ho : h.get? d = some o) (hd : o.data = .dict es ep) (hs : Heap.SameBut d h h') : NestKey prog w h' ks a := by
  obtain ⟨o', items, n, ho', hc, hd', hi⟩ := x
  have hne : a ≠ d := fun z => by
    subst z
    rw [ho] at ho'
    cases ho'
    rw [hd] at hd'
    cases hd'
  exact ⟨o', items, n, (hs.2 a hne).trans ho', hc, hd', hi.mapH fun l b hb => hb.keeps ho hd hs⟩
variable {A : Around} {E : Value → Shared → Prop} {s : Shared}
def nestHash (prog : Program) (w : World) (ks : List KI) : Int := reduceHash (Builtin.Tuple.tupleHashOf (ks.map (kiHash prog w)))
theorem ki_pyHash {k : KI} {v : Value} {Q : Int → Shared → Prop} (hu : A.units < cLine) (hk : kiIs prog w s.heap k v) (h : Q (kiHash prog w k) { s with toks := s.toks + kiDraw k }) : wpAny (model prog w) A (pyHash v) Q E s := by
  cases k with
  | inl i => exact (PySem.intKind prog w).pyHash hk h
  | inr l => obtain ⟨b, rfl, hb⟩ := hk; exact wpAny_pyHash_tuple hu hb h
theorem ki_eqBool {x y : KI} {u v : Value} {Q : Bool → Shared → Prop} (hu : A.units < cLine) (hx : kiIs prog w s.heap x u) (hy : kiIs prog w s.heap y v) (h : Q (decide (x = y)) s) : wpAny (model prog w) A (eqBool u v) Q E s := by
  cases x with
  | inl i =>
    cases y with
    | inl j =>
      refine (PySem.intKind prog w).eqBool hx hy ?_
      have e : decide ((Sum.inl i : KI) = Sum.inl j) = decide (i = j) := by simp
      rw [e] at h; exact h
    | inr m =>
      obtain ⟨t, rfl⟩ := Value.isInt_shape hx
      obtain ⟨b, rfl, hb⟩ := hy
      have e : decide ((Sum.inl i : KI) = Sum.inr m) = false := by simp
      rw [e] at h
      obtain ⟨o, its, n, ho, hc, hd, _⟩ := hb
      exact SeqAt.EqAt.int_tuple (items := its) i t ⟨o, ho, hc, n, hd⟩ hu prog w _ _ h
  | inr l =>
    obtain ⟨b, rfl, hb⟩ := hx
    cases y with
    | inl j =>
      obtain ⟨t, rfl⟩ := Value.isInt_shape hy
      have e : decide ((Sum.inr l : KI) = Sum.inl j) = false := by simp
      rw [e] at h
      obtain ⟨o, its, n, ho, hc, hd, _⟩ := hb
      exact SeqAt.EqAt.tuple_int (items := its) j t ⟨o, ho, hc, n, hd⟩ hu prog w _ _ h
    | inr m =>
      obtain ⟨c, rfl, hc⟩ := hy
      have e : decide ((Sum.inr l : KI) = Sum.inr m) = decide (l = m) := by simp
      rw [e] at h
      exact wpAny_eqBool_tuple hu hb hc h
theorem nest_pyHash {ks : List KI} {a : Addr} {Q : Int → Shared → Prop} (hu : A.units + 1 < cLine) (hk : NestKey prog w s.heap ks a) (h : Q (nestHash prog w ks) { s with toks := s.toks + (kisDraw ks + 1) }) : wpAny (model prog w) A (pyHash (.ref a)) Q E s := by
  have hT := hk.typeIs
  obtain ⟨o, items, n, ho, _, hd, hi⟩ := hk
  unfold pyHash
  first | unfold pyHashByItsType | skip
  first | refine wpAny_bind (wpAny_cRoomFor_or (.inr (by omega)) ?_) | skip
  refine wpAny_bind (wpAny_specialOf hT F.slot_tuple_hash.lookup ?_)
  show wpAny _ _ (if (some (Value.builtin "tuple.__hash__") == some Value.none) = true then _ else _) Q E s
  rw [if_neg (by rw [beq_builtin_none]; exact Bool.false_ne_true)]
  refine wpAny_bind (wpAny_specialOf hT F.slot_tuple_hash.lookup ?_)
  show wpAny _ _ (callSpecialIfBoundUnlessNone? (.ref a) "__hash__" _ >>= _) Q E s
  refine wpAny_bind (wpAny_callSpecialIfBoundUnlessNone?_slot hT F.slot_tuple_hash (wpAny_call_entry F.slot_tuple_hash hT F.entry_tuple_hash ?_ (F.args_tuple_hash_1 _)))
  show wpAny _ _ (Builtin.Tuple.tupleItemsOf (.ref a) >>= _) _ _ s
  refine wpAny_bind (wpAny_tupleItemsOf ho hd (wpAny_bind ?_))
  rw [← Array.forIn_toList]
  refine wpAny_forIn_list _ (fun rest (b : Array Int) s' => ∃ done left, ks = done ++ left ∧ KIs prog w s.heap left rest ∧ b.toList = done.map (kiHash prog w) ∧ s' = { s with toks := s.toks + kisDraw done }) _ ?_ ?_ _ _ ⟨[], ks, rfl, hi, rfl, rfl⟩
  · intro x rest b s' hinv
    obtain ⟨done, left, rfl, hl, hb, rfl⟩ := hinv
    cases hl with
    | @cons k _ ks' _ h1 hl' =>
      have nx : ∃ dn lf, done ++ k :: ks' = dn ++ lf ∧ KIs prog w s.heap lf rest ∧ (b.push (kiHash prog w k)).toList = dn.map (kiHash prog w) ∧ ({ s with toks := s.toks + kisDraw done + kiDraw k } : Shared) = { s with toks := s.toks + kisDraw dn } :=
        ⟨done ++ [k], ks', by simp, hl', by simp [hb], by simp [kisDraw, Nat.add_assoc]⟩
      refine wpAny_bind (ki_pyHash (A := A.in1) (by show A.units + 1 < cLine; exact hu) h1 ?_)
      first
        | exact wpAny_pure nx
        | exact wpAny_bind (wpAny_pure (wpAny_pure nx))
  · intro b s' hinv
    obtain ⟨done, left, rfl, hl, hb, rfl⟩ := hinv
    cases hl
    rw [List.append_nil] at h
    show wpAny _ _ (retInt (Builtin.Tuple.tupleHashOf b.toList)) _ _ _
    rw [hb]
    refine wpAny_ret_mkInt ?_
    show wpAny _ _ (if (decide (-(2 : Int) ^ 63 ≤ Builtin.Tuple.tupleHashOf (done.map (kiHash prog w))) && decide (Builtin.Tuple.tupleHashOf (done.map (kiHash prog w)) < 2 ^ 63)) = true then _ else _) Q E _
    unfold nestHash reduceHash at h
    by_cases hr : (decide (-(2 : Int) ^ 63 ≤ Builtin.Tuple.tupleHashOf (done.map (kiHash prog w))) && decide (Builtin.Tuple.tupleHashOf (done.map (kiHash prog w)) < 2 ^ 63)) = true
    · rw [if_pos hr] at h ⊢
      exact wpAny_pure (by simpa [Nat.add_assoc] using h)
    · rw [if_neg hr] at h ⊢
      exact wpAny_bind (wpAny_rule (wpAny_pure (by simpa [Nat.add_assoc] using h)))
theorem nest_eqTree {x y : List KI} {a b : Addr} {P : Fin → Shared → Prop} (hu : A.units < cLine) (hx : NestKey prog w s.heap x a) (hy : NestKey prog w s.heap y b) (h : P (.done (.ret (.bool (decide (x = y))))) s) :
    wpAny (model prog w) A (Builtin.«tuple.__eq__» ⟨[.ref a, .ref b], []⟩) P E s := by
  have hTb := hy.typeIs
  obtain ⟨oa, xs, na, hoa, _, hda, hia⟩ := hx
  obtain ⟨ob, ys, nb, hob, _, hdb, hib⟩ := hy
  show wpAny _ _ (isInstance (.ref b) (.type "tuple") >>= _) _ _ s
  refine wpAny_bind (wpAny_isInstance hTb isSubtype_tuple_tuple ?_)
  simp only [Bool.not_true, Bool.false_eq_true, if_false]
  refine wpAny_bind (wpAny_tupleItemsOf hoa hda (wpAny_bind (wpAny_tupleItemsOf hob hdb (wpAny_bind ?_))))
  refine wpAny_forIn_list _
    (fun rest r s' => r.1 = none ∧ s' = s ∧ ∃ x' y' xs' ys', rest = List.zip xs' ys' ∧ KIs prog w s.heap x' xs' ∧ KIs prog w s.heap y' ys' ∧ decide (x' = y') = decide (x = y) ∧ (xs'.length == ys'.length) = (xs.size == ys.size))
    _ ?_ ?_ _ _ ⟨rfl, rfl, x, y, xs.toList, ys.toList, rfl, hia, hib, rfl, by simp⟩
  · intro uv rest r s' hinv
    obtain ⟨u, v⟩ := uv
    obtain ⟨hr, rfl, x', y', xs', ys', hz, hx', hy', hdec, hlen⟩ := hinv
    cases hx' with
    | nil => simp at hz
    | @cons k1 u' x'' xs'' h1 hx'' =>
      cases hy' with
      | nil => simp at hz
      | @cons k2 v' y'' ys'' h2 hy'' =>
        simp only [List.zip_cons_cons, List.cons.injEq, Prod.mk.injEq] at hz
        obtain ⟨⟨rfl, rfl⟩, rfl⟩ := hz
        refine wpAny_bind (ki_eqBool (x := k1) (y := k2) hu h1 h2 ?_)
        by_cases hk : k1 = k2
        · subst hk
          rw [decide_eq_true rfl]
          simp only [Bool.not_true, Bool.false_eq_true, if_false]
          refine wpAny_pure ⟨rfl, rfl, x'', y'', xs'', ys'', rfl, hx'', hy'', ?_, by simpa using hlen⟩
          rw [← hdec]
          by_cases hxy : x'' = y'' <;> simp [hxy]
        · rw [decide_eq_false hk]
          simp only [Bool.not_false, if_true]
          have hf : decide (x = y) = false := by rw [← hdec]; simp [hk]
          rw [hf] at h
          exact wpAny_bind (wpAny_pure (wpAny_pure (wpAny_pure h)))
  · intro r s' hinv
    obtain ⟨r1, r2⟩ := r
    obtain ⟨hr, rfl, x', y', xs', ys', hz, hx', hy', hdec, hlen⟩ := hinv
    simp only at hr
    subst hr
    refine wpAny_pure ?_
    have hfin : (xs.size == ys.size) = decide (x = y) := by
      rw [← hdec, ← hlen]
      cases hx' with
      | nil => cases hy' <;> simp
      | cons _ _ =>
        cases hy' with
        | nil => simp
        | cons _ _ => simp at hz
    show P (.done (.ret (.bool (xs.size == ys.size)))) s'
    rw [hfin]
    exact h
theorem nest_eqBool {x y : List KI} {a b : Addr} {Q : Bool → Shared → Prop} (hu : A.units + 1 < cLine) (hx : NestKey prog w s.heap x a) (hy : NestKey prog w s.heap y b) (h : Q (decide (x = y)) s) : wpAny (model prog w) A (eqBool (.ref a) (.ref b)) Q E s := by
  unfold eqBool
  try with_reducible refine wpAny_holding ?_
  show wpAny _ _ (if (Value.ref a == Value.ref b) = true then _ else _) Q E s
  by_cases hab : (Value.ref a == Value.ref b) = true
  · rw [if_pos hab]
    have e : a = b := by have q := eq_of_beq hab; injection q
    subst e
    obtain rfl := hx.inj hy
    exact wpAny_bind (wpAny_rule (wpAny_pure (by simpa using h)))
  · rw [if_neg hab]
    exact wpAny_bind (wpAny_richCompare_same_room (op := .Eq) hx.typeIs hy.typeIs F.slot_tuple_eq
      (wpAny_call_entry F.slot_tuple_eq hx.typeIs F.entry_tuple_eq (nest_eqTree (A := A.in1) (by show A.units + 1 < cLine; exact hu) hx hy ⟨_, rfl, (fun e => nomatch e), wpAny_truthy_bool h⟩) (F.args_tuple_eq_2 _ _)) (by omega))
theorem quiet_ints {ks : List Int} {a : Addr} {n : Nat} {Q : Bool → Shared → Prop} (hk : IsTupleKey (PySem.intKind prog w) s.heap ks a) (h : Q true s) : wpAny (model prog w) A (eqIsQuiet (n + 1) (.ref a)) Q E s := by
  have hT := hk.typeIs
  obtain ⟨o, items, m, ho, _, hd, hi⟩ := hk
  unfold eqIsQuiet
  refine wpAny_bind (wpAny_specialOf hT F.slot_tuple_eq.lookup ?_)
  show wpAny _ _ (isInstance (.ref a) (.type "tuple") >>= _) _ _ s
  refine wpAny_bind (wpAny_isInstance hT isSubtype_tuple_tuple ?_)
  simp only [Bool.not_true, Bool.false_eq_true, if_false]
  refine wpAny_bind (wpAny_seqItems ho hd (wpAny_bind ?_))
  show wpAny _ _ (forIn items _ _) _ _ s
  rw [← Array.forIn_toList]
  refine wpAny_forIn_list _ (fun rest r s' => r.1 = none ∧ s' = s ∧ ∀ v ∈ rest, carriedByValue v = true) _ ?_ ?_ _ _ ⟨rfl, rfl, hi.byValue⟩
  · intro v rest r s' hinv
    obtain ⟨hr, rfl, hall⟩ := hinv
    rw [eqIsQuiet_byValue _ (hall v List.mem_cons_self)]
    refine wpAny_bind (wpAny_pure ?_)
    simp only [Bool.not_true, Bool.false_eq_true, if_false]
    exact wpAny_pure ⟨rfl, rfl, fun u hu' => hall u (List.mem_cons_of_mem _ hu')⟩
  · intro r s' hinv
    obtain ⟨r1, r2⟩ := r
    obtain ⟨hr, rfl, _⟩ := hinv
    simp only at hr
    subst hr
    exact wpAny_pure h
theorem quiet_nest {ks : List KI} {a : Addr} {Q : Bool → Shared → Prop} (hk : NestKey prog w s.heap ks a) (h : Q true s) : wpAny (model prog w) A (eqIsQuiet 8 (.ref a)) Q E s := by
  have hT := hk.typeIs
  obtain ⟨o, items, m, ho, _, hd, hi⟩ := hk
  unfold eqIsQuiet
  refine wpAny_bind (wpAny_specialOf hT F.slot_tuple_eq.lookup ?_)
  show wpAny _ _ (isInstance (.ref a) (.type "tuple") >>= _) _ _ s
  refine wpAny_bind (wpAny_isInstance hT isSubtype_tuple_tuple ?_)
  simp only [Bool.not_true, Bool.false_eq_true, if_false]
  refine wpAny_bind (wpAny_seqItems ho hd (wpAny_bind ?_))
  show wpAny _ _ (forIn items _ _) _ _ s
  rw [← Array.forIn_toList]
  refine wpAny_forIn_list _ (fun rest r s' => r.1 = none ∧ s' = s ∧ ∃ ks, KIs prog w s.heap ks rest) _ ?_ ?_ _ _ ⟨rfl, rfl, ks, hi⟩
  · intro v rest r s' hinv
    obtain ⟨hr, rfl, kk, hall⟩ := hinv
    cases hall with
    | @cons k _ ks' _ h1 ht =>
      cases k with
      | inl i =>
        rw [eqIsQuiet_byValue _ ((PySem.intKind prog w).byValue _ _ h1)]
        refine wpAny_bind (wpAny_pure ?_)
        simp only [Bool.not_true, Bool.false_eq_true, if_false]
        exact wpAny_pure ⟨rfl, rfl, ks', ht⟩
      | inr l =>
        obtain ⟨b, rfl, hb⟩ := h1
        refine wpAny_bind (quiet_ints hb ?_)
        simp only [Bool.not_true, Bool.false_eq_true, if_false]
        exact wpAny_pure ⟨rfl, rfl, ks', ht⟩
  · intro r s' hinv
    obtain ⟨r1, r2⟩ := r
    obtain ⟨hr, rfl, _⟩ := hinv
    simp only at hr
    subst hr
    exact wpAny_pure h
end
def nestKind (prog : Program) (w : World) : HeapKind prog w (List KI) where
  is := NestKey prog w
  hash := nestHash prog w
  draws := fun ks => kisDraw ks + 1
  room := fun A => A.units + 1 < cLine
  inj := fun hx hy => hx.inj hy
  keeps := fun x ho hd hs => x.keeps ho hd hs
  pyHash := fun hu hk h => nest_pyHash hu hk h
  eqBool := fun hu hx hy h => nest_eqBool hu hx hy h
  quiet := fun hk h => quiet_nest hk h
end Fw

set_option Elab.async false
set_option linter.all false
set_option maxRecDepth 100000
set_option maxHeartbeats 4000000
/-! Dk2: dicts of one's own, keys that are tuples of ints and of tuples of ints: rules of the machine -/
namespace Fw
open PySem PySem.Spec PyProof.Rows L2

section
variable {X : Cx} {pins : List (Addr × Obj)} {σ : L2.St} {H : Hp} {s : Shared} {a b d : Addr} {ks : List KI} {xs : List (List KI × Addr × Value)} {A : Around} {E : Value → Shared → Prop}
theorem isInt_int (i : Int) (t) : Value.isInt i (.int i t) = true := by first | exact mixKind_int ⟨[]⟩ default i t | simp [Value.isInt] | (unfold Value.isInt; simp)
theorem kis_of : ∀ {ks : List KI} {vs : List V} {us : List Value}, Inv X pins σ H s → kisAt X.K H ks vs → Vals vs us → KIs X.prog X.w s.heap ks us
  | [], _, _, I, h, r => by cases (show _ = _ from h); cases r; exact .nil
  | k :: ks, _, _, I, h, r => by
    obtain ⟨v, vr, rfl, h1, h2⟩ := h
    cases r with
    | cons q t =>
      refine .cons ?_ (kis_of I h2 t)
      cases k with
      | inl i =>
        have e : v = .int i := h1
        subst e
        obtain ⟨t, rfl⟩ := q
        exact isInt_int i t
      | inr l =>
        obtain ⟨c, rfl, h3⟩ := h1
        cases (show _ = Value.ref c from q)
        refine ⟨c, rfl, ?_⟩
        obtain ⟨its, r, ⟨o, e1, e2, n, e3⟩, _⟩ := I.tuple h3
        refine ⟨o, its.toArray, n, e1, e2, e3, ?_⟩
        have go : ∀ {l : List Int} {us : List Value}, Vals (l.map V.int) us → ItemsAre (PySem.intKind X.prog X.w) l us := by
          intro l
          induction l with
          | nil => intro us r; cases r; exact .nil
          | cons i l ih =>
            intro us r
            cases r with
            | cons q t =>
              obtain ⟨tk, rfl⟩ := q
              exact .cons (isInt_int i tk) (ih t)
        simpa using go r
theorem nest_of (I : Inv X pins σ H s) (h : keyAt X.K H ks b) : NestKey X.prog X.w s.heap ks b := by
  obtain ⟨vs, h1, h2⟩ := h
  obtain ⟨its, r, ⟨o, e1, e2, n, e3⟩, _⟩ := I.tuple h1
  exact ⟨o, its.toArray, n, e1, e2, e3, by simpa using kis_of I h2 r⟩
/-- a dict of one's own, its keys as they stand -/
def NDic (K : PySem.W.Frag) (H : Hp) (a : Addr) (xs : List (List KI × Addr × Value)) : Prop := H a = some (dctO a xs) ∧ ∀ x ∈ xs, keyAt K H x.1 x.2.1
theorem nd_of (I : Inv X pins σ H s) (h : NDic X.K H d xs) : xs.length ≤ sizeLine ∧ (d == sysModules) = false ∧ s.heap.DictOfH (nestKind X.prog X.w) d xs := by
  obtain ⟨h1, h2⟩ := h
  obtain ⟨⟨z, hd, nd, o, es, ep, e1, e2, e3, e4⟩, _, _⟩ := (show ObjOk X.prog X.w H s.heap d (dctO d xs) from I.hok d _ h1)
  exact ⟨z, hd, o, es, ep, e1, e2, e3, e4, fun x hx => nest_of I (h2 x hx), nd⟩
theorem dctO_new {P : Program} {w : World} {H' : Hp} {h' : Heap} (z : xs.length ≤ sizeLine) (hd : (d == sysModules) = false) (dd : h'.DictOfH (nestKind P w) d xs) : ObjOk P w H' h' d (dctO d xs) := by
  obtain ⟨o, es, ep, e1, e2, e3, e4, _, nd⟩ := dd
  refine ⟨⟨z, hd, nd, o, es, ep, e1, e2, e3, e4⟩, ⟨o, e1⟩, ?_⟩
  rintro h1 h2 ⟨z, hd, nd, o, es, ep, e1, e2, e3, e4⟩ st
  exact ⟨z, hd, nd, o, es, ep, st _ e1, e2, e3, e4⟩
theorem n_in {Q : Value → Shared → Prop} (hu : A.units + 2 < cLine) (I : Inv X pins σ H s) (g : NDic X.K H d xs) (hk : keyAt X.K H ks b) (h : ∀ s', Inv X pins σ H s' → Q (.bool (atKey xs ks).isSome) s') :
    wpAny (model X.prog X.w) A (compareOp .In (.ref b) (.ref d)) Q E s := by
  obtain ⟨z, hd, dd⟩ := nd_of I g
  exact wpAny_in_heap (knd := nestKind X.prog X.w) hu (nest_of I hk) hd dd (h _ (I.tok _))
theorem n_notIn {Q : Value → Shared → Prop} (hu : A.units + 2 < cLine) (I : Inv X pins σ H s) (g : NDic X.K H d xs) (hk : keyAt X.K H ks b) (h : ∀ s', Inv X pins σ H s' → Q (.bool (!(atKey xs ks).isSome)) s') :
    wpAny (model X.prog X.w) A (compareOp .NotIn (.ref b) (.ref d)) Q E s := by
  obtain ⟨z, hd, dd⟩ := nd_of I g
  exact wpAny_notIn_heap (knd := nestKind X.prog X.w) hu (nest_of I hk) hd dd (h _ (I.tok _))
theorem n_getItem {Q : Value → Shared → Prop} {p : Addr × Value} (hu : A.units + 2 < cLine) (I : Inv X pins σ H s) (g : NDic X.K H d xs) (hk : keyAt X.K H ks b) (hp : atKey xs ks = some p) (h : ∀ s', Inv X pins σ H s' → Q p.2 s') :
    wpAny (model X.prog X.w) A (getItem (.ref d) (.ref b)) Q E s := by
  obtain ⟨z, hd, dd⟩ := nd_of I g
  exact wpAny_getItem_heap (knd := nestKind X.prog X.w) hu (nest_of I hk) dd hp (h _ (I.tok _))
theorem length_storedH (xs : List (List KI × Addr × Value)) (k : List KI) (a : Addr) (v : Value) : (storedH xs k a v).length ≤ xs.length + 1 := by
  unfold storedH
  split
  · rw [List.length_map]; omega
  · rw [List.length_append, List.length_cons, List.length_nil]; omega
theorem n_setItem {Q : Unit → Shared → Prop} {r : Value} (hu : A.units + 2 < cLine) (I : Inv X pins σ H s) (g : NDic X.K H d xs) (hk : keyAt X.K H ks b) (hl : xs.length < sizeLine)
    (h : ∀ s', Inv X pins σ (upd H d (dctO d (storedH xs ks b r))) s' → Q () s') : wpAny (model X.prog X.w) A (setItem (.ref d) (.ref b) r) Q E s := by
  obtain ⟨z, hd, dd⟩ := nd_of I g
  refine wpAny_setItem_heap (knd := nestKind X.prog X.w) (hsz := z) hu (nest_of I hk) dd fun h' dd' hs => h _ ?_
  have he : ∃ q, h'.get? d = some q := let ⟨q, _, _, hq, _⟩ := dd'; ⟨q, hq⟩
  exact d_write I (by rw [g.1]; exact True.intro) hs he (dctO_new (by have := length_storedH xs ks b r; omega) hd dd')
theorem nd_type (I : Inv X pins σ H s) (g : NDic X.K H d xs) : s.TypeIs (.ref d) "dict" := (nd_of I g).2.2.typeIs
theorem nd_noDict (I : Inv X pins σ H s) (g : NDic X.K H d xs) : ∀ c, Value.ref d = .ref c → ∃ ob, s.heap.get? c = some ob ∧ ob.dict = none := fun c q => by
  cases q
  obtain ⟨_, _, ob, _, _, h1, h2, _⟩ := nd_of I g
  exact ⟨ob, h1, h2.2.1⟩
theorem n_get2 {Q : Value → Shared → Prop} {r : Value} (hu : A.units + 2 < cLine) (I : Inv X pins σ H s) (g : NDic X.K H d xs) (hk : keyAt X.K H ks b) (h : ∀ s', Inv X pins σ H s' → Q (((atKey xs ks).map (·.2)).getD r) s') :
    wpAny (model X.prog X.w) A (call (.builtin "dict.get") [.ref d, .ref b, r]) Q E s := by
  obtain ⟨z, hd, dd⟩ := nd_of I g
  exact call_meetsIn PySem.F.slot_dict_get dd.typeIs PySem.F.entry_dict_get (PySem.F.args_dict_get_3 _ _ _) (meetsH_dict_get_default (nestKind X.prog X.w) d b hd r) ⟨hu, ks, xs, nest_of I hk, dd, h _ (I.tok _)⟩
end

def tNIn (K : PySem.W.Frag) (ty td : TE) : TE := fun σ H Q => ty σ H fun y H1 => td σ H1 fun x H2 => ∃ a b xs ks, x = .ref a ∧ y = .ref b ∧ NDic K H2 a xs ∧ keyAt K H2 ks b ∧ Q (.bl (atKey xs ks).isSome) H2
def tNNotIn (K : PySem.W.Frag) (ty td : TE) : TE := fun σ H Q => ty σ H fun y H1 => td σ H1 fun x H2 => ∃ a b xs ks, x = .ref a ∧ y = .ref b ∧ NDic K H2 a xs ∧ keyAt K H2 ks b ∧ Q (.bl (!(atKey xs ks).isSome)) H2
def tNGet (K : PySem.W.Frag) (td ty : TE) : TE := fun σ H Q => td σ H fun x H1 => ty σ H1 fun y H2 => ∃ a b xs ks p v, x = .ref a ∧ y = .ref b ∧ NDic K H2 a xs ∧ keyAt K H2 ks b ∧ atKey xs ks = some p ∧ RelV v p.2 ∧ Q v H2
def tNGet2 (K : PySem.W.Frag) (td ty tx : TE) : TE := fun σ H Q => td σ H fun x H1 => ∃ a, x = .ref a ∧ (∃ xs, NDic K H1 a xs) ∧ ty σ H1 fun y H2 => tx σ H2 fun z H3 => ∃ b xs ks, y = .ref b ∧ NDic K H3 a xs ∧ keyAt K H3 ks b ∧
  ((∃ p v, atKey xs ks = some p ∧ RelV v p.2 ∧ Q v H3) ∨ (atKey xs ks = none ∧ Q z H3))
def sNPut (K : PySem.W.Frag) (td ty tv : TE) : TS := fun De σ H => tv σ H fun v H1 => td σ H1 fun x H2 => ty σ H2 fun y H3 => ∃ a b xs ks, x = .ref a ∧ y = .ref b ∧ NDic K H3 a xs ∧ keyAt K H3 ks b ∧ xs.length < sizeLine ∧
  ∀ u, RelV v u → De.nx σ (upd H3 a (dctO a (storedH xs ks b u)))
def tNNew : TE := fun _ H Q => ∀ p, H p = none → Q (.ref p) (upd H p (dctO p []))
section
variable {X : Cx} {K : PySem.W.Frag} {o i e f value : Expr} {pos pos' apos cpos : Pos} {td ty tv tx : TE}
theorem pc_nin (hK : X.K = K) (hu : X.A.units + 2 < cLine) (hi : PE X i ty) (ho : PE X o td) : PC X .In i o (tNIn K ty td) := by
  subst hK
  refine ⟨fun pins s σ H Q I h => ?_⟩
  refine thn (hi.run pins s σ H _ I h) fun iv s1 ⟨y, H1, I1, ry, q1⟩ => thn (ho.run pins s1 σ H1 _ I1 q1) fun u s2 ⟨x, H2, I2, rx, a, b, xs, ks, ex, ey, g, hk, q2⟩ => ?_
  subst ex ey
  obtain rfl : u = Value.ref a := rx
  obtain rfl : iv = Value.ref b := ry
  exact n_in hu I2 g hk fun s3 I3 => ⟨.bl (atKey xs ks).isSome, H2, I3, rfl, q2⟩
theorem pc_nnotin (hK : X.K = K) (hu : X.A.units + 2 < cLine) (hi : PE X i ty) (ho : PE X o td) : PC X .NotIn i o (tNNotIn K ty td) := by
  subst hK
  refine ⟨fun pins s σ H Q I h => ?_⟩
  refine thn (hi.run pins s σ H _ I h) fun iv s1 ⟨y, H1, I1, ry, q1⟩ => thn (ho.run pins s1 σ H1 _ I1 q1) fun u s2 ⟨x, H2, I2, rx, a, b, xs, ks, ex, ey, g, hk, q2⟩ => ?_
  subst ex ey
  obtain rfl : u = Value.ref a := rx
  obtain rfl : iv = Value.ref b := ry
  exact n_notIn hu I2 g hk fun s3 I3 => ⟨.bl (!(atKey xs ks).isSome), H2, I3, rfl, q2⟩
theorem pe_nget (hK : X.K = K) (hu : X.A.units + 2 < cLine) (ho : PE X o td) (hi : PE X i ty) (hs : NoSl i) : PE X (.Subscript o i pos) (tNGet K td ty) := by
  subst hK
  refine ⟨fun pins s σ H Q I h => ?_⟩
  refine subD_of PySem.F.slot_dict_getitem.lookup hs (thn (ho.run pins s σ H _ I h) fun u s1 ⟨x, H1, I1, rx, q1⟩ => thn (hi.run pins s1 σ H1 _ I1 q1) fun iv s2 ⟨y, H2, I2, ry, a, b, xs, ks, p, v, ex, ey, g, hk, hp, rv, q2⟩ => ?_)
  subst ex ey
  obtain rfl : u = Value.ref a := rx
  obtain rfl : iv = Value.ref b := ry
  exact ⟨nd_type I2 g, n_getItem hu I2 g hk hp fun s3 I3 => ⟨v, H2, I3, rv, q2⟩⟩
theorem pe_nget2 (hK : X.K = K) (hu : X.A.units + 2 < cLine) (ho : PE X o td) (he : PE X e ty) (hf : PE X f tx) (m : M2 X o "get" apos e f cpos) : PE X (.Call (.Attribute o "get" apos) [e, f] [] cpos) (tNGet2 K td ty tx) := by
  subst hK
  refine ⟨fun pins s σ H Q I h => ?_⟩
  refine wpAny_Call_method m.base m.few m.line PySem.F.plainAttrs_dict PySem.F.slot_dict_get PySem.F.type_dict_get (thn (ho.run pins s σ H _ I h) fun u s1 ⟨x, H1, I1, rx, a, ex, ⟨xs0, d0⟩, q1⟩ => ?_)
  subst ex
  obtain rfl : u = Value.ref a := rx
  refine ⟨nd_type I1 d0, nd_noDict I1 d0, ?_⟩
  rw [m.trees]
  refine Calls.callWith_builtin rfl (Calls.evalArgs_plain (Calls.spliced_cons (thn (he.run pins s1 σ H1 _ I1 q1) fun iv s2 ⟨y, H2, I2, ry, q2⟩ =>
    Calls.spliced_cons (thn (hf.run pins s2 σ H2 _ I2 q2) fun fv s3 ⟨z, H3, I3, rz, b, xs, ks, ey, g, hk, q3⟩ => Calls.spliced_nil ?_))))
  subst ey
  obtain rfl : iv = Value.ref b := ry
  refine n_get2 hu I3 g hk fun s4 I4 => ?_
  rcases q3 with ⟨p, v, hp, rv, q3⟩ | ⟨hp, q3⟩
  · rw [hp]; exact ⟨v, H3, I4, rv, q3⟩
  · rw [hp]; exact ⟨z, H3, I4, rz, q3⟩
theorem ps_nput (hK : X.K = K) (hu : X.A.units + 2 < cLine) (ho : PE X o td) (hi : PE X i ty) (hv : PE X value tv) (hs : swapsWith value (some (.Subscript o i pos')) pos.line X.env = pure false) :
    PS X (.Assign [.Subscript o i pos'] value pos) (sNPut K td ty tv) := by
  subst hK
  refine ⟨fun pins s σ H D I h => ?_⟩
  refine wpAny_Assign_Subscript (thn (hv.run pins s σ H _ I h) fun r s1 ⟨v, H1, I1, rv, q1⟩ => thn (ho.run pins s1 σ H1 _ I1 q1) fun u s2 ⟨x, H2, I2, rx, q2⟩ => thn (hi.run pins s2 σ H2 _ I2 q2) fun iv s3 ⟨y, H3, I3, ry, a, b, xs, ks, ex, ey, g, hk, hl, q3⟩ => ?_) hs
  subst ex ey
  obtain rfl : u = Value.ref a := rx
  obtain rfl : iv = Value.ref b := ry
  exact n_setItem hu I3 g hk hl fun s4 I4 => ⟨σ, _, I4, q3 r rv⟩
theorem pe_nnew : PE X (.Dict [] [] pos) tNNew := ⟨fun pins s σ H Q I h =>
  wpAny_Dict_empty ⟨.ref s.heap.objs.size, _, I.laid (a := s.heap.objs.size) (o := dctO s.heap.objs.size []) (t' := s.toks) (fun _ _ q => Heap.get?_push_of_some _ q) (Nat.le_refl _)
    (dctO_new (P := X.prog) (w := X.w) (Nat.zero_le _) (beq_eq_false_iff_ne.mpr (Ne.symm (Nat.ne_of_lt I.big))) (Heap.DictOfH.new s.heap)), rfl, h _ (I.hok.fresh (Nat.le_refl _))⟩⟩
end
end Fw

set_option Elab.async false
set_option linter.all false
set_option maxRecDepth 100000
set_option maxHeartbeats 4000000
/-! Dk3: dicts of one's own: what their readings are worth -/
namespace Fw
open PySem PySem.Spec PyProof.Rows L2

def intsOf : List D → Option (List Int)
  | [] => some []
  | d :: l => match d, intsOf l with
    | .int i, some r => some (i :: r)
    | _, _ => none
def kiOf (d : D) : Option KI := match d with
  | .int i => some (.inl i)
  | .tup l => (intsOf l).map .inr
  | _ => none
def kisOf : List D → Option (List KI)
  | [] => some []
  | d :: l => match kiOf d, kisOf l with
    | some k, some r => some (k :: r)
    | _, _ => none
def keyOf (d : D) : Option (List KI) := match d with
  | .tup l => kisOf l
  | _ => none
theorem intsOf_is : ∀ {l : List D} {ns : List Int}, intsOf l = some ns → l = ns.map D.int
  | [], _, h => by cases h; rfl
  | d :: l, _, h => by
    unfold intsOf at h
    split at h
    · rename_i i r hr
      cases h
      rw [intsOf_is hr]; rfl
    · cases h
def dlook : List (List KI × D) → List KI → Option D
  | [], _ => none
  | kv :: r, k => if kv.1 = k then some kv.2 else dlook r k
def dput (kvs : List (List KI × D)) (k : List KI) (d : D) : List (List KI × D) := match dlook kvs k with
  | some _ => kvs.map fun kv => if kv.1 = k then (kv.1, d) else kv
  | none => kvs ++ [(k, d)]
section
variable {K : PySem.W.Frag} {ra : Addr} {B : Addr → Prop} {H : Hp} {kvs : List (List KI × D)} {xs : List (List KI × Addr × Value)} {k : List KI}
theorem kis_at : ∀ {l : List D} {ks : List KI} {vs : List V}, kisOf l = some ks → IsL K ra B H l vs → kisAt K H ks vs
  | [], _, _, h, i => by cases h; exact i
  | d :: l, _, _, h, i => by
    obtain ⟨v, r, rfl, i1, i2⟩ := i
    unfold kisOf at h
    split at h
    · rename_i k ks hk hks
      cases h
      refine ⟨v, r, rfl, ?_, kis_at hks i2⟩
      cases d with
      | int i => cases hk; exact i1
      | tup l' =>
        obtain ⟨ns, hn, rfl⟩ := Option.map_eq_some_iff.mp hk
        obtain ⟨a, ys, e, h1, h2⟩ := i1
        rw [intsOf_is hn] at h2
        rw [IsL.ints h2] at h1
        exact ⟨a, e, h1⟩
      | _ => cases hk
    · cases h
theorem key_at {d : D} {ks : List KI} {v : V} (h : keyOf d = some ks) (i : Is K ra B H d v) : ∃ b, v = .ref b ∧ keyAt K H ks b := by
  cases d with
  | tup l =>
    obtain ⟨a, ys, e, h1, h2⟩ := i
    exact ⟨a, e, ys, h1, kis_at h h2⟩
  | _ => cases h
theorem DicIs.keysAt : ∀ {kvs : List (List KI × D)} {xs : List (List KI × Addr × Value)}, DicIs K ra B H kvs xs → ∀ x ∈ xs, keyAt K H x.1 x.2.1
  | [], _, h, x, hx => by rw [show _ = _ from h] at hx; cases hx
  | kv :: r, _, h, x, hx => by
    obtain ⟨y, xr, v, rfl, h2, h3, h4, h5, h6⟩ := h
    rcases List.mem_cons.mp hx with e | hx
    · rw [e]; exact h3
    · exact DicIs.keysAt h6 x hx
theorem DicIs.length : ∀ {kvs : List (List KI × D)} {xs : List (List KI × Addr × Value)}, DicIs K ra B H kvs xs → xs.length = kvs.length
  | [], _, h => by rw [show _ = _ from h]; rfl
  | kv :: r, _, h => by
    obtain ⟨y, xr, v, rfl, _, _, _, _, h6⟩ := h
    rw [List.length_cons, List.length_cons, DicIs.length h6]
theorem DicIs.find : ∀ {kvs : List (List KI × D)} {xs : List (List KI × Addr × Value)}, DicIs K ra B H kvs xs →
    (dlook kvs k = none ∧ atKey xs k = none) ∨ ∃ d p v, dlook kvs k = some d ∧ atKey xs k = some p ∧ RelV v p.2 ∧ Is K ra B H d v
  | [], _, h => by rw [show _ = _ from h]; exact .inl ⟨rfl, rfl⟩
  | kv :: r, _, h => by
    obtain ⟨y, xr, v, rfl, h2, h3, h4, h5, h6⟩ := h
    unfold dlook
    by_cases e : kv.1 = k
    · rw [if_pos e]
      refine .inr ⟨kv.2, y.2, v, rfl, ?_, h4, h5⟩
      simp [atKey, List.find?_cons, h2.symm.trans e]
    · rw [if_neg e]
      have e' : ¬ y.1 = k := fun z => e (h2.trans z)
      have b : atKey (y :: xr) k = atKey xr k := by simp [atKey, List.find?_cons, e']
      rw [b]
      exact DicIs.find h6
theorem DicIs.snoc {d : D} {v : V} {u : Value} {b : Addr} (hk : keyAt K H k b) (rv : RelV v u) (i : Is K ra B H d v) : ∀ {kvs : List (List KI × D)} {xs : List (List KI × Addr × Value)}, DicIs K ra B H kvs xs → DicIs K ra B H (kvs ++ [(k, d)]) (xs ++ [(k, b, u)])
  | [], _, h => by rw [show _ = _ from h]; exact ⟨_, [], v, rfl, rfl, hk, rv, i, rfl⟩
  | kv :: r, _, h => by
    obtain ⟨y, xr, w, rfl, h2, h3, h4, h5, h6⟩ := h
    exact ⟨y, _, w, rfl, h2, h3, h4, h5, DicIs.snoc hk rv i h6⟩
theorem DicIs.repl {d : D} {v : V} {u : Value} (rv : RelV v u) (i : Is K ra B H d v) : ∀ {kvs : List (List KI × D)} {xs : List (List KI × Addr × Value)}, DicIs K ra B H kvs xs → DicIs K ra B H (kvs.map fun kv => if kv.1 = k then (kv.1, d) else kv) (xs.map (putAt k u))
  | [], _, h => by rw [show _ = _ from h]; rfl
  | kv :: r, _, h => by
    obtain ⟨y, xr, w, rfl, h2, h3, h4, h5, h6⟩ := h
    rw [List.map_cons, List.map_cons]
    by_cases e : kv.1 = k
    · have e' : y.1 = k := h2.symm.trans e
      refine ⟨_, _, v, rfl, ?_, ?_, ?_, ?_, DicIs.repl rv i h6⟩
      · rw [if_pos e]; unfold putAt; rw [if_pos e']; exact h2
      · unfold putAt; rw [if_pos e']; exact h3
      · unfold putAt; rw [if_pos e']; exact rv
      · rw [if_pos e]; exact i
    · have e' : ¬ y.1 = k := fun z => e (h2.trans z)
      refine ⟨_, _, w, rfl, ?_, ?_, ?_, ?_, DicIs.repl rv i h6⟩
      · rw [if_neg e]; unfold putAt; rw [if_neg e']; exact h2
      · unfold putAt; rw [if_neg e']; exact h3
      · unfold putAt; rw [if_neg e']; exact h4
      · rw [if_neg e]; exact h5
theorem DicIs.put {d : D} {v : V} {u : Value} {b : Addr} (h : DicIs K ra B H kvs xs) (hk : keyAt K H k b) (rv : RelV v u) (i : Is K ra B H d v) : DicIs K ra B H (dput kvs k d) (storedH xs k b u) := by
  unfold dput storedH
  rcases h.find (k := k) with ⟨e1, e2⟩ | ⟨d', p, w, e1, e2, _⟩
  · rw [e1, e2]; exact DicIs.snoc hk rv i h
  · rw [e1, e2]; exact DicIs.repl rv i h
end

section
variable {K : PySem.W.Frag} {E : XK} {ix : IXT} {F : Fx} {ρ ρ' ρ1 : List Sl} {g g' g1 : G} {σ σ' σ1 : L2.St} {H H' H1 : Hp} {b b1 b2 : Bool} {t ty ta tb tc : TE} {m my ma mb mc : MV D}
def getDc (s : Option Sl) : Option (List (List KI × D)) := match s with
  | some (.ow (.dic l)) => some l
  | _ => none
theorem getDc_is {s : Option Sl} {l : List (List KI × D)} (h : getDc s = some l) : s = some (.ow (.dic l)) := by
  unfold getDc at h
  split at h
  · cases h; rfl
  · cases h
theorem Rep.own_dc (R : Rep K F ρ g σ H) {i : Nat} {l : List (List KI × D)} (hl : ρ[i]? = some (Sl.ow (.dic l))) : ∃ a xs, σ[i]? = some (some (V.ref a)) ∧ H a = some (dctO a xs) ∧ DicIs K F.ra (imB F ρ σ) H l xs ∧ ¬ isR F a := by
  obtain ⟨x, hx, a, rfl, _, _, xs, q4, q5⟩ := R.sl i _ hl
  exact ⟨a, xs, hx, q4, q5, (R.own ⟨i, _, hl, hx⟩).2.1⟩
theorem nd_step {a : Addr} {l : List (List KI × D)} {xs : List (List KI × Addr × Value)} (R : Rep K F ρ g σ H) (e : Ex (isR F) H H') (nR : ¬ isR F a) (ha : H a = some (dctO a xs)) (hi : DicIs K F.ra (imB F ρ σ) H l xs) :
    NDic K H' a xs ∧ DicIs K F.ra (imB F ρ σ) H' l xs :=
  have h' := DicIs.step R.im_r e hi
  ⟨⟨e a _ ha fun z => absurd z nR, h'.keysAt⟩, h'⟩
def mNIn (neg : Bool) (i : Nat) (my : MV D) : MV D := fun ρ g => match my ρ g with
  | some (.ok d, g1) => (match getDc ρ[i]?, keyOf d with
    | some kvs, some ks => some (.ok (.bl (neg != (dlook kvs ks).isSome)), g1)
    | _, _ => none)
  | some (.ex x, g1) => some (.ex x, g1)
  | none => none
theorem re_nin {i : Nat} (hy : RE K E ix b1 ty my) : RE K E ix b (tNIn K ty (tVar i)) (mNIn false i my) := fun F ρ g σ H R r g' e Q q => by
  unfold mNIn at e
  split at e
  · rename_i d g1 hm
    split at e
    · rename_i kvs ks hl' hk
      cases e
      obtain ⟨a, xs, hx, ha, hi, nR⟩ := R.own_dc (getDc_is hl')
      refine hy F ρ g σ H R _ _ hm _ fun v H1 e1 k1 i1 => ⟨_, hx, ?_⟩
      obtain ⟨bk, rfl, kat⟩ := key_at hk i1
      obtain ⟨nd, di⟩ := nd_step R e1 nR ha hi
      refine ⟨a, bk, xs, ks, rfl, rfl, nd, kat, ?_⟩
      have z : (dlook kvs ks).isSome = (atKey xs ks).isSome := by
        rcases di.find (k := ks) with ⟨z1, z2⟩ | ⟨_, _, _, z1, z2, _⟩ <;> rw [z1, z2] <;> rfl
      refine q _ H1 e1 k1 ?_
      rw [← z, Bool.false_bne]; rfl
    · cases e
  · rename_i x g1 hm
    cases e
    exact hy F ρ g σ H R _ _ hm _ q
  · cases e
theorem re_nnotin {i : Nat} (hy : RE K E ix b1 ty my) : RE K E ix b (tNNotIn K ty (tVar i)) (mNIn true i my) := fun F ρ g σ H R r g' e Q q => by
  unfold mNIn at e
  split at e
  · rename_i d g1 hm
    split at e
    · rename_i kvs ks hl' hk
      cases e
      obtain ⟨a, xs, hx, ha, hi, nR⟩ := R.own_dc (getDc_is hl')
      refine hy F ρ g σ H R _ _ hm _ fun v H1 e1 k1 i1 => ⟨_, hx, ?_⟩
      obtain ⟨bk, rfl, kat⟩ := key_at hk i1
      obtain ⟨nd, di⟩ := nd_step R e1 nR ha hi
      refine ⟨a, bk, xs, ks, rfl, rfl, nd, kat, ?_⟩
      have z : (dlook kvs ks).isSome = (atKey xs ks).isSome := by
        rcases di.find (k := ks) with ⟨z1, z2⟩ | ⟨_, _, _, z1, z2, _⟩ <;> rw [z1, z2] <;> rfl
      refine q _ H1 e1 k1 ?_
      rw [← z, Bool.true_bne]; rfl
    · cases e
  · rename_i x g1 hm
    cases e
    exact hy F ρ g σ H R _ _ hm _ q
  · cases e
def mNGet (i : Nat) (my : MV D) : MV D := fun ρ g => match getDc ρ[i]? with
  | none => none
  | some kvs => match my ρ g with
    | some (.ok d, g1) => (match (keyOf d).bind (dlook kvs) with
      | some c => some (.ok c, g1)
      | none => none)
    | some (.ex x, g1) => some (.ex x, g1)
    | none => none
theorem re_nget {i : Nat} (hy : RE K E ix b1 ty my) : RE K E ix b (tNGet K (tVar i) ty) (mNGet i my) := fun F ρ g σ H R r g' e Q q => by
  unfold mNGet at e
  split at e
  · cases e
  rename_i kvs hl'
  obtain ⟨a, xs, hx, ha, hi, nR⟩ := R.own_dc (getDc_is hl')
  refine ⟨_, hx, ?_⟩
  split at e
  · rename_i d g1 hm
    split at e
    · rename_i c hc
      cases e
      obtain ⟨ks, hk, hc⟩ := Option.bind_eq_some_iff.mp hc
      refine hy F ρ g σ H R _ _ hm _ fun v H1 e1 k1 i1 => ?_
      obtain ⟨bk, rfl, kat⟩ := key_at hk i1
      obtain ⟨nd, di⟩ := nd_step R e1 nR ha hi
      rcases di.find (k := ks) with ⟨z1, z2⟩ | ⟨c', p, w, z1, z2, z3, z4⟩
      · rw [hc] at z1; cases z1
      · rw [hc] at z1; cases z1
        exact ⟨a, bk, xs, ks, p, w, rfl, rfl, nd, kat, z2, z3, q _ H1 e1 k1 (R.bad_own z4)⟩
    · cases e
  · rename_i x g1 hm
    cases e
    exact hy F ρ g σ H R _ _ hm _ q
  · cases e
/-- d.get(k, x), x of no list -/
def mNGet2 (i : Nat) (my md : MV D) : MV D := fun ρ g => match getDc ρ[i]? with
  | none => none
  | some kvs => match my ρ g with
    | some (.ok d, g1) => (match md ρ g1 with
      | some (.ok z, g2) => (match keyOf d with
        | some ks => some (.ok ((dlook kvs ks).getD z), g2)
        | none => none)
      | some (.ex x, g2) => some (.ex x, g2)
      | none => none)
    | some (.ex x, g1) => some (.ex x, g1)
    | none => none
theorem re_nget2 {i : Nat} {td : TE} {md : MV D} (hy : RE K E ix b1 ty my) (hd : RE K E ix true td md) : RE K E ix b (tNGet2 K (tVar i) ty td) (mNGet2 i my md) := fun F ρ g σ H R r g' e Q q => by
  unfold mNGet2 at e
  split at e
  · cases e
  rename_i kvs hl'
  obtain ⟨a, xs, hx, ha, hi, nR⟩ := R.own_dc (getDc_is hl')
  refine ⟨_, hx, a, rfl, ⟨xs, ha, hi.keysAt⟩, ?_⟩
  split at e
  · rename_i d g1 hm
    split at e
    · rename_i z g2 hm2
      split at e
      · rename_i ks hk
        cases e
        refine hy F ρ g σ H R _ _ hm _ fun v H1 e1 k1 i1 => ?_
        have R1 := R.step e1 k1
        refine hd F ρ g1 σ H1 R1 _ _ hm2 _ fun w H2 e2 k2 i2 => ?_
        obtain ⟨bk, rfl, kat⟩ := key_at hk i1
        obtain ⟨nd, di⟩ := nd_step R (e1.trans e2) nR ha hi
        refine ⟨bk, xs, ks, rfl, nd, kat.step e2, ?_⟩
        rcases di.find (k := ks) with ⟨z1, z2⟩ | ⟨c', p, u, z1, z2, z3, z4⟩
        · refine .inr ⟨z2, q _ H2 (e1.trans e2) k2 ?_⟩
          rw [z1]; exact R1.bad_own i2
        · refine .inl ⟨p, u, z2, z3, q _ H2 (e1.trans e2) k2 ?_⟩
          rw [z1]; exact R.bad_own z4
      · cases e
    · rename_i x g2 hm2
      cases e
      refine hy F ρ g σ H R _ _ hm _ fun v H1 e1 k1 i1 => ?_
      exact hd F ρ g1 σ H1 (R.step e1 k1) _ _ hm2 _ (XPost.mono e1 q)
    · cases e
  · rename_i x g1 hm
    cases e
    exact hy F ρ g σ H R _ _ hm _ q
  · cases e
/-- d[k] = e, d of one's own: e first -/
def mNPut (i : Nat) (mk m : MV D) : MSt := fun ρ g => match m ρ g with
  | some (.ok d, g1) => (match getDc ρ[i]? with
    | none => none
    | some kvs => match mk ρ g1 with
      | some (.ok z, g2) => (match keyOf z with
        | some ks => if small kvs.length = true then some (.nx, ρ.set i (.ow (.dic (dput kvs ks d))), g2) else none
        | none => none)
      | some (.ex x, g2) => some (.ex x, ρ, g2)
      | none => none)
  | some (.ex x, g1) => some (.ex x, ρ, g1)
  | none => none
theorem rs_nput {i : Nat} (hk : RE K E ix b ta mc) (h : RE K E ix true t m) : RS K E ix (sNPut K (tVar i) ta t) (mNPut i mc m) := fun F ρ g σ H R fl ρ' g' e De q => by
  unfold mNPut at e
  split at e
  · rename_i d g1 hm
    split at e
    · cases e
    rename_i l hl'
    have hl := getDc_is hl'
    obtain ⟨a, xs, hx, ha, hi, nR⟩ := R.own_dc hl
    refine h F ρ g σ H R _ _ hm _ fun v H1 e1 k1 i1 => ⟨_, hx, ?_⟩
    have R1 := R.step e1 k1
    split at e
    · rename_i z g2 hmk
      split at e
      · rename_i ks hks
        split at e
        · rename_i hz
          cases e
          refine hk F ρ g1 σ H1 R1 _ _ hmk _ fun w H2 e2 k2 i2 => ?_
          obtain ⟨bk, rfl, kat⟩ := key_at hks i2
          have R2 := R1.step e2 k2
          obtain ⟨nd, di⟩ := nd_step R (e1.trans e2) nR ha hi
          refine ⟨a, bk, xs, ks, rfl, rfl, nd, kat, by rw [di.length]; exact small_line hz, fun u ru => ?_⟩
          have oa : Own ρ σ a := ⟨i, _, hl, hx⟩
          obtain ⟨R3, f3⟩ := R2.put hl hx nd.1 (id : ¬ keepO (dctO a xs)) (o' := dctO a (storedH xs ks bk u)) (l' := .dic (dput l ks d)) ⟨_, upd_same, DicIs.step (fun _ z => z) (Ex.putO nd.1 id (.inr (.inl oa))) (di.put kat ru (Is.step R1.im_r e2 i1))⟩
          exact q σ _ R3 ((Fr.of (e1.trans e2)).trans f3 R R2)
        · cases e
      · cases e
    · rename_i x g2 hmk
      cases e
      exact hk F ρ g1 σ H1 R1 _ _ hmk _ (XPost.mono R1.ext q)
    · cases e
  · rename_i x g1 hm
    cases e
    exact h F ρ g σ H R _ _ hm _ (XPost.mono R.ext q)
  · cases e
theorem rn_dnew : RN K E ix tNNew (mret (.dic [])) := fun F ρ g σ H R r g' e Q q => by
  obtain ⟨rfl, rfl⟩ := mret_some e
  exact fun p hp => q p _ (Ex.new hp) (R.gok.new hp) hp ⟨[], upd_same, rfl⟩
/-- d = {} -/
def mDnew (i : Nat) : MSt := fun ρ g => if i < ρ.length then some (.nx, ρ.set i (.ow (.dic [])), g) else none
theorem rs_dnew {i : Nat} : RS K E ix (tAsg tNNew (gName i)) (mDnew i) := fun F ρ g σ H R fl ρ' g' e De q => by
  unfold mDnew at e
  split at e
  · rename_i hlt
    cases e
    intro p hp
    obtain ⟨R1, f1⟩ := R.set_ow (l := .dic []) (H1 := upd H p (dctO p [])) (Ex.new hp) (R.gok.new hp) hp ⟨[], upd_same, rfl⟩ i hlt
    exact q _ _ R1 f1
  · cases e
end
end Fw

set_option Elab.async false
set_option linter.all false
set_option maxRecDepth 100000
set_option maxHeartbeats 4000000
/-! Dk4: list.count of a number in a list of numbers and None; more of what a dict wants -/
namespace Fw
open PySem PySem.Spec PyProof.Rows L2

theorem units2 {k : Nat} {A : Around} (r : Room k A) : A.units + 2 < cLine := by have := r.un; omega
def noI : V → Bool
  | .non => true
  | .int _ => true
  | _ => false
def isK (k : Int) : V → Bool
  | .int n => n == k
  | _ => false
def rCnt (K : PySem.W.Frag) : V → List V → Hp → VK → Prop := fun x xs H Q => ∃ (p : Addr) (vs : List V) (k : Int), x = .ref p ∧ xs = [.int k] ∧ SqL K H p vs ∧ (∀ v ∈ vs, noI v = true) ∧ Q (.int (vs.countP (isK k) : Nat)) H
section
variable {X : Cx}
theorem eqk_at {k : Int} {t : Tok} {A : Around} {h : Shared} : ∀ {vs : List V} {us : List Value}, Vals vs us → (∀ v ∈ vs, noI v = true) → ∀ y ∈ us, SeqAt.EqAt A h y (.int k t) (eqk k y)
  | _, _, .nil, _ => fun y hy => by cases hy
  | v :: vs, u :: us, .cons r rs, hv => fun y hy => by
    rcases List.mem_cons.mp hy with e | e
    · rw [e]
      cases v with
      | non => cases r; exact SeqAt.EqAt.none_int k t
      | int n => obtain ⟨t', rfl⟩ := r; exact (MeetsSeq.EqGives.int n k t' t).at _ _
      | _ => exact absurd (hv _ List.mem_cons_self) (by intro z; cases z)
    · exact eqk_at rs (fun v h => hv v (List.mem_cons_of_mem _ h)) y e
theorem eqk_cnt {k : Int} : ∀ {vs : List V} {us : List Value}, Vals vs us → (∀ v ∈ vs, noI v = true) → us.countP (eqk k) = vs.countP (isK k)
  | _, _, .nil, _ => rfl
  | v :: vs, u :: us, .cons r rs, hv => by
    rw [List.countP_cons, List.countP_cons, eqk_cnt rs fun v h => hv v (List.mem_cons_of_mem _ h)]
    cases v with
    | non => cases r; rfl
    | int n => obtain ⟨t', rfl⟩ := r; rfl
    | _ => exact absurd (hv _ List.mem_cons_self) (by intro z; cases z)
theorem mt_cnt : MtR X "list.count" (rCnt X.K) := by
  intro pins s σ H x xs v us Q I rx rxs h
  obtain ⟨p, vs, k, rfl, rfl, hs, hn, q⟩ := h
  cases rx
  obtain ⟨u, rfl, ru⟩ := rxs.one
  obtain ⟨t, rfl⟩ := ru
  obtain ⟨its, rv, ⟨⟨cls, dd, data, sl⟩, n, ho, hc, hdn, hd⟩, hlen⟩ := I.list hs
  simp only at hc hd
  subst hc hd
  refine call_meets PySem.F.slot_list_count ⟨_, ho, rfl⟩ PySem.F.entry_list_count (PySem.F.args_list_count_2 _ _)
    (SeqAt.list_countAt p its.toArray n dd sl (.int k t) (eqk k)) ⟨ho, fun y hy => eqk_at rv hn y (by simpa using hy), ?_⟩
  have ec : its.toArray.toList.countP (eqk k) = vs.countP (isK k) := eqk_cnt rv hn
  refine ⟨.int (vs.countP (isK k) : Nat), H, I.tok _, ⟨s.toks, ?_⟩, q⟩
  show Value.int ((its.toArray.toList.countP (eqk k) : Nat) : Int) s.toks = Value.int ((vs.countP (isK k) : Nat) : Int) s.toks
  rw [ec]
end

section
variable {K : PySem.W.Frag} {E : XK} {ix : IXT} {F : Fx} {ρ ρ' ρ1 : List Sl} {g g' g1 : G} {σ σ' σ1 : L2.St} {H H' H1 : Hp} {b b1 b2 : Bool} {t ty ta tb tc : TE} {m my ma mb mc : MV D}
def dNoI : D → Bool
  | .non => true
  | .int _ => true
  | _ => false
def dIsK (k : Int) : D → Bool
  | .int n => n == k
  | _ => false
def dCnt (x y : D) : Option D := match x, y with
  | .lst l, .int k => if l.all dNoI = true then some (.int (l.countP (dIsK k) : Nat)) else none
  | _, _ => none
theorem cnt_vs {ra : Addr} {B : Addr → Prop} {k : Int} : ∀ {l : List D} {vs : List V}, IsL K ra B H l vs → l.all dNoI = true → (∀ v ∈ vs, noI v = true) ∧ vs.countP (isK k) = l.countP (dIsK k)
  | [], _, h, _ => by rw [show _ = _ from h]; exact ⟨fun v hv => (by cases hv), rfl⟩
  | d :: l, _, h, ha => by
    obtain ⟨v, r, rfl, h1, h2⟩ := h
    rw [List.all_cons, Bool.and_eq_true] at ha
    obtain ⟨i1, i2⟩ := cnt_vs (k := k) h2 ha.2
    rw [List.countP_cons, List.countP_cons, i2]
    cases d with
    | non => rw [show v = .non from h1]; exact ⟨fun w hw => (List.mem_cons.mp hw).elim (fun e => by rw [e]; rfl) (i1 w), rfl⟩
    | int n => rw [show v = .int n from h1]; exact ⟨fun w hw => (List.mem_cons.mp hw).elim (fun e => by rw [e]; rfl) (i1 w), rfl⟩
    | _ => exact absurd ha.1 (by intro z; cases z)
def mCnt (ma my : MV D) : MV D := mbind ma fun x => match x with
  | .lst l => mbind my fun y => mlift (dCnt (.lst l) y)
  | _ => mno
theorem re_cnt (ho : RE K E ix b1 ta ma) (hy : RE K E ix b2 ty my) : RE K E ix b (tBM K "list" (rCnt K) ta (tCons ty tNil)) (mCnt ma my) := fun F ρ g σ H R r g' e Q q =>
  ho.one R e q.x fun x p H1 g1 e1 R1 i1 k1 => by
    cases x with
    | lst l =>
      obtain ⟨a, xs, rfl, nb, h2, h3⟩ := i1
      refine ⟨.inl ⟨rfl, xs, SqL.of h2⟩, ?_⟩
      refine hy.one R1 k1 (fun z hz => (q.x z hz).mono e1) fun y w H2 g2 e2 R2 i2 k2 => ?_
      obtain ⟨c, hc, rfl, rfl⟩ := mlift_some k2
      cases y with
      | int k =>
        have ew : w = .int k := i2
        subst ew
        unfold dCnt at hc
        simp only at hc
        split at hc
        · rename_i ha
          cases hc
          have h3' := IsL.step (bad_r (b := b1) R) e2 h3
          obtain ⟨z1, z2⟩ := cnt_vs (k := k) h3' ha
          refine ⟨a, xs, k, rfl, rfl, SqL.of (e2.lst h2 fun z => nb (bad_r (b := b1) R a z)), z1, ?_⟩
          rw [z2]
          exact q _ H2 (e1.trans e2) R2.gok rfl
        · cases hc
      | _ => cases hc
    | _ => cases k1
end
end Fw

set_option Elab.async false
set_option linter.all false
set_option maxRecDepth 100000
set_option maxHeartbeats 4000000
/-! Mt1: a list of lists of ints of one's own, changed within -/
namespace Fw
open PySem PySem.Spec PyProof.Rows L2

def rowD (r : List Int) : D := .lst (r.map D.int)
def FxM (F : Fx) (A : Addr) (bs : List Addr) : Fx := ⟨F.ra, F.rb, F.H0, fun a => F.B a ∨ a = A ∨ a ∈ bs, F.T⟩

section
variable {K : PySem.W.Frag} {E : XK} {ix : IXT} {F : Fx} {ρ ρ' ρ1 : List Sl} {g g' g1 : G} {σ σ' σ1 : L2.St} {H H' H1 H2 : Hp} {b b1 b2 : Bool} {t ty ta tb tc : TE} {m my ma mb mc : MV D} {tt : TT} {mt : MV Bool}
theorem Rep.putB (R : Rep K F ρ g σ H) {p : Addr} (hp : F.B p) {o o' : HO} (ho : H p = some o) (hk : ¬ keepO o) (hx : ∀ c q, o ≠ LamX.CodeO c q := by intro c q z; unfold LamX.CodeO at z; cases z) : Rep K F ρ g σ (upd H p o') := by
  have e : Ex (fun c => c = p) H (upd H p o') := Ex.putO ho hk rfl
  obtain ⟨p1, p2, p3⟩ := R.bok p hp
  refine ⟨R.len, fun i s hs => ?_, R.dis, R.gok.put p1 ho hx, R.gin, fun a ha => ?_, fun a o h nn => ?_, R.tk⟩
  · obtain ⟨x, hx, so⟩ := R.sl i s hs
    refine ⟨x, hx, ?_⟩
    cases s with
    | no => trivial
    | im d =>
      obtain ⟨v, q1, q2⟩ := so
      exact ⟨v, q1, Is.step (fun c z => by rw [z]; exact .inr (.inr hp)) e q2⟩
    | bo d =>
      obtain ⟨v, q1, q2⟩ := so
      exact ⟨v, q1, Is.step (fun c z => by rw [z]; exact .inr p3) e q2⟩
    | ow l =>
      obtain ⟨a, q1, q2, q3, q4⟩ := so
      exact ⟨a, q1, q2, q3, ConIs.step (fun c z => by rw [z]; exact .inr (.inr hp)) e (fun z => q3 (by rw [z]; exact hp)) q4⟩
  · obtain ⟨w1, w2, w3⟩ := R.bok a ha
    refine ⟨w1, ?_, w3⟩
    by_cases z : a = p
    · rw [z, upd_same]; intro w; cases w
    · rw [upd_ne z]; exact w2
  · have ne : a ≠ p := fun z => by rw [z, p3] at h; cases h
    rw [upd_ne ne]
    exact R.ext a o h nn
/-- more is barred -/
theorem Rep.moreB (R : Rep K F ρ g σ H) (e : Ex (isR F) H H1) (k : GOk F g1 H1) {A : Addr} {bs : List Addr} (hA : H A = none ∧ H1 A ≠ none) (hb : ∀ c ∈ bs, H c = none ∧ H1 c ≠ none) : Rep K (FxM F A bs) ρ g1 σ H1 := by
  have nw : ∀ a, a = A ∨ a ∈ bs → H a = none ∧ H1 a ≠ none := fun a z => by
    rcases z with z | z
    · rw [z]; exact hA
    · exact hb a z
  have h0 : ∀ a, H a = none → F.H0 a = none := fun a h => by
    cases z : F.H0 a with
    | none => rfl
    | some o => exact absurd h (R.there (by rw [z]; intro w; cases w))
  have R1 := R.step e k
  have bar : ∀ a, imB (FxM F A bs) ρ σ a → imB F ρ σ a ∨ H a = none := fun a z => by
    rcases z with z | z | z | z
    · exact .inl (.inl z)
    · exact .inl (.inr (.inl z))
    · exact .inl (.inr (.inr z))
    · exact .inr (nw a z).1
  have hr : ∀ a, isR F a → imB (FxM F A bs) ρ σ a := fun a z => .inl (R.gin a z)
  refine ⟨R.len, fun i s hs => ?_, R.dis, k.to rfl rfl, R.gin, fun a ha => ?_, R1.ext, R.tk⟩
  · obtain ⟨x, hx, so⟩ := R.sl i s hs
    refine ⟨x, hx, ?_⟩
    cases s with
    | no => trivial
    | im d =>
      obtain ⟨v, q1, q2⟩ := so
      exact ⟨v, q1, Is.step hr e (Is.bar bar q2)⟩
    | bo d =>
      obtain ⟨v, q1, q2⟩ := so
      exact ⟨v, q1, Is.step (fun a z => .inl z) e q2⟩
    | ow l =>
      obtain ⟨a, q1, q2, q3, q4⟩ := so
      refine ⟨a, q1, q2, fun z => ?_, ConIs.step hr e (fun z => absurd q2 (R.gin a z)) (ConIs.bar bar q4)⟩
      rcases z with z | z
      · exact q3 z
      · exact q4.there (nw a z).1
  · rcases ha with z | z
    · exact R1.bok a z
    · exact ⟨fun w => R.gin a w (h0 a (nw a z).1), (nw a z).2, h0 a (nw a z).1⟩

structure MatI (K : PySem.W.Frag) (F : Fx) (i : Nat) (A : Addr) (bs : List Addr) (ρ : List Sl) (g : G) (σ : L2.St) (H : Hp) (rows : List (List Int)) : Prop where
  rep : Rep K (FxM F A bs) ρ g σ H
  no : ρ[i]? = some .no
  at' : σ[i]? = some (some (.ref A))
  out : H A = some (.lst (bs.map V.ref))
  nd : bs.Nodup
  nA : A ∉ bs
  nB : ¬ F.B A ∧ ∀ c ∈ bs, ¬ F.B c
  len : bs.length = rows.length
  row : ∀ (j : Nat) (c : Addr) (r : List Int), bs[j]? = some c → rows[j]? = some r → H c = some (.lst (r.map V.int))
structure FrM (F : Fx) (ρ : List Sl) (σ : L2.St) (H : Hp) (ρ' : List Sl) (σ' : L2.St) (H' : Hp) : Prop where
  ex : Ex (fun a => isR F a ∨ Own ρ σ a ∨ F.B a) H H'
  ow : ∀ a, Own ρ' σ' a → Own ρ σ a ∨ H a = none
theorem FrM.refl : FrM F ρ σ H ρ σ H := ⟨Ex.refl, fun _ h => .inl h⟩
theorem Fr.toM (f : Fr F ρ σ H ρ' σ' H') : FrM F ρ σ H ρ' σ' H' := ⟨f.ex.mono fun a z => z.elim .inl fun z => .inr (.inl z), f.ow⟩
theorem FrM.trans {ρ2 : List Sl} {σ2 : L2.St} {H2 : Hp} (a : FrM F ρ σ H ρ' σ' H') (b : FrM F ρ' σ' H' ρ2 σ2 H2) (R : Rep K F ρ g σ H) (R' : Rep K F ρ' g' σ' H') : FrM F ρ σ H ρ2 σ2 H2 where
  ex := fun x o h n => b.ex x o (a.ex x o h n) fun q => by
    rcases q with q | q | q
    · exact n (.inl q)
    · rcases a.ow x q with z | z
      · exact n (.inr (.inl z))
      · rw [h] at z; cases z
    · exact n (.inr (.inr q))
  ow := fun x h => by
    rcases b.ow x h with z | z
    · exact a.ow x z
    · cases q : H x with
      | none => exact .inr rfl
      | some o =>
        by_cases w : Own ρ σ x
        · exact .inl w
        · exfalso
          by_cases r : isR F x
          · exact R'.gok.there r z
          · by_cases u : F.B x
            · exact (R'.bok x u).2.1 z
            · rw [a.ex x o q fun y => absurd y (fun y => y.elim r fun y => y.elim w u)] at z; cases z
theorem MatI.step {i : Nat} {A : Addr} {bs : List Addr} {rows : List (List Int)} (M : MatI K F i A bs ρ g σ H rows) (e : Ex (isR F) H H1) (k : GOk F g1 H1) : MatI K F i A bs ρ g1 σ H1 rows := by
  have nr : ∀ a, a = A ∨ a ∈ bs → ¬ isR F a := fun a z => (M.rep.bok a (.inr z)).1
  exact ⟨M.rep.step e (k.to rfl rfl), M.no, M.at', e.lst M.out (nr A (.inl rfl)), M.nd, M.nA, M.nB, M.len, fun j c r h1 h2 => e.lst (M.row j c r h1 h2) (nr c (.inr (List.mem_of_getElem? h1)))⟩
abbrev MMt := List Sl → G → List (List Int) → Option (Fl × List Sl × G × List (List Int))
def SPostM (K : PySem.W.Frag) (E : XK) (ix : IXT) (F : Fx) (i : Nat) (A : Addr) (bs : List Addr) (ρ : List Sl) (σ : L2.St) (H : Hp) (De : Ends) (fl : Fl) (ρ' : List Sl) (g' : G) (rows' : List (List Int)) : Prop := match fl with
  | .nx => ∀ σ' H', MatI K F i A bs ρ' g' σ' H' rows' → FrM (FxM F A bs) ρ σ H ρ' σ' H' → De.nx σ' H'
  | .bk => ∀ σ' H', MatI K F i A bs ρ' g' σ' H' rows' → FrM (FxM F A bs) ρ σ H ρ' σ' H' → De.bk σ' H'
  | .ct => ∀ σ' H', MatI K F i A bs ρ' g' σ' H' rows' → FrM (FxM F A bs) ρ σ H ρ' σ' H' → De.ct σ' H'
  | .rt d => ∀ v H', Ex (isR F) F.H0 H' → GOk F g' H' → Is K F.ra (fun a => F.H0 a ≠ none) H' d v → De.rt v H'
  | .ex x => XPost E ix F F.H0 g' x
def RSM (K : PySem.W.Frag) (E : XK) (ix : IXT) (i : Nat) (t : TS) (m : MMt) : Prop := ∀ F A bs ρ g σ H rows, MatI K F i A bs ρ g σ H rows → ∀ fl ρ' g' rows', m ρ g rows = some (fl, ρ', g', rows') → ∀ De : Ends, SPostM K E ix F i A bs ρ σ H De fl ρ' g' rows' → t De σ H
theorem SPostM.on {i : Nat} {A : Addr} {bs : List Addr} {rows rows1 rows' : List (List Int)} {De : Ends} {fl : Fl} (q : SPostM K E ix F i A bs ρ σ H De fl ρ' g' rows') (M : MatI K F i A bs ρ g σ H rows) (M1 : MatI K F i A bs ρ1 g1 σ1 H1 rows1) (f : FrM (FxM F A bs) ρ σ H ρ1 σ1 H1) : SPostM K E ix F i A bs ρ1 σ1 H1 De fl ρ' g' rows' := by
  cases fl with
  | nx => exact fun σ' H' R' f' => q σ' H' R' (f.trans f' M.rep M1.rep)
  | bk => exact fun σ' H' R' f' => q σ' H' R' (f.trans f' M.rep M1.rep)
  | ct => exact fun σ' H' R' f' => q σ' H' R' (f.trans f' M.rep M1.rep)
  | rt d => exact q
  | ex x => exact q
variable {i : Nat} {t1 t2 : TS} {m1 m2 : MMt}
def MatI.x {A : Addr} {bs : List Addr} {rows : List (List Int)} (M : MatI K F i A bs ρ g σ H rows) {x : Exn} (h : XPost E ix F F.H0 g' x) : XPost E ix (FxM F A bs) H g' x := fun cls dd H' e k z => h cls dd H' (Ex.trans M.rep.ext e) (k.to rfl rfl) z
def nSeq (m1 m2 : MMt) : MMt := fun ρ g rows => match m1 ρ g rows with
  | some (.nx, ρ1, g1, r1) => m2 ρ1 g1 r1
  | some (fl, ρ1, g1, r1) => some (fl, ρ1, g1, r1)
  | none => none
theorem rm_seq (h1 : RSM K E ix i t1 m1) (h2 : RSM K E ix i t2 m2) : RSM K E ix i (tSeq t1 t2) (nSeq m1 m2) := fun F A bs ρ g σ H rows M fl ρ' g' rows' e De q => by
  unfold nSeq at e
  cases hm : m1 ρ g rows with
  | none => rw [hm] at e; cases e
  | some p =>
    obtain ⟨fl1, ρ1, g1, r1⟩ := p
    rw [hm] at e
    cases fl1 with
    | nx => exact h1 F A bs ρ g σ H rows M _ _ _ _ hm { De with nx := t2 De } fun σ1 H1 M1 f1 => h2 F A bs ρ1 g1 σ1 H1 r1 M1 fl ρ' g' rows' e De (q.on M M1 f1)
    | bk => cases e; exact h1 F A bs ρ g σ H rows M _ _ _ _ hm { De with nx := t2 De } q
    | ct => cases e; exact h1 F A bs ρ g σ H rows M _ _ _ _ hm { De with nx := t2 De } q
    | rt d => cases e; exact h1 F A bs ρ g σ H rows M _ _ _ _ hm { De with nx := t2 De } q
    | ex x => cases e; exact h1 F A bs ρ g σ H rows M _ _ _ _ hm { De with nx := t2 De } q
def nNx : MMt := fun ρ g rows => some (.nx, ρ, g, rows)
theorem rm_nx : RSM K E ix i tNext nNx := fun F A bs ρ g σ H rows M fl ρ' g' rows' e De q => by
  cases e
  exact q σ H M FrM.refl
def nIf (mt : MV Bool) (m1 m2 : MMt) : MMt := fun ρ g rows => match mt ρ g with
  | some (.ok c, g1) => if c = true then m1 ρ g1 rows else m2 ρ g1 rows
  | some (.ex x, g1) => some (.ex x, ρ, g1, rows)
  | none => none
theorem rm_if (ht : RT K E ix tt mt) (h1 : RSM K E ix i t1 m1) (h2 : RSM K E ix i t2 m2) : RSM K E ix i (tIfS tt t1 t2) (nIf mt m1 m2) := fun F A bs ρ g σ H rows M fl ρ' g' rows' e De q => by
  unfold nIf at e
  split at e
  · rename_i c g1 hm
    refine ht _ ρ g σ H M.rep _ _ hm _ fun H1 e1 k1 => ?_
    have M1 := M.step e1 (k1.to rfl rfl)
    have q1 := q.on M M1 (Fr.toM (Fr.of e1))
    cases c with
    | true => exact h1 F A bs ρ g1 σ H1 rows M1 fl ρ' g' rows' e De q1
    | false => exact h2 F A bs ρ g1 σ H1 rows M1 fl ρ' g' rows' e De q1
  · rename_i x g1 hm
    cases e
    exact ht _ ρ g σ H M.rep _ _ hm _ (M.x q)
  · cases e
def nAsg (m : MV D) (bd : BndT) : MMt := fun ρ g rows => match m ρ g with
  | some (.ok d, g1) => (match bd d ρ with
    | some ρ1 => some (.nx, ρ1, g1, rows)
    | none => none)
  | some (.ex x, g1) => some (.ex x, ρ, g1, rows)
  | none => none
theorem MatI.to {A : Addr} {bs : List Addr} {rows : List (List Int)} (M : MatI K F i A bs ρ g σ H rows) (R' : Rep K (FxM F A bs) ρ' g' σ' H) (h : σ'[i]? = σ[i]? ∧ ρ'[i]? = ρ[i]?) : MatI K F i A bs ρ' g' σ' H rows :=
  ⟨R', h.2.trans M.no, h.1.trans M.at', M.out, M.nd, M.nA, M.nB, M.len, M.row⟩
theorem rm_asg {gg : TG} {bd : BndT} {ks : List Nat} (h : RE K E ix true t m) (hg : RG K gg bd ks) (hi : i ∉ ks) : RSM K E ix i (tAsg t gg) (nAsg m bd) := fun F A bs ρ g σ H rows M fl ρ' g' rows' e De q => by
  unfold nAsg at e
  split at e
  · rename_i d g1 hm
    split at e
    · rename_i ρ1 hb
      cases e
      refine h _ ρ g σ H M.rep _ _ hm _ fun v H1 e1 k1 i1 => ?_
      have M1 := M.step e1 (k1.to rfl rfl)
      refine hg _ ρ g' σ H1 M1.rep d v i1 ρ' hb _ fun σ1 R1 f1 _ n1 => q σ1 H1 (M1.to R1 (n1 i hi)) ?_
      exact FrM.trans (Fr.toM (Fr.of e1)) f1.toM M.rep M1.rep
    · cases e
  · rename_i x g1 hm
    cases e
    exact h _ ρ g σ H M.rep _ _ hm _ (M.x q)
  · cases e
def nFor' (bd : BndT) (body : MMt) : List D → MMt
  | [], ρ, g, rows => some (.nx, ρ, g, rows)
  | d :: ds, ρ, g, rows => match bd d ρ with
    | none => none
    | some ρ1 => match body ρ1 g rows with
      | some (.nx, ρ2, g2, r2) => nFor' bd body ds ρ2 g2 r2
      | some (.ct, ρ2, g2, r2) => nFor' bd body ds ρ2 g2 r2
      | some (.bk, ρ2, g2, r2) => some (.nx, ρ2, g2, r2)
      | some (.rt d, ρ2, g2, r2) => some (.rt d, ρ2, g2, r2)
      | some (.ex x, ρ2, g2, r2) => some (.ex x, ρ2, g2, r2)
      | none => none
def nFor (mi : MV (List D)) (bd : BndT) (body : MMt) : MMt := fun ρ g rows => match mi ρ g with
  | some (.ok ds, g1) => nFor' bd body ds ρ g1 rows
  | some (.ex x, g1) => some (.ex x, ρ, g1, rows)
  | none => none
theorem rm_for {wi : TI} {mi : MV (List D)} {gg : TG} {bd : BndT} {ks : List Nat} {ts : TS} {ms : MMt} (hi : RI K E ix wi mi) (hg : RG K gg bd ks) (hb : RSM K E ix i ts ms) (hk : i ∉ ks) : RSM K E ix i (tFor wi gg ts) (nFor mi bd ms) := fun F A bs ρ g σ H rows M fl ρ' g' rows' e De q => by
  unfold nFor at e
  split at e
  rotate_left
  · rename_i x g1 hm
    cases e
    exact hi _ ρ g σ H M.rep _ _ hm _ (M.x q)
  · cases e
  rename_i ds g1 hm
  refine hi _ ρ g σ H M.rep _ _ hm _ fun J H1 e1 k1 it => ?_
  have M1 := M.step e1 (k1.to rfl rfl)
  have q1 : SPostM K E ix F i A bs ρ σ H1 De fl ρ' g' rows' := q.on M M1 (Fr.toM (Fr.of e1))
  refine ⟨fun j mm σ2 H2 => mm = ds.length - j ∧ j ≤ ds.length ∧ ∃ ρ2 g2 r2, MatI K F i A bs ρ2 g2 σ2 H2 r2 ∧ FrM (FxM F A bs) ρ σ H1 ρ2 σ2 H2 ∧ nFor' bd ms (ds.drop j) ρ2 g2 r2 = some (fl, ρ', g', rows'), ⟨ds.length, rfl, Nat.zero_le _, ρ, g1, rows, M1, FrM.refl, e⟩, ?_⟩
  intro j mm σ2 H2 hW
  obtain ⟨rfl, hi', ρ2, g2, r2, M2, f2, hgo⟩ := hW
  by_cases hlt : j < ds.length
  · have hd : ds[j]? = some ds[j] := List.getElem?_eq_getElem hlt
    generalize hdd : ds[j] = d at hd
    have hdrop : ds.drop j = d :: ds.drop (j + 1) := by rw [← hdd]; exact List.drop_eq_getElem_cons hlt
    rw [hdrop] at hgo
    unfold nFor' at hgo
    split at hgo
    · cases hgo
    rename_i ρ3 hρ3
    obtain ⟨go, yl⟩ := (it H2 f2.ex j).2 d hd
    refine .inr ⟨go, fun σ' H' => ∃ ρ4 g4 r4, MatI K F i A bs ρ4 g4 σ' H' r4 ∧ FrM (FxM F A bs) ρ σ H1 ρ4 σ' H' ∧ nFor' bd ms (ds.drop (j + 1)) ρ4 g4 r4 = some (fl, ρ', g', rows'), fun σ' H' ⟨ρ4, g4, r4, a, b, c⟩ => ⟨ds.length - (j + 1), by omega, rfl, hlt, ρ4, g4, r4, a, b, c⟩, fun x H3 y => ?_⟩
    obtain ⟨e3, i3⟩ := yl x H3 y
    have e23 : Ex (isR F) H2 H3 := e3.mono fun _ z => z.elim
    have M3 := M2.step e23 (Ex.keepR (F := F) (M2.rep.gok.to rfl rfl) e3)
    have f3 : FrM (FxM F A bs) ρ σ H1 ρ2 σ2 H3 := FrM.trans f2 (Fr.toM (Fr.of e23)) M1.rep M2.rep
    have i3' : Is K F.ra (imB (FxM F A bs) ρ2 σ2) H3 d x := Is.anti (fun a z => by
      rcases z with z | z | z
      · exact .inl (.inl z)
      · rcases f2.ow a z with w | w
        · exact .inl (.inr (.inl w))
        · exact .inr w
      · exact .inl (.inr (.inr z))) i3
    refine hg _ ρ2 g2 σ2 H3 M3.rep d x i3' ρ3 hρ3 _ fun σ4 R4 f4 _ n4 => ?_
    have M4 := M3.to R4 (n4 i hk)
    have f04 := f3.trans f4.toM M1.rep M3.rep
    cases hbd : ms ρ3 g2 r2 with
    | none => rw [hbd] at hgo; cases hgo
    | some p =>
      obtain ⟨fl5, ρ5, g5, r5⟩ := p
      rw [hbd] at hgo
      cases fl5 with
      | nx => exact hb F A bs ρ3 g2 σ4 H3 r2 M4 _ _ _ _ hbd _ fun σ' H' R' f' => ⟨ρ5, g5, r5, R', f04.trans f' M1.rep M4.rep, hgo⟩
      | ct => exact hb F A bs ρ3 g2 σ4 H3 r2 M4 _ _ _ _ hbd _ fun σ' H' R' f' => ⟨ρ5, g5, r5, R', f04.trans f' M1.rep M4.rep, hgo⟩
      | bk => cases hgo; exact hb F A bs ρ3 g2 σ4 H3 r2 M4 _ _ _ _ hbd _ fun σ' H' R' f' => q1 σ' H' R' (f04.trans f' M1.rep M4.rep)
      | rt v => cases hgo; exact hb F A bs ρ3 g2 σ4 H3 r2 M4 _ _ _ _ hbd _ q
      | ex v => cases hgo; exact hb F A bs ρ3 g2 σ4 H3 r2 M4 _ _ _ _ hbd _ q
  · have hie : j = ds.length := by omega
    subst hie
    rw [List.drop_length] at hgo
    cases hgo
    exact .inl ⟨(it H2 f2.ex ds.length).1 rfl, q1 σ2 H2 M2 f2⟩
end
end Fw

set_option Elab.async false
set_option linter.all false
set_option maxRecDepth 100000
set_option maxHeartbeats 4000000
/-! Mt2: a list of lists of ints of one's own: made, changed, given back -/
namespace Fw
open PySem PySem.Spec PyProof.Rows L2
section
variable {K : PySem.W.Frag} {E : XK} {ix : IXT} {F : Fx} {ρ ρ' ρ1 : List Sl} {g g' g1 : G} {σ σ' σ1 : L2.St} {H H' H1 H2 : Hp} {b b1 b2 : Bool} {t ty ta tb tc : TE} {m my ma mb mc : MV D} {tt : TT} {mt : MV Bool} {i : Nat}
theorem FrM.of (e : Ex (isR F) H H') : FrM F ρ σ H ρ σ H' := Fr.toM (Fr.of e)
/-- xs[k][c] += e of ints -/
def nAug (f : Int → Int → Int) (mk : MV D) (c : Nat) (m : MV D) : MMt := fun ρ g rows => match mk ρ g with
  | some (.ok z, g1) => (match (asI z).bind fun k => if 0 ≤ k then (rows[k.toNat]?.bind fun r => (r[c]?).map fun o => (k.toNat, r, o)) else none with
    | none => none
    | some (j, r, o) => match m ρ g1 with
      | some (.ok y, g2) => (match asI y with
        | some y' => some (.nx, ρ, g2, rows.set j (r.set c (f o y')))
        | none => none)
      | some (.ex x, g2) => some (.ex x, ρ, g2, rows)
      | none => none)
  | some (.ex x, g1) => some (.ex x, ρ, g1, rows)
  | none => none
theorem rm_aug {f : Int → Int → Int} {c : Nat} (hk : RE K E ix b ta mc) (h : RE K E ix b1 t m) : RSM K E ix i (tAugS (tOp (rIx K) (tVar i) ta) (tC (.int c)) t rGetL (ipI f) rSetL) (nAug f mc c m) := fun F A bs ρ g σ H rows M fl ρ' g' rows' e De q => by
  unfold nAug at e
  split at e
  · rename_i z g1 hmk
    split at e
    · cases e
    rename_i j r o hj
    refine ⟨_, M.at', ?_⟩
    refine hk _ ρ g σ H M.rep _ _ hmk _ fun w H1 e1 k1 i1 => ?_
    have M1 := M.step e1 (k1.to rfl rfl)
    cases hz : asI z with
    | none => rw [hz] at hj; cases hj
    | some k =>
      rw [hz] at hj
      have hw := asI_is hz i1
      subst hw
      simp only [Option.bind_some] at hj
      by_cases h0 : 0 ≤ k
      · rw [if_pos h0] at hj
        cases hr : rows[k.toNat]? with
        | none => rw [hr] at hj; cases hj
        | some r' =>
          rw [hr] at hj
          simp only [Option.bind_some] at hj
          cases ho : r'[c]? with
          | none => rw [ho] at hj; cases hj
          | some o' =>
            rw [ho] at hj
            cases hj
            have hlt : k.toNat < bs.length := by rw [M.len]; exact (List.getElem?_eq_some_iff.mp hr).1
            have hb := List.getElem?_eq_getElem hlt
            generalize bs[k.toNat] = p at hb
            have hpm : p ∈ bs := List.mem_of_getElem? hb
            have hFB : (FxM F A bs).B p := .inr (.inr hpm)
            have hat : atI (bs.map V.ref) k = some (.ref p) := by
              have hn : ixN (bs.map V.ref).length k = some k.toNat := by
                unfold ixN
                rw [if_pos h0, if_pos (by rw [List.length_map]; omega)]
              unfold atI
              rw [hn]
              simp [hb]
            refine .inl ⟨A, _, k, _, rfl, rfl, SqL.of M1.out, hat, ?_⟩
            have hrow := M1.row _ _ _ hb hr
            have hc : (r.map V.int)[c]? = some (.int o) := by rw [List.getElem?_map, ho]; rfl
            refine ⟨p, r.map V.int, (c : Int), .int o, rfl, rfl, hrow, by omega, by simpa using hc, ?_⟩
            split at e
            · rename_i y g2 hm
              split at e
              · rename_i y' hy
                cases e
                refine h _ ρ g1 σ H1 M1.rep _ _ hm _ fun u H2 e2 k2 i2 => ?_
                have hu := asI_is hy i2
                subst hu
                refine ⟨o, y', rfl, rfl, ?_⟩
                have M2 := M1.step e2 (k2.to rfl rfl)
                have hrow2 := M2.row _ _ _ hb hr
                have hcl : c < r.length := (List.getElem?_eq_some_iff.mp ho).1
                have hn : ixN (r.map V.int).length (c : Int) = some c := by
                  unfold ixN
                  rw [if_pos (by omega), if_pos (by simpa using hcl)]
                  simp
                refine ⟨p, _, (c : Int), c, rfl, rfl, hrow2, hn, ?_⟩
                have es : (r.map V.int).set c (.int (f o y')) = (r.set c (f o y')).map V.int := by rw [List.map_set]
                rw [es]
                have hA : A ≠ p := fun z => M.nA (by rw [z]; exact hpm)
                refine q σ _ ⟨M2.rep.putB hFB hrow2 id, M2.no, M2.at', by rw [upd_ne hA]; exact M2.out, M2.nd, M2.nA, M2.nB, by rw [List.length_set]; exact M2.len, fun j' c' r2 h1 h2 => ?_⟩ ⟨?_, fun a z => .inl z⟩
                · by_cases hjj : k.toNat = j'
                  · subst hjj
                    rw [hb] at h1
                    cases h1
                    rw [List.getElem?_set] at h2
                    simp only [if_true] at h2
                    split at h2
                    · cases h2; exact upd_same
                    · cases h2
                  · rw [List.getElem?_set_ne hjj] at h2
                    have hne : c' ≠ p := fun z => by
                      subst z
                      exact hjj ((List.getElem?_inj hlt M.nd).mp (hb.trans h1.symm))
                    rw [upd_ne hne]
                    exact M2.row j' c' r2 h1 h2
                · refine Ex.trans (Ex.mono (e1.trans e2) fun _ z => .inl z) (Ex.putO hrow2 id (.inr (.inr hFB)))
              · cases e
            · rename_i x g2 hm
              cases e
              exact h _ ρ g1 σ H1 M1.rep _ _ hm _ (M1.x q)
            · cases e
      · rw [if_neg h0] at hj; cases hj
  · rename_i x g1 hmk
    cases e
    refine ⟨_, M.at', ?_⟩
    exact hk _ ρ g σ H M.rep _ _ hmk _ (M.x q)
  · cases e
/-- slots are forgotten behind m -/
def nFgE (is : List Nat) (m : MMt) : MMt := fun ρ g rows => match m ρ g rows with
  | some (.nx, ρ1, g1, r1) => some (.nx, vForget is ρ1, g1, r1)
  | some (.ct, ρ1, g1, r1) => some (.ct, vForget is ρ1, g1, r1)
  | x => x
theorem vForget_no : ∀ {is : List Nat} {ρ : List Sl}, ρ[i]? = some .no → (vForget is ρ)[i]? = some .no
  | [], _, h => h
  | j :: is, ρ, h => by
    unfold vForget
    refine vForget_no ?_
    rw [List.getElem?_set]
    split
    · rename_i z
      subst z
      have := (List.getElem?_eq_some_iff.mp h).1
      simp [this]
    · exact h
theorem MatI.forgets {A : Addr} {bs : List Addr} {rows : List (List Int)} (M : MatI K F i A bs ρ g σ H rows) (is : List Nat) : MatI K F i A bs (vForget is ρ) g σ H rows ∧ FrM (FxM F A bs) ρ σ H (vForget is ρ) σ H :=
  ⟨⟨(M.rep.forgets is).1, vForget_no M.no, M.at', M.out, M.nd, M.nA, M.nB, M.len, M.row⟩, (M.rep.forgets is).2.toM⟩
theorem rm_fgE {is : List Nat} {ts : TS} {ms : MMt} (h : RSM K E ix i ts ms) : RSM K E ix i ts (nFgE is ms) := fun F A bs ρ g σ H rows M fl ρ' g' rows' e De q => by
  unfold nFgE at e
  split at e
  · rename_i ρ1 g1 r1 hm
    cases e
    refine h F A bs ρ g σ H rows M _ _ _ _ hm De fun σ' H' M' f' => ?_
    obtain ⟨M2, f2⟩ := M'.forgets is
    exact q σ' H' M2 (f'.trans f2 M.rep M'.rep)
  · rename_i ρ1 g1 r1 hm
    cases e
    refine h F A bs ρ g σ H rows M _ _ _ _ hm De fun σ' H' M' f' => ?_
    obtain ⟨M2, f2⟩ := M'.forgets is
    exact q σ' H' M2 (f'.trans f2 M.rep M'.rep)
  · exact h F A bs ρ g σ H rows M _ _ _ _ e De q
/-- the rows as a list of one's own again -/
theorem MatI.back {A : Addr} {bs : List Addr} {rows : List (List Int)} (M : MatI K F i A bs ρ g σ H rows) : Rep K F (ρ.set i (.ow (.lst (rows.map rowD)))) g σ H := by
  have hlt : i < ρ.length := (List.getElem?_eq_some_iff.mp M.no).1
  have bok := M.rep.bok
  have oth : ∀ (j : Nat) (l : Con) (a : Addr), ρ[j]? = some (Sl.ow l) → σ[j]? = some (some (V.ref a)) → ¬ (a = A ∨ a ∈ bs) := fun j l a h1 h2 z => by
    obtain ⟨x, hx, a', e1, _, nB, _⟩ := M.rep.sl j _ h1
    rw [h2] at hx
    cases hx
    cases e1
    exact nB (.inr z)
  have ow : ∀ a, Own (ρ.set i (.ow (.lst (rows.map rowD)))) σ a → Own ρ σ a ∨ a = A := fun a z => by
    obtain ⟨j, l, h1, h2⟩ := z
    by_cases q : i = j
    · subst q
      rw [M.at'] at h2
      cases h2
      exact .inr rfl
    · rw [List.getElem?_set_ne q] at h1
      exact .inl ⟨j, l, h1, h2⟩
  have sub : ∀ a, imB F (ρ.set i (.ow (.lst (rows.map rowD)))) σ a → imB (FxM F A bs) ρ σ a := fun a z => by
    rcases z with z | z | z
    · exact .inl z
    · rcases ow a z with z | z
      · exact .inr (.inl z)
      · exact .inr (.inr (.inr (.inl z)))
    · exact .inr (.inr (.inl z))
  have rowsIs : ∀ (cs : List Addr) (rs : List (List Int)), (∀ c ∈ cs, c ∈ bs) → cs.length = rs.length → (∀ (j : Nat) (c : Addr) (r : List Int), cs[j]? = some c → rs[j]? = some r → H c = some (.lst (r.map V.int))) →
      IsL K F.ra (imB F (ρ.set i (.ow (.lst (rows.map rowD)))) σ) H (rs.map rowD) (cs.map V.ref) := by
    intro cs
    induction cs with
    | nil =>
      intro rs _ hl _
      cases rs with
      | nil => rfl
      | cons _ _ => cases hl
    | cons c cs ih =>
      intro rs hm hl hr
      cases rs with
      | nil => cases hl
      | cons r rs =>
        refine ⟨_, _, rfl, ⟨c, r.map V.int, rfl, fun z => ?_, hr 0 c r rfl rfl, IsL.of_ints⟩, ih rs (fun c' h' => hm c' (List.mem_cons_of_mem _ h')) (by simpa using hl) fun j c' r' h1 h2 => hr (j + 1) c' r' (by simpa using h1) (by simpa using h2)⟩
        have hcb := hm c List.mem_cons_self
        rcases z with z | z | z
        · exact z (bok c (.inr (.inr hcb))).2.2
        · obtain ⟨j, l, h1, h2⟩ := z
          by_cases w : i = j
          · subst w
            rw [M.at'] at h2
            cases h2
            exact M.nA hcb
          · rw [List.getElem?_set_ne w] at h1
            exact oth j l c h1 h2 (.inr hcb)
        · exact M.nB.2 c hcb z
  refine ⟨by rw [List.length_set]; exact M.rep.len, fun j s hj => ?_, fun j k lj lk x h1 h2 h3 h4 => ?_, M.rep.gok.to rfl rfl, M.rep.gin, fun a ha => bok a (.inl ha), M.rep.ext, M.rep.tk⟩
  · by_cases q : i = j
    · subst q
      rw [List.getElem?_set] at hj
      simp only [if_true, hlt] at hj
      cases hj
      exact ⟨_, M.at', A, rfl, (bok A (.inr (.inl rfl))).2.2, M.nB.1, _, M.out, rowsIs bs rows (fun _ z => z) M.len M.row⟩
    · rw [List.getElem?_set_ne q] at hj
      obtain ⟨x, hx, so⟩ := M.rep.sl j s hj
      refine ⟨x, hx, ?_⟩
      cases s with
      | no => trivial
      | im d =>
        obtain ⟨v, q1, q2⟩ := so
        exact ⟨v, q1, Is.anti sub q2⟩
      | bo d => exact so
      | ow l =>
        obtain ⟨a, q1, q2, q3, q4⟩ := so
        exact ⟨a, q1, q2, fun z => q3 (.inl z), ConIs.anti sub q4⟩
  · by_cases qj : i = j
    · by_cases qk : i = k
      · rw [← qj, ← qk]
      · exfalso
        subst qj
        rw [List.getElem?_set_ne qk] at h2
        rw [M.at'] at h3
        cases h3
        exact oth k lk A h2 h4 (.inl rfl)
    · by_cases qk : i = k
      · exfalso
        subst qk
        rw [List.getElem?_set_ne qj] at h1
        rw [M.at'] at h4
        cases h4
        exact oth j lj A h1 h3 (.inl rfl)
      · rw [List.getElem?_set_ne qj] at h1
        rw [List.getElem?_set_ne qk] at h2
        exact M.rep.dis j k lj lk x h1 h2 h3 h4
/-- what comes behind: the rows are a list of one's own again, and the def ends -/
def nEnd (i : Nat) (m : MSt) : MMt := fun ρ g rows => match m (ρ.set i (.ow (.lst (rows.map rowD)))) g with
  | some (.rt d, ρ', g') => some (.rt d, ρ', g', rows)
  | some (.ex x, ρ', g') => some (.ex x, ρ', g', rows)
  | _ => none
theorem rm_end {ts : TS} {ms : MSt} (h : RS K E ix ts ms) : RSM K E ix i ts (nEnd i ms) := fun F A bs ρ g σ H rows M fl ρ' g' rows' e De q => by
  unfold nEnd at e
  split at e
  · rename_i d ρ1 g1 hm
    cases e
    exact h F _ g σ H M.back _ _ _ hm De q
  · rename_i x ρ1 g1 hm
    cases e
    exact h F _ g σ H M.back _ _ _ hm De q
  · cases e
end
end Fw

set_option Elab.async false
set_option linter.all false
set_option maxRecDepth 100000
set_option maxHeartbeats 4000000
/-! Mt3: rows = [[c1, c2] for _ in it] -/
namespace Fw
open PySem PySem.Spec PyProof.Rows L2
section
variable {K : PySem.W.Frag} {E : XK} {ix : IXT} {F : Fx} {ρ ρ' ρ1 : List Sl} {g g' g1 : G} {σ σ' σ1 : L2.St} {H H' H1 H2 : Hp} {i k : Nat}
def nNew (i : Nat) (mi : MV (List D)) (row : List Int) (mr : MMt) : MSt := fun ρ g => match mi ρ g with
  | some (.ok ds, g1) => if small ds.length = true ∧ i < ρ.length then (match mr (ρ.set i .no) g1 (List.replicate ds.length row) with
    | some (.rt d, ρ', g', _) => some (.rt d, ρ', g')
    | some (.ex x, ρ', g', _) => some (.ex x, ρ', g')
    | _ => none) else none
  | some (.ex x, g1) => some (.ex x, ρ, g1)
  | none => none
theorem rs_matNew {wi : TI} {mi : MV (List D)} {c1 c2 : Int} {tr : TS} {mr : MMt} (hi : RI K E ix wi mi) (hr : RSM K E ix i tr mr) :
    RS K E ix (tSeq (tAsg (tLc wi (gName k) tYes (tLst (tCons (tC (.int c1)) (tCons (tC (.int c2)) tNil))) [k]) (gName i)) tr) (nNew i mi [c1, c2] mr) := fun F ρ g σ H R fl ρ' g' e De q => by
  unfold nNew at e
  split at e
  rotate_left
  · rename_i x g1 hm
    cases e
    exact hi F ρ g σ H R _ _ hm _ (XPost.mono R.ext q)
  · cases e
  rename_i ds g1 hm
  split at e
  rotate_left
  · cases e
  rename_i hz
  obtain ⟨hz, hil⟩ := hz
  refine hi F ρ g σ H R _ _ hm _ fun J H1 e1 k1 it A hA => ?_
  have R1 : Rep K F ρ g1 σ H1 := R.step e1 k1
  have hH0 : ∀ a, H1 a = none → F.H0 a = none := fun a h => by
    cases z : F.H0 a with
    | none => rfl
    | some o => exact absurd h (R1.there (by rw [z]; intro w; cases w))
  have nR : ¬ isR F A := fun z => R1.gin A z (hH0 A hA)
  refine ⟨fun j mm H2 => mm = ds.length - j ∧ j ≤ ds.length ∧ ∃ bs : List Addr, bs.length = j ∧ Ex (isR F) H1 H2 ∧ GOk F g1 H2 ∧ H2 A = some (.lst (bs.map V.ref)) ∧ bs.Nodup ∧ ∀ c ∈ bs, c ≠ A ∧ H1 c = none ∧ H2 c = some (.lst [.int c1, .int c2]),
    ⟨ds.length, rfl, Nat.zero_le _, [], rfl, Ex.new hA, R1.gok.new hA, upd_same, List.nodup_nil, fun c hc => by cases hc⟩, ?_⟩
  rintro j mm H2 ⟨rfl, hj, bs, hbl, e2, k2, hA2, nd, hb⟩
  by_cases hlt : j < ds.length
  · have hd : ds[j]? = some ds[j] := List.getElem?_eq_getElem hlt
    obtain ⟨go, yl⟩ := (it H2 (e2.mono fun _ z => .inl z) j).2 _ hd
    refine .inr ⟨go, fun H' => ∃ bs : List Addr, bs.length = j + 1 ∧ Ex (isR F) H1 H' ∧ GOk F g1 H' ∧ H' A = some (.lst (bs.map V.ref)) ∧ bs.Nodup ∧ ∀ c ∈ bs, c ≠ A ∧ H1 c = none ∧ H' c = some (.lst [.int c1, .int c2]),
      fun H' nx => ⟨ds.length - (j + 1), by omega, rfl, hlt, nx⟩, fun x H3 y => ?_⟩
    obtain ⟨e3, _⟩ := yl x H3 y
    have e23 : Ex (isR F) H2 H3 := e3.mono fun _ z => z.elim
    have k3 : GOk F g1 H3 := Ex.keepR k2 e3
    have A3 : H3 A = some (.lst (bs.map V.ref)) := e3 A _ hA2 fun z => z.elim
    refine ⟨?_, ?_⟩
    · have := wipe_eq (σ := wipe σ [k]) (σ' := (wipe σ [k]).set k (some x)) (vs := [k]) (by simp) fun j hj => List.getElem?_set_ne fun z => hj (by rw [z]; exact List.mem_cons_self)
      rw [this, wipe_wipe]
    · unfold tYes
      simp only [if_true]
      refine ⟨?_, fun p hp => ?_⟩
      · exact Nat.le_of_lt (Nat.lt_of_le_of_lt (by decide : 2 ≤ 1000) (by decide))
      · have pA : A ≠ p := fun z => by rw [z, hp] at A3; cases A3
        have e34 : Ex (isR F) H3 (upd H3 p (.lst [.int c1, .int c2])) := Ex.new hp
        have k4 : GOk F g1 (upd H3 p (.lst [.int c1, .int c2])) := k3.new hp
        have A4 : (upd H3 p (.lst [.int c1, .int c2])) A = some (.lst (bs.map V.ref)) := by rw [upd_ne pA]; exact A3
        have hb3 : ∀ c ∈ bs, H3 c = some (.lst [.int c1, .int c2]) := fun c hc => e3 c _ (hb c hc).2.2 fun z => z.elim
        have pb : ∀ c ∈ bs, c ≠ p := fun c hc z => by have := hb3 c hc; rw [z, hp] at this; cases this
        have H1p : H1 p = none := by
          cases z : H1 p with
          | none => rfl
          | some o =>
            exfalso
            by_cases w : isR F p
            · exact k3.there w hp
            · have := (e2.trans e23) p o z fun u => absurd u w
              rw [hp] at this; cases this
        refine ⟨bs.map V.ref, A4, ?_, bs ++ [p], by simp [hbl], ?_, ?_, ?_, ?_, ?_⟩
        · rw [List.length_map, hbl]
          exact Nat.lt_trans hlt (small_line hz)
        · refine fun a o h nn => ?_
          have a1 := (e2.trans e23).trans e34 a o h nn
          by_cases w : a = A
          · rw [w, hA] at h; cases h
          · rw [upd_ne w]; exact a1
        · exact k4.put nR A4
        · rw [List.map_append]; exact upd_same
        · rw [List.nodup_append]
          refine ⟨nd, by simp, fun a ha b hb' => ?_⟩
          rw [List.mem_singleton] at hb'
          rw [hb']
          exact pb a ha
        · intro c hc
          rcases List.mem_append.mp hc with hc | hc
          · obtain ⟨u1, u2, u3⟩ := hb c hc
            exact ⟨u1, u2, by rw [upd_ne u1, upd_ne (pb c hc)]; exact hb3 c hc⟩
          · rw [List.mem_singleton] at hc
            rw [hc]
            exact ⟨Ne.symm pA, H1p, by rw [upd_ne (Ne.symm pA)]; exact upd_same⟩
  · have hie : j = ds.length := by omega
    subst hie
    refine .inl ⟨(it H2 (e2.mono fun _ z => .inl z) ds.length).1 rfl, ?_⟩
    have R2 := R1.moreB e2 k2 (A := A) (bs := bs) ⟨hA, by rw [hA2]; intro z; cases z⟩ fun c hc => ⟨(hb c hc).2.1, by rw [(hb c hc).2.2]; intro z; cases z⟩
    have R3 := R2.set (i := i) (s := .no) (x := some (.ref A)) (fun l => by intro z; cases z) trivial
    have hb0 : ∀ a, H1 a = none → ¬ F.B a := fun a h z => (R1.bok a z).2.1 h
    have hilσ : i < σ.length := by rw [R1.len]; exact hil
    have M : MatI K F i A bs (ρ.set i .no) g1 (σ.set i (some (.ref A))) H2 (List.replicate ds.length [c1, c2]) := by
      refine ⟨R3, by rw [List.getElem?_set]; simp [hil], by rw [List.getElem?_set]; simp [hilσ], hA2, nd, fun z => (hb A z).1 rfl, ⟨hb0 A hA, fun c hc => hb0 c (hb c hc).2.1⟩, by rw [List.length_replicate]; exact hbl, fun j c r h1 h2 => ?_⟩
      have hr' : r = [c1, c2] := by
        have := List.mem_of_getElem? h2
        exact (List.mem_replicate.mp this).2
      rw [hr']
      exact (hb c (List.mem_of_getElem? h1)).2.2
    split at e
    · rename_i d ρ2 g2 r2 hm2
      cases e
      exact hr F A bs _ g1 _ H2 _ M _ _ _ _ hm2 De q
    · rename_i x ρ2 g2 r2 hm2
      cases e
      exact hr F A bs _ g1 _ H2 _ M _ _ _ _ hm2 De q
    · cases e
end
end Fw

set_option Elab.async false
set_option linter.all false
set_option maxRecDepth 100000
set_option maxHeartbeats 4000000
/-! Mt4: a, b = a list -/
namespace Fw
open PySem PySem.Spec PyProof.Rows L2
section
variable {K : PySem.W.Frag} {E : XK} {ix : IXT} {F : Fx} {ρ ρ' ρ1 : List Sl} {g g' g1 : G} {σ σ' σ1 : L2.St} {H H' H1 H2 : Hp}
def bLst (n : Nat) (bs : List D → List Sl → Option (List Sl)) : BndT := fun d ρ => match d with
  | .lst l => if l.length = n then bs l ρ else none
  | _ => none
theorem rg_unl {n : Nat} {gs : TGs} {bs : List D → List Sl → Option (List Sl)} {ks : List Nat} (h : RGs K gs bs ks) : RG K (gUnl K n gs) (bLst n bs) ks := fun F ρ g σ H R d v hi ρ' e Q q => by
  unfold bLst at e
  split at e
  · rename_i l
    split at e
    · rename_i hl
      obtain ⟨a, xs, rfl, _, h2, h3⟩ := hi
      exact ⟨a, xs, rfl, SqL.of h2, by rw [h3.length, hl], h F ρ g σ H R l xs h3 ρ' e Q q⟩
    · cases e
  · cases e
end
end Fw

set_option Elab.async false
set_option linter.all false
set_option maxRecDepth 100000
set_option maxHeartbeats 4000000
/-! Mt5: the drawing list is made; the law's own promise -/
namespace Fw
open PySem PySem.Spec PyProof.Rows L2
def mix1 (m c : Int) : Int := (m * 48271 + c % 2147483629 + 1) % 2147483647
def mixN (seed : Int) (ns : List Int) : Int := ns.foldl mix1 seed
def spMix (K : PySem.W.Frag) : Sp := fun vs H Q _ => ∃ (a : Addr) (ns : List Int) (seed : Int), vs = [.ref a, .int seed] ∧ SqL K H a (ns.map V.int) ∧ ns.length ≤ 63 ∧ 0 ≤ seed ∧ seed < 2147483647 ∧
  ∀ (ra rb : Addr) (H' : Hp), ra ≠ rb → (∀ b o, H b = some o → H' b = some o) → H' ra = some (.lst [.int (mixN seed ns), .ref rb, .int 0]) → H' rb = some (.lst (ns.map V.int)) → Q (.ref ra) H'
def spLaw (K : PySem.W.Frag) : Sp := fun vs H Q _ => ∃ (a : Addr) (ns : List Int), vs = [.ref a] ∧ SqL K H a (ns.map V.int) ∧ ns.length ≤ 63 ∧ LamX.Tabs (tabsK K) H ∧ ∀ H', Q (.bl true) H'
theorem tabs_none {K : PySem.W.Frag} {H : Hp} (h : tabsK K = []) : LamX.Tabs (tabsK K) H := fun p hp => by rw [h] at hp; cases hp
def lawG (seed : Int) (ns : List Int) : G := ⟨mixN seed ns, ns, 0⟩
def lawS (n : Nat) : List Sl := (List.replicate n Sl.no).set 1 (.im .rng)
theorem rep_law {K : PySem.W.Frag} {N : List Str} {vs : List V} {ra rb : Addr} {H : Hp} {seed : Int} {ns : List Int} (hne : ra ≠ rb) (h1 : H ra = some (.lst [.int (mixN seed ns), .ref rb, .int 0])) (h2 : H rb = some (.lst (ns.map V.int))) (hl : ns.length ≤ 63) (hN : 1 < N.length) (hv : vs.length = 1) (hT : LamX.Tabs (tabsK K) H) :
    Rep K ⟨ra, rb, H, fun _ => False, tabsK K⟩ (lawS N.length) (lawG seed ns) ((L2.start N vs).set 1 (some (.ref ra))) H where
  len := by simp [lawS, L2.start, hv]; omega
  sl := fun i s hs => by
    have hsl : ((L2.start N vs).set 1 (some (V.ref ra))).length = N.length := by simp [L2.start, hv]; omega
    have hi : i < N.length := by
      have := (List.getElem?_eq_some_iff.mp hs).1
      simpa [lawS] using this
    refine ⟨((L2.start N vs).set 1 (some (V.ref ra)))[i]'(by rw [hsl]; exact hi), List.getElem?_eq_getElem _, ?_⟩
    by_cases q : 1 = i
    · subst q
      unfold lawS at hs
      rw [List.getElem?_set] at hs
      simp only [if_true, List.length_replicate, hi] at hs
      cases hs
      refine ⟨.ref ra, ?_, rfl⟩
      rw [List.getElem_set]
      simp
    · unfold lawS at hs
      rw [List.getElem?_set_ne q] at hs
      have := (List.mem_replicate.mp (List.mem_of_getElem? hs)).2
      subst this
      trivial
  dis := fun i j li lj x hi hj _ _ => by
    exfalso
    unfold lawS at hi
    by_cases q : 1 = i
    · subst q
      rw [List.getElem?_set] at hi
      simp only [if_true] at hi
      split at hi <;> cases hi
    · rw [List.getElem?_set_ne q] at hi
      have := (List.mem_replicate.mp (List.mem_of_getElem? hi)).2
      cases this
  gok := ⟨hne, h1, h2, by show ns.length ≤ 1000; omega, hT⟩
  gin := fun a ha => GOk.there (F := ⟨ra, rb, H, fun _ => False, tabsK K⟩) (g := lawG seed ns) ⟨hne, h1, h2, by show ns.length ≤ 1000; omega, hT⟩ ha
  bok := fun a ha => ha.elim
  ext := Ex.refl
  tk := rfl
abbrev ix0 : IXT := fun _ _ _ _ => False
/-- the law's body: the drawing list, then what is read -/
theorem law_run {K : PySem.W.Frag} {E : XK} {N : List Str} {vs : List V} {H : Hp} {Q : VK} {seed : Int} {tr : TS} {m : MSt} (hs : spLaw K vs H Q E) (h0 : 0 ≤ seed) (h1 : seed < 2147483647) (hN : 1 < N.length) (hst : ∀ a, vs = [.ref a] → (L2.start N vs)[0]? = some (some (.ref a)))
    (hr : RS K E ix0 tr m) (hm : ∀ ns : List Int, ns.length ≤ 63 → ∃ ρ' g', m (lawS N.length) (lawG seed ns) = some (.rt (.bl true), ρ', g')) :
    tSeq (tAsg (tCall (spMix K) [] E0 (tCons (tVar 0) (tCons (tC (.int seed)) tNil))) (gName 1)) tr { nx := fun _ H' => Q .non H', rt := Q } (L2.start N vs) H := by
  obtain ⟨a, ns, rfl, hS, hl, hT, q⟩ := hs
  refine ⟨.ref a, hst a rfl, a, ns, seed, rfl, hS, hl, h0, h1, fun ra rb H' hne hx g1 g2 => ?_⟩
  obtain ⟨ρ', g', e⟩ := hm ns hl
  refine hr ⟨ra, rb, H', fun _ => False, tabsK K⟩ _ _ _ H' (rep_law hne g1 g2 hl hN rfl (LamX.Tabs.ext hT hx)) _ _ _ e _ fun v H2 _ _ i => ?_
  have i' : v = .bl true := i
  rw [i']
  exact q H2
end Fw

set_option Elab.async false
set_option linter.all false
set_option maxRecDepth 100000
set_option maxHeartbeats 400000
/-! M0: readings are run step by step -/
namespace Fw
section
variable {α β : Type} {ρ ρ1 ρ2 : List Sl} {g g1 g2 g3 : G} {n i : Nat} {d x y z c : D} {l ds : List D} {m m1 m2 : MSt} {ma mb mc : MV D} {ms : MV (List D)} {mt mu : MV Bool} {bd : BndT} {φ : PhiT} {b b' : Bool}
theorem mbind_ok {m : MV α} {f : α → MV β} {a : α} {r : Option (Out β × G)} (h : m ρ g = some (.ok a, g1)) (k : f a ρ g1 = r) : mbind m f ρ g = r := by unfold mbind; rw [h]; exact k
theorem mret_ok {a : α} : mret a ρ g = some (.ok a, g) := rfl
theorem mVar_ok (h : ρ[i]? = some (.im d)) : mVar i ρ g = some (.ok d, g) := by unfold mVar; rw [h]
theorem mVarB_im (h : ρ[i]? = some (.im d)) : mVarB i ρ g = some (.ok d, g) := by unfold mVarB; rw [h]
theorem mVarB_bo (h : ρ[i]? = some (.bo d)) : mVarB i ρ g = some (.ok d, g) := by unfold mVarB; rw [h]
theorem mVarB_ow (h : ρ[i]? = some (.ow (.lst l))) : mVarB i ρ g = some (.ok (.lst l), g) := by unfold mVarB; rw [h]
theorem mlift_ok {o : Option α} {a : α} (h : o = some a) : mlift o ρ g = some (.ok a, g) := by subst h; rfl
theorem mOp_ok {f : D → D → Option D} (ha : ma ρ g = some (.ok x, g1)) (hb : mb ρ g1 = some (.ok y, g2)) (hf : f x y = some z) : mOp f ma mb ρ g = some (.ok z, g2) := mbind_ok ha (mbind_ok hb (mlift_ok hf))
theorem mUn_ok {f : D → Option D} (ha : ma ρ g = some (.ok x, g1)) (hf : f x = some z) : mUn f ma ρ g = some (.ok z, g1) := mbind_ok ha (mlift_ok hf)
theorem mCB_ok {f : List D → Option D} (ha : ms ρ g = some (.ok l, g1)) (hf : f l = some z) : mCB f ms ρ g = some (.ok z, g1) := mbind_ok ha (mlift_ok hf)
theorem mNil_ok : mNil ρ g = some (.ok [], g) := rfl
theorem mCons_ok (ha : ma ρ g = some (.ok x, g1)) (hb : ms ρ g1 = some (.ok l, g2)) : mCons ma ms ρ g = some (.ok (x :: l), g2) := mbind_ok ha (mbind_ok hb rfl)
theorem mTup_ok (h : ms ρ g = some (.ok l, g1)) (hs : small l.length = true) : mTup ms ρ g = some (.ok (.tup l), g1) := mbind_ok h (by rw [if_pos hs]; rfl)
theorem mLst_ok (h : ms ρ g = some (.ok l, g1)) (hs : small l.length = true) : mLst ms ρ g = some (.ok l, g1) := mbind_ok h (by rw [if_pos hs]; rfl)
theorem mFr_ok (h : ms ρ g = some (.ok l, g1)) : mFr ms ρ g = some (.ok (.lst l), g1) := mbind_ok h rfl
theorem mLf_ok (h : ma ρ g = some (.ok x, g1)) (hl : x.lf = true) : mLf ma ρ g = some (.ok x, g1) := mbind_ok h (by rw [if_pos hl]; rfl)
theorem mB_ok (h : ma ρ g = some (.ok (.bl b), g1)) : mB ma ρ g = some (.ok b, g1) := mbind_ok h rfl
theorem mAnd_t {r} (ha : ma ρ g = some (.ok (.bl true), g1)) (hb : mb ρ g1 = r) : mAnd ma mb ρ g = r := mbind_ok (mB_ok ha) hb
theorem mAnd_f (ha : ma ρ g = some (.ok (.bl false), g1)) : mAnd ma mb ρ g = some (.ok (.bl false), g1) := mbind_ok (mB_ok ha) rfl
theorem mOr_t (ha : ma ρ g = some (.ok (.bl true), g1)) : mOr ma mb ρ g = some (.ok (.bl true), g1) := mbind_ok (mB_ok ha) rfl
theorem mOr_f {r} (ha : ma ρ g = some (.ok (.bl false), g1)) (hb : mb ρ g1 = r) : mOr ma mb ρ g = r := mbind_ok (mB_ok ha) hb
theorem mNot_ok (ha : ma ρ g = some (.ok (.bl b), g1)) (e : (!b) = b' := by rfl) : mNot ma ρ g = some (.ok (.bl b'), g1) := by subst e; exact mbind_ok (mB_ok ha) rfl
theorem mTAnd_t {r} (ha : mt ρ g = some (.ok true, g1)) (hb : mu ρ g1 = r) : mTAnd mt mu ρ g = r := mbind_ok ha hb
theorem mTAnd_f (ha : mt ρ g = some (.ok false, g1)) : mTAnd mt mu ρ g = some (.ok false, g1) := mbind_ok ha rfl
/-- both read, none of them changes a thing -/
theorem mTAnd_ok (ha : mt ρ g = some (.ok b, g1)) (hb : mu ρ g1 = some (.ok b', g1)) {b2 : Bool} (e : (b && b') = b2 := by rfl) : mTAnd mt mu ρ g = some (.ok b2, g1) := by
  subst e
  cases b with
  | true => exact mTAnd_t ha hb
  | false => exact mTAnd_f ha
theorem mTOr_t (ha : mt ρ g = some (.ok true, g1)) : mTOr mt mu ρ g = some (.ok true, g1) := mbind_ok ha rfl
theorem mTOr_f {r} (ha : mt ρ g = some (.ok false, g1)) (hb : mu ρ g1 = r) : mTOr mt mu ρ g = r := mbind_ok ha hb
theorem mTOr_ok (ha : mt ρ g = some (.ok b, g1)) (hb : mu ρ g1 = some (.ok b', g1)) {b2 : Bool} (e : (b || b') = b2 := by rfl) : mTOr mt mu ρ g = some (.ok b2, g1) := by
  subst e
  cases b with
  | true => exact mTOr_t ha
  | false => exact mTOr_f ha hb
theorem mTNot_ok (ha : mt ρ g = some (.ok b, g1)) (e : (!b) = b' := by rfl) : mTNot mt ρ g = some (.ok b', g1) := by subst e; exact mbind_ok ha rfl
theorem mIf_t {r} (ha : mt ρ g = some (.ok true, g1)) (hb : ma ρ g1 = r) : mIf mt ma mb ρ g = r := mbind_ok ha hb
theorem mIf_f {r} (ha : mt ρ g = some (.ok false, g1)) (hb : mb ρ g1 = r) : mIf mt ma mb ρ g = r := mbind_ok ha hb
theorem mIf_ok (ha : mt ρ g = some (.ok b, g1)) (h1 : ma ρ g1 = some (.ok x, g1)) (h2 : mb ρ g1 = some (.ok y, g1)) {w : D} (e : (if b = true then x else y) = w := by rfl) : mIf mt ma mb ρ g = some (.ok w, g1) := by
  subst e
  cases b with
  | true => exact mIf_t ha h1
  | false => exact mIf_f ha h2
theorem mChain_ok {f f' : D → D → Option D} (ha : ma ρ g = some (.ok x, g)) (hb : mb ρ g = some (.ok y, g)) (hc : mc ρ g = some (.ok z, g)) (h1 : f x y = some (.bl b)) (h2 : f' y z = some (.bl b')) {b2 : Bool} (e : (b && b') = b2 := by rfl) : mChain f f' ma mb mc ρ g = some (.ok (.bl b2), g) := by
  subst e
  refine mbind_ok ha (mbind_ok hb (mbind_ok (a := b) (g1 := g) (mlift_ok (by rw [h1]; rfl)) ?_))
  cases b with
  | true => exact mbind_ok hc (mlift_ok h2)
  | false => rfl
theorem mCall0_ok (h : ms ρ g = some (.ok l, g1)) (hl : l.length = n) (hφ : φ l g1 = some (.ok d, g2)) : mCall0 n φ ms ρ g = some (.ok d, g2) := mbind_ok h (by simp only [if_pos hl, hφ])
theorem mItT_ok (h : ma ρ g = some (.ok (.tup l), g1)) : mItT ma ρ g = some (.ok l, g1) := mbind_ok h rfl
theorem mItL_ok (h : ma ρ g = some (.ok (.lst l), g1)) : mItL ma ρ g = some (.ok l, g1) := mbind_ok h rfl
theorem mEnum_t (h : ms ρ g = some (.ok [.tup l], g1)) : mEnum ms ρ g = some (.ok (enumD 0 l), g1) := mbind_ok h rfl
theorem mEnum_l (h : ms ρ g = some (.ok [.lst l], g1)) : mEnum ms ρ g = some (.ok (enumD 0 l), g1) := mbind_ok h rfl
theorem mRng1_ok {j : Int} (h : ms ρ g = some (.ok [.int j], g1)) (hj : bigI j = true) : mRng1 ms ρ g = some (.ok (rngD 0 j.toNat), g1) := mbind_ok h (mlift_ok (by show (if bigI j = true then some (rngD 0 j.toNat) else none) = _; rw [if_pos hj]))
theorem mTupOf_t (h : ms ρ g = some (.ok [.tup l], g1)) : mTupOf ms ρ g = some (.ok (.tup l), g1) := mbind_ok h rfl
theorem mTupOf_l (h : ms ρ g = some (.ok [.lst l], g1)) : mTupOf ms ρ g = some (.ok (.tup l), g1) := mbind_ok h rfl
/-! statements -/
theorem phi_rt (h : m (start0 n ds) g = some (.rt d, ρ1, g1)) : phi n m ds g = some (.ok d, g1) := by unfold phi; rw [h]
theorem phi_nx (h : m (start0 n ds) g = some (.nx, ρ1, g1)) : phi n m ds g = some (.ok .non, g1) := by unfold phi; rw [h]
theorem mSeq_nx {r} (h1 : m1 ρ g = some (.nx, ρ1, g1)) (h2 : m2 ρ1 g1 = r) : mSeq m1 m2 ρ g = r := by unfold mSeq; rw [h1]; exact h2
theorem mSeq_rt (h1 : m1 ρ g = some (.rt d, ρ1, g1)) : mSeq m1 m2 ρ g = some (.rt d, ρ1, g1) := by unfold mSeq; rw [h1]
theorem mSeq_bk (h1 : m1 ρ g = some (.bk, ρ1, g1)) : mSeq m1 m2 ρ g = some (.bk, ρ1, g1) := by unfold mSeq; rw [h1]
theorem mAsg_ok (h : ma ρ g = some (.ok d, g1)) (hb : bd d ρ = some ρ1) : mAsg ma bd ρ g = some (.nx, ρ1, g1) := by unfold mAsg; rw [h]; dsimp only; rw [hb]
theorem mDrop_ok (h : ma ρ g = some (.ok d, g1)) : mDrop ma ρ g = some (.nx, ρ, g1) := by unfold mDrop; rw [h]
theorem mRet_ok (h : ma ρ g = some (.ok d, g1)) : mRet ma ρ g = some (.rt d, ρ, g1) := by unfold mRet; rw [h]
theorem mIfS_t {r} (h : mt ρ g = some (.ok true, g1)) (k : m1 ρ g1 = r) : mIfS mt m1 m2 ρ g = r := by unfold mIfS; rw [h]; exact k
theorem mIfS_f {r} (h : mt ρ g = some (.ok false, g1)) (k : m2 ρ g1 = r) : mIfS mt m1 m2 ρ g = r := by unfold mIfS; rw [h]; exact k
theorem mOwn_ok (h : ms ρ g = some (.ok l, g1)) (hi : i < ρ.length) : mOwn i ms ρ g = some (.nx, ρ.set i (.ow (.lst l)), g1) := by unfold mOwn; rw [h]; dsimp only; rw [if_pos hi]
theorem mApp_ok (hl : ρ[i]? = some (.ow (.lst l))) (h : ma ρ g = some (.ok d, g1)) (hs : small l.length = true) : mApp i ma ρ g = some (.nx, ρ.set i (.ow (.lst (l ++ [d]))), g1) := by
  unfold mApp; rw [hl]; unfold getOw; dsimp only; rw [h]; dsimp only; rw [if_pos hs]
theorem mFgE_nx {is : List Nat} (h : m ρ g = some (.nx, ρ1, g1)) (e : vForget is ρ1 = ρ2 := by rfl) : mFgE is m ρ g = some (.nx, ρ2, g1) := by subst e; unfold mFgE; rw [h]
theorem mFgE_rt {is : List Nat} (h : m ρ g = some (.rt d, ρ1, g1)) : mFgE is m ρ g = some (.rt d, ρ1, g1) := by unfold mFgE; rw [h]
theorem mFree_ok {r} (h : ρ[i]? = some (.ow (.lst l))) (k : m (ρ.set i (.im (.lst l))) g = r) : mFree i m ρ g = r := by unfold mFree vFree; rw [h]; exact k
theorem mFor_ok {r} (h : ms ρ g = some (.ok l, g1)) (k : forGo bd m l ρ g1 = r) : mFor ms bd m ρ g = r := by unfold mFor; rw [h]; exact k
/-- a walk whose rounds each lead on: the k-th round from state S k -/
theorem forGo_nx {S : Nat → List Sl × G} : ∀ (ds : List D) (k : Nat), (∀ j d, ds[j]? = some d → ∃ ρ1, bd d (S (k + j)).1 = some ρ1 ∧ (m ρ1 (S (k + j)).2 = some (.nx, S (k + j + 1)) ∨ m ρ1 (S (k + j)).2 = some (.ct, S (k + j + 1)))) →
    forGo bd m ds (S k).1 (S k).2 = some (.nx, S (k + ds.length))
  | [], k, _ => rfl
  | d :: ds, k, H => by
    obtain ⟨ρ1, h1, h2⟩ := H 0 d rfl
    rw [Nat.add_zero] at h1 h2
    have ih := forGo_nx (S := S) ds (k + 1) fun j d hd => by
      have := H (j + 1) d (by simpa using hd)
      have e : k + (j + 1) = k + 1 + j := by omega
      rw [e] at this
      exact this
    unfold forGo
    rw [h1]; dsimp only
    have e : k + (d :: ds).length = k + 1 + ds.length := by simp; omega
    rw [e]
    rcases h2 with h2 | h2
    · rw [h2]; exact ih
    · rw [h2]; exact ih
theorem lcGo_map {bd : BndT} {mt : MV Bool} {me : MV D} {ρ : List Sl} (f h : α → D) : ∀ (l : List α) (g : G), (∀ a ∈ l, ∃ ρ1, bd (h a) ρ = some ρ1 ∧ mt ρ1 g = some (.ok true, g) ∧ me ρ1 g = some (.ok (f a), g)) → lcGo bd mt me ρ (l.map h) g = some (l.map f, g)
  | [], g, _ => rfl
  | a :: l, g, H => by
    obtain ⟨ρ1, h1, h2, h3⟩ := H a List.mem_cons_self
    have ih := lcGo_map f h l g fun b hb => H b (List.mem_cons_of_mem _ hb)
    rw [List.map_cons, List.map_cons]
    unfold lcGo
    rw [h1]; dsimp only
    rw [h2]; dsimp only
    rw [h3]; dsimp only
    rw [ih]
theorem mLc_ok {mi : MV (List D)} {mt : MV Bool} {me : MV D} {vs : List Nat} {l' : List D} (hi : mi ρ g = some (.ok l, g1)) (hl : small l.length = true) (h : lcGo bd mt me (wipeS ρ vs) l g1 = some (l', g2)) : mLc mi bd vs mt me ρ g = some (.ok l', g2) :=
  mbind_ok hi (by rw [if_pos hl, h])
/-- with a test: what passes it -/
theorem lcGo_filter {bd : BndT} {mt : MV Bool} {me : MV D} {ρ : List Sl} (p : α → Bool) (f h : α → D) : ∀ (l : List α) (g : G), (∀ a ∈ l, ∃ ρ1, bd (h a) ρ = some ρ1 ∧ mt ρ1 g = some (.ok (p a), g) ∧ (p a = true → me ρ1 g = some (.ok (f a), g))) →
    lcGo bd mt me ρ (l.map h) g = some ((l.filter p).map f, g)
  | [], g, _ => rfl
  | a :: l, g, H => by
    obtain ⟨ρ1, h1, h2, h3⟩ := H a List.mem_cons_self
    have ih := lcGo_filter p f h l g fun b hb => H b (List.mem_cons_of_mem _ hb)
    rw [List.map_cons]
    unfold lcGo
    rw [h1]; dsimp only
    rw [h2]
    cases hp : p a with
    | true =>
      dsimp only
      rw [h3 hp]; dsimp only
      rw [ih, List.filter_cons, if_pos hp, List.map_cons]
    | false =>
      dsimp only
      rw [ih, List.filter_cons, hp]
      rfl
theorem small_of {k : Nat} (h : k ≤ 1000000) : small k = true := decide_eq_true h
end
end Fw

set_option Elab.async false
set_option linter.all false
set_option maxRecDepth 100000
set_option maxHeartbeats 4000000
/-! Ex1: lcm, a built-in that a module's name holds; range of three -/
namespace Fw
open PySem PySem.Spec PyProof.Rows L2
section
variable {X : Cx} {x : Str} {p pos : Pos} {e : Expr} {es : List Expr} {t : TA} {id : String} {r : List V → Hp → VK → Prop}
/-- f(e, ..), f a name of the module that holds a built-in function -/
theorem pe_callM (hc : CallR X (.builtin id) r) (hg : Gl X x) (hm : X.mg x = some (.builtin id)) (ha : PA X (e :: es) t) (hdb : (x == ("__debug__" : Str)) = false := by decide)
    (he : starEach (e :: es) X.env = (false, eval e X.env) :: starEach es X.env := by rfl) (hpl : (backTo pos (starEach es X.env)).any (·.1) = false := by rfl) : PE X (.Call (.Name x p) (e :: es) [] pos) (tCB r t) := by
  refine ⟨fun pins s σ H Q I h => ?_⟩
  refine wpAny_Call_Name_kw (ld_glob I hg hm ?_ hdb)
  exact PyProof.Rows.callWith_builtin1 (thn (ha.run pos pins s σ H _ I h) fun us s1 ⟨vs, H1, I1, r1, q1⟩ => hc pins s1 σ H1 vs us Q I1 r1 q1) he hpl
/-- lcm of two small numbers -/
def rLcm : List V → Hp → VK → Prop := fun xs H Q => ∃ i j : Int, xs = [.int i, .int j] ∧ 0 < i ∧ i ≤ 1000000 ∧ 0 < j ∧ j ≤ 1000000 ∧ Q (.int (Nat.lcm i.natAbs j.natAbs : Nat)) H
theorem lcm_small {i j : Int} (h1 : 0 < i) (h2 : i ≤ 1000000) (h3 : 0 < j) (h4 : j ≤ 1000000) : (Nat.lcm i.natAbs j.natAbs).log2 < bitsLine := by
  have l : Nat.lcm i.natAbs j.natAbs ≤ i.natAbs * j.natAbs := Nat.le_of_dvd (Nat.mul_pos (by omega) (by omega)) (Nat.lcm_dvd_mul _ _)
  have m : i.natAbs * j.natAbs ≤ 1000000 * 1000000 := Nat.mul_le_mul (by omega) (by omega)
  have b : Nat.lcm i.natAbs j.natAbs < 2 ^ (63 + 1) := by omega
  exact Nat.lt_of_le_of_lt (PySem.W.mg_log b) (by decide)
theorem call_lcm : CallR X (.builtin "math.lcm") rLcm := by
  intro pins s σ H xs us Q I r h
  obtain ⟨i, j, rfl, h1, h2, h3, h4, q⟩ := h
  obtain ⟨u1, u2, rfl, r1, r2⟩ := vals2 r
  obtain ⟨t, rfl⟩ := r1
  obtain ⟨t', rfl⟩ := r2
  refine PySem.W.mg_lcm_v (c := (Nat.lcm i.natAbs j.natAbs : Nat)) (by omega) (by omega) (by rw [Nat.lcm_one_left]) (by simpa using lcm_small h1 h2 h3 h4) ?_
  exact ⟨.int (Nat.lcm i.natAbs j.natAbs : Nat), H, I.tok _, ⟨_, rfl⟩, q⟩
def fLcm (l : List D) : Option D := match l with
  | [.int i, .int j] => if 0 < i ∧ i ≤ 1000000 ∧ 0 < j ∧ j ≤ 1000000 then some (.int (Nat.lcm i.natAbs j.natAbs : Nat)) else none
  | _ => none
theorem sc_lcm {K : PySem.W.Frag} : ScN K rLcm fLcm := fun ra B H l c vs hl e => by
  unfold fLcm at e
  split at e
  · rename_i i j
    split at e
    · rename_i hc
      cases e
      obtain ⟨v, w, rfl, h1, v2, w2, rfl, h2, h3⟩ := hl
      cases h3
      cases (show v = .int i from h1)
      cases (show v2 = .int j from h2)
      exact ⟨.int (Nat.lcm i.natAbs j.natAbs : Nat), fun _ _ _ => rfl, fun Q q => ⟨i, j, rfl, hc.1, hc.2.1, hc.2.2.1, hc.2.2.2, q⟩⟩
    · cases e
  · cases e
end
/-- a walk over range(i, j, c), c above 0 -/
def rngC (lo c : Int) (n : Nat) : List D := (List.range n).map fun (i : Nat) => D.int (lo + (i : Int) * c)
end Fw

set_option Elab.async false
set_option linter.all false
set_option maxRecDepth 100000
set_option maxHeartbeats 4000000
/-! Al: isinstance of one of several; defs that call themselves; equal things -/
namespace Fw
open PySem PySem.Spec PyProof.Rows L2
def isTyAny (t : String) : List String → Option Bool
  | [] => some false
  | n :: ns => match isTy t n, isTyAny t ns with
    | some a, some b => some (a || b)
    | _, _ => none
theorem isTyAny_kit {K : PySem.W.Frag} {t : String} (ht : t ∈ tyNames) : ∀ {ns : List String} {b : Bool}, isTyAny t ns = some b → PySem.W.kitAny K (.type t) (ns.map Value.type) = some b
  | [], _, h => by cases h; exact kitAny_nil
  | n :: ns, b, h => by
    unfold isTyAny at h
    split at h
    · rename_i a c h1 h2
      cases h
      exact kitAny_cons (kit_ty (isTy_kit ht h1)) (fun z => by rw [z, Bool.false_or]; exact isTyAny_kit ht h2) fun z => by rw [z, Bool.true_or]
    · cases h
def mIsiT (ns : List String) (m : MV D) : MV D := mbind m fun d => mlift ((tyD d).bind fun t => (isTyAny t ns).map .bl)
section
variable {K : PySem.W.Frag} {E : XK} {ix : IXT} {b b1 : Bool} {t : TE} {m : MV D}
theorem re_isiT {n1 n2 : String} (h : RE K E ix b1 t m) : RE K E ix b (tCB (rIsiT K) (tCons t (tCons (tTup (tCons (tC (.ty n1)) (tCons (tC (.ty n2)) tNil))) tNil))) (mIsiT [n1, n2] m) := fun F ρ g σ H R r g' e Q q =>
  h.one R e q.x fun d v H1 g1 e1 R1 i1 k1 => by
    obtain ⟨c, hc, rfl, rfl⟩ := mlift_some k1
    cases ht : tyD d with
    | none => rw [ht] at hc; cases hc
    | some ty =>
      rw [ht] at hc
      simp only [Option.bind_some] at hc
      cases hk : isTyAny ty [n1, n2] with
      | none => rw [hk] at hc; cases hc
      | some x =>
        rw [hk] at hc
        cases hc
        refine ⟨by show 2 ≤ sizeLine; decide, fun p hp => ?_⟩
        have en : Ex (isR F) H1 (upd H1 p (.tup [.ty n1, .ty n2])) := Ex.new hp
        exact ⟨v, p, [.ty n1, .ty n2], .type ty, [.type n1, .type n2], x, rfl, upd_same, .cons (.ty n1) (.cons (.ty n2) .nil), tyD_is (Is.step (bad_r R) en i1) ht, isTyAny_kit (tyD_mem ht) hk,
          q _ _ (e1.trans en) (R1.gok.new hp) rfl⟩
end
/-- a promise that is never asked -/
theorem fn_never {P : Program} {w : World} {K : PySem.W.Frag} {mg : Str → Option Value} {base : Heap} {CX : CXT} {ix : IXT} {f : Addr} {fd : FuncData} {ps : List Str} {k n : Nat} : FnOk P w K mg base CX k f fd ps (spOf K ix n (fun _ _ => none)) where
  len := fun vs H Q E h => by obtain ⟨_, _, _, _, _, _, _, _, _, z, _⟩ := h; cases z
  run := fun A outer s H args us vs Q E _ _ _ _ h => by obtain ⟨_, _, _, _, _, _, _, _, _, z, _⟩ := h; cases z
section
variable {α β : Type} {ρ ρ1 ρ2 : List Sl} {g g1 g2 g3 : G} {n i : Nat} {d x y z c : D} {l ds : List D} {m m1 m2 : MSt} {ma mb mc : MV D}
theorem mVarB_mk (h : ρ[i]? = some (mkSl d)) : mVarB i ρ g = some (.ok d, g) := by
  unfold mkSl at h
  split at h
  · exact mVarB_im h
  · exact mVarB_bo h
theorem mIsiT_ok {ns : List String} {t : String} {b : Bool} (h : ma ρ g = some (.ok d, g1)) (ht : tyD d = some t) (hb : isTyAny t ns = some b) : mIsiT ns ma ρ g = some (.ok (.bl b), g1) := mbind_ok h (mlift_ok (by rw [ht, Option.bind_some, hb]; rfl))
end
/-! ### data: numbers, None, rows of data -/
def plainD : Nat → D → Bool
  | 0, _ => false
  | _ + 1, .non => true
  | _ + 1, .int _ => true
  | _ + 1, .bl _ => true
  | n + 1, .tup l => decide (l.length ≤ 1000000) && l.all (plainD n)
  | n + 1, .lst l => decide (l.length ≤ 1000000) && l.all (plainD n)
  | _, _ => false
theorem plain_up : ∀ {n k : Nat} {d : D}, plainD n d = true → n ≤ k → plainD k d = true
  | 0, _, _, h, _ => by cases h
  | n + 1, 0, _, _, z => by omega
  | n + 1, k + 1, d, h, z => by
    cases d with
    | non => rfl
    | bl _ => rfl
    | int _ => rfl
    | str _ => cases h
    | tup l =>
      simp only [plainD, Bool.and_eq_true, List.all_eq_true] at h ⊢
      exact ⟨h.1, fun x hx => plain_up (h.2 x hx) (by omega)⟩
    | lst l =>
      simp only [plainD, Bool.and_eq_true, List.all_eq_true] at h ⊢
      exact ⟨h.1, fun x hx => plain_up (h.2 x hx) (by omega)⟩
    | rng => cases h
    | ty _ => cases h
    | dic _ _ => cases h
theorem plain_toP : ∀ {n : Nat} {d : D}, plainD n d = true → ∃ p, toP d = some p ∧ p.canLay0 = true ∧ p.depth + 1 ≤ n + 1
  | 0, _, h => by cases h
  | n + 1, d, h => by
    have all : ∀ l : List D, (l.all (plainD n)) = true → ∃ ps, toPs l = some ps ∧ PyData.canLayAll0 ps = true ∧ PyData.depthAll ps ≤ n := by
      intro l
      induction l with
      | nil => intro _; exact ⟨[], rfl, by simp [PyData.canLayAll0], by simp [PyData.depthAll]⟩
      | cons d l ih =>
        intro hl
        simp only [List.all_cons, Bool.and_eq_true] at hl
        obtain ⟨p, h1, h2, h3⟩ := plain_toP hl.1
        obtain ⟨ps, h4, h5, h6⟩ := ih hl.2
        refine ⟨p :: ps, by simp [toPs, h1, h4], by simp [PyData.canLayAll0, h2, h5], ?_⟩
        simp only [PyData.depthAll]
        omega
    cases d with
    | non => exact ⟨.none, by simp [toP], by simp [PyData.canLay0], by simp [PyData.depth]⟩
    | bl c => exact ⟨.bool c, by simp [toP], by simp [PyData.canLay0], by simp [PyData.depth]⟩
    | int i => exact ⟨.int i, by simp [toP], by simp [PyData.canLay0], by simp [PyData.depth]⟩
    | str i => cases h
    | tup l =>
      simp only [plainD, Bool.and_eq_true] at h
      obtain ⟨ps, h1, h2, h3⟩ := all l h.2
      exact ⟨.tuple ps, by simp [toP, h1], by simp [PyData.canLay0, h2], by simp only [PyData.depth]; omega⟩
    | lst l =>
      simp only [plainD, Bool.and_eq_true] at h
      obtain ⟨ps, h1, h2, h3⟩ := all l h.2
      exact ⟨.list ps, by simp [toP, h1], by simp [PyData.canLay0, h2], by simp only [PyData.depth]; omega⟩
    | rng => cases h
    | ty _ => cases h
    | dic _ _ => cases h
theorem eqD_same {n : Nat} {d : D} (h : plainD n d = true) (hn : n ≤ 60) : eqD d d = some true := by
  obtain ⟨p, h1, h2, h3⟩ := plain_toP h
  have s : SeqAt.shaped p = true := by
    unfold SeqAt.shaped
    rw [h2, decide_eq_true (by omega)]; rfl
  unfold eqD
  rw [h1]
  dsimp only
  rw [s]
  simp [SeqAt.eqv_refl _ (SeqAt.canLay_of_shaped s)]
theorem dEqD_same {n : Nat} {d : D} (h : plainD n d = true) (hn : n ≤ 60) : dEqD d d = some (.bl true) := by unfold dEqD; rw [eqD_same h hn]; rfl
theorem dNeD_same {n : Nat} {d : D} (h : plainD n d = true) (hn : n ≤ 60) : dNeD d d = some (.bl false) := by unfold dNeD; rw [eqD_same h hn]; rfl
/-! ### range of three, step above 0 -/
def rngSz (i j c : Int) : Nat := (Builtin.Range.rangeSize i j c).toNat
def mRng3 (ms : MV (List D)) : MV (List D) := mbind ms fun l => mlift (match l with
  | [.int i, .int j, .int c] => if (decide (0 < c ∧ c < 1000000) && Builtin.Range.small i j c) = true then some (rngC i c (rngSz i j c)) else none
  | _ => none)
section
variable {K : PySem.W.Frag} {E : XK} {ix : IXT} {F : Fx} {ρ : List Sl} {g g' g1 g2 g3 : G} {σ : L2.St} {H H1 : Hp} {b : Bool}
theorem itc_ok {lo c : Int} {n : Nat} : ItOk K F ρ σ (Itc lo c n) (rngC lo c n) H1 := fun H2 e2 i => by
  have hl : (rngC lo c n).length = n := by simp [rngC]
  refine ⟨fun hi => by rw [hl] at hi; exact Nat.le_of_eq hi.symm, fun d hd => ?_⟩
  have hi : i < n := by rw [← hl]; exact (List.getElem?_eq_some_iff.mp hd).1
  have hd' : d = .int (lo + (i : Int) * c) := by
    simp only [rngC, List.getElem?_map] at hd
    rw [List.getElem?_range hi] at hd
    cases hd; rfl
  subst hd'
  refine ⟨hi, fun x H3 y => ?_⟩
  obtain ⟨rfl, rfl⟩ := y
  exact ⟨Ex.refl, rfl⟩
theorem ri_rng3 {ts : TA} {ms : MV (List D)} (h : RA K E ix b ts ms) : RI K E ix (iRng3 ts) (mRng3 ms) := fun F ρ g σ H R r g' e S q =>
  h.one R e q.x fun l vs H1 g1 e1 R1 i1 k1 => by
    obtain ⟨ds, hc, rfl, rfl⟩ := mlift_some k1
    split at hc
    · rename_i i j c
      split at hc
      · rename_i hj
        cases hc
        simp only [Bool.and_eq_true, decide_eq_true_eq] at hj
        obtain ⟨v, r, rfl, h2, u, r2, rfl, h3, w, r3, rfl, h4, h5⟩ := i1
        cases h5
        obtain ⟨⟨c0, c1⟩, c2⟩ := hj
        exact ⟨i, j, c, rngSz i j c, by rw [show v = _ from h2, show u = _ from h3, show w = _ from h4], ⟨by omega, by omega, c2, PyProof.Rows.rangeSize_toNat i j c⟩, q _ H1 e1 R1.gok itc_ok⟩
      · cases hc
    · cases hc
theorem small_pos {i j c : Int} (hi : -(2 ^ 60) ≤ i) (hi' : i < 2 ^ 60) (hj : -(2 ^ 60) ≤ j) (hj' : j < 2 ^ 60) (hc : 0 < c) (hc' : c < 1000000) : Builtin.Range.small i j c = true := by
  have f : ∀ a : Int, -(2 ^ 62) ≤ a → a < 2 ^ 62 → Builtin.Range.rangeFitsLong a = true := fun a h1 h2 => by
    unfold Builtin.Range.rangeFitsLong
    simp only [Bool.and_eq_true, decide_eq_true_eq]
    constructor <;> omega
  have hz : 0 ≤ Builtin.Range.rangeSize i j c ∧ Builtin.Range.rangeSize i j c < 2 ^ 62 := by
    have e := PyProof.Rows.rangeSize_toNat i j c
    have l := PyProof.Rows.rangeSize_toNat_le i j c
    omega
  unfold Builtin.Range.small
  rw [f i (by omega) (by omega), f j (by omega) (by omega), f c (by omega) (by omega), f _ (by omega) (by omega), if_pos hc, f (j + (c - 1)) (by omega) (by omega)]
  simp
theorem mRng3_ok {ms : MV (List D)} {i j c : Int} (h : ms ρ g = some (.ok [.int i, .int j, .int c], g1)) (hi : -(2 ^ 60) ≤ i) (hi' : i < 2 ^ 60) (hj : -(2 ^ 60) ≤ j) (hj' : j < 2 ^ 60) (hc : 0 < c) (hc' : c < 1000000) :
    mRng3 ms ρ g = some (.ok (rngC i c (rngSz i j c)), g1) := mbind_ok h (mlift_ok (by dsimp only; rw [small_pos hi hi' hj hj' hc hc', decide_eq_true ⟨hc, hc'⟩]; rfl))
/-- i + k c < j, just for the k's walked -/
theorem rngSz_lt {i j c : Int} (hc : 0 < c) (k : Nat) : k < rngSz i j c ↔ i + (k : Int) * c < j := by
  unfold rngSz Builtin.Range.rangeSize
  rw [if_pos hc]
  by_cases h : i < j
  · rw [if_pos h]
    have h1 : 0 ≤ (j - i - 1) / c := Int.ediv_nonneg (by omega) (by omega)
    have h2 : (k : Int) < ((j - i - 1) / c + 1) ↔ (k : Int) ≤ (j - i - 1) / c := by omega
    have h3 : (k : Int) ≤ (j - i - 1) / c ↔ (k : Int) * c ≤ j - i - 1 := Int.le_ediv_iff_mul_le hc
    constructor
    · intro z
      have : (k : Int) < ((j - i - 1) / c + 1) := by omega
      have := h3.mp (h2.mp this)
      omega
    · intro z
      have := h2.mpr (h3.mpr (by omega))
      omega
  · rw [if_neg h]
    have : 0 ≤ (k : Int) * c := Int.mul_nonneg (by omega) (by omega)
    constructor
    · intro z; simp at z
    · intro z; omega
end
end Fw

set_option Elab.async false
set_option linter.all false
set_option maxRecDepth 100000
set_option maxHeartbeats 4000000
namespace Pr
open PySem PySem.Spec PyProof.Rows L2 Fw
def fuel : Nat := 1000000
/-! ### is_within -/
def m_is_within : MSt :=
  (mRet (mAnd (mCB fIsi (mCons (mVarB 0) (mCons (mret (.ty "int")) mNil))) (mAnd (mNot (mCB fIsi (mCons (mVarB 0) (mCons (mret (.ty "bool")) mNil)))) (mChain dLe dLe (mVarB 1) (mVarB 0) (mVarB 2)))))
def ph_is_within : PhiT := phi 3 m_is_within
def t_is_within (K : PySem.W.Frag) (ix : IXT) : TS :=
  (tRet (tAndV (tCB (rIsi K) (tCons (tVar 0) (tCons (tC (.ty "int")) tNil))) (tAndV (tNotV (tCB (rIsi K) (tCons (tVar 0) (tCons (tC (.ty "bool")) tNil)))) (tChain rLeI rLeI (tVar 1) (tVar 0) (tVar 2)))))
theorem rs_is_within {K : PySem.W.Frag} {E : XK} {ix : IXT} : RS K E ix (t_is_within K ix) m_is_within :=
  (rs_ret (re_and (re_cb (b := false) sc_isi (ra_cons rb_var (ra_cons (re_ty (b := false)) ra_nil))) (re_and (re_not (b := false) (re_cb (b := false) sc_isi (ra_cons rb_var (ra_cons (re_ty (b := false)) ra_nil)))) (re_chain (b := true) sc_le sc_le rb_var rb_var rb_var))))
/-! ### can_sell -/
def m_can_sell : MSt :=
  (mSeq (mIfS (mTOr (mTNot (mB (mCB fIsi (mCons (mVarB 0) (mCons (mret (.ty "tuple")) mNil))))) (mB (mOp dNe (mCB fLen (mCons (mVarB 0) mNil)) (mret (.int 6))))) (mRet (mret (.bl false))) mNx)
    (mSeq (mAsg (mVar 0) (bTup 6 (bCons (bName 1) (bCons (bName 2) (bCons (bName 3) (bCons (bName 4) (bCons (bName 5) (bCons (bName 6) bNil))))))))
    (mRet (mAnd (mCall0 3 ph_is_within (mCons (mVarB 5) (mCons (mret (.int 0)) (mCons (mret (.int 99)) mNil)))) (mAnd (mCall0 3 ph_is_within (mCons (mVarB 6) (mCons (mVarB 5) (mCons (mret (.int 99)) mNil)))) (mAnd (mCall0 3 ph_is_within (mCons (mVarB 1) (mCons (mVarB 5) (mCons (mVarB 6) mNil)))) (mAnd (mCall0 3 ph_is_within (mCons (mVarB 2) (mCons (mret (.int 1)) (mCons (mret (.int 5)) mNil)))) (mAnd (mCall0 3 ph_is_within (mCons (mVarB 3) (mCons (mret (.int 0)) (mCons (mret (.int 9)) mNil)))) (mCall0 3 ph_is_within (mCons (mVarB 4) (mCons (mret (.int 0)) (mCons (mret (.int 9)) mNil))))))))))))
def ph_can_sell : PhiT := phi 7 m_can_sell
def t_can_sell (K : PySem.W.Frag) (ix : IXT) : TS :=
  (tSeq (tIfS (tOr (tNot (tB (tCB (rIsi K) (tCons (tVar 0) (tCons (tC (.ty "tuple")) tNil))))) (tTest (tOp rNe (tCB (rLenA K) (tCons (tVar 0) tNil)) (tC (.int 6))))) (tRet (tC (.bl false))) tNext)
    (tSeq (tAsg (tVar 0) (gTup K 6 (gCons (gName 1) (gCons (gName 2) (gCons (gName 3) (gCons (gName 4) (gCons (gName 5) (gCons (gName 6) gNil))))))))
    (tRet (tAndV (tCall (spOf K ix 3 ph_is_within) [] E0 (tCons (tVar 5) (tCons (tC (.int 0)) (tCons (tC (.int 99)) tNil)))) (tAndV (tCall (spOf K ix 3 ph_is_within) [] E0 (tCons (tVar 6) (tCons (tVar 5) (tCons (tC (.int 99)) tNil)))) (tAndV (tCall (spOf K ix 3 ph_is_within) [] E0 (tCons (tVar 1) (tCons (tVar 5) (tCons (tVar 6) tNil)))) (tAndV (tCall (spOf K ix 3 ph_is_within) [] E0 (tCons (tVar 2) (tCons (tC (.int 1)) (tCons (tC (.int 5)) tNil)))) (tAndV (tCall (spOf K ix 3 ph_is_within) [] E0 (tCons (tVar 3) (tCons (tC (.int 0)) (tCons (tC (.int 9)) tNil)))) (tCall (spOf K ix 3 ph_is_within) [] E0 (tCons (tVar 4) (tCons (tC (.int 0)) (tCons (tC (.int 9)) tNil))))))))))))
theorem rs_can_sell {K : PySem.W.Frag} {E : XK} {ix : IXT} : RS K E ix (t_can_sell K ix) m_can_sell :=
  (rs_seq (rs_if (rt_or (rt_not (rt_B (re_cb (b := false) sc_isi (ra_cons rb_var (ra_cons (re_ty (b := false)) ra_nil))))) (rt_test (re_op (b := false) sc_ne (re_cb (b := false) sc_len (ra_cons rb_var ra_nil)) (re_int (b := false))))) (rs_ret (re_bl (b := true))) rs_nx)
    (rs_seq (rs_asg re_var (rg_tup (rgs_cons rg_name (rgs_cons rg_name (rgs_cons rg_name (rgs_cons rg_name (rgs_cons rg_name (rgs_cons rg_name rgs_nil))))))))
    (rs_ret (re_and (re_call0 (b := false) (ra_cons rb_var (ra_cons (re_int (b := false)) (ra_cons (re_int (b := false)) ra_nil)))) (re_and (re_call0 (b := false) (ra_cons rb_var (ra_cons rb_var (ra_cons (re_int (b := false)) ra_nil)))) (re_and (re_call0 (b := false) (ra_cons rb_var (ra_cons rb_var (ra_cons rb_var ra_nil)))) (re_and (re_call0 (b := false) (ra_cons rb_var (ra_cons (re_int (b := false)) (ra_cons (re_int (b := false)) ra_nil)))) (re_and (re_call0 (b := false) (ra_cons rb_var (ra_cons (re_int (b := false)) (ra_cons (re_int (b := false)) ra_nil)))) (re_call0 (b := true) (ra_cons rb_var (ra_cons (re_int (b := false)) (ra_cons (re_int (b := false)) ra_nil))))))))))))
/-! ### can_buy -/
def m_can_buy : MSt :=
  (mSeq (mIfS (mTOr (mTNot (mB (mCB fIsi (mCons (mVarB 0) (mCons (mret (.ty "tuple")) mNil))))) (mB (mOp dNe (mCB fLen (mCons (mVarB 0) mNil)) (mret (.int 3))))) (mRet (mret (.bl false))) mNx)
    (mSeq (mAsg (mVar 0) (bTup 3 (bCons (bName 2) (bCons (bName 3) (bCons (bName 4) bNil)))))
    (mSeq (mIfS (mTOr (mTNot (mB (mCB fIsi (mCons (mVarB 4) (mCons (mret (.ty "tuple")) mNil))))) (mB (mOp dNe (mCB fLen (mCons (mVarB 4) mNil)) (mVarB 1)))) (mRet (mret (.bl false))) mNx)
    (mRet (mAnd (mCall0 3 ph_is_within (mCons (mVarB 2) (mCons (mret (.int 1)) (mCons (mret (.int 4)) mNil)))) (mAnd (mCall0 3 ph_is_within (mCons (mVarB 3) (mCons (mret (.int 0)) (mCons (mOp dSub (mVarB 2) (mret (.int 1))) mNil)))) (mCB fAll (mCons (mFr (mLc (mItT (mVar 4)) (bName 5) [5] (mret true) (mCall0 3 ph_is_within (mCons (mVarB 5) (mCons (mret (.int 0)) (mCons (mret (.int 99)) mNil)))))) mNil))))))))
def ph_can_buy : PhiT := phi 6 m_can_buy
def t_can_buy (K : PySem.W.Frag) (ix : IXT) : TS :=
  (tSeq (tIfS (tOr (tNot (tB (tCB (rIsi K) (tCons (tVar 0) (tCons (tC (.ty "tuple")) tNil))))) (tTest (tOp rNe (tCB (rLenA K) (tCons (tVar 0) tNil)) (tC (.int 3))))) (tRet (tC (.bl false))) tNext)
    (tSeq (tAsg (tVar 0) (gTup K 3 (gCons (gName 2) (gCons (gName 3) (gCons (gName 4) gNil)))))
    (tSeq (tIfS (tOr (tNot (tB (tCB (rIsi K) (tCons (tVar 4) (tCons (tC (.ty "tuple")) tNil))))) (tTest (tOp rNe (tCB (rLenA K) (tCons (tVar 4) tNil)) (tVar 1)))) (tRet (tC (.bl false))) tNext)
    (tRet (tAndV (tCall (spOf K ix 3 ph_is_within) [] E0 (tCons (tVar 2) (tCons (tC (.int 1)) (tCons (tC (.int 4)) tNil)))) (tAndV (tCall (spOf K ix 3 ph_is_within) [] E0 (tCons (tVar 3) (tCons (tC (.int 0)) (tCons (tOp rSubI (tVar 2) (tC (.int 1))) tNil)))) (tCB (rAll K) (tCons (tLc (iTup K (tVar 4)) (gName 5) tYes (tCall (spOf K ix 3 ph_is_within) [] E0 (tCons (tVar 5) (tCons (tC (.int 0)) (tCons (tC (.int 99)) tNil)))) [5]) tNil))))))))
theorem rs_can_buy {K : PySem.W.Frag} {E : XK} {ix : IXT} : RS K E ix (t_can_buy K ix) m_can_buy :=
  (rs_seq (rs_if (rt_or (rt_not (rt_B (re_cb (b := false) sc_isi (ra_cons rb_var (ra_cons (re_ty (b := false)) ra_nil))))) (rt_test (re_op (b := false) sc_ne (re_cb (b := false) sc_len (ra_cons rb_var ra_nil)) (re_int (b := false))))) (rs_ret (re_bl (b := true))) rs_nx)
    (rs_seq (rs_asg re_var (rg_tup (rgs_cons rg_name (rgs_cons rg_name (rgs_cons rg_name rgs_nil)))))
    (rs_seq (rs_if (rt_or (rt_not (rt_B (re_cb (b := false) sc_isi (ra_cons rb_var (ra_cons (re_ty (b := false)) ra_nil))))) (rt_test (re_op (b := false) sc_ne (re_cb (b := false) sc_len (ra_cons rb_var ra_nil)) rb_var))) (rs_ret (re_bl (b := true))) rs_nx)
    (rs_ret (re_and (re_call0 (b := false) (ra_cons rb_var (ra_cons (re_int (b := false)) (ra_cons (re_int (b := false)) ra_nil)))) (re_and (re_call0 (b := false) (ra_cons rb_var (ra_cons (re_int (b := false)) (ra_cons (re_op (b := false) sc_sub rb_var (re_int (b := false))) ra_nil)))) (re_cb (b := true) sc_all (ra_cons (re_new (b := false) (rf_lc (ri_tup re_var) rg_name rt_yes (re_call0 (b := true) (ra_cons rb_var (ra_cons (re_int (b := false)) (ra_cons (re_int (b := false)) ra_nil)))) (by decide))) ra_nil))))))))
/-! ### check_market -/
def m_check_market : MSt :=
  (mSeq (mAsg (mVar 0) (bTup 2 (bCons (bName 1) (bCons (bName 2) bNil))))
    (mSeq (mFor (mEnum (mCons (mVar 1) mNil)) (bTup 2 (bCons (bName 3) (bCons (bName 4) bNil))) (mFgE [3, 4] (mIfS (mTOr (mB (mOp dGe (mVarB 3) (mret (.int 4)))) (mTNot (mB (mCall0 1 ph_can_sell (mCons (mVarB 4) mNil))))) mNv mNx)))
    (mFor (mEnum (mCons (mVar 2) mNil)) (bTup 2 (bCons (bName 3) (bCons (bName 5) bNil))) (mFgE [3, 5] (mIfS (mTOr (mB (mOp dGe (mVarB 3) (mret (.int 6)))) (mTNot (mB (mCall0 2 ph_can_buy (mCons (mVarB 5) (mCons (mCB fLen (mCons (mVarB 1) mNil)) mNil)))))) mNv mNx)))))
def ph_check_market : PhiT := phi 6 m_check_market
def t_check_market (K : PySem.W.Frag) (ix : IXT) : TS :=
  (tSeq (tAsg (tVar 0) (gTup K 2 (gCons (gName 1) (gCons (gName 2) gNil))))
    (tSeq (tFor (iEnumA K (tCons (tVar 1) tNil)) (gTup K 2 (gCons (gName 3) (gCons (gName 4) gNil))) (tIfS (tOr (tTest (tOp rGeI (tVar 3) (tC (.int 4)))) (tNot (tB (tCall (spOf K ix 1 ph_can_sell) [] E0 (tCons (tVar 4) tNil))))) tNever tNext))
    (tFor (iEnumA K (tCons (tVar 2) tNil)) (gTup K 2 (gCons (gName 3) (gCons (gName 5) gNil))) (tIfS (tOr (tTest (tOp rGeI (tVar 3) (tC (.int 6)))) (tNot (tB (tCall (spOf K ix 2 ph_can_buy) [] E0 (tCons (tVar 5) (tCons (tCB (rLenA K) (tCons (tVar 1) tNil)) tNil)))))) tNever tNext))))
theorem rs_check_market {K : PySem.W.Frag} {E : XK} {ix : IXT} : RS K E ix (t_check_market K ix) m_check_market :=
  (rs_seq (rs_asg re_var (rg_tup (rgs_cons rg_name (rgs_cons rg_name rgs_nil))))
    (rs_seq (rs_for (ri_enum (ra_cons re_var ra_nil)) (rg_tup (rgs_cons rg_name (rgs_cons rg_name rgs_nil))) (rs_fgE (is := [3, 4]) (rs_if (rt_or (rt_test (re_op (b := false) sc_ge rb_var (re_int (b := false)))) (rt_not (rt_B (re_call0 (b := false) (ra_cons rb_var ra_nil))))) rs_never rs_nx)))
    (rs_for (ri_enum (ra_cons re_var ra_nil)) (rg_tup (rgs_cons rg_name (rgs_cons rg_name rgs_nil))) (rs_fgE (is := [3, 5]) (rs_if (rt_or (rt_test (re_op (b := false) sc_ge rb_var (re_int (b := false)))) (rt_not (rt_B (re_call0 (b := false) (ra_cons rb_var (ra_cons (re_cb (b := false) sc_len (ra_cons rb_var ra_nil)) ra_nil)))))) rs_never rs_nx)))))
/-! ### check_count -/
def m_check_count : MSt :=
  (mIfS (mTNot (mB (mCall0 3 ph_is_within (mCons (mVarB 0) (mCons (mret (.int 0)) (mCons (mVarB 1) mNil)))))) mNv mNx)
def ph_check_count : PhiT := phi 2 m_check_count
def t_check_count (K : PySem.W.Frag) (ix : IXT) : TS :=
  (tIfS (tNot (tB (tCall (spOf K ix 3 ph_is_within) [] E0 (tCons (tVar 0) (tCons (tC (.int 0)) (tCons (tVar 1) tNil)))))) tNever tNext)
theorem rs_check_count {K : PySem.W.Frag} {E : XK} {ix : IXT} : RS K E ix (t_check_count K ix) m_check_count :=
  (rs_if (rt_not (rt_B (re_call0 (b := false) (ra_cons rb_var (ra_cons (re_int (b := false)) (ra_cons rb_var ra_nil)))))) rs_never rs_nx)
/-! ### first_prices -/
def m_first_prices : MSt :=
  (mSeq (mAsg (mVar 0) (bTup 2 (bCons (bName 1) (bCons (bName 2) bNil))))
    (mRet (mTupOf (mCons (mFr (mLc (mItT (mVar 1)) (bName 3) [3] (mret true) (mOp dIx (mVar 3) (mret (.int 0))))) mNil))))
def ph_first_prices : PhiT := phi 4 m_first_prices
def t_first_prices (K : PySem.W.Frag) (ix : IXT) : TS :=
  (tSeq (tAsg (tVar 0) (gTup K 2 (gCons (gName 1) (gCons (gName 2) gNil))))
    (tRet (tCB (rTupOf K) (tCons (tLc (iTup K (tVar 1)) (gName 3) tYes (tOp (rIx K) (tVar 3) (tC (.int 0))) [3]) tNil))))
theorem rs_first_prices {K : PySem.W.Frag} {E : XK} {ix : IXT} : RS K E ix (t_first_prices K ix) m_first_prices :=
  (rs_seq (rs_asg re_var (rg_tup (rgs_cons rg_name (rgs_cons rg_name rgs_nil))))
    (rs_ret (re_tupOf (ra_cons (re_new (b := true) (rf_lc (ri_tup re_var) rg_name rt_yes (re_ix re_var (re_int (b := false))) (by decide))) ra_nil))))
/-! ### comes -/
def m_comes : MSt :=
  (mSeq (mAsg (mVar 0) (bTup 3 (bCons (bName 2) (bCons (bName 3) (bCons (bName 4) bNil)))))
    (mRet (mOp dEq (mOp dMod (mVarB 1) (mVarB 2)) (mVarB 3))))
def ph_comes : PhiT := phi 5 m_comes
def t_comes (K : PySem.W.Frag) (ix : IXT) : TS :=
  (tSeq (tAsg (tVar 0) (gTup K 3 (gCons (gName 2) (gCons (gName 3) (gCons (gName 4) gNil)))))
    (tRet (tOp rEq (tOp rModI (tVar 1) (tVar 2)) (tVar 3))))
theorem rs_comes {K : PySem.W.Frag} {E : XK} {ix : IXT} : RS K E ix (t_comes K ix) m_comes :=
  (rs_seq (rs_asg re_var (rg_tup (rgs_cons rg_name (rgs_cons rg_name (rgs_cons rg_name rgs_nil)))))
    (rs_ret (re_op (b := true) sc_eq (re_op (b := false) sc_mod rb_var rb_var) rb_var)))
/-! ### good_for -/
def m_good_for : MSt :=
  (mSeq (mAsg (mFr (mLc (mEnum (mCons (mVar 0) mNil)) (bTup 2 (bCons (bName 4) (bCons (bName 5) bNil))) [4, 5] (mTAnd (mB (mOp dGt (mOp dIx (mVarB 2) (mVarB 4)) (mret (.int 0)))) (mB (mOp dLe (mOp dIx (mVarB 1) (mVarB 4)) (mVarB 5)))) (mTup (mCons (mOp dSub (mOp dIx (mVarB 1) (mVarB 4)) (mVarB 5)) (mCons (mOp dIx (mVar 1) (mVarB 4)) (mCons (mVar 4) mNil)))))) (bName 3))
    (mSeq (mIfS (mTNot (mTru (mVarB 3))) (mRet (mret .non)) mNx)
    (mRet (mOp dIx (mMinT (mCons (mVar 3) mNil)) (mret (.int 2))))))
def ph_good_for : PhiT := phi 6 m_good_for
def t_good_for (K : PySem.W.Frag) (ix : IXT) : TS :=
  (tSeq (tAsg (tLc (iEnumA K (tCons (tVar 0) tNil)) (gTup K 2 (gCons (gName 4) (gCons (gName 5) gNil))) (tAnd (tTest (tOp rGtI (tOp (rIx K) (tVar 2) (tVar 4)) (tC (.int 0)))) (tTest (tOp rLeI (tOp (rIx K) (tVar 1) (tVar 4)) (tVar 5)))) (tTup (tCons (tOp rSubI (tOp (rIx K) (tVar 1) (tVar 4)) (tVar 5)) (tCons (tOp (rIx K) (tVar 1) (tVar 4)) (tCons (tVar 4) tNil)))) [4, 5]) (gName 3))
    (tSeq (tIfS (tNot (tTruK K (tVar 3))) (tRet (tC .non)) tNext)
    (tRet (tOp (rIx K) (tCB (rMinT K) (tCons (tVar 3) tNil)) (tC (.int 2))))))
theorem rs_good_for {K : PySem.W.Frag} {E : XK} {ix : IXT} : RS K E ix (t_good_for K ix) m_good_for :=
  (rs_seq (rs_asg (re_new (b := true) (rf_lc (ri_enum (ra_cons re_var ra_nil)) (rg_tup (rgs_cons rg_name (rgs_cons rg_name rgs_nil))) (rt_and (rt_test (re_op (b := false) sc_gt (re_ix rb_var rb_var) (re_int (b := false)))) (rt_test (re_op (b := false) sc_le (re_ix rb_var rb_var) rb_var))) (re_tup (ra_cons (re_op (b := true) sc_sub (re_ix rb_var rb_var) rb_var) (ra_cons (re_ix re_var rb_var) (ra_cons re_var ra_nil)))) (by decide))) rg_name)
    (rs_seq (rs_if (rt_not (rt_tru rb_var)) (rs_ret (re_non (b := true))) rs_nx)
    (rs_ret (re_ix (re_minT (ra_cons re_var ra_nil)) (re_int (b := false))))))
/-! ### price_behind -/
def m_price_behind : MSt :=
  (mSeq (mAsg (mVar 0) (bTup 6 (bCons (bName 3) (bCons (bName 4) (bCons (bName 5) (bCons (bName 6) (bCons (bName 7) (bCons (bName 8) bNil))))))))
    (mSeq (mIfS (mB (mOp dEq (mVarB 2) (mret (.int 0)))) (mRet (mCB fMin2 (mCons (mVarB 8) (mCons (mOp dAdd (mVarB 1) (mVarB 5)) mNil)))) mNx)
    (mSeq (mIfS (mB (mOp dEq (mVarB 2) (mVarB 4))) (mRet (mCB fMax2 (mCons (mVarB 7) (mCons (mOp dSub (mVarB 1) (mVarB 6)) mNil)))) mNx)
    (mRet (mVar 1)))))
def ph_price_behind : PhiT := phi 9 m_price_behind
def t_price_behind (K : PySem.W.Frag) (ix : IXT) : TS :=
  (tSeq (tAsg (tVar 0) (gTup K 6 (gCons (gName 3) (gCons (gName 4) (gCons (gName 5) (gCons (gName 6) (gCons (gName 7) (gCons (gName 8) gNil))))))))
    (tSeq (tIfS (tTest (tOp rEq (tVar 2) (tC (.int 0)))) (tRet (tCB rMin2I (tCons (tVar 8) (tCons (tOp rAddI (tVar 1) (tVar 5)) tNil)))) tNext)
    (tSeq (tIfS (tTest (tOp rEq (tVar 2) (tVar 4))) (tRet (tCB rMax2I (tCons (tVar 7) (tCons (tOp rSubI (tVar 1) (tVar 6)) tNil)))) tNext)
    (tRet (tVar 1)))))
theorem rs_price_behind {K : PySem.W.Frag} {E : XK} {ix : IXT} : RS K E ix (t_price_behind K ix) m_price_behind :=
  (rs_seq (rs_asg re_var (rg_tup (rgs_cons rg_name (rgs_cons rg_name (rgs_cons rg_name (rgs_cons rg_name (rgs_cons rg_name (rgs_cons rg_name rgs_nil))))))))
    (rs_seq (rs_if (rt_test (re_op (b := false) sc_eq rb_var (re_int (b := false)))) (rs_ret (re_cb (b := true) sc_min2 (ra_cons rb_var (ra_cons (re_op (b := false) sc_add rb_var rb_var) ra_nil)))) rs_nx)
    (rs_seq (rs_if (rt_test (re_op (b := false) sc_eq rb_var rb_var)) (rs_ret (re_cb (b := true) sc_max2 (ra_cons rb_var (ra_cons (re_op (b := false) sc_sub rb_var rb_var) ra_nil)))) rs_nx)
    (rs_ret re_var))))
/-! ### day_done -/
def m_day_done : MSt :=
  (mSeq (mAsg (mVar 0) (bTup 2 (bCons (bName 7) (bCons (bName 8) bNil))))
    (mSeq (mOwn 3 (mLc (mItT (mVar 7)) (bName 10) [10] (mret true) (mOp dIx (mVar 10) (mret (.int 1)))))
    (mSeq (mOwn 4 (mLst mNil))
    (mSeq (mFor (mItT (mVar 8)) (bName 5) (mFgE [5] (mSeq (mAsg (mret .non) (bName 9))
    (mSeq (mIfS (mB (mCall0 2 ph_comes (mCons (mVarB 5) (mCons (mVarB 2) mNil)))) (mAsg (mCall0 3 ph_good_for (mCons (mOp dIx (mVarB 5) (mret (.int 2))) (mCons (mVarB 1) (mCons (mVarB 3) mNil)))) (bName 9)) mNx)
    (mSeq (mIfS (mB (mOp dNotN2 (mVarB 9) (mret .non))) (mAugI (fun i j => i - j) 3 (mVarB 9) (mret (.int 1))) mNx)
    (mApp 4 (mVar 9)))))))
    (mFree 3 (mFree 4 (mSeq (mAsg (mFr (mLc (mEnum (mCons (mVar 7) mNil)) (bTup 2 (bCons (bName 9) (bCons (bName 10) bNil))) [9, 10] (mret true) (mCall0 3 ph_price_behind (mCons (mVarB 10) (mCons (mOp dIx (mVarB 1) (mVarB 9)) (mCons (mOp dIx (mVarB 3) (mVarB 9)) mNil)))))) (bName 6))
    (mRet (mTup (mCons (mVar 4) (mCons (mTupOf (mCons (mVar 6) mNil)) mNil)))))))))))
def ph_day_done : PhiT := phi 11 m_day_done
def t_day_done (K : PySem.W.Frag) (ix : IXT) : TS :=
  (tSeq (tAsg (tVar 0) (gTup K 2 (gCons (gName 7) (gCons (gName 8) gNil))))
    (tSeq (tAsg (tLc (iTup K (tVar 7)) (gName 10) tYes (tOp (rIx K) (tVar 10) (tC (.int 1))) [10]) (gName 3))
    (tSeq (tAsg (tLst tNil) (gName 4))
    (tSeq (tFor (iTup K (tVar 8)) (gName 5) (tSeq (tAsg (tC .non) (gName 9))
    (tSeq (tIfS (tB (tCall (spOf K ix 2 ph_comes) [] E0 (tCons (tVar 5) (tCons (tVar 2) tNil)))) (tAsg (tCall (spOf K ix 3 ph_good_for) [] E0 (tCons (tOp (rIx K) (tVar 5) (tC (.int 2))) (tCons (tVar 1) (tCons (tVar 3) tNil)))) (gName 9)) tNext)
    (tSeq (tIfS (tTest (tOp rNotNo (tVar 9) (tC .non))) (tAugS (tVar 3) (tVar 9) (tC (.int 1)) rGetL (ipI (fun i j => i - j)) rSetL) tNext)
    (tDrop (tBM K "list" rAppend (tVar 4) (tCons (tVar 9) tNil)))))))
    (tSeq (tAsg (tLc (iEnumA K (tCons (tVar 7) tNil)) (gTup K 2 (gCons (gName 9) (gCons (gName 10) gNil))) tYes (tCall (spOf K ix 3 ph_price_behind) [] E0 (tCons (tVar 10) (tCons (tOp (rIx K) (tVar 1) (tVar 9)) (tCons (tOp (rIx K) (tVar 3) (tVar 9)) tNil)))) [9, 10]) (gName 6))
    (tRet (tTup (tCons (tVar 4) (tCons (tCB (rTupOf K) (tCons (tVar 6) tNil)) tNil)))))))))
theorem rs_day_done {K : PySem.W.Frag} {E : XK} {ix : IXT} : RS K E ix (t_day_done K ix) m_day_done :=
  (rs_seq (rs_asg re_var (rg_tup (rgs_cons rg_name (rgs_cons rg_name rgs_nil))))
    (rs_seq (rs_own (rf_lc (ri_tup re_var) rg_name rt_yes (re_ix re_var (re_int (b := false))) (by decide)))
    (rs_seq (rs_own (rf_lst ra_nil))
    (rs_seq (rs_for (ri_tup re_var) rg_name (rs_fgE (is := [5]) (rs_seq (rs_asg (re_non (b := true)) rg_name)
    (rs_seq (rs_if (rt_B (re_call0 (b := false) (ra_cons rb_var (ra_cons rb_var ra_nil)))) (rs_asg (re_call0 (b := true) (ra_cons (re_ix rb_var (re_int (b := false))) (ra_cons rb_var (ra_cons rb_var ra_nil)))) rg_name) rs_nx)
    (rs_seq (rs_if (rt_test (re_op (b := false) sc_notN rb_var (re_non (b := false)))) (rs_augI rb_var (re_int (b := false))) rs_nx)
    (rs_app re_var))))))
    (rs_free (i := 3) (rs_free (i := 4) (rs_seq (rs_asg (re_new (b := true) (rf_lc (ri_enum (ra_cons re_var ra_nil)) (rg_tup (rgs_cons rg_name (rgs_cons rg_name rgs_nil))) rt_yes (re_call0 (b := true) (ra_cons rb_var (ra_cons (re_ix rb_var rb_var) (ra_cons (re_ix rb_var rb_var) ra_nil)))) (by decide))) rg_name)
    (rs_ret (re_tup (ra_cons re_var (ra_cons (re_tupOf (ra_cons re_var ra_nil)) ra_nil)))))))))))
/-! ### days -/
def m_days : MSt :=
  (mSeq (mDrop (mCall0 1 ph_check_market (mCons (mVarB 0) mNil)))
    (mSeq (mDrop (mCall0 2 ph_check_count (mCons (mVarB 1) (mCons (mret (.int 500)) mNil))))
    (mSeq (mOwn 2 (mLst mNil))
    (mSeq (mAsg (mCall0 1 ph_first_prices (mCons (mVarB 0) mNil)) (bName 3))
    (mSeq (mFor (mRng1 (mCons (mVarB 1) mNil)) (bName 4) (mFgE [4, 5, 6] (mSeq (mAsg (mCall0 3 ph_day_done (mCons (mVarB 0) (mCons (mVarB 3) (mCons (mVarB 4) mNil)))) (bTup 2 (bCons (bName 5) (bCons (bName 6) bNil))))
    (mSeq (mApp 2 (mTup (mCons (mVar 3) (mCons (mVar 5) mNil))))
    (mAsg (mVar 6) (bName 3))))))
    (mFree 2 (mRet (mVar 2))))))))
def ph_days : PhiT := phi 7 m_days
def t_days (K : PySem.W.Frag) (ix : IXT) : TS :=
  (tSeq (tDrop (tCall (spOf K ix 1 ph_check_market) [] E0 (tCons (tVar 0) tNil)))
    (tSeq (tDrop (tCall (spOf K ix 2 ph_check_count) [] E0 (tCons (tVar 1) (tCons (tC (.int 500)) tNil))))
    (tSeq (tAsg (tLst tNil) (gName 2))
    (tSeq (tAsg (tCall (spOf K ix 1 ph_first_prices) [] E0 (tCons (tVar 0) tNil)) (gName 3))
    (tSeq (tFor (iRng1 (tCons (tVar 1) tNil)) (gName 4) (tSeq (tAsg (tCall (spOf K ix 3 ph_day_done) [] E0 (tCons (tVar 0) (tCons (tVar 3) (tCons (tVar 4) tNil)))) (gTup K 2 (gCons (gName 5) (gCons (gName 6) gNil))))
    (tSeq (tDrop (tBM K "list" rAppend (tVar 2) (tCons (tTup (tCons (tVar 3) (tCons (tVar 5) tNil))) tNil)))
    (tAsg (tVar 6) (gName 3)))))
    (tRet (tVar 2)))))))
theorem rs_days {K : PySem.W.Frag} {E : XK} {ix : IXT} : RS K E ix (t_days K ix) m_days :=
  (rs_seq (rs_drop (re_call0 (b := false) (ra_cons rb_var ra_nil)))
    (rs_seq (rs_drop (re_call0 (b := false) (ra_cons rb_var (ra_cons (re_int (b := false)) ra_nil))))
    (rs_seq (rs_own (rf_lst ra_nil))
    (rs_seq (rs_asg (re_call0 (b := true) (ra_cons rb_var ra_nil)) rg_name)
    (rs_seq (rs_for (ri_rng1 (ra_cons rb_var ra_nil)) rg_name (rs_fgE (is := [4, 5, 6]) (rs_seq (rs_asg (re_call0 (b := true) (ra_cons rb_var (ra_cons rb_var (ra_cons rb_var ra_nil)))) (rg_tup (rgs_cons rg_name (rgs_cons rg_name rgs_nil))))
    (rs_seq (rs_app (re_tup (ra_cons re_var (ra_cons re_var ra_nil))))
    (rs_asg re_var rg_name)))))
    (rs_free (i := 2) (rs_ret re_var)))))))
/-! ### walk -/
def m_walk : MSt :=
  (mSeq (mOwn 1 (mLst mNil))
    (mSeq (mDnew 2)
    (mSeq (mAsg (mCall0 1 ph_first_prices (mCons (mVarB 0) mNil)) (bName 3))
    (mSeq (whileGo (mB (mNIn true 2 (mTup (mCons (mVarB 3) (mCons (mOp dMod (mCB fLen (mCons (mVarB 1) mNil)) (mret (.int 12))) mNil))))) (mFgE [4, 5] (mSeq (mIfS (mB (mOp dEq (mCB fLen (mCons (mVarB 1) mNil)) (mret (.int 5000)))) mNv mNx)
    (mSeq (mNPut 2 (mTup (mCons (mVarB 3) (mCons (mOp dMod (mCB fLen (mCons (mVarB 1) mNil)) (mret (.int 12))) mNil))) (mCB fLen (mCons (mVarB 1) mNil)))
    (mSeq (mAsg (mCall0 3 ph_day_done (mCons (mVarB 0) (mCons (mVarB 3) (mCons (mCB fLen (mCons (mVarB 1) mNil)) mNil)))) (bTup 2 (bCons (bName 4) (bCons (bName 5) bNil))))
    (mSeq (mApp 1 (mTup (mCons (mVar 3) (mCons (mVar 4) mNil))))
    (mAsg (mVar 5) (bName 3))))))) fuel)
    (mFree 1 (mRet (mTup (mCons (mVar 1) (mCons (mNGet 2 (mTup (mCons (mVarB 3) (mCons (mOp dMod (mCB fLen (mCons (mVarB 1) mNil)) (mret (.int 12))) mNil)))) mNil)))))))))
def ph_walk : PhiT := phi 6 m_walk
def t_walk (K : PySem.W.Frag) (ix : IXT) : TS :=
  (tSeq (tAsg (tLst tNil) (gName 1))
    (tSeq (tAsg tNNew (gName 2))
    (tSeq (tAsg (tCall (spOf K ix 1 ph_first_prices) [] E0 (tCons (tVar 0) tNil)) (gName 3))
    (tSeq (tWhile (tB (tNNotIn K (tTup (tCons (tVar 3) (tCons (tOp rModI (tCB (rLenA K) (tCons (tVar 1) tNil)) (tC (.int 12))) tNil))) (tVar 2))) (tSeq (tIfS (tTest (tOp rEq (tCB (rLenA K) (tCons (tVar 1) tNil)) (tC (.int 5000)))) tNever tNext)
    (tSeq (sNPut K (tVar 2) (tTup (tCons (tVar 3) (tCons (tOp rModI (tCB (rLenA K) (tCons (tVar 1) tNil)) (tC (.int 12))) tNil))) (tCB (rLenA K) (tCons (tVar 1) tNil)))
    (tSeq (tAsg (tCall (spOf K ix 3 ph_day_done) [] E0 (tCons (tVar 0) (tCons (tVar 3) (tCons (tCB (rLenA K) (tCons (tVar 1) tNil)) tNil)))) (gTup K 2 (gCons (gName 4) (gCons (gName 5) gNil))))
    (tSeq (tDrop (tBM K "list" rAppend (tVar 1) (tCons (tTup (tCons (tVar 3) (tCons (tVar 4) tNil))) tNil)))
    (tAsg (tVar 5) (gName 3)))))))
    (tRet (tTup (tCons (tVar 1) (tCons (tNGet K (tVar 2) (tTup (tCons (tVar 3) (tCons (tOp rModI (tCB (rLenA K) (tCons (tVar 1) tNil)) (tC (.int 12))) tNil)))) tNil))))))))
theorem rs_walk {K : PySem.W.Frag} {E : XK} {ix : IXT} : RS K E ix (t_walk K ix) m_walk :=
  (rs_seq (rs_own (rf_lst ra_nil))
    (rs_seq rs_dnew
    (rs_seq (rs_asg (re_call0 (b := true) (ra_cons rb_var ra_nil)) rg_name)
    (rs_seq (rs_while (n := fuel) (rt_B (re_nnotin (b := false) (re_tup (ra_cons rb_var (ra_cons (re_op (b := false) sc_mod (re_cb (b := false) sc_len (ra_cons rb_var ra_nil)) (re_int (b := false))) ra_nil))))) (rs_fgE (is := [4, 5]) (rs_seq (rs_if (rt_test (re_op (b := false) sc_eq (re_cb (b := false) sc_len (ra_cons rb_var ra_nil)) (re_int (b := false)))) rs_never rs_nx)
    (rs_seq (rs_nput (re_tup (ra_cons rb_var (ra_cons (re_op (b := false) sc_mod (re_cb (b := false) sc_len (ra_cons rb_var ra_nil)) (re_int (b := false))) ra_nil))) (re_cb (b := true) sc_len (ra_cons rb_var ra_nil)))
    (rs_seq (rs_asg (re_call0 (b := true) (ra_cons rb_var (ra_cons rb_var (ra_cons (re_cb (b := false) sc_len (ra_cons rb_var ra_nil)) ra_nil)))) (rg_tup (rgs_cons rg_name (rgs_cons rg_name rgs_nil))))
    (rs_seq (rs_app (re_tup (ra_cons re_var (ra_cons re_var ra_nil))))
    (rs_asg re_var rg_name)))))))
    (rs_free (i := 1) (rs_ret (re_tup (ra_cons re_var (ra_cons (re_nget (b := true) (re_tup (ra_cons rb_var (ra_cons (re_op (b := false) sc_mod (re_cb (b := false) sc_len (ra_cons rb_var ra_nil)) (re_int (b := false))) ra_nil)))) ra_nil)))))))))
/-! ### times -/
def m_times : MSt :=
  (mSeq (mIfS (mB (mOp dGe (mVarB 0) (mVarB 1))) (mRet (mret (.int 0))) mNx)
    (mSeq (mIfS (mB (mOp dLt (mVarB 0) (mVarB 2))) (mRet (mret (.int 1))) mNx)
    (mRet (mOp dAdd (mOp dDiv (mOp dSub (mOp dSub (mVarB 1) (mret (.int 1))) (mVarB 0)) (mVarB 3)) (mret (.int 1))))))
def ph_times : PhiT := phi 4 m_times
def t_times (K : PySem.W.Frag) (ix : IXT) : TS :=
  (tSeq (tIfS (tTest (tOp rGeI (tVar 0) (tVar 1))) (tRet (tC (.int 0))) tNext)
    (tSeq (tIfS (tTest (tOp rLtI (tVar 0) (tVar 2))) (tRet (tC (.int 1))) tNext)
    (tRet (tOp rAddI (tOp rDivI (tOp rSubI (tOp rSubI (tVar 1) (tC (.int 1))) (tVar 0)) (tVar 3)) (tC (.int 1))))))
theorem rs_times {K : PySem.W.Frag} {E : XK} {ix : IXT} : RS K E ix (t_times K ix) m_times :=
  (rs_seq (rs_if (rt_test (re_op (b := false) sc_ge rb_var rb_var)) (rs_ret (re_int (b := true))) rs_nx)
    (rs_seq (rs_if (rt_test (re_op (b := false) sc_lt rb_var rb_var)) (rs_ret (re_int (b := true))) rs_nx)
    (rs_ret (re_op (b := true) sc_add (re_op (b := false) sc_div (re_op (b := false) sc_sub (re_op (b := false) sc_sub rb_var (re_int (b := false))) rb_var) rb_var) (re_int (b := false))))))
/-! ### after -/
def m_after : MSt :=
  (mSeq (mDrop (mCall0 1 ph_check_market (mCons (mVarB 0) mNil)))
    (mSeq (mDrop (mCall0 2 ph_check_count (mCons (mVarB 1) (mCons (mret (.int 1000000000000)) mNil))))
    (mSeq (mAsg (mCall0 1 ph_walk (mCons (mVarB 0) mNil)) (bTup 2 (bCons (bName 5) (bCons (bName 6) bNil))))
    (mSeq (mAsg (mOp dSub (mCB fLen (mCons (mVarB 5) mNil)) (mVarB 6)) (bName 2))
    (nNew 3 (mItT (mCall0 1 ph_first_prices (mCons (mVarB 0) mNil))) [0, 0]
    (nSeq (nFor (mEnum (mCons (mVar 5) mNil)) (bTup 2 (bCons (bName 7) (bCons (bTup 2 (bCons (bName 11) (bCons (bName 12) bNil))) bNil))) (nFgE [7, 8, 9, 11, 12] (nSeq (nAsg (mCall0 4 ph_times (mCons (mVarB 7) (mCons (mVarB 1) (mCons (mVarB 6) (mCons (mVarB 2) mNil))))) (bName 8))
    (nFor (mItL (mVar 12)) (bName 9) (nFgE [9] (nIf (mB (mOp dNotN2 (mVarB 9) (mret .non))) (nSeq (nAug (fun i j => i + j) (mVarB 9) 0 (mVarB 8))
    (nAug (fun i j => i + j) (mVarB 9) 1 (mOp dMul (mVarB 8) (mOp dIx (mVarB 11) (mVarB 9))))) nNx))))))
    (nEnd 3 (mFree 3 (mSeq (mAsg (mIf (mB (mOp dLt (mVarB 1) (mVarB 6))) (mVar 1) (mOp dAdd (mVarB 6) (mOp dMod (mOp dSub (mVarB 1) (mVarB 6)) (mVarB 2)))) (bName 4))
    (mRet (mTup (mCons (mOp dIx (mOp dIx (mVar 5) (mVarB 4)) (mret (.int 0))) (mCons (mFr (mLc (mItL (mVar 3)) (bLst 2 (bCons (bName 13) (bCons (bName 14) bNil))) [13, 14] (mret true) (mTup (mCons (mVar 13) (mCons (mVar 14) mNil))))) mNil)))))))))))))
def ph_after : PhiT := phi 15 m_after
def t_after (K : PySem.W.Frag) (ix : IXT) : TS :=
  (tSeq (tDrop (tCall (spOf K ix 1 ph_check_market) [] E0 (tCons (tVar 0) tNil)))
    (tSeq (tDrop (tCall (spOf K ix 2 ph_check_count) [] E0 (tCons (tVar 1) (tCons (tC (.int 1000000000000)) tNil))))
    (tSeq (tAsg (tCall (spOf K ix 1 ph_walk) [] E0 (tCons (tVar 0) tNil)) (gTup K 2 (gCons (gName 5) (gCons (gName 6) gNil))))
    (tSeq (tAsg (tOp rSubI (tCB (rLenA K) (tCons (tVar 5) tNil)) (tVar 6)) (gName 2))
    (tSeq (tAsg (tLc (iTup K (tCall (spOf K ix 1 ph_first_prices) [] E0 (tCons (tVar 0) tNil))) (gName 10) tYes (tLst (tCons (tC (.int 0)) (tCons (tC (.int 0)) tNil))) [10]) (gName 3))
    (tSeq (tFor (iEnumA K (tCons (tVar 5) tNil)) (gTup K 2 (gCons (gName 7) (gCons (gTup K 2 (gCons (gName 11) (gCons (gName 12) gNil))) gNil))) (tSeq (tAsg (tCall (spOf K ix 4 ph_times) [] E0 (tCons (tVar 7) (tCons (tVar 1) (tCons (tVar 6) (tCons (tVar 2) tNil))))) (gName 8))
    (tFor (iList K (tVar 12)) (gName 9) (tIfS (tTest (tOp rNotNo (tVar 9) (tC .non))) (tSeq (tAugS (tOp (rIx K) (tVar 3) (tVar 9)) (tC (.int 0)) (tVar 8) rGetL (ipI (fun i j => i + j)) rSetL)
    (tAugS (tOp (rIx K) (tVar 3) (tVar 9)) (tC (.int 1)) (tOp rMulI (tVar 8) (tOp (rIx K) (tVar 11) (tVar 9))) rGetL (ipI (fun i j => i + j)) rSetL)) tNext))))
    (tSeq (tAsg (tIf (tTest (tOp rLtI (tVar 1) (tVar 6))) (tVar 1) (tOp rAddI (tVar 6) (tOp rModI (tOp rSubI (tVar 1) (tVar 6)) (tVar 2)))) (gName 4))
    (tRet (tTup (tCons (tOp (rIx K) (tOp (rIx K) (tVar 5) (tVar 4)) (tC (.int 0))) (tCons (tLc (iList K (tVar 3)) (gUnl K 2 (gCons (gName 13) (gCons (gName 14) gNil))) tYes (tTup (tCons (tVar 13) (tCons (tVar 14) tNil))) [13, 14]) tNil)))))))))))
theorem rs_after {K : PySem.W.Frag} {E : XK} {ix : IXT} : RS K E ix (t_after K ix) m_after :=
  (rs_seq (rs_drop (re_call0 (b := false) (ra_cons rb_var ra_nil)))
    (rs_seq (rs_drop (re_call0 (b := false) (ra_cons rb_var (ra_cons (re_int (b := false)) ra_nil))))
    (rs_seq (rs_asg (re_call0 (b := true) (ra_cons rb_var ra_nil)) (rg_tup (rgs_cons rg_name (rgs_cons rg_name rgs_nil))))
    (rs_seq (rs_asg (re_op (b := true) sc_sub (re_cb (b := false) sc_len (ra_cons rb_var ra_nil)) rb_var) rg_name)
    (rs_matNew (ri_tup (re_call0 (b := true) (ra_cons rb_var ra_nil)))
    (rm_seq (rm_for (ri_enum (ra_cons re_var ra_nil)) (rg_tup (rgs_cons rg_name (rgs_cons (rg_tup (rgs_cons rg_name (rgs_cons rg_name rgs_nil))) rgs_nil))) (rm_fgE (is := [7, 8, 9, 11, 12]) (rm_seq (rm_asg (re_call0 (b := true) (ra_cons rb_var (ra_cons rb_var (ra_cons rb_var (ra_cons rb_var ra_nil))))) rg_name (by decide))
    (rm_for (ri_list re_var) rg_name (rm_fgE (is := [9]) (rm_if (rt_test (re_op (b := false) sc_notN rb_var (re_non (b := false)))) (rm_seq (rm_aug (c := 0) rb_var rb_var)
    (rm_aug (c := 1) rb_var (re_op (b := false) sc_mul rb_var (re_ix rb_var rb_var)))) rm_nx)) (by decide)))) (by decide))
    (rm_end (rs_free (i := 3) (rs_seq (rs_asg (re_if (rt_test (re_op (b := false) sc_lt rb_var rb_var)) re_var (re_op (b := true) sc_add rb_var (re_op (b := false) sc_mod (re_op (b := false) sc_sub rb_var rb_var) rb_var))) rg_name)
    (rs_ret (re_tup (ra_cons (re_ix (re_ix re_var rb_var) (re_int (b := false))) (ra_cons (re_new (b := true) (rf_lc (ri_list re_var) (rg_unl (rgs_cons rg_name (rgs_cons rg_name rgs_nil))) rt_yes (re_tup (ra_cons re_var (ra_cons re_var ra_nil))) (by decide))) ra_nil)))))))))))))
/-! ### _law_mix -/
abbrev N__law_mix : List Str := ["_law_script", "_law_seed", "_law_mixed", "_law_cell"]
def t__law_mix (K : PySem.W.Frag) (ix : IXT) : TS :=
  (tSeq (tAsg (tVar 1) (gName 2))
    (tSeq (tFor (iList K (tVar 0)) (gName 3) (tAsg (tOp rModI (tOp rAddI (tOp rAddI (tOp rMulI (tVar 2) (tC (.int 48271))) (tOp rModI (tVar 3) (tC (.int 2147483629)))) (tC (.int 1))) (tC (.int 2147483647))) (gName 2)))
    (tRet (tLst (tCons (tVar 2) (tCons (tCB (rListOf K) (tCons (tVar 0) tNil)) (tCons (tC (.int 0)) tNil)))))))
theorem len__law_mix {K : PySem.W.Frag} {vs : List V} {H : Hp} {Q : VK} {E : XK} (h : spMix K vs H Q E) : vs.length = 2 := by
  obtain ⟨a, ns, seed, rfl, _⟩ := h
  rfl
theorem raw__law_mix {K : PySem.W.Frag} {ix : IXT} {vs : List V} {H : Hp} {Q : VK} {E : XK} (h : spMix K vs H Q E) : t__law_mix K ix { nx := fun _ H' => Q .non H', rt := Q } (L2.start N__law_mix vs) H := by
  obtain ⟨a, ns, seed, rfl, hS, hl, h0, h1, q⟩ := h
  refine ⟨_, rfl, .ref a, rfl, a, rfl, ⟨_, hS⟩, for_list (K := K) (a := a) (xs := ns.map V.int) (fun i σ H2 => H2 = H ∧ ∃ v : Option V, σ = [some (.ref a), some (.int seed), some (.int (mixN seed (ns.take i))), v])
    ⟨rfl, none, by rw [List.take_zero]; rfl⟩ (fun i σ H2 _ ⟨e, _⟩ => by rw [e]; exact hS) ?_ ?_⟩
  · rintro i x σ H2 hx ⟨rfl, v, rfl⟩
    rw [List.getElem?_map] at hx
    cases hi : ns[i]? with
    | none => rw [hi] at hx; cases hx
    | some c =>
      rw [hi] at hx
      cases hx
      have et : ns.take (i + 1) = ns.take i ++ [c] := by rw [List.take_add_one, hi]; rfl
      have em : mixN seed (ns.take (i + 1)) = mix1 (mixN seed (ns.take i)) c := by unfold mixN; rw [et, List.foldl_append]; rfl
      refine ⟨_, rfl, _, _, rfl, rfl, .inr ⟨by decide, by decide⟩, _, rfl, _, _, rfl, rfl, (by show (0 : Int) < _; decide), _, _, rfl, rfl, _, _, rfl, rfl, _, _, rfl, rfl, (by show (0 : Int) < _; decide), rfl, some (.int c), ?_⟩
      rw [em]
      rfl
  · rintro σ H2 ⟨rfl, v, rfl⟩
    rw [List.length_map, List.take_length]
    have nl : ∀ {p : Addr}, H2 p = none → SqL K H2 a (ns.map V.int) := fun _ => hS
    refine ⟨_, rfl, .ref a, rfl, a, ns.map V.int, rfl, .inl hS, fun rb hb => ⟨by show 3 ≤ sizeLine; decide, fun ra ha => q ra rb _ (fun z => ?_) (fun b o e => by rw [upd_ne (ne_of_none (show upd H2 rb _ b = some o by rw [upd_ne (ne_of_none e hb)]; exact e) ha), upd_ne (ne_of_none e hb)]; exact e) upd_same ?_⟩⟩
    · rw [z, upd_same] at ha; cases ha
    · have hne : rb ≠ ra := fun z => by rw [z, upd_same] at ha; cases ha
      rw [upd_ne hne, upd_same]
/-! ### _law_next -/
abbrev N__law_next : List Str := ["_law_h", "_law_many", "_law_cell"]
def t__law_next (K : PySem.W.Frag) (ix : IXT) : TS :=
  (tSeq (tAsg (tOp (rIx K) (tOp rCat (tOp (rIx K) (tVar 0) (tC (.int 1))) (tLst (tCons (tC (.int 0)) tNil))) (tOp rModI (tOp (rIx K) (tVar 0) (tC (.int 2))) (tCB rMax2I (tCons (tC (.int 1)) (tCons (tCB (rLenA K) (tCons (tOp (rIx K) (tVar 0) (tC (.int 1))) tNil)) tNil))))) (gName 2))
    (tSeq (tIfS (tTest (tOp rGeI (tVar 2) (tOp rPowI (tC (.int 10)) (tC (.int 18))))) (tSeq (tAsg (tOp rDivW (tVar 2) (tVar 1)) (gSub (tOp (rIx K) (tVar 0) (tC (.int 1))) (tOp rModI (tOp (rIx K) (tVar 0) (tC (.int 2))) (tCB (rLenA K) (tCons (tOp (rIx K) (tVar 0) (tC (.int 1))) tNil))) rSetL))
    (tRet (tOp rModI (tVar 2) (tVar 1)))) tNext)
    (tSeq (tAsg (tOp rModI (tOp rAddI (tOp rAddI (tOp rMulI (tOp (rIx K) (tVar 0) (tC (.int 0))) (tC (.int 48271))) (tOp rMulI (tVar 2) (tC (.int 69621)))) (tC (.int 11))) (tC (.int 2147483647))) (gSub (tVar 0) (tC (.int 0)) rSetL))
    (tSeq (tAsg (tOp rAddI (tOp (rIx K) (tVar 0) (tC (.int 2))) (tC (.int 1))) (gSub (tVar 0) (tC (.int 2)) rSetL))
    (tRet (tOp rModI (tOp rDivW (tOp (rIx K) (tVar 0) (tC (.int 0))) (tC (.int 7))) (tVar 1)))))))
theorem raw__law_next {K : PySem.W.Frag} {ix : IXT} {vs : List V} {H : Hp} {Q : VK} {E : XK} (h : spOf K ix 2 ph__law_next vs H Q E) : t__law_next K ix { nx := fun _ H' => Q .non H', rt := Q } (L2.start N__law_next vs) H := by
  obtain ⟨ra, rb, ds, g, r, g', hl, k, hi, hφ, q⟩ := h
  unfold ph__law_next at hφ
  split at hφ
  rotate_left
  · cases hφ
  rename_i n
  split at hφ
  rotate_left
  · cases hφ
  rename_i hn
  cases hφ
  obtain ⟨v1, r1, rfl, i1, v2, r2, rfl, i2, i3⟩ := hi
  cases i3
  cases (show v1 = .ref ra from i1)
  cases (show v2 = .int n from i2)
  have q : ∀ v H', Ex (isR ⟨ra, rb, H, fun _ => False, tabsK K⟩) H H' → GOk ⟨ra, rb, H, fun _ => False, tabsK K⟩ (nextG n g).2 H' → v = .int (nextG n g).1 → Q v H' := fun v H' a b c => q v H' a b c
  have ka : H ra = some (.lst [.int g.m, .ref rb, .int g.k]) := k.a
  have kb : H rb = some (.lst (g.cs.map .int)) := k.b
  have kn : ra ≠ rb := k.ne
  have kT := k.tab
  have ks := k.sm
  have hna : n.natAbs < 2 ^ 60 := by omega
  have i0 : ∀ {H1 : Hp} {a b c : V}, H1 ra = some (.lst [a, b, c]) → ∀ Q : VK, Q a H1 → rIx K (.ref ra) (.int 0) H1 Q := fun h Q q => .inl ⟨ra, _, 0, _, rfl, rfl, SqL.of h, rfl, q⟩
  have j1 : ∀ {H1 : Hp} {a b c : V}, H1 ra = some (.lst [a, b, c]) → ∀ Q : VK, Q b H1 → rIx K (.ref ra) (.int 1) H1 Q := fun h Q q => .inl ⟨ra, _, 1, _, rfl, rfl, SqL.of h, rfl, q⟩
  have j2 : ∀ {H1 : Hp} {a b c : V}, H1 ra = some (.lst [a, b, c]) → ∀ Q : VK, Q c H1 → rIx K (.ref ra) (.int 2) H1 Q := fun h Q q => .inl ⟨ra, _, 2, _, rfl, rfl, SqL.of h, rfl, q⟩
  have line : 1001 ≤ sizeLine := by decide
  -- the cell
  refine ⟨_, rfl, j1 ka _ ⟨by show 1 ≤ sizeLine; decide, fun p hp => ⟨rb, p, g.cs.map .int, [.int 0], rfl, rfl, ?_, upd_same, ?_, fun p2 hp2 => ?_⟩⟩⟩
  · rw [upd_ne (ne_of_none kb hp)]; exact kb
  · rw [List.length_map]; show g.cs.length + 1 ≤ sizeLine; omega
  generalize hH2 : upd (upd H p (.lst [.int 0])) p2 (.lst (g.cs.map V.int ++ [.int 0])) = H2
  have e2 : Ex (isR ⟨ra, rb, H, fun _ => False, tabsK K⟩) H H2 := by rw [← hH2]; exact (Ex.new hp).trans (Ex.new hp2)
  have keep : ∀ a o, H a = some o → H2 a = some o := fun a o ha => by
    rw [← hH2, upd_ne (ne_of_none (show upd H p (.lst [.int 0]) a = some o by rw [upd_ne (ne_of_none ha hp)]; exact ha) hp2), upd_ne (ne_of_none ha hp)]
    exact ha
  have ka2 := keep _ _ ka
  have kb2 := keep _ _ kb
  have kp2 : H2 p2 = some (.lst (g.cs.map V.int ++ [.int 0])) := by rw [← hH2]; exact upd_same
  have hcat : g.cs.map V.int ++ [V.int 0] = (g.cs ++ [0]).map V.int := by simp
  -- the place
  generalize hM : (if (g.cs.length : Int) > 1 then (g.cs.length : Int) else 1) = M
  have hM1 : 1 ≤ M := by rw [← hM]; split <;> omega
  have hM2 : M ≤ (g.cs.length : Int) + 1 := by rw [← hM]; split <;> omega
  generalize hc : (g.cs ++ [0]).getD (g.k % M).toNat 0 = c
  have hmod0 : 0 ≤ g.k % M := Int.emod_nonneg _ (by omega)
  have hmod1 : g.k % M < M := Int.emod_lt_of_pos _ (by omega)
  have hlt : (g.k % M).toNat < (g.cs ++ [0]).length := by rw [List.length_append]; simp only [List.length_cons, List.length_nil]; omega
  have hcell : atI (g.cs.map V.int ++ [.int 0]) (g.k % M) = some (.int c) := by
    have e : g.k % M = ((g.k % M).toNat : Int) := by omega
    rw [hcat, e]
    refine atI_nat ?_
    rw [List.getElem?_map, List.getElem?_eq_getElem hlt]
    rw [List.getD_eq_getElem?_getD, List.getElem?_eq_getElem hlt] at hc
    simp only [Option.getD_some] at hc
    rw [← hc]
    simp only [Int.toNat_natCast, Option.map_some]
  have hres : nextG n g = if 1000000000000000000 ≤ c then (c % n, ⟨g.m, g.cs.set (g.k % (g.cs.length : Int)).toNat (c / n), g.k⟩) else (((g.m * 48271 + c * 69621 + 11) % 2147483647) / 7 % n, ⟨(g.m * 48271 + c * 69621 + 11) % 2147483647, g.cs, g.k + 1⟩) := by
    unfold nextG
    dsimp only
    rw [hM, hc]
  refine ⟨_, rfl, j2 ka2 _ ⟨_, rfl, j1 ka2 _ ⟨rb, g.cs.map .int, rfl, .inl (SqL.of kb2), 1, (g.cs.length : Int), by rw [List.length_map], g.k, M, rfl, by rw [← hM], by omega, ?_⟩⟩⟩
  refine .inl ⟨p2, _, g.k % M, .int c, rfl, rfl, SqL.of kp2, hcell, ?_⟩
  -- is it great?
  refine ⟨_, rfl, ⟨10, 18, rfl, rfl, ⟨by decide, by decide, by decide⟩, c, 1000000000000000000, rfl, by decide, _, rfl, ?_⟩⟩
  by_cases hbig : 1000000000000000000 ≤ c
  · rw [if_pos hbig] at hres
    rw [decide_eq_true hbig]
    refine iteT ?_
    have hL : 0 < g.cs.length := by
      rcases Nat.eq_zero_or_pos g.cs.length with z | z
      · exfalso
        have e : g.cs = [] := List.length_eq_zero_iff.mp z
        rw [e] at hc hM
        have : M = 1 := by rw [← hM]; decide
        rw [this, Int.emod_one] at hc
        have : c = 0 := by rw [← hc]; rfl
        omega
      · exact z
    have hML : M = (g.cs.length : Int) := by rw [← hM]; split <;> omega
    refine ⟨_, rfl, _, rfl, c, n, rfl, rfl, wide_div (by omega) hna (by decide) (by decide), ?_⟩
    refine ⟨_, rfl, j1 ka2 _ ⟨_, rfl, j2 ka2 _ ⟨_, rfl, j1 ka2 _ ⟨rb, g.cs.map .int, rfl, .inl (SqL.of kb2), g.k, (g.cs.length : Int), rfl, by rw [List.length_map], by omega, ?_⟩⟩⟩⟩
    rw [← hML]
    refine ⟨rb, g.cs.map .int, g.k % M, (g.k % M).toNat, rfl, rfl, kb2, ?_, ?_⟩
    · unfold ixN
      rw [if_pos hmod0, if_pos (by rw [List.length_map]; omega)]
    refine ⟨_, rfl, _, rfl, c, n, rfl, rfl, hn.1, ?_⟩
    have ep : Ex (isR ⟨ra, rb, H, fun _ => False, tabsK K⟩) H2 (upd H2 rb (.lst ((g.cs.map V.int).set (g.k % M).toNat (.int (c / n))))) := Ex.put kb2 (.inr (.inl rfl))
    refine q _ _ (e2.trans ep) ⟨kn, ?_, ?_, ?_, tabs_put (LamX.Tabs.ext kT keep) kb2⟩ (by rw [hres])
    · rw [hres]; show upd H2 rb _ ra = _
      rw [upd_ne kn]; exact ka2
    · rw [hres]; show upd H2 rb _ rb = _
      rw [upd_same, ← hML, List.map_set]
    · rw [hres]; show (g.cs.set _ _).length ≤ 1000
      rw [List.length_set]; exact ks
  · rw [if_neg hbig] at hres
    rw [decide_eq_false hbig]
    refine iteF ?_
    refine ⟨_, rfl, i0 ka2 _ ⟨g.m, 48271, rfl, rfl, .inr ⟨by decide, by decide⟩, _, rfl, c, 69621, rfl, rfl, .inr ⟨by decide, by decide⟩, _, _, rfl, rfl, _, 11, rfl, rfl, _, 2147483647, rfl, rfl, (by show (0 : Int) < 2147483647; decide), _, rfl, ra, _, 0, 0, rfl, rfl, ka2, rfl, ?_⟩⟩
    have e3 : Ex (isR ⟨ra, rb, H, fun _ => False, tabsK K⟩) H2 (upd H2 ra (.lst [.int ((g.m * 48271 + c * 69621 + 11) % 2147483647), .ref rb, .int g.k])) := Ex.put ka2 (.inl rfl)
    have ka3 : upd H2 ra (.lst [.int ((g.m * 48271 + c * 69621 + 11) % 2147483647), .ref rb, .int g.k]) ra = some (.lst [.int ((g.m * 48271 + c * 69621 + 11) % 2147483647), .ref rb, .int g.k]) := upd_same
    refine ⟨_, rfl, j2 ka3 _ ⟨g.k, 1, rfl, rfl, _, rfl, ra, _, 2, 2, rfl, rfl, ka3, rfl, ?_⟩⟩
    have ka4 : upd (upd H2 ra (.lst [.int ((g.m * 48271 + c * 69621 + 11) % 2147483647), .ref rb, .int g.k])) ra (.lst [.int ((g.m * 48271 + c * 69621 + 11) % 2147483647), .ref rb, .int (g.k + 1)]) ra = some (.lst [.int ((g.m * 48271 + c * 69621 + 11) % 2147483647), .ref rb, .int (g.k + 1)]) := upd_same
    have e4 : Ex (isR ⟨ra, rb, H, fun _ => False, tabsK K⟩) (upd H2 ra (.lst [.int ((g.m * 48271 + c * 69621 + 11) % 2147483647), .ref rb, .int g.k])) (upd (upd H2 ra (.lst [.int ((g.m * 48271 + c * 69621 + 11) % 2147483647), .ref rb, .int g.k])) ra (.lst [.int ((g.m * 48271 + c * 69621 + 11) % 2147483647), .ref rb, .int (g.k + 1)])) := Ex.put ka3 (.inl rfl)
    refine ⟨_, rfl, i0 ka4 _ ⟨((g.m * 48271 + c * 69621 + 11) % 2147483647), 7, rfl, rfl, wide_div (b := 4) (by decide) (by decide) (by decide) (by decide), _, rfl, _, n, rfl, rfl, hn.1, ?_⟩⟩
    refine q _ _ ((e2.trans e3).trans e4) ⟨kn, ?_, ?_, ?_, tabs_put (tabs_put (LamX.Tabs.ext kT keep) ka2) ka3⟩ (by rw [hres])
    · rw [hres]; exact ka4
    · rw [hres]
      show upd (upd H2 ra _) ra _ rb = _
      rw [upd_ne (Ne.symm kn), upd_ne (Ne.symm kn)]; exact kb2
    · rw [hres]; exact ks
/-! ### _law_market -/
def m__law_market : MSt :=
  (mSeq (mPar [Stp.ow (mLst mNil), Stp.ow (mLst mNil)] [5, 6])
    (mSeq (mFor (mRng1 (mCons (mCall0 2 ph__law_next (mCons (mVarB 0) (mCons (mOp dAdd (mVarB 1) (mret (.int 1))) mNil))) mNil)) (bName 4) (mFgE [4, 7, 8, 9, 10] (mSeq (mAsg (mOp dIx (mFr (mLst (mCons (mret (.int 0)) (mCons (mCall0 2 ph__law_next (mCons (mVarB 0) (mCons (mOp dAdd (mVarB 3) (mret (.int 1))) mNil))) mNil)))) (mOp dDiv (mCall0 2 ph__law_next (mCons (mVarB 0) (mCons (mret (.int 4)) mNil))) (mret (.int 3)))) (bName 7))
    (mSeq (mAsg (mOp dAdd (mVarB 7) (mCall0 2 ph__law_next (mCons (mVarB 0) (mCons (mOp dAdd (mOp dSub (mVarB 3) (mVarB 7)) (mret (.int 1))) mNil)))) (bName 8))
    (mSeq (mAsg (mOp dAdd (mVarB 7) (mCall0 2 ph__law_next (mCons (mVarB 0) (mCons (mOp dAdd (mOp dSub (mVarB 8) (mVarB 7)) (mret (.int 1))) mNil)))) (bName 9))
    (mSeq (mAsg (mOp dAdd (mret (.int 1)) (mCall0 2 ph__law_next (mCons (mVarB 0) (mCons (mOp dIx (mFr (mLst (mCons (mret (.int 2)) (mCons (mret (.int 5)) mNil)))) (mOp dDiv (mCall0 2 ph__law_next (mCons (mVarB 0) (mCons (mret (.int 3)) mNil))) (mret (.int 2)))) mNil)))) (bName 10))
    (mApp 5 (mTup (mCons (mVar 9) (mCons (mVar 10) (mCons (mCall0 2 ph__law_next (mCons (mVarB 0) (mCons (mret (.int 10)) mNil))) (mCons (mCall0 2 ph__law_next (mCons (mVarB 0) (mCons (mret (.int 10)) mNil))) (mCons (mVar 7) (mCons (mVar 8) mNil))))))))))))))
    (mFree 5 (mSeq (mFor (mRng1 (mCons (mCall0 2 ph__law_next (mCons (mVarB 0) (mCons (mOp dAdd (mVarB 2) (mret (.int 1))) mNil))) mNil)) (bName 4) (mFgE [4, 11] (mSeq (mAsg (mOp dAdd (mret (.int 1)) (mOp dMul (mCall0 2 ph__law_next (mCons (mVarB 0) (mCons (mret (.int 4)) mNil))) (mCall0 2 ph__law_next (mCons (mVarB 0) (mCons (mret (.int 2)) mNil))))) (bName 11))
    (mApp 6 (mTup (mCons (mVar 11) (mCons (mCall0 2 ph__law_next (mCons (mVarB 0) (mCons (mVarB 11) mNil))) (mCons (mTupOf (mCons (mFr (mLc (mItL (mVar 5)) (bName 12) [12] (mret true) (mCall0 2 ph__law_next (mCons (mVarB 0) (mCons (mOp dAdd (mVarB 3) (mret (.int 1))) mNil))))) mNil)) mNil))))))))
    (mFree 6 (mRet (mTup (mCons (mTupOf (mCons (mVar 5) mNil)) (mCons (mTupOf (mCons (mVar 6) mNil)) mNil)))))))))
def ph__law_market : PhiT := phi 13 m__law_market
def t__law_market (K : PySem.W.Frag) (ix : IXT) : TS :=
  (tSeq (tPar 5 6 (tCons (tLst tNil) (tCons (tLst tNil) tNil)))
    (tSeq (tFor (iRng1 (tCons (tCall (spOf K ix 2 ph__law_next) [] E0 (tCons (tVar 0) (tCons (tOp rAddI (tVar 1) (tC (.int 1))) tNil))) tNil)) (gName 4) (tSeq (tAsg (tOp (rIx K) (tLst (tCons (tC (.int 0)) (tCons (tCall (spOf K ix 2 ph__law_next) [] E0 (tCons (tVar 0) (tCons (tOp rAddI (tVar 3) (tC (.int 1))) tNil))) tNil))) (tOp rDivI (tCall (spOf K ix 2 ph__law_next) [] E0 (tCons (tVar 0) (tCons (tC (.int 4)) tNil))) (tC (.int 3)))) (gName 7))
    (tSeq (tAsg (tOp rAddI (tVar 7) (tCall (spOf K ix 2 ph__law_next) [] E0 (tCons (tVar 0) (tCons (tOp rAddI (tOp rSubI (tVar 3) (tVar 7)) (tC (.int 1))) tNil)))) (gName 8))
    (tSeq (tAsg (tOp rAddI (tVar 7) (tCall (spOf K ix 2 ph__law_next) [] E0 (tCons (tVar 0) (tCons (tOp rAddI (tOp rSubI (tVar 8) (tVar 7)) (tC (.int 1))) tNil)))) (gName 9))
    (tSeq (tAsg (tOp rAddI (tC (.int 1)) (tCall (spOf K ix 2 ph__law_next) [] E0 (tCons (tVar 0) (tCons (tOp (rIx K) (tLst (tCons (tC (.int 2)) (tCons (tC (.int 5)) tNil))) (tOp rDivI (tCall (spOf K ix 2 ph__law_next) [] E0 (tCons (tVar 0) (tCons (tC (.int 3)) tNil))) (tC (.int 2)))) tNil)))) (gName 10))
    (tDrop (tBM K "list" rAppend (tVar 5) (tCons (tTup (tCons (tVar 9) (tCons (tVar 10) (tCons (tCall (spOf K ix 2 ph__law_next) [] E0 (tCons (tVar 0) (tCons (tC (.int 10)) tNil))) (tCons (tCall (spOf K ix 2 ph__law_next) [] E0 (tCons (tVar 0) (tCons (tC (.int 10)) tNil))) (tCons (tVar 7) (tCons (tVar 8) tNil))))))) tNil))))))))
    (tSeq (tFor (iRng1 (tCons (tCall (spOf K ix 2 ph__law_next) [] E0 (tCons (tVar 0) (tCons (tOp rAddI (tVar 2) (tC (.int 1))) tNil))) tNil)) (gName 4) (tSeq (tAsg (tOp rAddI (tC (.int 1)) (tOp rMulI (tCall (spOf K ix 2 ph__law_next) [] E0 (tCons (tVar 0) (tCons (tC (.int 4)) tNil))) (tCall (spOf K ix 2 ph__law_next) [] E0 (tCons (tVar 0) (tCons (tC (.int 2)) tNil))))) (gName 11))
    (tDrop (tBM K "list" rAppend (tVar 6) (tCons (tTup (tCons (tVar 11) (tCons (tCall (spOf K ix 2 ph__law_next) [] E0 (tCons (tVar 0) (tCons (tVar 11) tNil))) (tCons (tCB (rTupOf K) (tCons (tLc (iList K (tVar 5)) (gName 12) tYes (tCall (spOf K ix 2 ph__law_next) [] E0 (tCons (tVar 0) (tCons (tOp rAddI (tVar 3) (tC (.int 1))) tNil))) [12]) tNil)) tNil)))) tNil)))))
    (tRet (tTup (tCons (tCB (rTupOf K) (tCons (tVar 5) tNil)) (tCons (tCB (rTupOf K) (tCons (tVar 6) tNil)) tNil)))))))
theorem rs__law_market {K : PySem.W.Frag} {E : XK} {ix : IXT} : RS K E ix (t__law_market K ix) m__law_market :=
  (rs_seq (rs_par (RPar.ow (rf_lst ra_nil) (RPar.ow (rf_lst ra_nil) RPar.nil)))
    (rs_seq (rs_for (ri_rng1 (ra_cons (re_call0 (b := false) (ra_cons rb_var (ra_cons (re_op (b := false) sc_add rb_var (re_int (b := false))) ra_nil))) ra_nil)) rg_name (rs_fgE (is := [4, 7, 8, 9, 10]) (rs_seq (rs_asg (re_ix (re_new (b := true) (rf_lst (ra_cons (re_int (b := true)) (ra_cons (re_call0 (b := true) (ra_cons rb_var (ra_cons (re_op (b := false) sc_add rb_var (re_int (b := false))) ra_nil))) ra_nil)))) (re_op (b := false) sc_div (re_call0 (b := false) (ra_cons rb_var (ra_cons (re_int (b := false)) ra_nil))) (re_int (b := false)))) rg_name)
    (rs_seq (rs_asg (re_op (b := true) sc_add rb_var (re_call0 (b := false) (ra_cons rb_var (ra_cons (re_op (b := false) sc_add (re_op (b := false) sc_sub rb_var rb_var) (re_int (b := false))) ra_nil)))) rg_name)
    (rs_seq (rs_asg (re_op (b := true) sc_add rb_var (re_call0 (b := false) (ra_cons rb_var (ra_cons (re_op (b := false) sc_add (re_op (b := false) sc_sub rb_var rb_var) (re_int (b := false))) ra_nil)))) rg_name)
    (rs_seq (rs_asg (re_op (b := true) sc_add (re_int (b := false)) (re_call0 (b := false) (ra_cons rb_var (ra_cons (re_ix (re_new (b := false) (rf_lst (ra_cons (re_int (b := true)) (ra_cons (re_int (b := true)) ra_nil)))) (re_op (b := false) sc_div (re_call0 (b := false) (ra_cons rb_var (ra_cons (re_int (b := false)) ra_nil))) (re_int (b := false)))) ra_nil)))) rg_name)
    (rs_app (re_tup (ra_cons re_var (ra_cons re_var (ra_cons (re_call0 (b := true) (ra_cons rb_var (ra_cons (re_int (b := false)) ra_nil))) (ra_cons (re_call0 (b := true) (ra_cons rb_var (ra_cons (re_int (b := false)) ra_nil))) (ra_cons re_var (ra_cons re_var ra_nil))))))))))))))
    (rs_free (i := 5) (rs_seq (rs_for (ri_rng1 (ra_cons (re_call0 (b := false) (ra_cons rb_var (ra_cons (re_op (b := false) sc_add rb_var (re_int (b := false))) ra_nil))) ra_nil)) rg_name (rs_fgE (is := [4, 11]) (rs_seq (rs_asg (re_op (b := true) sc_add (re_int (b := false)) (re_op (b := false) sc_mul (re_call0 (b := false) (ra_cons rb_var (ra_cons (re_int (b := false)) ra_nil))) (re_call0 (b := false) (ra_cons rb_var (ra_cons (re_int (b := false)) ra_nil))))) rg_name)
    (rs_app (re_tup (ra_cons re_var (ra_cons (re_call0 (b := true) (ra_cons rb_var (ra_cons rb_var ra_nil))) (ra_cons (re_tupOf (ra_cons (re_new (b := true) (rf_lc (ri_list re_var) rg_name rt_yes (re_call0 (b := true) (ra_cons rb_var (ra_cons (re_op (b := false) sc_add rb_var (re_int (b := false))) ra_nil))) (by decide))) ra_nil)) ra_nil))))))))
    (rs_free (i := 6) (rs_ret (re_tup (ra_cons (re_tupOf (ra_cons re_var ra_nil)) (ra_cons (re_tupOf (ra_cons re_var ra_nil)) ra_nil)))))))))
/-! ### _law_day -/
def m__law_day : MSt :=
  (mSeq (mPar [Stp.ow (mLc (mItT (mOp dIx (mVar 0) (mret (.int 0)))) (bName 17) [17] (mret true) (mOp dIx (mVar 17) (mret (.int 1)))), Stp.ow (mLst mNil)] [5, 6])
    (mSeq (mFor (mItT (mOp dIx (mVar 0) (mret (.int 1)))) (bTup 3 (bCons (bName 7) (bCons (bName 8) (bCons (bName 9) bNil)))) (mFgE [4, 7, 8, 9, 10, 18, 19] (mSeq (mAsg (mret .non) (bName 10))
    (mSeq (mIfS (mB (mOp dEq (mOp dMod (mVarB 2) (mVarB 7)) (mVarB 8))) (mFor (mRng1 (mCons (mCB fLen (mCons (mVarB 9) mNil)) mNil)) (bName 4) (mFgE [4, 18, 19] (mSeq (mAsg (mOp dSub (mOp dIx (mVarB 9) (mVarB 4)) (mOp dIx (mVarB 1) (mVarB 4))) (bName 18))
    (mIfS (mTAnd (mB (mOp dGt (mOp dIx (mVarB 5) (mVarB 4)) (mret (.int 0)))) (mB (mOp dGe (mVarB 18) (mret (.int 0))))) (mSeq (mAsg (mIf (mB (mOp dIsN2 (mVarB 10) (mret .non))) (mret .non) (mOp dSub (mOp dIx (mVarB 9) (mVarB 10)) (mOp dIx (mVarB 1) (mVarB 10)))) (bName 19))
    (mIfS (mTOr (mB (mOp dIsN2 (mVarB 10) (mret .non))) (mTOr (mB (mOp dGt (mVarB 18) (mVarB 19))) (mTAnd (mB (mOp dEq (mVarB 18) (mVarB 19))) (mB (mOp dLt (mOp dIx (mVarB 1) (mVarB 4)) (mOp dIx (mVarB 1) (mVarB 10))))))) (mAsg (mVar 4) (bName 10)) mNx)) mNx)))) mNx)
    (mSeq (mIfS (mB (mOp dNotN2 (mVarB 10) (mret .non))) (mSetI 5 (mVarB 10) (mOp dSub (mOp dIx (mVarB 5) (mVarB 10)) (mret (.int 1)))) mNx)
    (mApp 6 (mVar 10)))))))
    (mFree 5 (mFree 6 (mSeq (mOwn 3 (mLst mNil))
    (mSeq (mFor (mRng1 (mCons (mCB fLen (mCons (mVarB 1) mNil)) mNil)) (bName 4) (mFgE [4, 11, 12, 13, 14, 15, 16] (mSeq (mAsg (mOp dIx (mOp dIx (mVar 0) (mret (.int 0))) (mVarB 4)) (bTup 6 (bCons (bName 11) (bCons (bName 12) (bCons (bName 13) (bCons (bName 14) (bCons (bName 15) (bCons (bName 16) bNil))))))))
    (mSeq (mAsg (mOp dIx (mVar 1) (mVarB 4)) (bName 11))
    (mSeq (mIfS (mB (mOp dEq (mOp dIx (mVarB 5) (mVarB 4)) (mret (.int 0)))) (mAsg (mCB fMin2 (mCons (mVarB 16) (mCons (mOp dAdd (mVarB 11) (mVarB 13)) mNil))) (bName 11)) (mIfS (mB (mOp dEq (mOp dIx (mVarB 5) (mVarB 4)) (mVarB 12))) (mAsg (mCB fMax2 (mCons (mVarB 15) (mCons (mOp dSub (mVarB 11) (mVarB 14)) mNil))) (bName 11)) mNx))
    (mApp 3 (mVar 11)))))))
    (mFree 3 (mRet (mTup (mCons (mVar 6) (mCons (mTupOf (mCons (mVar 3) mNil)) mNil)))))))))))
def ph__law_day : PhiT := phi 20 m__law_day
def t__law_day (K : PySem.W.Frag) (ix : IXT) : TS :=
  (tSeq (tPar 5 6 (tCons (tLc (iTup K (tOp (rIx K) (tVar 0) (tC (.int 0)))) (gName 17) tYes (tOp (rIx K) (tVar 17) (tC (.int 1))) [17]) (tCons (tLst tNil) tNil)))
    (tSeq (tFor (iTup K (tOp (rIx K) (tVar 0) (tC (.int 1)))) (gTup K 3 (gCons (gName 7) (gCons (gName 8) (gCons (gName 9) gNil)))) (tSeq (tAsg (tC .non) (gName 10))
    (tSeq (tIfS (tTest (tOp rEq (tOp rModI (tVar 2) (tVar 7)) (tVar 8))) (tFor (iRng1 (tCons (tCB (rLenA K) (tCons (tVar 9) tNil)) tNil)) (gName 4) (tSeq (tAsg (tOp rSubI (tOp (rIx K) (tVar 9) (tVar 4)) (tOp (rIx K) (tVar 1) (tVar 4))) (gName 18))
    (tIfS (tAnd (tTest (tOp rGtI (tOp (rIx K) (tVar 5) (tVar 4)) (tC (.int 0)))) (tTest (tOp rGeI (tVar 18) (tC (.int 0))))) (tSeq (tAsg (tIf (tTest (tOp rIsNo (tVar 10) (tC .non))) (tC .non) (tOp rSubI (tOp (rIx K) (tVar 9) (tVar 10)) (tOp (rIx K) (tVar 1) (tVar 10)))) (gName 19))
    (tIfS (tOr (tTest (tOp rIsNo (tVar 10) (tC .non))) (tOr (tTest (tOp rGtI (tVar 18) (tVar 19))) (tAnd (tTest (tOp rEq (tVar 18) (tVar 19))) (tTest (tOp rLtI (tOp (rIx K) (tVar 1) (tVar 4)) (tOp (rIx K) (tVar 1) (tVar 10))))))) (tAsg (tVar 4) (gName 10)) tNext)) tNext))) tNext)
    (tSeq (tIfS (tTest (tOp rNotNo (tVar 10) (tC .non))) (tAsg (tOp rSubI (tOp (rIx K) (tVar 5) (tVar 10)) (tC (.int 1))) (gSub (tVar 5) (tVar 10) rSetL)) tNext)
    (tDrop (tBM K "list" rAppend (tVar 6) (tCons (tVar 10) tNil)))))))
    (tSeq (tAsg (tLst tNil) (gName 3))
    (tSeq (tFor (iRng1 (tCons (tCB (rLenA K) (tCons (tVar 1) tNil)) tNil)) (gName 4) (tSeq (tAsg (tOp (rIx K) (tOp (rIx K) (tVar 0) (tC (.int 0))) (tVar 4)) (gTup K 6 (gCons (gName 11) (gCons (gName 12) (gCons (gName 13) (gCons (gName 14) (gCons (gName 15) (gCons (gName 16) gNil))))))))
    (tSeq (tAsg (tOp (rIx K) (tVar 1) (tVar 4)) (gName 11))
    (tSeq (tIfS (tTest (tOp rEq (tOp (rIx K) (tVar 5) (tVar 4)) (tC (.int 0)))) (tAsg (tCB rMin2I (tCons (tVar 16) (tCons (tOp rAddI (tVar 11) (tVar 13)) tNil))) (gName 11)) (tIfS (tTest (tOp rEq (tOp (rIx K) (tVar 5) (tVar 4)) (tVar 12))) (tAsg (tCB rMax2I (tCons (tVar 15) (tCons (tOp rSubI (tVar 11) (tVar 14)) tNil))) (gName 11)) tNext))
    (tDrop (tBM K "list" rAppend (tVar 3) (tCons (tVar 11) tNil)))))))
    (tRet (tTup (tCons (tVar 6) (tCons (tCB (rTupOf K) (tCons (tVar 3) tNil)) tNil))))))))
theorem rs__law_day {K : PySem.W.Frag} {E : XK} {ix : IXT} : RS K E ix (t__law_day K ix) m__law_day :=
  (rs_seq (rs_par (RPar.ow (rf_lc (ri_tup (re_ix re_var (re_int (b := false)))) rg_name rt_yes (re_ix re_var (re_int (b := false))) (by decide)) (RPar.ow (rf_lst ra_nil) RPar.nil)))
    (rs_seq (rs_for (ri_tup (re_ix re_var (re_int (b := false)))) (rg_tup (rgs_cons rg_name (rgs_cons rg_name (rgs_cons rg_name rgs_nil)))) (rs_fgE (is := [4, 7, 8, 9, 10, 18, 19]) (rs_seq (rs_asg (re_non (b := true)) rg_name)
    (rs_seq (rs_if (rt_test (re_op (b := false) sc_eq (re_op (b := false) sc_mod rb_var rb_var) rb_var)) (rs_for (ri_rng1 (ra_cons (re_cb (b := false) sc_len (ra_cons rb_var ra_nil)) ra_nil)) rg_name (rs_fgE (is := [4, 18, 19]) (rs_seq (rs_asg (re_op (b := true) sc_sub (re_ix rb_var rb_var) (re_ix rb_var rb_var)) rg_name)
    (rs_if (rt_and (rt_test (re_op (b := false) sc_gt (re_ix rb_var rb_var) (re_int (b := false)))) (rt_test (re_op (b := false) sc_ge rb_var (re_int (b := false))))) (rs_seq (rs_asg (re_if (rt_test (re_op (b := false) sc_isN rb_var (re_non (b := false)))) (re_non (b := true)) (re_op (b := true) sc_sub (re_ix rb_var rb_var) (re_ix rb_var rb_var))) rg_name)
    (rs_if (rt_or (rt_test (re_op (b := false) sc_isN rb_var (re_non (b := false)))) (rt_or (rt_test (re_op (b := false) sc_gt rb_var rb_var)) (rt_and (rt_test (re_op (b := false) sc_eq rb_var rb_var)) (rt_test (re_op (b := false) sc_lt (re_ix rb_var rb_var) (re_ix rb_var rb_var)))))) (rs_asg re_var rg_name) rs_nx)) rs_nx)))) rs_nx)
    (rs_seq (rs_if (rt_test (re_op (b := false) sc_notN rb_var (re_non (b := false)))) (rs_setI rb_var (re_op (b := true) sc_sub (re_ix rb_var rb_var) (re_int (b := false)))) rs_nx)
    (rs_app re_var))))))
    (rs_free (i := 5) (rs_free (i := 6) (rs_seq (rs_own (rf_lst ra_nil))
    (rs_seq (rs_for (ri_rng1 (ra_cons (re_cb (b := false) sc_len (ra_cons rb_var ra_nil)) ra_nil)) rg_name (rs_fgE (is := [4, 11, 12, 13, 14, 15, 16]) (rs_seq (rs_asg (re_ix (re_ix re_var (re_int (b := false))) rb_var) (rg_tup (rgs_cons rg_name (rgs_cons rg_name (rgs_cons rg_name (rgs_cons rg_name (rgs_cons rg_name (rgs_cons rg_name rgs_nil))))))))
    (rs_seq (rs_asg (re_ix re_var rb_var) rg_name)
    (rs_seq (rs_if (rt_test (re_op (b := false) sc_eq (re_ix rb_var rb_var) (re_int (b := false)))) (rs_asg (re_cb (b := true) sc_min2 (ra_cons rb_var (ra_cons (re_op (b := false) sc_add rb_var rb_var) ra_nil))) rg_name) (rs_if (rt_test (re_op (b := false) sc_eq (re_ix rb_var rb_var) rb_var)) (rs_asg (re_cb (b := true) sc_max2 (ra_cons rb_var (ra_cons (re_op (b := false) sc_sub rb_var rb_var) ra_nil))) rg_name) rs_nx))
    (rs_app re_var))))))
    (rs_free (i := 3) (rs_ret (re_tup (ra_cons re_var (ra_cons (re_tupOf (ra_cons re_var ra_nil)) ra_nil)))))))))))
/-! ### _law_first -/
def m__law_first : MSt :=
  (mRet (mTupOf (mCons (mFr (mLc (mItT (mOp dIx (mVar 0) (mret (.int 0)))) (bName 1) [1] (mret true) (mOp dIx (mVar 1) (mret (.int 0))))) mNil)))
def ph__law_first : PhiT := phi 2 m__law_first
def t__law_first (K : PySem.W.Frag) (ix : IXT) : TS :=
  (tRet (tCB (rTupOf K) (tCons (tLc (iTup K (tOp (rIx K) (tVar 0) (tC (.int 0)))) (gName 1) tYes (tOp (rIx K) (tVar 1) (tC (.int 0))) [1]) tNil)))
theorem rs__law_first {K : PySem.W.Frag} {E : XK} {ix : IXT} : RS K E ix (t__law_first K ix) m__law_first :=
  (rs_ret (re_tupOf (ra_cons (re_new (b := true) (rf_lc (ri_tup (re_ix re_var (re_int (b := false)))) rg_name rt_yes (re_ix re_var (re_int (b := false))) (by decide))) ra_nil)))
/-! ### _law_is_short -/
def m__law_is_short : MSt :=
  (mSeq (mPar [Stp.im (mCall0 1 ph__law_first (mCons (mVarB 0) mNil)), Stp.od (mret (.dic [])), Stp.im (mret (.int 0))] [1, 2, 3])
    (mSeq (whileGo (mTAnd (mB (mNIn true 2 (mTup (mCons (mVarB 1) (mCons (mOp dMod (mVarB 3) (mret (.int 12))) mNil))))) (mB (mOp dLt (mVarB 3) (mret (.int 3000))))) (mSeq (mNPut 2 (mTup (mCons (mVarB 1) (mCons (mOp dMod (mVarB 3) (mret (.int 12))) mNil))) (mret (.bl true)))
    (mSeq (mAsg (mOp dIx (mCall0 3 ph__law_day (mCons (mVarB 0) (mCons (mVarB 1) (mCons (mVarB 3) mNil)))) (mret (.int 1))) (bName 1))
    (mAsg (mOp dAdd (mVarB 3) (mret (.int 1))) (bName 3)))) fuel)
    (mRet (mOp dLt (mVarB 3) (mret (.int 3000))))))
def ph__law_is_short : PhiT := phi 4 m__law_is_short
def t__law_is_short (K : PySem.W.Frag) (ix : IXT) : TS :=
  (tSeq (tPar3 1 2 3 (tCons (tCall (spOf K ix 1 ph__law_first) [] E0 (tCons (tVar 0) tNil)) (tCons tNNew (tCons (tC (.int 0)) tNil))))
    (tSeq (tWhile (tAnd (tB (tNNotIn K (tTup (tCons (tVar 1) (tCons (tOp rModI (tVar 3) (tC (.int 12))) tNil))) (tVar 2))) (tTest (tOp rLtI (tVar 3) (tC (.int 3000))))) (tSeq (sNPut K (tVar 2) (tTup (tCons (tVar 1) (tCons (tOp rModI (tVar 3) (tC (.int 12))) tNil))) (tC (.bl true)))
    (tSeq (tAsg (tOp (rIx K) (tCall (spOf K ix 3 ph__law_day) [] E0 (tCons (tVar 0) (tCons (tVar 1) (tCons (tVar 3) tNil)))) (tC (.int 1))) (gName 1))
    (tAsg (tOp rAddI (tVar 3) (tC (.int 1))) (gName 3)))))
    (tRet (tOp rLtI (tVar 3) (tC (.int 3000))))))
theorem rs__law_is_short {K : PySem.W.Frag} {E : XK} {ix : IXT} : RS K E ix (t__law_is_short K ix) m__law_is_short :=
  (rs_seq (rs_par3 (RPar.im (re_call0 (b := true) (ra_cons rb_var ra_nil)) (RPar.od rn_dnew (RPar.im (re_int (b := true)) RPar.nil))))
    (rs_seq (rs_while (n := fuel) (rt_and (rt_B (re_nnotin (b := false) (re_tup (ra_cons rb_var (ra_cons (re_op (b := false) sc_mod rb_var (re_int (b := false))) ra_nil))))) (rt_test (re_op (b := false) sc_lt rb_var (re_int (b := false))))) (rs_seq (rs_nput (re_tup (ra_cons rb_var (ra_cons (re_op (b := false) sc_mod rb_var (re_int (b := false))) ra_nil))) (re_bl (b := true)))
    (rs_seq (rs_asg (re_ix (re_call0 (b := true) (ra_cons rb_var (ra_cons rb_var (ra_cons rb_var ra_nil)))) (re_int (b := false))) rg_name)
    (rs_asg (re_op (b := true) sc_add rb_var (re_int (b := false))) rg_name))))
    (rs_ret (re_op (b := true) sc_lt rb_var (re_int (b := false))))))
/-! ### _law_is_kept -/
def m__law_is_kept : MSt :=
  (mSeq (mAsg (mCall0 2 ph_days (mCons (mVarB 0) (mCons (mret (.int 40)) mNil))) (bName 1))
    (mSeq (mFor (mRng1 (mCons (mret (.int 40)) mNil)) (bName 2) (mFgE [2, 3, 4, 5, 6, 7, 8, 9, 10, 11, 12, 13, 14, 15] (mSeq (mAsg (mOp dIx (mVar 1) (mVarB 2)) (bTup 2 (bCons (bName 5) (bCons (bName 6) bNil))))
    (mSeq (mAsg (mIf (mB (mOp dLt (mVarB 2) (mret (.int 39)))) (mOp dIx (mOp dIx (mVar 1) (mOp dAdd (mVarB 2) (mret (.int 1)))) (mret (.int 0))) (mOp dIx (mCall0 2 ph_after (mCons (mVarB 0) (mCons (mret (.int 40)) mNil))) (mret (.int 0)))) (bName 3))
    (mSeq (mFor (mRng1 (mCons (mCB fLen (mCons (mVarB 5) mNil)) mNil)) (bName 4) (mFgE [4, 7, 8, 9, 10, 11, 12] (mSeq (mAsg (mOp dIx (mOp dIx (mVar 0) (mret (.int 0))) (mVarB 4)) (bTup 6 (bCons (bName 7) (bCons (bName 8) (bCons (bName 9) (bCons (bName 10) (bCons (bName 11) (bCons (bName 12) bNil))))))))
    (mSeq (mIfS (mTOr (mTNot (mB (mChain dLe dLe (mVarB 11) (mOp dIx (mVarB 3) (mVarB 4)) (mVarB 12)))) (mTOr (mTNot (mB (mChain dLe dLe (mOp dSub (mOp dIx (mVarB 5) (mVarB 4)) (mVarB 10)) (mOp dIx (mVarB 3) (mVarB 4)) (mOp dAdd (mOp dIx (mVarB 5) (mVarB 4)) (mVarB 9))))) (mB (mOp dGt (mCnt (mVarB 6) (mVarB 4)) (mVarB 8))))) (mRet (mret (.bl false))) mNx)
    (mSeq (mIfS (mTOr (mTAnd (mB (mOp dEq (mCnt (mVarB 6) (mVarB 4)) (mVarB 8))) (mB (mOp dLt (mOp dIx (mVarB 3) (mVarB 4)) (mOp dIx (mVarB 5) (mVarB 4))))) (mTAnd (mB (mOp dEq (mCnt (mVarB 6) (mVarB 4)) (mret (.int 0)))) (mB (mOp dGt (mOp dIx (mVarB 3) (mVarB 4)) (mOp dIx (mVarB 5) (mVarB 4)))))) (mRet (mret (.bl false))) mNx)
    (mIfS (mTAnd (mB (mChain dLt dLt (mret (.int 0)) (mCnt (mVarB 6) (mVarB 4)) (mVarB 8))) (mB (mOp dNe (mOp dIx (mVarB 3) (mVarB 4)) (mOp dIx (mVarB 5) (mVarB 4))))) (mRet (mret (.bl false))) mNx))))))
    (mFor (mRng1 (mCons (mCB fLen (mCons (mVarB 6) mNil)) mNil)) (bName 4) (mFgE [4, 13, 14, 15] (mSeq (mAsg (mOp dIx (mOp dIx (mVar 0) (mret (.int 1))) (mVarB 4)) (bTup 3 (bCons (bName 13) (bCons (bName 14) (bCons (bName 15) bNil)))))
    (mSeq (mIfS (mTAnd (mB (mOp dNotN2 (mOp dIx (mVarB 6) (mVarB 4)) (mret .non))) (mB (mOp dNe (mOp dMod (mVarB 2) (mVarB 13)) (mVarB 14)))) (mRet (mret (.bl false))) mNx)
    (mIfS (mTAnd (mB (mOp dNotN2 (mOp dIx (mVarB 6) (mVarB 4)) (mret .non))) (mB (mOp dLt (mOp dIx (mVarB 15) (mOp dIx (mVarB 6) (mVarB 4))) (mOp dIx (mVarB 5) (mOp dIx (mVarB 6) (mVarB 4)))))) (mRet (mret (.bl false))) mNx))))))))))
    (mRet (mret (.bl true)))))
def ph__law_is_kept : PhiT := phi 16 m__law_is_kept
def t__law_is_kept (K : PySem.W.Frag) (ix : IXT) : TS :=
  (tSeq (tAsg (tCall (spOf K ix 2 ph_days) [] E0 (tCons (tVar 0) (tCons (tC (.int 40)) tNil))) (gName 1))
    (tSeq (tFor (iRng1 (tCons (tC (.int 40)) tNil)) (gName 2) (tSeq (tAsg (tOp (rIx K) (tVar 1) (tVar 2)) (gTup K 2 (gCons (gName 5) (gCons (gName 6) gNil))))
    (tSeq (tAsg (tIf (tTest (tOp rLtI (tVar 2) (tC (.int 39)))) (tOp (rIx K) (tOp (rIx K) (tVar 1) (tOp rAddI (tVar 2) (tC (.int 1)))) (tC (.int 0))) (tOp (rIx K) (tCall (spOf K ix 2 ph_after) [] E0 (tCons (tVar 0) (tCons (tC (.int 40)) tNil))) (tC (.int 0)))) (gName 3))
    (tSeq (tFor (iRng1 (tCons (tCB (rLenA K) (tCons (tVar 5) tNil)) tNil)) (gName 4) (tSeq (tAsg (tOp (rIx K) (tOp (rIx K) (tVar 0) (tC (.int 0))) (tVar 4)) (gTup K 6 (gCons (gName 7) (gCons (gName 8) (gCons (gName 9) (gCons (gName 10) (gCons (gName 11) (gCons (gName 12) gNil))))))))
    (tSeq (tIfS (tOr (tNot (tTest (tChain rLeI rLeI (tVar 11) (tOp (rIx K) (tVar 3) (tVar 4)) (tVar 12)))) (tOr (tNot (tTest (tChain rLeI rLeI (tOp rSubI (tOp (rIx K) (tVar 5) (tVar 4)) (tVar 10)) (tOp (rIx K) (tVar 3) (tVar 4)) (tOp rAddI (tOp (rIx K) (tVar 5) (tVar 4)) (tVar 9))))) (tTest (tOp rGtI (tBM K "list" (rCnt K) (tVar 6) (tCons (tVar 4) tNil)) (tVar 8))))) (tRet (tC (.bl false))) tNext)
    (tSeq (tIfS (tOr (tAnd (tTest (tOp rEq (tBM K "list" (rCnt K) (tVar 6) (tCons (tVar 4) tNil)) (tVar 8))) (tTest (tOp rLtI (tOp (rIx K) (tVar 3) (tVar 4)) (tOp (rIx K) (tVar 5) (tVar 4))))) (tAnd (tTest (tOp rEq (tBM K "list" (rCnt K) (tVar 6) (tCons (tVar 4) tNil)) (tC (.int 0)))) (tTest (tOp rGtI (tOp (rIx K) (tVar 3) (tVar 4)) (tOp (rIx K) (tVar 5) (tVar 4)))))) (tRet (tC (.bl false))) tNext)
    (tIfS (tAnd (tTest (tChain rLtI rLtI (tC (.int 0)) (tBM K "list" (rCnt K) (tVar 6) (tCons (tVar 4) tNil)) (tVar 8))) (tTest (tOp rNe (tOp (rIx K) (tVar 3) (tVar 4)) (tOp (rIx K) (tVar 5) (tVar 4))))) (tRet (tC (.bl false))) tNext)))))
    (tFor (iRng1 (tCons (tCB (rLenA K) (tCons (tVar 6) tNil)) tNil)) (gName 4) (tSeq (tAsg (tOp (rIx K) (tOp (rIx K) (tVar 0) (tC (.int 1))) (tVar 4)) (gTup K 3 (gCons (gName 13) (gCons (gName 14) (gCons (gName 15) gNil)))))
    (tSeq (tIfS (tAnd (tTest (tOp rNotNo (tOp (rIx K) (tVar 6) (tVar 4)) (tC .non))) (tTest (tOp rNe (tOp rModI (tVar 2) (tVar 13)) (tVar 14)))) (tRet (tC (.bl false))) tNext)
    (tIfS (tAnd (tTest (tOp rNotNo (tOp (rIx K) (tVar 6) (tVar 4)) (tC .non))) (tTest (tOp rLtI (tOp (rIx K) (tVar 15) (tOp (rIx K) (tVar 6) (tVar 4))) (tOp (rIx K) (tVar 5) (tOp (rIx K) (tVar 6) (tVar 4)))))) (tRet (tC (.bl false))) tNext))))))))
    (tRet (tC (.bl true)))))
theorem rs__law_is_kept {K : PySem.W.Frag} {E : XK} {ix : IXT} : RS K E ix (t__law_is_kept K ix) m__law_is_kept :=
  (rs_seq (rs_asg (re_call0 (b := true) (ra_cons rb_var (ra_cons (re_int (b := false)) ra_nil))) rg_name)
    (rs_seq (rs_for (ri_rng1 (ra_cons (re_int (b := false)) ra_nil)) rg_name (rs_fgE (is := [2, 3, 4, 5, 6, 7, 8, 9, 10, 11, 12, 13, 14, 15]) (rs_seq (rs_asg (re_ix re_var rb_var) (rg_tup (rgs_cons rg_name (rgs_cons rg_name rgs_nil))))
    (rs_seq (rs_asg (re_if (rt_test (re_op (b := false) sc_lt rb_var (re_int (b := false)))) (re_ix (re_ix re_var (re_op (b := false) sc_add rb_var (re_int (b := false)))) (re_int (b := false))) (re_ix (re_call0 (b := true) (ra_cons rb_var (ra_cons (re_int (b := false)) ra_nil))) (re_int (b := false)))) rg_name)
    (rs_seq (rs_for (ri_rng1 (ra_cons (re_cb (b := false) sc_len (ra_cons rb_var ra_nil)) ra_nil)) rg_name (rs_fgE (is := [4, 7, 8, 9, 10, 11, 12]) (rs_seq (rs_asg (re_ix (re_ix re_var (re_int (b := false))) rb_var) (rg_tup (rgs_cons rg_name (rgs_cons rg_name (rgs_cons rg_name (rgs_cons rg_name (rgs_cons rg_name (rgs_cons rg_name rgs_nil))))))))
    (rs_seq (rs_if (rt_or (rt_not (rt_test (re_chain (b := false) sc_le sc_le rb_var (re_ix rb_var rb_var) rb_var))) (rt_or (rt_not (rt_test (re_chain (b := false) sc_le sc_le (re_op (b := false) sc_sub (re_ix rb_var rb_var) rb_var) (re_ix rb_var rb_var) (re_op (b := false) sc_add (re_ix rb_var rb_var) rb_var)))) (rt_test (re_op (b := false) sc_gt (re_cnt (b := false) rb_var rb_var) rb_var)))) (rs_ret (re_bl (b := true))) rs_nx)
    (rs_seq (rs_if (rt_or (rt_and (rt_test (re_op (b := false) sc_eq (re_cnt (b := false) rb_var rb_var) rb_var)) (rt_test (re_op (b := false) sc_lt (re_ix rb_var rb_var) (re_ix rb_var rb_var)))) (rt_and (rt_test (re_op (b := false) sc_eq (re_cnt (b := false) rb_var rb_var) (re_int (b := false)))) (rt_test (re_op (b := false) sc_gt (re_ix rb_var rb_var) (re_ix rb_var rb_var))))) (rs_ret (re_bl (b := true))) rs_nx)
    (rs_if (rt_and (rt_test (re_chain (b := false) sc_lt sc_lt (re_int (b := false)) (re_cnt (b := false) rb_var rb_var) rb_var)) (rt_test (re_op (b := false) sc_ne (re_ix rb_var rb_var) (re_ix rb_var rb_var)))) (rs_ret (re_bl (b := true))) rs_nx))))))
    (rs_for (ri_rng1 (ra_cons (re_cb (b := false) sc_len (ra_cons rb_var ra_nil)) ra_nil)) rg_name (rs_fgE (is := [4, 13, 14, 15]) (rs_seq (rs_asg (re_ix (re_ix re_var (re_int (b := false))) rb_var) (rg_tup (rgs_cons rg_name (rgs_cons rg_name (rgs_cons rg_name rgs_nil)))))
    (rs_seq (rs_if (rt_and (rt_test (re_op (b := false) sc_notN (re_ix rb_var rb_var) (re_non (b := false)))) (rt_test (re_op (b := false) sc_ne (re_op (b := false) sc_mod rb_var rb_var) rb_var))) (rs_ret (re_bl (b := true))) rs_nx)
    (rs_if (rt_and (rt_test (re_op (b := false) sc_notN (re_ix rb_var rb_var) (re_non (b := false)))) (rt_test (re_op (b := false) sc_lt (re_ix rb_var (re_ix rb_var rb_var)) (re_ix rb_var (re_ix rb_var rb_var))))) (rs_ret (re_bl (b := true))) rs_nx))))))))))
    (rs_ret (re_bl (b := true)))))
end Pr

set_option Elab.async false
set_option linter.all false
set_option maxRecDepth 100000
set_option maxHeartbeats 4000000
namespace Pr
open PySem PySem.Spec PyProof.Rows L2 Fw
/-! ### turn_of -/
def m_turn_of : MSt :=
  (mSeq (mAsg (mVar 0) (bTup 2 (bCons (bName 3) (bCons (bName 4) bNil))))
    (mSeq (mAsg (mret (.int 1)) (bName 1))
    (mSeq (mFor (mItT (mVar 4)) (bName 2) (mFgE [2] (mAsg (mCB fLcm (mCons (mVarB 1) (mCons (mOp dIx (mVarB 2) (mret (.int 0))) mNil))) (bName 1))))
    (mRet (mVar 1)))))
def ph_turn_of : PhiT := phi 5 m_turn_of
def t_turn_of (K : PySem.W.Frag) (ix : IXT) : TS :=
  (tSeq (tAsg (tVar 0) (gTup K 2 (gCons (gName 3) (gCons (gName 4) gNil))))
    (tSeq (tAsg (tC (.int 1)) (gName 1))
    (tSeq (tFor (iTup K (tVar 4)) (gName 2) (tAsg (tCB rLcm (tCons (tVar 1) (tCons (tOp (rIx K) (tVar 2) (tC (.int 0))) tNil))) (gName 1)))
    (tRet (tVar 1)))))
theorem rs_turn_of {K : PySem.W.Frag} {E : XK} {ix : IXT} : RS K E ix (t_turn_of K ix) m_turn_of :=
  (rs_seq (rs_asg re_var (rg_tup (rgs_cons rg_name (rgs_cons rg_name rgs_nil))))
    (rs_seq (rs_asg (re_int (b := true)) rg_name)
    (rs_seq (rs_for (ri_tup re_var) rg_name (rs_fgE (is := [2]) (rs_asg (re_cb (b := true) sc_lcm (ra_cons rb_var (ra_cons (re_ix rb_var (re_int (b := false))) ra_nil))) rg_name)))
    (rs_ret re_var))))
/-! ### period -/
def m_period : MSt :=
  (mSeq (mDrop (mCall0 1 ph_check_market (mCons (mVarB 0) mNil)))
    (mSeq (mAsg (mCall0 1 ph_walk (mCons (mVarB 0) mNil)) (bTup 2 (bCons (bName 3) (bCons (bName 4) bNil))))
    (mSeq (mAsg (mCall0 1 ph_turn_of (mCons (mVarB 0) mNil)) (bName 1))
    (mSeq (mFor (mRng3 (mCons (mVarB 1) (mCons (mOp dSub (mCB fLen (mCons (mVarB 3) mNil)) (mVarB 4)) (mCons (mVarB 1) mNil)))) (bName 2) (mFgE [2] (mIfS (mB (mOp dEqD (mOp dIx (mOp dIx (mVarB 3) (mOp dAdd (mVarB 4) (mVarB 2))) (mret (.int 0))) (mOp dIx (mOp dIx (mVarB 3) (mVarB 4)) (mret (.int 0))))) (mRet (mTup (mCons (mVar 4) (mCons (mVar 2) mNil)))) mNx)))
    (mRet (mTup (mCons (mVar 4) (mCons (mOp dSub (mCB fLen (mCons (mVarB 3) mNil)) (mVarB 4)) mNil))))))))
def ph_period : PhiT := phi 5 m_period
def t_period (K : PySem.W.Frag) (ix : IXT) : TS :=
  (tSeq (tDrop (tCall (spOf K ix 1 ph_check_market) [] E0 (tCons (tVar 0) tNil)))
    (tSeq (tAsg (tCall (spOf K ix 1 ph_walk) [] E0 (tCons (tVar 0) tNil)) (gTup K 2 (gCons (gName 3) (gCons (gName 4) gNil))))
    (tSeq (tAsg (tCall (spOf K ix 1 ph_turn_of) [] E0 (tCons (tVar 0) tNil)) (gName 1))
    (tSeq (tFor (iRng3 (tCons (tVar 1) (tCons (tOp rSubI (tCB (rLenA K) (tCons (tVar 3) tNil)) (tVar 4)) (tCons (tVar 1) tNil)))) (gName 2) (tIfS (tTest (tOp (rEqD K) (tOp (rIx K) (tOp (rIx K) (tVar 3) (tOp rAddI (tVar 4) (tVar 2))) (tC (.int 0))) (tOp (rIx K) (tOp (rIx K) (tVar 3) (tVar 4)) (tC (.int 0))))) (tRet (tTup (tCons (tVar 4) (tCons (tVar 2) tNil)))) tNext))
    (tRet (tTup (tCons (tVar 4) (tCons (tOp rSubI (tCB (rLenA K) (tCons (tVar 3) tNil)) (tVar 4)) tNil))))))))
theorem rs_period {K : PySem.W.Frag} {E : XK} {ix : IXT} : RS K E ix (t_period K ix) m_period :=
  (rs_seq (rs_drop (re_call0 (b := false) (ra_cons rb_var ra_nil)))
    (rs_seq (rs_asg (re_call0 (b := true) (ra_cons rb_var ra_nil)) (rg_tup (rgs_cons rg_name (rgs_cons rg_name rgs_nil))))
    (rs_seq (rs_asg (re_call0 (b := true) (ra_cons rb_var ra_nil)) rg_name)
    (rs_seq (rs_for (ri_rng3 (ra_cons rb_var (ra_cons (re_op (b := false) sc_sub (re_cb (b := false) sc_len (ra_cons rb_var ra_nil)) rb_var) (ra_cons rb_var ra_nil)))) rg_name (rs_fgE (is := [2]) (rs_if (rt_test (re_op (b := false) sc_eqD (re_ix (re_ix rb_var (re_op (b := false) sc_add rb_var rb_var)) (re_int (b := false))) (re_ix (re_ix rb_var rb_var) (re_int (b := false))))) (rs_ret (re_tup (ra_cons re_var (ra_cons re_var ra_nil)))) rs_nx)))
    (rs_ret (re_tup (ra_cons re_var (ra_cons (re_op (b := true) sc_sub (re_cb (b := false) sc_len (ra_cons rb_var ra_nil)) rb_var) ra_nil))))))))
/-! ### settles -/
def m_settles : MSt :=
  (mSeq (mDrop (mCall0 1 ph_check_market (mCons (mVarB 0) mNil)))
    (mSeq (mAsg (mCall0 1 ph_walk (mCons (mVarB 0) mNil)) (bTup 2 (bCons (bName 1) (bCons (bName 2) bNil))))
    (mSeq (mAsg (mOp dIx (mVar 1) (mVarB 2)) (bTup 2 (bCons (bName 3) (bCons (bName 4) bNil))))
    (mSeq (mIfS (mB (mCB fAny (mCons (mFr (mLc (mItL (mFr (mSlL (mVar 1) (mPart (mVarB 2)) (mret none)))) (bName 5) [5] (mret true) (mOp dNeD (mOp dIx (mVarB 5) (mret (.int 0))) (mVarB 3)))) mNil))) (mRet (mret .non)) mNx)
    (mRet (mTup (mCons (mVar 2) (mCons (mVar 3) mNil))))))))
def ph_settles : PhiT := phi 6 m_settles
def t_settles (K : PySem.W.Frag) (ix : IXT) : TS :=
  (tSeq (tDrop (tCall (spOf K ix 1 ph_check_market) [] E0 (tCons (tVar 0) tNil)))
    (tSeq (tAsg (tCall (spOf K ix 1 ph_walk) [] E0 (tCons (tVar 0) tNil)) (gTup K 2 (gCons (gName 1) (gCons (gName 2) gNil))))
    (tSeq (tAsg (tOp (rIx K) (tVar 1) (tVar 2)) (gTup K 2 (gCons (gName 3) (gCons (gName 4) gNil))))
    (tSeq (tIfS (tB (tCB (rAny K) (tCons (tLc (iList K (tSl (rSlL K) (tVar 1) (tPart (tVar 2)) tNoPart)) (gName 5) tYes (tOp (rNeD K) (tOp (rIx K) (tVar 5) (tC (.int 0))) (tVar 3)) [5]) tNil))) (tRet (tC .non)) tNext)
    (tRet (tTup (tCons (tVar 2) (tCons (tVar 3) tNil))))))))
theorem rs_settles {K : PySem.W.Frag} {E : XK} {ix : IXT} : RS K E ix (t_settles K ix) m_settles :=
  (rs_seq (rs_drop (re_call0 (b := false) (ra_cons rb_var ra_nil)))
    (rs_seq (rs_asg (re_call0 (b := true) (ra_cons rb_var ra_nil)) (rg_tup (rgs_cons rg_name (rgs_cons rg_name rgs_nil))))
    (rs_seq (rs_asg (re_ix re_var rb_var) (rg_tup (rgs_cons rg_name (rgs_cons rg_name rgs_nil))))
    (rs_seq (rs_if (rt_B (re_cb (b := false) sc_any (ra_cons (re_new (b := false) (rf_lc (ri_list (re_new (b := true) (rf_slL re_var (ro_part rb_var) ro_no))) rg_name rt_yes (re_op (b := true) sc_neD (re_ix rb_var (re_int (b := false))) rb_var) (by decide))) ra_nil))) (rs_ret (re_non (b := true))) rs_nx)
    (rs_ret (re_tup (ra_cons re_var (ra_cons re_var ra_nil))))))))
/-! ### _law_alike -/
def m__law_alike (φr : PhiT) : MSt :=
  (mSeq (mIfS (mB (mIsiT ["tuple", "list"] (mVarB 1))) (mSeq (mIfS (mTOr (mTNot (mB (mIsiT ["tuple", "list"] (mVarB 0)))) (mB (mOp dNe (mCB fIsi (mCons (mVarB 0) (mCons (mret (.ty "list")) mNil))) (mCB fIsi (mCons (mVarB 1) (mCons (mret (.ty "list")) mNil)))))) (mRet (mret (.bl false))) mNx)
    (mSeq (mIfS (mB (mOp dNe (mCB fLen (mCons (mVarB 0) mNil)) (mCB fLen (mCons (mVarB 1) mNil)))) (mRet (mret (.bl false))) mNx)
    (mRet (mOp dEqD (mFr (mLc (mRng1 (mCons (mCB fLen (mCons (mVarB 1) mNil)) mNil)) (bName 2) [2] (mTNot (mB (mCall0 2 φr (mCons (mOp dIx (mVarB 0) (mVarB 2)) (mCons (mOp dIx (mVarB 1) (mVarB 2)) mNil))))) (mVar 2))) (mFr (mLst mNil)))))) mNx)
    (mSeq (mIfS (mTOr (mB (mOp dIsN2 (mVarB 1) (mret .non))) (mB (mCB fIsi (mCons (mVarB 1) (mCons (mret (.ty "str")) mNil))))) (mRet (mAnd (mOp dEq (mVarB 0) (mVarB 1)) (mOp dEq (mCB fIsi (mCons (mVarB 0) (mCons (mret (.ty "str")) mNil))) (mCB fIsi (mCons (mVarB 1) (mCons (mret (.ty "str")) mNil)))))) mNx)
    (mRet (mAnd (mCB fIsi (mCons (mVarB 0) (mCons (mret (.ty "int")) mNil))) (mAnd (mOp dEq (mCB fIsi (mCons (mVarB 0) (mCons (mret (.ty "bool")) mNil))) (mCB fIsi (mCons (mVarB 1) (mCons (mret (.ty "bool")) mNil)))) (mOp dEq (mVarB 0) (mVarB 1)))))))
def ph__law_alike : Nat → PhiT
  | 0 => fun _ _ => none
  | n + 1 => phi 3 (m__law_alike (ph__law_alike n))
def t__law_alike (K : PySem.W.Frag) (ix : IXT) (φr : PhiT) : TS :=
  (tSeq (tIfS (tB (tCB (rIsiT K) (tCons (tVar 1) (tCons (tTup (tCons (tC (.ty "tuple")) (tCons (tC (.ty "list")) tNil))) tNil)))) (tSeq (tIfS (tOr (tNot (tB (tCB (rIsiT K) (tCons (tVar 0) (tCons (tTup (tCons (tC (.ty "tuple")) (tCons (tC (.ty "list")) tNil))) tNil))))) (tTest (tOp rNe (tCB (rIsi K) (tCons (tVar 0) (tCons (tC (.ty "list")) tNil))) (tCB (rIsi K) (tCons (tVar 1) (tCons (tC (.ty "list")) tNil)))))) (tRet (tC (.bl false))) tNext)
    (tSeq (tIfS (tTest (tOp rNe (tCB (rLenA K) (tCons (tVar 0) tNil)) (tCB (rLenA K) (tCons (tVar 1) tNil)))) (tRet (tC (.bl false))) tNext)
    (tRet (tOp (rEqD K) (tLc (iRng1 (tCons (tCB (rLenA K) (tCons (tVar 1) tNil)) tNil)) (gName 2) (tNot (tB (tCall (spOf K ix 2 φr) [] E0 (tCons (tOp (rIx K) (tVar 0) (tVar 2)) (tCons (tOp (rIx K) (tVar 1) (tVar 2)) tNil))))) (tVar 2) [2]) (tLst tNil))))) tNext)
    (tSeq (tIfS (tOr (tTest (tOp rIsNo (tVar 1) (tC .non))) (tB (tCB (rIsi K) (tCons (tVar 1) (tCons (tC (.ty "str")) tNil))))) (tRet (tAndV (tOp rEq (tVar 0) (tVar 1)) (tOp rEq (tCB (rIsi K) (tCons (tVar 0) (tCons (tC (.ty "str")) tNil))) (tCB (rIsi K) (tCons (tVar 1) (tCons (tC (.ty "str")) tNil)))))) tNext)
    (tRet (tAndV (tCB (rIsi K) (tCons (tVar 0) (tCons (tC (.ty "int")) tNil))) (tAndV (tOp rEq (tCB (rIsi K) (tCons (tVar 0) (tCons (tC (.ty "bool")) tNil))) (tCB (rIsi K) (tCons (tVar 1) (tCons (tC (.ty "bool")) tNil)))) (tOp rEq (tVar 0) (tVar 1)))))))
theorem rs__law_alike {K : PySem.W.Frag} {E : XK} {ix : IXT} {φr : PhiT} : RS K E ix (t__law_alike K ix φr) (m__law_alike φr) :=
  (rs_seq (rs_if (rt_B (re_isiT (b := false) rb_var)) (rs_seq (rs_if (rt_or (rt_not (rt_B (re_isiT (b := false) rb_var))) (rt_test (re_op (b := false) sc_ne (re_cb (b := false) sc_isi (ra_cons rb_var (ra_cons (re_ty (b := false)) ra_nil))) (re_cb (b := false) sc_isi (ra_cons rb_var (ra_cons (re_ty (b := false)) ra_nil)))))) (rs_ret (re_bl (b := true))) rs_nx)
    (rs_seq (rs_if (rt_test (re_op (b := false) sc_ne (re_cb (b := false) sc_len (ra_cons rb_var ra_nil)) (re_cb (b := false) sc_len (ra_cons rb_var ra_nil)))) (rs_ret (re_bl (b := true))) rs_nx)
    (rs_ret (re_op (b := true) sc_eqD (re_new (b := false) (rf_lc (ri_rng1 (ra_cons (re_cb (b := false) sc_len (ra_cons rb_var ra_nil)) ra_nil)) rg_name (rt_not (rt_B (re_call0 (b := false) (ra_cons (re_ix rb_var rb_var) (ra_cons (re_ix rb_var rb_var) ra_nil))))) re_var (by decide))) (re_new (b := false) (rf_lst ra_nil)))))) rs_nx)
    (rs_seq (rs_if (rt_or (rt_test (re_op (b := false) sc_isN rb_var (re_non (b := false)))) (rt_B (re_cb (b := false) sc_isi (ra_cons rb_var (ra_cons (re_ty (b := false)) ra_nil))))) (rs_ret (re_and (re_op (b := false) sc_eq rb_var rb_var) (re_op (b := true) sc_eq (re_cb (b := false) sc_isi (ra_cons rb_var (ra_cons (re_ty (b := false)) ra_nil))) (re_cb (b := false) sc_isi (ra_cons rb_var (ra_cons (re_ty (b := false)) ra_nil)))))) rs_nx)
    (rs_ret (re_and (re_cb (b := false) sc_isi (ra_cons rb_var (ra_cons (re_ty (b := false)) ra_nil))) (re_and (re_op (b := false) sc_eq (re_cb (b := false) sc_isi (ra_cons rb_var (ra_cons (re_ty (b := false)) ra_nil))) (re_cb (b := false) sc_isi (ra_cons rb_var (ra_cons (re_ty (b := false)) ra_nil)))) (re_op (b := true) sc_eq rb_var rb_var))))))
end Pr

set_option Elab.async false
set_option linter.all false
set_option maxRecDepth 100000
set_option maxHeartbeats 1000000
/-! W: readings run forward, by what is wanted behind -/
namespace Fw
/-- a value comes, and then .. -/
def W {α : Type} (m : MV α) (ρ : List Sl) (g : G) (Q : α → G → Prop) : Prop := ∃ a g1, m ρ g = some (.ok a, g1) ∧ Q a g1
def WS (m : MSt) (ρ : List Sl) (g : G) (Q : Fl → List Sl → G → Prop) : Prop := ∃ fl ρ1 g1, m ρ g = some (fl, ρ1, g1) ∧ Q fl ρ1 g1
section
variable {α β : Type} {ρ ρ1 ρ2 : List Sl} {g g1 g2 g3 : G} {n i : Nat} {d x y z c : D} {l ds : List D} {m m1 m2 : MSt} {ma mb mc : MV D} {ms : MV (List D)} {mt mu : MV Bool} {bd : BndT} {φ : PhiT} {b b' : Bool}
  {Q : D → G → Prop} {QL : List D → G → Prop} {QB : Bool → G → Prop} {QS : Fl → List Sl → G → Prop} {f f' : D → D → Option D}
theorem W.mono {m : MV α} {Q Q' : α → G → Prop} (h : W m ρ g Q) (k : ∀ a g1, Q a g1 → Q' a g1) : W m ρ g Q' := let ⟨a, g1, e, q⟩ := h; ⟨a, g1, e, k a g1 q⟩
theorem WS.mono {Q' : Fl → List Sl → G → Prop} (h : WS m ρ g QS) (k : ∀ a r g1, QS a r g1 → Q' a r g1) : WS m ρ g Q' := let ⟨a, r, g1, e, q⟩ := h; ⟨a, r, g1, e, k a r g1 q⟩
theorem w_of {m : MV α} {Q : α → G → Prop} {a : α} (h : m ρ g = some (.ok a, g1)) (q : Q a g1) : W m ρ g Q := ⟨a, g1, h, q⟩
theorem w_bind {m : MV α} {k : α → MV β} {Q : β → G → Prop} (h : W m ρ g fun a g1 => W (k a) ρ g1 Q) : W (mbind m k) ρ g Q := by
  obtain ⟨a, g1, e, b, g2, e2, q⟩ := h
  exact ⟨b, g2, mbind_ok e e2, q⟩
theorem w_lift {o : Option α} {Q : α → G → Prop} (h : ∃ a, o = some a ∧ Q a g) : W (mlift o) ρ g Q := by
  obtain ⟨a, rfl, q⟩ := h
  exact ⟨a, g, rfl, q⟩
theorem w_ret {a : α} {Q : α → G → Prop} (h : Q a g) : W (mret a) ρ g Q := ⟨a, g, rfl, h⟩
theorem w_var (h : ∃ d, ρ[i]? = some (.im d) ∧ Q d g) : W (mVar i) ρ g Q := let ⟨d, h, q⟩ := h; ⟨d, g, mVar_ok h, q⟩
def lookB (s : Option Sl) : Option D := match s with
  | some (.im d) => some d
  | some (.bo d) => some d
  | some (.ow (.lst l)) => some (.lst l)
  | _ => none
theorem w_varB (h : ∃ d, lookB ρ[i]? = some d ∧ Q d g) : W (mVarB i) ρ g Q := by
  obtain ⟨d, h, q⟩ := h
  refine ⟨d, g, ?_, q⟩
  unfold mVarB
  unfold lookB at h
  split at h
  · rename_i e; cases h; first | rfl | rw [e]
  · rename_i e; cases h; first | rfl | rw [e]
  · rename_i e; cases h; first | rfl | rw [e]
  · cases h
theorem w_op (h : W ma ρ g fun x g1 => W mb ρ g1 fun y g2 => ∃ z, f x y = some z ∧ Q z g2) : W (mOp f ma mb) ρ g Q := w_bind (h.mono fun _ _ h => w_bind (h.mono fun _ _ h => w_lift h))
theorem w_un {f : D → Option D} (h : W ma ρ g fun x g1 => ∃ z, f x = some z ∧ Q z g1) : W (mUn f ma) ρ g Q := w_bind (h.mono fun _ _ h => w_lift h)
theorem w_cb {f : List D → Option D} (h : W ms ρ g fun x g1 => ∃ z, f x = some z ∧ Q z g1) : W (mCB f ms) ρ g Q := w_bind (h.mono fun _ _ h => w_lift h)
theorem w_nil (h : QL [] g) : W mNil ρ g QL := w_ret h
theorem w_cons (h : W ma ρ g fun x g1 => W ms ρ g1 fun l g2 => QL (x :: l) g2) : W (mCons ma ms) ρ g QL := w_bind (h.mono fun _ _ h => w_bind (h.mono fun _ _ h => w_ret h))
theorem w_tup (h : W ms ρ g fun l g1 => small l.length = true ∧ Q (.tup l) g1) : W (mTup ms) ρ g Q := w_bind (h.mono fun _ _ h => by rw [if_pos h.1]; exact w_ret h.2)
theorem w_lst (h : W ms ρ g fun l g1 => small l.length = true ∧ QL l g1) : W (mLst ms) ρ g QL := w_bind (h.mono fun _ _ h => by rw [if_pos h.1]; exact w_ret h.2)
theorem w_fr (h : W ms ρ g fun l g1 => Q (.lst l) g1) : W (mFr ms) ρ g Q := w_bind (h.mono fun _ _ h => w_ret h)
theorem w_lf (h : W ma ρ g fun d g1 => d.lf = true ∧ Q d g1) : W (mLf ma) ρ g Q := w_bind (h.mono fun _ _ h => by rw [if_pos h.1]; exact w_ret h.2)
theorem w_b (h : W ma ρ g fun d g1 => ∃ c, asB d = some c ∧ QB c g1) : W (mB ma) ρ g QB := w_bind (h.mono fun _ _ h => w_lift h)
theorem w_tru (h : W ma ρ g fun d g1 => ∃ c, dTru d = some c ∧ QB c g1) : W (mTru ma) ρ g QB := w_bind (h.mono fun _ _ h => w_lift h)
theorem w_not (h : W ma ρ g fun d g1 => ∃ c, asB d = some c ∧ Q (.bl (!c)) g1) : W (mNot ma) ρ g Q := w_bind ((w_b (QB := fun c g1 => Q (.bl (!c)) g1) h).mono fun _ _ h => w_ret h)
theorem w_and (h : W ma ρ g fun d g1 => ∃ c, asB d = some c ∧ (c = true → W mb ρ g1 Q) ∧ (c = false → Q (.bl false) g1)) : W (mAnd ma mb) ρ g Q := w_bind ((w_b (QB := fun c g1 => (c = true → W mb ρ g1 Q) ∧ (c = false → Q (.bl false) g1)) h).mono fun c g1 h => by
  cases c with
  | true => exact h.1 rfl
  | false => exact w_ret (h.2 rfl))
theorem w_or (h : W ma ρ g fun d g1 => ∃ c, asB d = some c ∧ (c = true → Q (.bl true) g1) ∧ (c = false → W mb ρ g1 Q)) : W (mOr ma mb) ρ g Q := w_bind ((w_b (QB := fun c g1 => (c = true → Q (.bl true) g1) ∧ (c = false → W mb ρ g1 Q)) h).mono fun c g1 h => by
  cases c with
  | true => exact w_ret (h.1 rfl)
  | false => exact h.2 rfl)
theorem w_tand (h : W mt ρ g fun c g1 => (c = true → W mu ρ g1 QB) ∧ (c = false → QB false g1)) : W (mTAnd mt mu) ρ g QB := w_bind (h.mono fun c g1 h => by
  cases c with
  | true => exact h.1 rfl
  | false => exact w_ret (h.2 rfl))
theorem w_tor (h : W mt ρ g fun c g1 => (c = true → QB true g1) ∧ (c = false → W mu ρ g1 QB)) : W (mTOr mt mu) ρ g QB := w_bind (h.mono fun c g1 h => by
  cases c with
  | true => exact w_ret (h.1 rfl)
  | false => exact h.2 rfl)
theorem w_tnot (h : W mt ρ g fun c g1 => QB (!c) g1) : W (mTNot mt) ρ g QB := w_bind (h.mono fun _ _ h => w_ret h)
theorem w_if (h : W mt ρ g fun c g1 => (c = true → W ma ρ g1 Q) ∧ (c = false → W mb ρ g1 Q)) : W (mIf mt ma mb) ρ g Q := w_bind (h.mono fun c g1 h => by
  cases c with
  | true => exact h.1 rfl
  | false => exact h.2 rfl)
theorem w_chain (h : W ma ρ g fun x g1 => W mb ρ g1 fun y g2 => ∃ c, f x y = some (.bl c) ∧ (c = true → W mc ρ g2 fun z g3 => ∃ w, f' y z = some w ∧ Q w g3) ∧ (c = false → Q (.bl false) g2)) : W (mChain f f' ma mb mc) ρ g Q := w_bind (h.mono fun x g1 h => w_bind (h.mono fun y g2 h => by
  obtain ⟨c, e, h1, h2⟩ := h
  refine w_bind (w_lift ⟨c, by rw [e]; rfl, ?_⟩)
  cases c with
  | true => exact w_bind ((h1 rfl).mono fun _ _ h => w_lift h)
  | false => exact w_ret (h2 rfl)))
theorem w_isiT {ns : List String} (h : W ma ρ g fun d g1 => ∃ z, ((tyD d).bind fun t => (isTyAny t ns).map .bl) = some z ∧ Q z g1) : W (mIsiT ns ma) ρ g Q := w_bind (h.mono fun _ _ h => w_lift h)
theorem w_part {QP : Option Int → G → Prop} (h : W ma ρ g fun d g1 => ∃ i, asI d = some i ∧ QP (some i) g1) : W (mPart ma) ρ g QP := w_bind (h.mono fun d g1 h => by
  obtain ⟨i, e, q⟩ := h
  exact w_bind (w_lift ⟨i, e, w_ret q⟩))
theorem w_slT {ml mh : MV (Option Int)} (h : W ma ρ g fun d g1 => W ml ρ g1 fun lo g2 => W mh ρ g2 fun hi g3 => ∃ l, d = .tup l ∧ wholeD l lo hi = false ∧ Q (.tup (Fw.cutD l lo hi)) g3) : W (mSlT ma ml mh) ρ g Q := w_bind (h.mono fun d g1 h => w_bind (h.mono fun lo g2 h => w_bind (h.mono fun hi g3 h => by
  obtain ⟨l, rfl, e, q⟩ := h
  exact w_lift ⟨_, by dsimp only; rw [e, if_neg Bool.false_ne_true], q⟩)))
theorem w_slL {ml mh : MV (Option Int)} (h : W ma ρ g fun d g1 => W ml ρ g1 fun lo g2 => W mh ρ g2 fun hi g3 => ∃ l, d = .lst l ∧ QL (Fw.cutD l lo hi) g3) : W (mSlL ma ml mh) ρ g QL := w_bind (h.mono fun d g1 h => w_bind (h.mono fun lo g2 h => w_bind (h.mono fun hi g3 h => by
  obtain ⟨l, rfl, q⟩ := h
  exact w_lift ⟨_, rfl, q⟩)))
theorem w_tupOf (h : W ms ρ g fun l g1 => ∃ r, (l = [.lst r] ∨ l = [.tup r]) ∧ Q (.tup r) g1) : W (mTupOf ms) ρ g Q := w_bind (h.mono fun l g1 h => by
  obtain ⟨r, e | e, q⟩ := h <;> subst e <;> exact w_lift ⟨_, rfl, q⟩)
theorem w_listOf (h : W ms ρ g fun l g1 => ∃ r, (l = [.lst r] ∨ l = [.tup r]) ∧ QL r g1) : W (mListOf ms) ρ g QL := w_bind (h.mono fun l g1 h => by
  obtain ⟨r, e | e, q⟩ := h <;> subst e <;> exact w_lift ⟨_, rfl, q⟩)
theorem w_cat (h : W ma ρ g fun x g1 => W mb ρ g1 fun y g2 => ∃ l k, x = .lst l ∧ y = .lst k ∧ l.length + k.length ≤ 1000000 ∧ QL (l ++ k) g2) : W (mCat ma mb) ρ g QL := w_bind (h.mono fun x g1 h => w_bind (h.mono fun y g2 h => by
  obtain ⟨l, k, rfl, rfl, e, q⟩ := h
  exact w_lift ⟨_, by dsimp only; rw [if_pos (small_of e)], q⟩))
theorem w_catT (h : W ma ρ g fun x g1 => W mb ρ g1 fun y g2 => ∃ l k, x = .tup l ∧ y = .tup k ∧ l.isEmpty = false ∧ l.length + k.length ≤ 1000000 ∧ Q (.tup (l ++ k)) g2) : W (mCatT ma mb) ρ g Q := w_bind (h.mono fun x g1 h => w_bind (h.mono fun y g2 h => by
  obtain ⟨l, k, rfl, rfl, e0, e, q⟩ := h
  exact w_lift ⟨_, by dsimp only; rw [e0, if_neg Bool.false_ne_true, if_pos (small_of e)], q⟩))
theorem w_rep (h : W ma ρ g fun x g1 => W mb ρ g1 fun y g2 => ∃ l k, x = .lst l ∧ y = .int k ∧ (small (l.length * k.toNat) = true ∧ smallI k = true) ∧ QL (List.replicate k.toNat l).flatten g2) : W (mRep ma mb) ρ g QL := w_bind (h.mono fun x g1 h => w_bind (h.mono fun y g2 h => by
  obtain ⟨l, k, rfl, rfl, e, q⟩ := h
  exact w_lift ⟨_, by dsimp only; simp [e.1, e.2], q⟩))
theorem w_call0 (h : W ms ρ g fun l g1 => l.length = n ∧ ∃ d g2, φ l g1 = some (.ok d, g2) ∧ Q d g2) : W (mCall0 n φ ms) ρ g Q := by
  obtain ⟨l, g1, e, h1, d, g2, e2, q⟩ := h
  exact ⟨d, g2, mCall0_ok e h1 e2, q⟩
theorem w_itT (h : W ma ρ g fun d g1 => ∃ l, asT d = some l ∧ QL l g1) : W (mItT ma) ρ g QL := w_bind (h.mono fun _ _ h => w_lift h)
theorem w_itL (h : W ma ρ g fun d g1 => ∃ l, asL d = some l ∧ QL l g1) : W (mItL ma) ρ g QL := w_bind (h.mono fun _ _ h => w_lift h)
/-- a bound of a walk -/
structure Big (j : Int) : Prop where
  h : bigI j = true
theorem Big.of {j : Int} (h : -4611686018427387904 ≤ j ∧ j < 4611686018427387904) : Big j := ⟨decide_eq_true (by constructor <;> omega)⟩
theorem w_rng1 (h : W ms ρ g fun l g1 => ∃ j, l = [.int j] ∧ Big j ∧ QL (rngD 0 j.toNat) g1) : W (mRng1 ms) ρ g QL := w_bind (h.mono fun l g1 h => by
  obtain ⟨j, rfl, e, q⟩ := h
  exact w_lift ⟨_, by dsimp only; rw [if_pos e.h], q⟩)
theorem w_rng2 (h : W ms ρ g fun l g1 => ∃ i j, l = [.int i, .int j] ∧ Big i ∧ Big j ∧ QL (rngD i (j - i).toNat) g1) : W (mRng2 ms) ρ g QL := w_bind (h.mono fun l g1 h => by
  obtain ⟨i, j, rfl, e, e', q⟩ := h
  exact w_lift ⟨_, by dsimp only; simp [e.h, e'.h], q⟩)
theorem w_enum (h : W ms ρ g fun l g1 => ∃ r, (l = [.lst r] ∨ l = [.tup r]) ∧ QL (enumD 0 r) g1) : W (mEnum ms) ρ g QL := w_bind (h.mono fun l g1 h => by
  obtain ⟨r, e | e, q⟩ := h <;> subst e <;> exact w_lift ⟨_, rfl, q⟩)
theorem w_lc {mi : MV (List D)} {me : MV D} {vs : List Nat} (h : W mi ρ g fun ds g1 => ds.length ≤ 1000000 ∧ ∃ l g2, lcGo bd mt me (wipeS ρ vs) ds g1 = some (l, g2) ∧ QL l g2) : W (mLc mi bd vs mt me) ρ g QL := by
  obtain ⟨ds, g1, e, hs, l, g2, e2, q⟩ := h
  exact ⟨l, g2, mLc_ok e (small_of hs) e2, q⟩
/-! statements -/
theorem s_nx (h : QS .nx ρ g) : WS mNx ρ g QS := ⟨.nx, ρ, g, rfl, h⟩
theorem s_bk (h : QS .bk ρ g) : WS mBk ρ g QS := ⟨.bk, ρ, g, rfl, h⟩
theorem s_ct (h : QS .ct ρ g) : WS mCt ρ g QS := ⟨.ct, ρ, g, rfl, h⟩
theorem s_retN (h : QS (.rt .non) ρ g) : WS mRetN ρ g QS := ⟨.rt .non, ρ, g, rfl, h⟩
/-- what is wanted behind the first of two statements -/
abbrev sThen (m2 : MSt) (QS : Fl → List Sl → G → Prop) : Fl → List Sl → G → Prop := fun fl ρ1 g1 => match fl with
  | .nx => WS m2 ρ1 g1 QS
  | fl => QS fl ρ1 g1
theorem s_seq (h : WS m1 ρ g (sThen m2 QS)) : WS (mSeq m1 m2) ρ g QS := by
  obtain ⟨fl, ρ1, g1, e, q⟩ := h
  cases fl with
  | nx =>
    obtain ⟨fl, ρ2, g2, e2, q2⟩ := q
    exact ⟨fl, ρ2, g2, mSeq_nx e e2, q2⟩
  | rt d => exact ⟨.rt d, ρ1, g1, by unfold mSeq; rw [e], q⟩
  | bk => exact ⟨.bk, ρ1, g1, by unfold mSeq; rw [e], q⟩
  | ct => exact ⟨.ct, ρ1, g1, by unfold mSeq; rw [e], q⟩
  | ex x => exact ⟨.ex x, ρ1, g1, by unfold mSeq; rw [e], q⟩
theorem s_asg (h : W ma ρ g fun d g1 => ∃ ρ1, bd d ρ = some ρ1 ∧ QS .nx ρ1 g1) : WS (mAsg ma bd) ρ g QS := by
  obtain ⟨d, g1, e, ρ1, hb, q⟩ := h
  exact ⟨.nx, ρ1, g1, mAsg_ok e hb, q⟩
theorem s_drop (h : W ma ρ g fun _ g1 => QS .nx ρ g1) : WS (mDrop ma) ρ g QS := by
  obtain ⟨d, g1, e, q⟩ := h
  exact ⟨.nx, ρ, g1, mDrop_ok e, q⟩
theorem s_ret (h : W ma ρ g fun d g1 => QS (.rt d) ρ g1) : WS (mRet ma) ρ g QS := by
  obtain ⟨d, g1, e, q⟩ := h
  exact ⟨.rt d, ρ, g1, mRet_ok e, q⟩
theorem s_if (h : W mt ρ g fun c g1 => (c = true → WS m1 ρ g1 QS) ∧ (c = false → WS m2 ρ g1 QS)) : WS (mIfS mt m1 m2) ρ g QS := by
  obtain ⟨c, g1, e, h1, h2⟩ := h
  cases c with
  | true => obtain ⟨fl, ρ1, g2, e2, q⟩ := h1 rfl; exact ⟨fl, ρ1, g2, mIfS_t e e2, q⟩
  | false => obtain ⟨fl, ρ1, g2, e2, q⟩ := h2 rfl; exact ⟨fl, ρ1, g2, mIfS_f e e2, q⟩
theorem s_own (h : W ms ρ g fun l g1 => i < ρ.length ∧ QS .nx (ρ.set i (.ow (.lst l))) g1) : WS (mOwn i ms) ρ g QS := by
  obtain ⟨l, g1, e, h1, q⟩ := h
  exact ⟨.nx, _, g1, mOwn_ok e h1, q⟩
theorem s_app (h : ∃ l, getOw ρ[i]? = some l ∧ W ma ρ g fun d g1 => l.length ≤ 1000000 ∧ QS .nx (ρ.set i (.ow (.lst (l ++ [d])))) g1) : WS (mApp i ma) ρ g QS := by
  obtain ⟨l, hl, h⟩ := h
  obtain ⟨d, g1, e, h1, q⟩ := h
  exact ⟨.nx, _, g1, mApp_ok (getOw_is hl) e (small_of h1), q⟩
theorem s_fgE {is : List Nat} (h : WS m ρ g fun fl ρ1 g1 => match fl with
    | .nx => QS .nx (vForget is ρ1) g1
    | .ct => QS .ct (vForget is ρ1) g1
    | .bk => QS .bk (vForget is ρ1) g1
    | fl => QS fl ρ1 g1) : WS (mFgE is m) ρ g QS := by
  obtain ⟨fl, ρ1, g1, e, q⟩ := h
  cases fl with
  | nx => exact ⟨.nx, _, g1, by unfold mFgE; rw [e], q⟩
  | ct => exact ⟨.ct, _, g1, by unfold mFgE; rw [e], q⟩
  | bk => exact ⟨.bk, _, g1, by unfold mFgE; rw [e], q⟩
  | rt d => exact ⟨.rt d, _, g1, by unfold mFgE; rw [e], q⟩
  | ex x => exact ⟨.ex x, _, g1, by unfold mFgE; rw [e], q⟩
theorem s_free (h : WS m (vFree i ρ) g QS) : WS (mFree i m) ρ g QS := h
theorem s_fg {is : List Nat} (h : WS m (vForget is ρ) g QS) : WS (mFg is m) ρ g QS := h
theorem s_par {ss : List Stp} {is : List Nat} (h : WS (parGo ρ ss is) ρ g QS) : WS (mPar ss is) ρ g QS := h
theorem s_parN {ρ0 : List Sl} (h : QS .nx ρ g) : WS (parGo ρ0 [] []) ρ g QS := ⟨.nx, ρ, g, by unfold parGo; rfl, h⟩
theorem s_parI {ρ0 : List Sl} {ss : List Stp} {is : List Nat} (h : W ma ρ0 g fun d g1 => WS (parGo ρ0 ss is) (ρ.set i (.im d)) g1 QS) : WS (parGo ρ0 (.im ma :: ss) (i :: is)) ρ g QS := by
  obtain ⟨d, g1, e, fl, ρ1, g2, e2, q⟩ := h
  exact ⟨fl, ρ1, g2, by unfold parGo; rw [e]; exact e2, q⟩
theorem s_parO {ρ0 : List Sl} {ss : List Stp} {is : List Nat} (h : W ms ρ0 g fun l g1 => i < ρ.length ∧ WS (parGo ρ0 ss is) (ρ.set i (.ow (.lst l))) g1 QS) : WS (parGo ρ0 (.ow ms :: ss) (i :: is)) ρ g QS := by
  obtain ⟨d, g1, e, hi, fl, ρ1, g2, e2, q⟩ := h
  exact ⟨fl, ρ1, g2, by unfold parGo; rw [e]; dsimp only; rw [if_pos hi]; exact e2, q⟩
theorem s_parD {ρ0 : List Sl} {ss : List Stp} {is : List Nat} {md : MV Con} (h : W md ρ0 g fun l g1 => i < ρ.length ∧ WS (parGo ρ0 ss is) (ρ.set i (.ow l)) g1 QS) : WS (parGo ρ0 (.od md :: ss) (i :: is)) ρ g QS := by
  obtain ⟨d, g1, e, hi, fl, ρ1, g2, e2, q⟩ := h
  exact ⟨fl, ρ1, g2, by unfold parGo; rw [e]; dsimp only; rw [if_pos hi]; exact e2, q⟩
/-- what a round leaves -/
abbrev rThen (QS : Fl → List Sl → G → Prop) (P : List Sl → G → Prop) : Fl → List Sl → G → Prop := fun fl ρ1 g1 => match fl with
  | .nx => P ρ1 g1
  | .ct => P ρ1 g1
  | .bk => QS .nx ρ1 g1
  | fl => QS fl ρ1 g1
theorem s_forGo {P : Nat → List Sl → G → Prop} : ∀ (ds : List D) (k : Nat) (ρ : List Sl) (g : G), P k ρ g →
    (∀ j d ρ g, ds[j]? = some d → P (k + j) ρ g → ∃ ρ1, bd d ρ = some ρ1 ∧ WS m ρ1 g (rThen QS (P (k + j + 1)))) → (∀ ρ g, P (k + ds.length) ρ g → QS .nx ρ g) → WS (forGo bd m ds) ρ g QS
  | [], k, ρ, g, p, _, h => ⟨.nx, ρ, g, rfl, h ρ g p⟩
  | d :: ds, k, ρ, g, p, H, h => by
    obtain ⟨ρ1, h1, fl, ρ2, g2, e2, q⟩ := H 0 d ρ g rfl p
    have nxt : P (k + 1) ρ2 g2 → WS (forGo bd m ds) ρ2 g2 QS := fun p2 => s_forGo ds (k + 1) ρ2 g2 p2 (fun j d ρ g hd hp => by
      have e : k + 1 + j = k + (j + 1) := by omega
      rw [e] at hp ⊢
      exact H (j + 1) d ρ g (by simpa using hd) hp) (fun ρ g hp => h ρ g (by
      have e : k + (d :: ds).length = k + 1 + ds.length := by simp; omega
      rw [e]; exact hp))
    cases fl with
    | nx => obtain ⟨fl, ρ3, g3, e3, q3⟩ := nxt q; exact ⟨fl, ρ3, g3, by unfold forGo; rw [h1]; dsimp only; rw [e2]; exact e3, q3⟩
    | ct => obtain ⟨fl, ρ3, g3, e3, q3⟩ := nxt q; exact ⟨fl, ρ3, g3, by unfold forGo; rw [h1]; dsimp only; rw [e2]; exact e3, q3⟩
    | bk => exact ⟨.nx, ρ2, g2, by unfold forGo; rw [h1]; dsimp only; rw [e2], q⟩
    | rt d => exact ⟨.rt d, ρ2, g2, by unfold forGo; rw [h1]; dsimp only; rw [e2], q⟩
    | ex x => exact ⟨.ex x, ρ2, g2, by unfold forGo; rw [h1]; dsimp only; rw [e2], q⟩
theorem s_for (P : Nat → List Sl → G → Prop) {mi : MV (List D)} (h : W mi ρ g fun ds g1 => P 0 ρ g1 ∧ (∀ j d ρ g, ds[j]? = some d → P j ρ g → ∃ ρ1, bd d ρ = some ρ1 ∧ WS m ρ1 g (rThen QS (P (j + 1)))) ∧ ∀ ρ g, P ds.length ρ g → QS .nx ρ g) : WS (mFor mi bd m) ρ g QS := by
  obtain ⟨ds, g1, e, p, H, h⟩ := h
  obtain ⟨fl, ρ1, g2, e2, q⟩ := s_forGo (P := P) (m := m) (bd := bd) (QS := QS) ds 0 ρ g1 p (fun j d ρ g hd hp => by
    rw [Nat.zero_add] at hp ⊢
    exact H j d ρ g hd hp) (fun ρ g hp => h ρ g (by rw [Nat.zero_add] at hp; exact hp))
  exact ⟨fl, ρ1, g2, by unfold mFor; rw [e]; exact e2, q⟩
theorem s_while (P : Nat → List Sl → G → Prop) {N : Nat} : ∀ (fu k : Nat) (ρ : List Sl) (g : G), N < k + fu → P k ρ g →
    (∀ k ρ g, P k ρ g → k ≤ N ∧ W mt ρ g fun c g1 => (c = false → QS .nx ρ g1) ∧ (c = true → WS m ρ g1 (rThen QS (P (k + 1))))) → WS (whileGo mt m fu) ρ g QS
  | 0, k, ρ, g, hf, p, H => by
    have := (H k ρ g p).1
    omega
  | fu + 1, k, ρ, g, hf, p, H => by
    obtain ⟨hk, c, g1, e, hF, hT⟩ := H k ρ g p
    cases c with
    | false => exact ⟨.nx, ρ, g1, by unfold whileGo; rw [e], hF rfl⟩
    | true =>
      obtain ⟨fl, ρ2, g2, e2, q⟩ := hT rfl
      have nxt : P (k + 1) ρ2 g2 → WS (whileGo mt m fu) ρ2 g2 QS := fun p2 => s_while P fu (k + 1) ρ2 g2 (by omega) p2 H
      cases fl with
      | nx => obtain ⟨fl, ρ3, g3, e3, q3⟩ := nxt q; exact ⟨fl, ρ3, g3, by unfold whileGo; rw [e]; dsimp only; rw [e2]; exact e3, q3⟩
      | ct => obtain ⟨fl, ρ3, g3, e3, q3⟩ := nxt q; exact ⟨fl, ρ3, g3, by unfold whileGo; rw [e]; dsimp only; rw [e2]; exact e3, q3⟩
      | bk => exact ⟨.nx, ρ2, g2, by unfold whileGo; rw [e]; dsimp only; rw [e2], q⟩
      | rt d => exact ⟨.rt d, ρ2, g2, by unfold whileGo; rw [e]; dsimp only; rw [e2], q⟩
      | ex x => exact ⟨.ex x, ρ2, g2, by unfold whileGo; rw [e]; dsimp only; rw [e2], q⟩
theorem w_phi {F : Out D → G → Prop} (h : WS m (start0 n ds) g fun fl _ g1 => match fl with
    | .rt d => F (.ok d) g1
    | .nx => F (.ok .non) g1
    | .ex x => F (.ex x) g1
    | _ => False) : ∃ r g1, phi n m ds g = some (r, g1) ∧ F r g1 := by
  obtain ⟨fl, ρ1, g1, e, q⟩ := h
  cases fl with
  | nx => exact ⟨.ok .non, g1, phi_nx e, q⟩
  | rt d => exact ⟨.ok d, g1, phi_rt e, q⟩
  | ex x => exact ⟨.ex x, g1, by unfold phi; rw [e], q⟩
  | bk => exact q.elim
  | ct => exact q.elim
/-- a def's answer, known ahead -/
theorem w_phiOk {r : D} (h : WS m (start0 n ds) g fun fl _ g1 => match fl with
    | .rt d => d = r ∧ g1 = g2
    | .nx => .non = r ∧ g1 = g2
    | _ => False) : phi n m ds g = some (.ok r, g2) := by
  obtain ⟨fl, ρ1, g1, e, q⟩ := h
  cases fl with
  | nx => obtain ⟨rfl, rfl⟩ := q; exact phi_nx e
  | rt d => obtain ⟨rfl, rfl⟩ := q; exact phi_rt e
  | ex x => exact q.elim
  | bk => exact q.elim
  | ct => exact q.elim
theorem lc_map {bd : BndT} {mt : MV Bool} {me : MV D} {ρ : List Sl} (f h : α → D) (l : List α) (g : G) (H : ∀ a ∈ l, ∃ ρ1, bd (h a) ρ = some ρ1 ∧ W mt ρ1 g fun c g1 => c = true ∧ g1 = g ∧ W me ρ1 g fun d g2 => d = f a ∧ g2 = g) : lcGo bd mt me ρ (l.map h) g = some (l.map f, g) :=
  lcGo_map f h l g fun a ha => by
    obtain ⟨ρ1, h1, c, g1, e1, rfl, rfl, d, g2, e2, rfl, rfl⟩ := H a ha
    exact ⟨ρ1, h1, e1, e2⟩
theorem lc_filter {bd : BndT} {mt : MV Bool} {me : MV D} {ρ : List Sl} (p : α → Bool) (f h : α → D) (l : List α) (g : G) (H : ∀ a ∈ l, ∃ ρ1, bd (h a) ρ = some ρ1 ∧ W mt ρ1 g fun c g1 => c = p a ∧ g1 = g ∧ (p a = true → W me ρ1 g fun d g2 => d = f a ∧ g2 = g)) : lcGo bd mt me ρ (l.map h) g = some ((l.filter p).map f, g) :=
  lcGo_filter p f h l g fun a ha => by
    obtain ⟨ρ1, h1, c, g1, e1, rfl, rfl, k⟩ := H a ha
    refine ⟨ρ1, h1, e1, fun z => ?_⟩
    obtain ⟨d, g2, e2, rfl, rfl⟩ := k z
    exact e2
/-! dicts -/
theorem w_nin {neg : Bool} {my : MV D} (h : W my ρ g fun d g1 => ∃ kvs, getDc ρ[i]? = some kvs ∧ ∃ ks, keyOf d = some ks ∧ Q (.bl (neg != (dlook kvs ks).isSome)) g1) : W (mNIn neg i my) ρ g Q := by
  obtain ⟨d, g1, e, kvs, h1, ks, h2, q⟩ := h
  exact ⟨_, g1, by unfold mNIn; rw [e]; dsimp only; rw [h1, h2], q⟩
theorem w_nget {my : MV D} (h : ∃ kvs, getDc ρ[i]? = some kvs ∧ W my ρ g fun d g1 => ∃ ks, keyOf d = some ks ∧ ∃ z, dlook kvs ks = some z ∧ Q z g1) : W (mNGet i my) ρ g Q := by
  obtain ⟨kvs, h1, d, g1, e, ks, h2, z, h3, q⟩ := h
  exact ⟨z, g1, by unfold mNGet; rw [h1]; dsimp only; rw [e]; dsimp only; rw [h2, Option.bind_some, h3], q⟩
theorem w_nget2 {my md : MV D} (h : ∃ kvs, getDc ρ[i]? = some kvs ∧ W my ρ g fun d g1 => W md ρ g1 fun z g2 => ∃ ks, keyOf d = some ks ∧ Q ((dlook kvs ks).getD z) g2) : W (mNGet2 i my md) ρ g Q := by
  obtain ⟨kvs, h1, d, g1, e, z, g2, e2, ks, h2, q⟩ := h
  exact ⟨_, g2, by unfold mNGet2; rw [h1]; dsimp only; rw [e]; dsimp only; rw [e2]; dsimp only; rw [h2], q⟩
theorem s_nput {mk mv : MV D} (h : W mv ρ g fun d g1 => ∃ kvs, getDc ρ[i]? = some kvs ∧ W mk ρ g1 fun z g2 => ∃ ks, keyOf z = some ks ∧ kvs.length ≤ 1000000 ∧ QS .nx (ρ.set i (.ow (.dic (dput kvs ks d)))) g2) : WS (mNPut i mk mv) ρ g QS := by
  obtain ⟨d, g1, e, kvs, h1, z, g2, e2, ks, h2, hs, q⟩ := h
  exact ⟨_, _, g2, by unfold mNPut; rw [e]; dsimp only; rw [h1]; dsimp only; rw [e2]; dsimp only; rw [h2]; dsimp only; rw [if_pos (small_of hs)], q⟩
theorem s_dnew (h : i < ρ.length ∧ QS .nx (ρ.set i (.ow (.dic []))) g) : WS (mDnew i) ρ g QS := ⟨_, _, g, by unfold mDnew; rw [if_pos h.1], h.2⟩
end
end Fw

set_option Elab.async false
set_option linter.all false
set_option maxRecDepth 100000
set_option maxHeartbeats 4000000
/-! Tx1: a starred last target -/
namespace Fw
open PySem PySem.Spec PyProof.Rows L2
section
variable {X : Cx} {pos sp : Pos} {t : Expr} {es : List Expr} {u : TGs}
theorem pgs_star (h : PGs X (t :: es) u) (e : (assignEach (.Starred t sp :: es) X.env).map (·.2) = (assignEach (t :: es) X.env).map (·.2) := by rfl) : PGs X (.Starred t sp :: es) u := ⟨fun pins s σ H vs us Q I r q => by rw [e]; exact h.run pins s σ H vs us Q I r q⟩
theorem vals_drop : ∀ {xs : List V} {us : List Value} (n : Nat), Vals xs us → Vals (xs.drop n) (us.drop n)
  | _, _, 0, r => r
  | [], _, n + 1, r => by cases r; exact .nil
  | x :: xs, _, n + 1, r => by cases r with | cons q r => exact vals_drop n r
theorem vals_take : ∀ {xs : List V} {us : List Value} (n : Nat), Vals xs us → Vals (xs.take n) (us.take n)
  | _, _, 0, r => .nil
  | [], _, n + 1, r => by cases r; exact .nil
  | x :: xs, _, n + 1, r => by cases r with | cons q r => exact .cons q (vals_take n r)
theorem vals_snoc {v : V} {w : Value} (q : RelV v w) : ∀ {xs : List V} {us : List Value}, Vals xs us → Vals (xs ++ [v]) (us ++ [w])
  | [], _, r => by cases r; exact .cons q .nil
  | x :: xs, _, r => by cases r with | cons p r => exact .cons p (vals_snoc q r)
/-- a, b, *rest = .. : the rest is a new list -/
def gStar (K : PySem.W.Frag) (n : Nat) (t : TGs) : TG := fun v σ H Q => ∃ a xs, v = .ref a ∧ (SqL K H a xs ∨ SqT K H a xs) ∧ n ≤ xs.length ∧ xs.length ≤ 10000 ∧ ∀ p, H p = none → t (xs.take n ++ [.ref p]) σ (upd H p (.lst (xs.drop n))) Q
/-- the rest of the unpacking: what the iterator still gives -/
theorem star_end {A : Around} {pins : List (Addr × Obj)} {s : Shared} {σ : L2.St} {H : Hp} {h2 : Heap} {tk n : Nat} {its : List Value} {xs : List V} {Q : L2.St → Hp → Prop} (I : Inv X pins σ H s) (kp : ∀ b o, s.heap.get? b = some o → h2.get? b = some o) (rv : Vals xs its) (hle : n ≤ xs.length) (hz : xs.length ≤ 10000)
    (h : PGs X es u) (hw : ∀ p, H p = none → u (xs.take n ++ [.ref p]) σ (upd H p (.lst (xs.drop n))) Q) :
    wpAny (model X.prog X.w) A (do let d ← newList ((its.drop n).take ((its.drop n).length - (n + 1 - 1 - n))); pure (its.take n ++ [d] ++ (its.drop n).drop ((its.drop n).length - (n + 1 - 1 - n))))
      (fun vs s' => wpAny (model X.prog X.w) X.A (assignInOrder ((assignEach es X.env).map (·.2)) vs) (fun _ s2 => ∃ σ' H', Inv X pins σ' H' s2 ∧ Q σ' H') X.xe s') X.xe { s with heap := h2, toks := tk } := by
  have e0 : (its.drop n).length - (n + 1 - 1 - n) = (its.drop n).length := by omega
  rw [e0, List.take_length, List.drop_length]
  simp only [List.append_nil]
  have hlen := rv.length
  refine wpAny_bind (wpAny_newList ?_ (by rw [List.length_drop, ← hlen, sizeLine_eq]; omega))
  have I2 : Inv X pins σ H { s with heap := h2, toks := tk } := I.kept kp
  have hn : H h2.objs.size = none := I2.hok.fresh (Nat.le_refl _)
  have I3 : Inv X pins σ (upd H h2.objs.size (.lst (xs.drop n))) { s with heap := h2.push { cls := .type "list", data := .seq (its.drop n).toArray }, toks := tk } :=
    I2.laid (t' := tk) (a := h2.objs.size) (fun b o q => Heap.get?_push_of_some _ q) (Nat.le_refl _) ⟨by rw [List.length_drop, sizeLine_eq]; omega, its.drop n, _, vals_drop n rv, Heap.get?_push_size _ rfl⟩
  exact wpAny_pure (h.run pins _ σ _ _ _ Q I3 (vals_snoc (v := V.ref h2.objs.size) (w := Value.ref h2.objs.size) rfl (vals_take n rv)) (hw _ hn))
theorem pg_star {n k : Nat} (hc : X.calm = true) (h : PGs X es u) (hn : (assignEach es X.env).length = n + 1 := by rfl) (hst : (assignEach es X.env).findIdx? (·.1) = some n := by rfl) : PG X (.Tuple es k pos) (gStar X.K n u) := by
  refine ⟨fun pins s σ H v w Q I r hw => ?_⟩
  obtain ⟨a, xs, rfl, hq, hle, hz0, hw⟩ := hw
  cases r
  rw [PyProof.Rows.assign_Tuple]
  refine wpAny_bind (wpAny_standAt ?_)
  unfold unpack
  rw [hn, hst]
  have hh := I.ok.hd hc
  refine wpAny_bind (wpAny_holding ?_)
  unfold unpackItems notIterableAtAll
  rcases hq with hq | hq
  · obtain ⟨its, rv, ⟨o, c, ho, hcl, hdt, hdd⟩, hz⟩ := I.list hq
    have isl : s.heap.IsList a its.toArray := ⟨o, ho, hcl, c, hdd⟩
    have len := rv.length
    have ne : a ≠ s.heap.objs.size := Nat.ne_of_lt (Heap.lt_size ho)
    refine wpAny_bind (wpAny_bind (wpAny_specialOf isl.typeIs slot_list_iter.lookup (wpAny_pure ?_)))
    rw [if_neg (by simp)]
    refine wpAny_bind (wpAny_holding (wpAny_pyIter_list isl (wpAny_bind (wpAny_holding (PySem.W.kun_draw ne n 0 _ _ ⟨_, Heap.get?_push_size _ rfl, rfl, rfl⟩ (isl.push _) (by simp; omega) fun h1 it1 same1 => ?_)))))
    have isl1 : h1.IsList a its.toArray := (isl.push _).extBut same1.extBut ne
    obtain ⟨oi, hoi, _⟩ := id it1
    obtain ⟨ol, hol, _⟩ := id isl1
    rw [Nat.zero_add] at it1
    simp only [List.drop_zero]
    rw [if_neg (by rw [List.length_take]; omega)]
    refine wpAny_bind (wpAny_holding (PySem.W.kun_collect (s := { s with heap := h1 }) (T := "list_iterator") (.inr (.inr (.inl rfl))) (Walks.list (A := X.A.in1) hh s.heap.objs.size a ne its.toArray) (fun j z st => st.1.typeIs) (k := n) (by simp; omega) ⟨it1, isl1⟩ (Heap.lt_size hoi) (Heap.lt_size hol) (fun h2 tk keep2 => ?_) (by simp; rw [sizeLine_eq]; omega)))
    rw [if_neg (by omega)]
    exact star_end (s := s) I (fun b o q => keep2 b o (Nat.ne_of_lt (Heap.lt_size q)) (same1.extBut b o (Nat.ne_of_lt (Heap.lt_size q)) (Heap.get?_push_of_some _ q))) rv hle hz0 h hw
  · obtain ⟨its, rv, ist, hz⟩ := I.tuple hq
    obtain ⟨o, ho, _⟩ := id ist
    have len := rv.length
    have ne : a ≠ s.heap.objs.size := Nat.ne_of_lt (Heap.lt_size ho)
    refine wpAny_bind (wpAny_bind (wpAny_specialOf ist.typeIs slot_tuple_iter.lookup (wpAny_pure ?_)))
    rw [if_neg (by simp)]
    refine wpAny_bind (wpAny_holding (iter_tuple ist (wpAny_bind (wpAny_holding (draw_tuple ne n 0 _ _ ⟨_, Heap.get?_push_size _ rfl, rfl, rfl⟩ (ist.push _) (by simp; omega) fun h1 it1 same1 => ?_)))))
    have ist1 : IsTup h1 a its.toArray := (ist.push _).extBut same1.extBut ne
    obtain ⟨oi, hoi, _⟩ := id it1
    obtain ⟨ol, hol, _⟩ := id ist1
    rw [Nat.zero_add] at it1
    simp only [List.drop_zero]
    rw [if_neg (by rw [List.length_take]; omega)]
    refine wpAny_bind (wpAny_holding (PySem.W.kun_collect (s := { s with heap := h1 }) (T := "tuple_iterator") (.inr (.inr (.inr rfl))) (Walks.tuple (A := X.A.in1) hh s.heap.objs.size a ne its.toArray) (fun j z st => st.1.typeIs) (k := n) (by simp; omega) ⟨it1, ist1⟩ (Heap.lt_size hoi) (Heap.lt_size hol) (fun h2 tk keep2 => ?_) (by simp; rw [sizeLine_eq]; omega)))
    rw [if_neg (by omega)]
    exact star_end (s := s) I (fun b o q => keep2 b o (Nat.ne_of_lt (Heap.lt_size q)) (same1.extBut b o (Nat.ne_of_lt (Heap.lt_size q)) (Heap.get?_push_of_some _ q))) rv hle hz0 h hw
end
end Fw

set_option Elab.async false
set_option linter.all false
set_option maxRecDepth 100000
set_option maxHeartbeats 4000000
/-! Tx2: what readings of texts are worth -/
namespace Fw
open PySem PySem.Spec PyProof.Rows L2
/-- a comprehension within a comprehension that sees no name of it -/
theorem blkOk_in {N : List Str} {sc scope : Scope} {own : List (Str × Nat)} (h : blkC N ⟨.function, [], false, false, []⟩ scope own = true) : BlkOk N sc scope own := by
  have b := blkOk_by h
  refine ⟨b.kind, b.uniq, b.ix, fun y hy e => ?_, b.own⟩
  have z := b.free y hy e
  exact absurd z (by simp)
def seqOf (d : D) : Option (List D) := match d with
  | .tup l => some l
  | .lst l => some l
  | _ => none
def mAsgS (m : MV D) (n : Nat) (bs : List D → List Sl → Option (List Sl)) : MSt := fun ρ g => match m ρ g with
  | some (.ok d, g1) => (match seqOf d with
    | some l => if n ≤ l.length ∧ l.length ≤ 10000 then (match bs (l.take n ++ [.lst (l.drop n)]) ρ with
      | some ρ1 => some (.nx, ρ1, g1)
      | none => none) else none
    | none => none)
  | some (.ex x, g1) => some (.ex x, ρ, g1)
  | none => none
section
variable {K : PySem.W.Frag} {E : XK} {ix : IXT} {F : Fx} {ρ ρ' ρ1 : List Sl} {g g' g1 : G} {σ σ' σ1 : L2.St} {H H' H1 : Hp} {b b1 b2 : Bool} {t ta tb tc te to : TE} {m ma mb mc : MV D}
theorem rs_asgS {gs : TGs} {n : Nat} {bs : List D → List Sl → Option (List Sl)} {ks : List Nat} (h : RE K E ix true t m) (hg : RGs K gs bs ks) : RS K E ix (tAsg t (gStar K n gs)) (mAsgS m n bs) := fun F ρ g σ H R fl ρ' g' e De q => by
  unfold mAsgS at e
  split at e
  · rename_i d g1 hm
    split at e
    · rename_i l hl
      split at e
      · rename_i hn
        split at e
        · rename_i ρ1 hb
          cases e
          refine h F ρ g σ H R _ _ hm _ fun v H1 e1 k1 i1 => ?_
          have R1 := R.step e1 k1
          have sq : ∃ a xs, v = .ref a ∧ (SqL K H1 a xs ∨ SqT K H1 a xs) ∧ IsL K F.ra (imB F ρ σ) H1 l xs := by
            cases d with
            | tup l' => cases hl; obtain ⟨a, xs, z, h2, h3⟩ := i1; exact ⟨a, xs, z, .inr h2, h3⟩
            | lst l' => cases hl; obtain ⟨a, xs, z, _, h2, h3⟩ := i1; exact ⟨a, xs, z, .inl (SqL.of h2), h3⟩
            | _ => cases hl
          obtain ⟨a, xs, rfl, hs, hi⟩ := sq
          refine ⟨a, xs, rfl, hs, by rw [hi.length]; exact hn.1, by rw [hi.length]; exact hn.2, fun p hp => ?_⟩
          have en : Ex (isR F) H1 (upd H1 p (.lst (xs.drop n))) := Ex.new hp
          have R2 := R1.step en (R1.gok.new hp)
          have hi2 := IsL.step R1.im_r en hi
          have is : IsL K F.ra (imB F ρ σ) (upd H1 p (.lst (xs.drop n))) (l.take n ++ [.lst (l.drop n)]) (xs.take n ++ [.ref p]) := (hi2.take n).append (.one ⟨p, _, rfl, fresh_im R1 hp, upd_same, hi2.drop n⟩)
          exact hg F ρ g' σ _ R2 _ _ is ρ' hb _ fun σ1 R3 f3 _ _ => q σ1 _ R3 (((Fr.of e1).trans (Fr.of en) R R1).trans f3 R R2)
        · cases e
      · cases e
    · cases e
  · rename_i x g1 hm
    cases e
    exact h F ρ g σ H R _ _ hm _ (XPost.mono R.ext q)
  · cases e
/-! scalars -/
abbrev rStrI : List V → Hp → VK → Prop := fun xs H Q => ∃ i : Int, xs = [.int i] ∧ i.natAbs.log2 < 1920 ∧ Q (.str (toString i)) H
abbrev rIntS : List V → Hp → VK → Prop := fun xs H Q => ∃ a n, xs = [.str a] ∧ PySem.intText? a = some n ∧ a.length ≤ 640 ∧ Q (.int n) H
abbrev rLenS : List V → Hp → VK → Prop := fun xs H Q => ∃ z, xs = [.str z] ∧ z.length ≤ sizeLine ∧ Q (.int z.length) H
abbrev rStrP (p : Str → Bool) : V → List V → Hp → VK → Prop := fun x xs H Q => ∃ a, x = .str a ∧ xs = [] ∧ True ∧ Q (.bl (p a)) H
def strP (p : Str → Bool) (d : D) : Option D := match d with
  | .str a => some (.bl (p a))
  | _ => none
theorem re_strP {p : Str → Bool} (h : RE K E ix b1 t m) : RE K E ix b (tM0 (fun x xs H Q => ∃ a, x = .str a ∧ xs = [] ∧ True ∧ Q (.bl (p a)) H) t) (mUn (strP p) m) := fun F ρ g σ H R r g' e Q q =>
  h.one R e q.x fun d v H1 g1 e1 R1 i1 k1 => by
    obtain ⟨c, hc, rfl, rfl⟩ := mlift_some k1
    unfold strP at hc
    split at hc
    · rename_i a
      cases hc
      cases (show v = .str a from i1)
      exact ⟨⟨a, rfl⟩, a, rfl, rfl, trivial, q _ H1 e1 R1.gok rfl⟩
    · cases hc
def fStrI (l : List D) : Option D := match l with
  | [.int i] => if decide (i.natAbs.log2 < 1920) = true then some (.str (Str.ofString (toString i))) else none
  | _ => none
theorem sc_strI : ScN K (fun xs H Q => ∃ i : Int, xs = [.int i] ∧ i.natAbs.log2 < 1920 ∧ Q (.str (toString i)) H) fStrI := fun ra B H l c vs hl e => by
  unfold fStrI at e
  split at e
  · rename_i i
    split at e
    · rename_i hz
      cases e
      obtain ⟨v, r, rfl, h1, h2⟩ := hl
      cases h2
      cases (show v = .int i from h1)
      exact ⟨.str (Str.ofString (toString i)), fun _ _ _ => rfl, fun Q k => ⟨i, rfl, of_decide_eq_true hz, k⟩⟩
    · cases e
  · cases e
def fIntS (l : List D) : Option D := match l with
  | [.str a] => (intText? a).bind fun n => if decide (a.length ≤ 640) = true then some (.int n) else none
  | _ => none
theorem sc_intS : ScN K (fun xs H Q => ∃ a n, xs = [.str a] ∧ PySem.intText? a = some n ∧ a.length ≤ 640 ∧ Q (.int n) H) fIntS := fun ra B H l c vs hl e => by
  unfold fIntS at e
  split at e
  · rename_i a
    obtain ⟨n, hn, e⟩ := Option.bind_eq_some_iff.mp e
    split at e
    · rename_i hz
      cases e
      obtain ⟨v, r, rfl, h1, h2⟩ := hl
      cases h2
      cases (show v = .str a from h1)
      exact ⟨.int n, fun _ _ _ => rfl, fun Q k => ⟨a, n, rfl, hn, of_decide_eq_true hz, k⟩⟩
    · cases e
  · cases e
def fLenS (l : List D) : Option D := match l with
  | [.str a] => if small a.length = true then some (.int a.length) else none
  | _ => none
theorem sc_lenS : ScN K (fun xs H Q => ∃ z, xs = [.str z] ∧ z.length ≤ sizeLine ∧ Q (.int z.length) H) fLenS := fun ra B H l c vs hl e => by
  unfold fLenS at e
  split at e
  · rename_i a
    split at e
    · rename_i hz
      cases e
      obtain ⟨v, r, rfl, h1, h2⟩ := hl
      cases h2
      cases (show v = .str a from h1)
      exact ⟨.int a.length, fun _ _ _ => rfl, fun Q k => ⟨a, rfl, Nat.le_of_lt (small_line hz), k⟩⟩
    · cases e
  · cases e
def dIxS (x y : D) : Option D := match x, y with
  | .str z, .int i => if small z.length = true then (atI z.cps.toList i).map fun c => .str ⟨#[c]⟩ else none
  | _, _ => none
theorem sc_ixS : Sc2 K rIxS dIxS := fun ra B B' H x y c p q hp hq e => by
  unfold dIxS at e
  split at e
  · rename_i z i
    split at e
    · rename_i hz
      obtain ⟨c', hc, rfl⟩ := Option.map_eq_some_iff.mp e
      cases (show p = .str z from hp)
      cases (show q = .int i from hq)
      exact ⟨.str ⟨#[c']⟩, fun _ _ _ => rfl, fun Q k => ⟨z, i, c', rfl, rfl, Nat.le_of_lt (small_line hz), hc, k⟩⟩
    · cases e
  · cases e
/-- whether a text is there -/
def truS (d : D) : Option Bool := match d with
  | .str a => if small a.length = true then some ((a.length : Int) != 0) else none
  | _ => none
def mTruS (m : MV D) : MV Bool := mbind m fun d => mlift (truS d)
theorem rt_truS (h : RE K E ix b t m) : RT K E ix (tTruK K t) (mTruS m) := fun F ρ g σ H R r g' e Q q =>
  h.one R e q.x fun d v H1 g1 e1 R1 i1 k1 => by
    obtain ⟨c, hc, rfl, rfl⟩ := mlift_some k1
    unfold truS at hc
    split at hc
    · rename_i a
      split at hc
      · rename_i hz
        cases hc
        cases (show v = .str a from i1)
        exact ⟨_, ⟨Nat.le_of_lt (small_line hz), rfl⟩, q H1 e1 R1.gok⟩
      · cases hc
    · cases hc
/-! rows of texts -/
def unS (l : List D) : Option (List Str) := match l with
  | [] => some []
  | .str i :: r => (unS r).map (i :: ·)
  | _ :: _ => none
theorem unS_is : ∀ {l : List D} {ns : List Str}, unS l = some ns → l = ns.map D.str
  | [], _, h => by unfold unS at h; cases h; rfl
  | d :: r, _, h => by
    unfold unS at h
    split at h
    · rename_i he; cases he
    · rename_i i r' he
      cases he
      obtain ⟨ns, hn, rfl⟩ := Option.map_eq_some_iff.mp h
      rw [unS_is hn]; rfl
    · cases h
theorem unS_map : ∀ l : List Str, unS (l.map D.str) = some l
  | [] => rfl
  | x :: l => by simp [unS, unS_map l]
theorem IsL.strs {ra : Addr} {B : Addr → Prop} : ∀ {ns : List Str} {xs : List V}, IsL K ra B H (ns.map D.str) xs → xs = ns.map V.str
  | [], _, h => h
  | n :: ns, _, h => by
    obtain ⟨v, r, rfl, h2, h3⟩ := h
    have e : v = V.str n := h2
    rw [e, IsL.strs h3]; rfl
theorem IsL.of_strs {ra : Addr} {B : Addr → Prop} : ∀ {ns : List Str}, IsL K ra B H (ns.map D.str) (ns.map V.str)
  | [] => rfl
  | n :: ns => ⟨_, _, rfl, rfl, IsL.of_strs⟩
abbrev rJoinA (K : PySem.W.Frag) : V → List V → Hp → VK → Prop := fun x xs H Q => ∃ a p, ∃ ys : List Str, x = .str a ∧ xs = [.ref p] ∧ (SqL K H p (ys.map V.str) ∨ SqT K H p (ys.map V.str)) ∧ (ys.map (·.length)).sum + ys.length * a.length ≤ 16777216 ∧ Q (.str (Txt.join a ys)) H
def dJoin (x y : D) : Option D := match x, seqOf y with
  | .str a, some l => (unS l).bind fun ys => if (ys.map (·.length)).sum + ys.length * a.length ≤ 1000000 then some (.str (Txt.join a ys)) else none
  | _, _ => none
def mJoin (ma mb : MV D) : MV D := mbind ma fun x => match x with
  | .str a => mbind mb fun y => mlift (dJoin (.str a) y)
  | _ => mno
theorem re_join (h : RE K E ix b1 to ma) (h2 : RE K E ix b2 te mb) : RE K E ix b (tM1 (rJoinA K) to te) (mJoin ma mb) := fun F ρ g σ H R r g' e Q q =>
  h.one R e q.x fun x v H1 g1 e1 R1 i1 k1 => by
    cases x with
    | str a =>
      cases (show v = .str a from i1)
      refine ⟨⟨a, rfl⟩, h2.one R1 k1 (fun z hz => (q.x z hz).mono e1) fun y w H2 g2 e2 R2 i2 k2 => ?_⟩
      obtain ⟨c, hc, rfl, rfl⟩ := mlift_some k2
      unfold dJoin at hc
      split at hc
      · rename_i a' l ha hl
        cases ha
        obtain ⟨ys, hy, hc⟩ := Option.bind_eq_some_iff.mp hc
        split at hc
        · rename_i hz
          cases hc
          have sq : ∃ p, w = .ref p ∧ (SqL K H2 p (ys.map V.str) ∨ SqT K H2 p (ys.map V.str)) := by
            have hl2 := unS_is hy
            cases y with
            | tup l' => cases hl; obtain ⟨p, xs, z, h3, h4⟩ := i2; rw [hl2] at h4; rw [h4.strs] at h3; exact ⟨p, z, .inr h3⟩
            | lst l' => cases hl; obtain ⟨p, xs, z, _, h3, h4⟩ := i2; rw [hl2] at h4; rw [h4.strs] at h3; exact ⟨p, z, .inl (SqL.of h3)⟩
            | _ => cases hl
          obtain ⟨p, rfl, hs⟩ := sq
          exact ⟨_, p, ys, rfl, rfl, hs, by omega, q _ H2 (e1.trans e2) R2.gok rfl⟩
        · cases hc
      · cases hc
    | _ => cases k1
abbrev rSplitA : V → List V → Hp → VK → Prop := fun x xs H Q => ∃ a b, x = .str a ∧ xs = [.str b] ∧ (b.length == 0) = false ∧ a.length + 2 ≤ sizeLine ∧ rNewStrs (Txt.split a b) H Q
def dSplit (x y : D) : Option (List D) := match x, y with
  | .str a, .str b => if ((b.length == 0) = false) ∧ a.length ≤ 1000000 then some ((Txt.split a b).map .str) else none
  | _, _ => none
def mSplit (ma mb : MV D) : MV (List D) := mbind ma fun x => match x with
  | .str a => mbind mb fun y => mlift (dSplit (.str a) y)
  | _ => mno
theorem rf_split (h : RE K E ix b1 to ma) (h2 : RE K E ix b2 te mb) : RF K E ix (tM1 rSplitA to te) (mSplit ma mb) := fun F ρ g σ H R r g' e Q q =>
  h.one R e q.x fun x v H1 g1 e1 R1 i1 k1 => by
    cases x with
    | str a =>
      cases (show v = .str a from i1)
      refine ⟨⟨a, rfl⟩, h2.one R1 k1 (fun z hz => (q.x z hz).mono e1) fun y w H2 g2 e2 R2 i2 k2 => ?_⟩
      obtain ⟨c, hc, rfl, rfl⟩ := mlift_some k2
      cases y with
      | str b' =>
        unfold dSplit at hc
        dsimp only at hc
        split at hc
        · rename_i hz
          cases hc
          cases (show w = .str b' from i2)
          refine ⟨a, b', rfl, rfl, hz.1, by have := hz.2; rw [sizeLine_eq]; omega, fun p hp => ?_⟩
          exact rf_put R (e1.trans e2) R2.gok hp IsL.of_strs q
        · cases hc
      | _ => cases hc
    | _ => cases k1
/-- t[lo:hi] of a tuple, the whole of it too -/
def mSlA (m : MV D) (ml mh : MV (Option Int)) : MV D := mbind m fun d => mbind ml fun lo => mbind mh fun hi => mlift (match d with
  | .tup l => some (.tup (Fw.cutD l lo hi))
  | _ => none)
theorem cut_whole {l : List D} {lo hi : Option Int} (h : HT.sIx l.length 0 lo = 0 ∧ HT.sIx l.length l.length hi = l.length) : Fw.cutD l lo hi = l := by
  unfold Fw.cutD
  rw [h.1, h.2, List.drop_zero, Nat.sub_zero, List.take_length]
theorem re_slA {tl th : TO} {ml mh : MV (Option Int)} (h : RE K E ix b t m) (hl : RO K E ix tl ml) (hh : RO K E ix th mh) : RE K E ix b (tSl (rSlA K) t tl th) (mSlA m ml mh) := fun F ρ g σ H R r g' e Q q =>
  h.one R e q.x fun d v H1 g1 e1 R1 i1 k1 => hl.one R1 k1 (fun z hz => (q.x z hz).mono e1) fun lo H2 g2 e2 R2 k2 => hh.one R2 k2 (fun z hz => (q.x z hz).mono (e1.trans e2)) fun hi H3 g3 e3 R3 k3 => by
    obtain ⟨c, hc, rfl, rfl⟩ := mlift_some k3
    split at hc
    · rename_i l
      cases hc
      obtain ⟨a, xs, rfl, h2, h3⟩ := Is.step (bad_r R) (e2.trans e3) i1
      refine ⟨a, xs, rfl, h2, fun z => ?_, fun _ p hp => ?_⟩
      · rw [h3.length] at z
        refine q (.ref a) H3 ((e1.trans e2).trans e3) R3.gok ?_
        rw [cut_whole z]
        exact ⟨a, xs, rfl, h2, h3⟩
      · have en : Ex (isR F) H3 (upd H3 p (.tup (cutV xs lo hi))) := Ex.new hp
        exact q (.ref p) _ (((e1.trans e2).trans e3).trans en) (R3.gok.new hp) ⟨p, _, rfl, SqT.of upd_same, IsL.step (bad_r R) en h3.cut⟩
    · cases hc
end
/-! forward -/
section
variable {ρ : List Sl} {g : G} {ma mb m : MV D} {Q : D → G → Prop} {QL : List D → G → Prop} {QB : Bool → G → Prop} {QS : Fl → List Sl → G → Prop} {n : Nat} {bs : List D → List Sl → Option (List Sl)}
theorem w_join (h : W ma ρ g fun x g1 => ∃ a, x = .str a ∧ W mb ρ g1 fun y g2 => ∃ z, dJoin (.str a) y = some z ∧ Q z g2) : W (mJoin ma mb) ρ g Q := w_bind (h.mono fun x g1 h => by
  obtain ⟨a, rfl, h⟩ := h
  exact w_bind (h.mono fun _ _ h => w_lift h))
theorem w_split (h : W ma ρ g fun x g1 => ∃ a, x = .str a ∧ W mb ρ g1 fun y g2 => ∃ z, dSplit (.str a) y = some z ∧ QL z g2) : W (mSplit ma mb) ρ g QL := w_bind (h.mono fun x g1 h => by
  obtain ⟨a, rfl, h⟩ := h
  exact w_bind (h.mono fun _ _ h => w_lift h))
theorem w_truS (h : W ma ρ g fun d g1 => ∃ c, truS d = some c ∧ QB c g1) : W (mTruS ma) ρ g QB := w_bind (h.mono fun _ _ h => w_lift h)
theorem w_slA {ml mh : MV (Option Int)} (h : W ma ρ g fun d g1 => W ml ρ g1 fun lo g2 => W mh ρ g2 fun hi g3 => ∃ l, d = .tup l ∧ Q (.tup (Fw.cutD l lo hi)) g3) : W (mSlA ma ml mh) ρ g Q := w_bind (h.mono fun d g1 h => w_bind (h.mono fun lo g2 h => w_bind (h.mono fun hi g3 h => by
  obtain ⟨l, rfl, q⟩ := h
  exact w_lift ⟨_, rfl, q⟩)))
theorem s_asgS (h : W m ρ g fun d g1 => ∃ l, seqOf d = some l ∧ (n ≤ l.length ∧ l.length ≤ 10000) ∧ ∃ ρ1, bs (l.take n ++ [.lst (l.drop n)]) ρ = some ρ1 ∧ QS .nx ρ1 g1) : WS (mAsgS m n bs) ρ g QS := by
  obtain ⟨d, g1, e, l, h1, h2, ρ1, h3, q⟩ := h
  exact ⟨.nx, ρ1, g1, by unfold mAsgS; rw [e]; dsimp only; rw [h1]; dsimp only; rw [if_pos h2, h3], q⟩
end
end Fw

set_option Elab.async false
set_option linter.all false
set_option maxRecDepth 100000
set_option maxHeartbeats 4000000
/-! Kd1: what a clause that asks an exception's kind wants: count in a list of flat values, isinstance of an exception with a field -/
namespace Fw
open PySem PySem.Spec PyProof.Rows L2
def rCntF (K : PySem.W.Frag) : V → List V → Hp → VK → Prop := fun x xs H Q => ∃ (p : Addr) (vs : List V) (y : V), x = .ref p ∧ xs = [y] ∧ SqL K H p vs ∧ flatV y = true ∧ vs.all flatV = true ∧ Q (.int (vs.countP fun z => eqV z y : Nat)) H
section
variable {X : Cx}
theorem eqU_cnt {y : V} {u : Value} (ry : RelV y u) (fy : flatV y = true) : ∀ {vs : List V} {us : List Value}, Vals vs us → vs.all flatV = true → us.countP (eqU y) = vs.countP fun z => eqV z y
  | _, _, .nil, _ => rfl
  | v :: vs, w :: us, .cons r rs, hv => by
    simp only [List.all_cons, Bool.and_eq_true] at hv
    rw [List.countP_cons, List.countP_cons, eqU_cnt ry fy rs hv.2, eqU_of r hv.1]
theorem mt_cntF : MtR X "list.count" (rCntF X.K) := by
  intro pins s σ H x xs v us Q I rx rxs h
  obtain ⟨p, vs, y, rfl, rfl, hs, fy, fvs, q⟩ := h
  cases rx
  obtain ⟨u, rfl, ru⟩ := rxs.one
  obtain ⟨its, rv, ⟨⟨cls, dd, data, sl⟩, n, ho, hc, hdn, hd⟩, hlen⟩ := I.list hs
  simp only at hc hd
  subst hc hd
  refine call_meets PySem.F.slot_list_count ⟨_, ho, rfl⟩ PySem.F.entry_list_count (PySem.F.args_list_count_2 _ _)
    (SeqAt.list_countAt p its.toArray n dd sl u (eqU y)) ⟨ho, fun u' hu' => mem_eqAt ru fy rv fvs u' (by simpa using hu'), ?_⟩
  have ec : its.toArray.toList.countP (eqU y) = vs.countP (fun z => eqV z y) := eqU_cnt ru fy rv fvs
  refine ⟨.int (vs.countP (fun z => eqV z y) : Nat), H, I.tok _, ⟨s.toks, ?_⟩, q⟩
  show Value.int ((its.toArray.toList.countP (eqU y) : Nat) : Int) s.toks = Value.int ((vs.countP (fun z => eqV z y) : Nat) : Int) s.toks
  rw [ec]
/-- isinstance(e, c), e the exception that the suite holds, with a dict or without -/
def rIsX (K : PySem.W.Frag) (D a : Addr) (d : Option Addr) : List V → Hp → VK → Prop := fun xs H Q => ∃ (c : V) (cv : Value) (b : Bool), xs = [.ref a, c] ∧ (∀ u, RelV c u → u = cv) ∧ PySem.W.kitOne K (.ref D) cv = some b ∧ (∀ dd, d = some dd → ∃ fs, H dd = some (.xd fs)) ∧ Q (.bl b) H
theorem call_isX {a D : Addr} {d : Option Addr} {oe : Obj} {pn : List (Addr × Obj)} (C : ExcC X.K D) (hz : Zc (.ref D) d oe) (hf : ∃ vs, oe.data = .fields vs) : CallR (X.suite a ((a, oe) :: pn)) (.builtin "isinstance") (rIsX X.K D a d) := by
  intro pins s σ H xs us Q I r h
  obtain ⟨c, cv, b, rfl, hcv, e, hd, q⟩ := h
  cases r with
  | cons rx rr =>
    cases rr with
    | cons rt rr =>
      cases rr
      cases rx
      have ec := hcv _ rt
      subst ec
      obtain ⟨hget, _⟩ := I.pin (a, oe) (List.mem_append.mpr (.inl List.mem_cons_self))
      obtain ⟨vs, hv⟩ := hf
      obtain ⟨od, J⟩ : ∃ od : Option Obj, PySem.W.InstAt s.heap a oe D od := by
        have nc : PySem.W.notCls oe = true := by unfold PySem.W.notCls; rw [hv] <;> rfl
        cases d with
        | none => exact ⟨none, hget, hz.1, nc, by rw [hz.2]; trivial⟩
        | some dd =>
          obtain ⟨fs, hx⟩ := hd dd rfl
          obtain ⟨mA, hns, _⟩ := I.hok dd _ hx
          obtain ⟨od, ho, _⟩ := lookIn_ns hns
          exact ⟨some od, hget, hz.1, nc, by rw [hz.2]; exact ho⟩
      have hcl : (PySem.W.clsIn X.K D).isSome = true := by
        obtain ⟨cd, hc, _⟩ := PySem.W.any_some C.hd
        rw [hc]; rfl
      exact PySem.W.kia_one (PySem.W.kitx_exc hcl C.hg C.hk C.hs C.ha C.hn C.ht C.hm) I.kIn J e (fun z => nomatch z) fun tk => ⟨.bl b, H, I.kept (t' := tk) fun _ _ z => z, rfl, q⟩
end
end Fw

set_option Elab.async false
set_option linter.all false
set_option maxRecDepth 100000
set_option maxHeartbeats 4000000
/-! Xc1: defs that may raise -/
namespace Fw
open PySem PySem.Spec PyProof.Rows L2
/-- what never raises may be called from what does -/
theorem fn_up {P : Program} {w : World} {K : PySem.W.Frag} {mg : Str → Option Value} {base : Heap} {CX : CXT} {k : Nat} {f : Addr} {fd : FuncData} {ps : List Str} {sp : Sp} (F : FnOk P w K mg base CX0 k f fd ps sp) : FnOk P w K mg base CX k f fd ps sp :=
  ⟨F.len, fun A outer s H args us vs Q E hr e0 hb hv hs => codeAny_mono (F.run A outer s H args us vs Q E hr e0 hb hv hs) fun r s' h => by
    cases r with
    | error e => exact (show False from h).elim
    | ok fl =>
      cases fl with
      | ret u => exact h
      | next => exact h.elim
      | brk => exact h.elim
      | cont => exact h.elim⟩
theorem Cal.up {P : Program} {w : World} {K : PySem.W.Frag} {mg : Str → Option Value} {base : Heap} {CX : CXT} {k : Nat} {x : Str} {sp : Sp} (c : Cal P w K mg base CX0 k x sp) : Cal P w K mg base CX k x sp := by
  obtain ⟨f, fd, ps, F, r⟩ := c.ex
  exact ⟨f, fd, ps, fn_up F, r⟩
section
variable {X : Cx} {k : Nat} {x : Str} {sp : Sp} {E : XK} {p pos : Pos} {e : Expr} {es : List Expr} {t : TA}
/-- a call from a def that may raise: E is what the callee may let out -/
theorem pe_calX (c : Cal X.prog X.w X.K X.mg X.base (L2.CX X.prog X.w) k x sp) (hx : Passes (L2.CX X.prog X.w) X E) (hr : Room k X.A) (ha : PA X (e :: es) t) (hg : Gl X x := by rfl) (hdb : (x == ("__debug__" : Str)) = false := by decide)
    (he : starEach (e :: es) X.env = (false, eval e X.env) :: starEach es X.env := by rfl) (hpl : (backTo pos (starEach es X.env)).any (·.1) = false := by rfl) : PE X (.Call (.Name x p) (e :: es) [] pos) (tCall sp [] E t) := by
  obtain ⟨f, fd, ps, F, hm, hk, hb⟩ := c.ex
  exact pe_call F hr hg hm hk hb .nil hx ha hdb he hpl
theorem pe_cal0 (c : Cal X.prog X.w X.K X.mg X.base CX0 k x sp) (hr : Room k X.A) (ha : PA X (e :: es) t) (hg : Gl X x := by rfl) (hdb : (x == ("__debug__" : Str)) = false := by decide)
    (he : starEach (e :: es) X.env = (false, eval e X.env) :: starEach es X.env := by rfl) (hpl : (backTo pos (starEach es X.env)).any (·.1) = false := by rfl) : PE X (.Call (.Name x p) (e :: es) [] pos) (tCall sp [] E0 t) := pe_cal c hr ha hg hdb he hpl
end
section
variable {P : Program} {w : World} {K : PySem.W.Frag} {mg : Str → Option Value} {base : Heap} {ix : IXT}
/-- a def that may raise -/
theorem fn_okX {x qual : Str} {st : Stmt} {f : Addr} {fd : FuncData} {N ps : List Str} {k n : Nat} {t : XK → TS} {m : MSt} (Fu : Fun K x qual st f fd) (S : FnScope N ps (defScope st)) (hn : ps.length = n) (hr : ∀ E, RS K E ix (t E) m)
    (hp : ∀ (cdv : Value) (A : Around) (outer : List Env) (s : Shared) (H : Hp) (E : XK), Room k (A.deeper (envOfC qual (defScope st) s.heap.objs.size f cdv)) →
      Takes (cxOf (L2.CX P w) P w K mg base N qual (defScope st) f cdv A outer s H E) (fun cls d _ H' => E cls d H') → PSs (cxOf (L2.CX P w) P w K mg base N qual (defScope st) f cdv A outer s H E) (defBody st) (t E)) : FnOk P w K mg base (L2.CX P w) (k + 1) f fd ps (spOf K ix n (phi N.length m)) := by
  refine Fun.okX Fu S (fun vs H Q E h => by rw [spOf_len h, hn]) fun cdv A outer s H vs Q E hroom hsp => ⟨t E, hp cdv A outer s H E hroom (takes_of rfl rfl rfl rfl), ?_⟩
  exact pure_fn (hr E) hsp
end
section
variable {K : PySem.W.Frag} {E : XK} {ix : IXT} {F : Fx} {ρ ρ' : List Sl} {g g' g1 : G} {σ σ' : L2.St} {H H' H1 : Hp} {b b1 b2 : Bool} {t ta tb : TE} {m ma mb : MV D}
/-- raise X(..), X the class of the number c, at C, without a field -/
def mRaise0 (c : Nat) (m : MV D) : MSt := fun ρ g => match m ρ g with
  | some (.ok _, g1) => some (.ex ⟨c, .non⟩, ρ, g1)
  | some (.ex x, g1) => some (.ex x, ρ, g1)
  | none => none
def tRaise0 (E : XK) (C : Addr) (t : TE) : TS := fun _ σ H => t σ H fun _ H1 => E (.ref C) none H1
theorem rs_raise0 {c : Nat} {C : Addr} (h : RE K E ix b t m) (hix : ∀ H, ix ⟨c, .non⟩ (.ref C) none H) : RS K E ix (tRaise0 E C t) (mRaise0 c m) := fun F ρ g σ H R fl ρ' g' e De q => by
  unfold mRaise0 at e
  split at e
  · rename_i d g1 hm
    cases e
    exact h F ρ g σ H R _ _ hm _ fun v H1 e1 k1 _ => q _ _ H1 (R.ext.trans e1) k1 (hix H1)
  · rename_i x g1 hm
    cases e
    exact h F ρ g σ H R _ _ hm _ (XPost.mono R.ext q)
  · cases e
/-- f"text {i}" -/
def fJs (z : Str) (d : D) : Option D := match d with
  | .int i => if (decide (i.natAbs.log2 < 1920) && (small (Str.empty ++ z).length && small ((Str.empty ++ z) ++ Str.ofString (toString i)).length)) = true then some (.str ((Str.empty ++ z) ++ Str.ofString (toString i))) else none
  | _ => none
def mJs (z : Str) (m : MV D) : MV D := mbind m fun d => mlift (fJs z d)
def tJsI (z : Str) (t : TE) : TE := fun σ H Q => tJs [tC (.str z), tFmt t] Str.empty σ H fun out H1 => Q (.str out) H1
theorem re_js {z : Str} (h : RE K E ix b1 t m) (hz : (Str.empty ++ z).length ≤ sizeLine := by decide +kernel) : RE K E ix b (tJsI z t) (mJs z m) := fun F ρ g σ H R r g' e Q q => by
  refine ⟨z, rfl, hz, ?_⟩
  refine h.one R e q.x fun d v H1 g1 e1 R1 i1 k1 => ?_
  obtain ⟨c, hc, rfl, rfl⟩ := mlift_some k1
  unfold fJs at hc
  split at hc
  · rename_i i
    split at hc
    · rename_i hs
      cases hc
      simp only [Bool.and_eq_true, decide_eq_true_eq] at hs
      cases (show v = .int i from i1)
      exact .inr ⟨i, rfl, hs.1, _, rfl, Nat.le_of_lt (small_line hs.2.2), q _ H1 e1 R1.gok rfl⟩
    · cases hc
  · cases hc
end
section
variable {X : Cx}
theorem pe_jsI {z : Str} {te : TE} {e : Expr} {j : Nat} {p p2 pos : Pos} (he : PE X e te) : PE X (.JoinedStr [.Constant (.str z) j p, .FormattedValue e (-1) none p2] pos) (tJsI z te) :=
  pe_joined (.cons pe_str (.cons (pe_fmt he) .nil))
end
/-- a class of the program's own over ValueError, without an __init__ of its own -/
structure XCls (K : PySem.W.Frag) (mg : Str → Option Value) (x : Str) (C : Addr) : Prop where
  g : mg x = some (.ref C)
  ex : PySem.W.excIn K C [.type "ValueError", .type "Exception", .type "BaseException", .type "object"] "ValueError.__new__" = true
  k : PySem.W.keepIn K (.ref C) = true
  s : PySem.W.subIn K (.ref C) (.type "BaseException") = some true
  t : PySem.W.typeIn K (.ref C) = some (.type "type")
theorem XCls.r {X : Cx} {x : Str} {C : Addr} (h : XCls X.K X.mg x C) : Raises X (.ref C) := raises_own h.s h.t
/-- class and field of an exception of the number n -/
def excFld : Nat → Option (Str × Str)
  | 0 => some ("BadSeller", "number")
  | 1 => some ("BadBuyer", "number")
  | 2 => some ("NoBuyer", "number")
  | 3 => some ("BadDeed", "number")
  | 4 => some ("BadPrices", "good")
  | 5 => some ("BadDealing", "buyer")
  | 6 => some ("BadText", "row")
  | _ => none
/-- what an exception of the number n is: 7 BadCount, 8 TooMany; those with a field -/
def ixX (cs : Str → Addr) : IXT := fun x cls dd H => match x.cls with
  | 7 => cls = .ref (cs "BadCount") ∧ dd = none
  | 8 => cls = .ref (cs "TooMany") ∧ dd = none
  | n => match excFld n with
    | some (c, f) => cls = .ref (cs c) ∧ ∃ (p : Addr) (i : Int), dd = some p ∧ x.arg = .int i ∧ H p = some (.xd [(f, .int i)])
    | none => False
end Fw

set_option Elab.async false
set_option linter.all false
set_option maxRecDepth 100000
set_option maxHeartbeats 2000000
/-! En: the end where defs hold lambdas; what is known of the exceptions' classes, as one look at the top -/
namespace Fw
open PySem PySem.Spec PyProof.Rows L2 LamX
/-- code objects and tables of the defs of these names -/
def csOf (K : PySem.W.Frag) (xs : List Str) : List (Addr × Addr) := xs.filterMap (PySem.W.tabIn K)
theorem walk_all {l : PySem.W.OpenLaw} {n k : Nat} {q : Program} {loose : List Str} {XP : (Str → Option Value) → Heap → Prop} {YP : World → Heap → Prop} {d : DefRec} {K : Params → PySem.W.Frag} {CX : World → CXT} {x : Str} (xs : List Str)
    (hn : l.most = some n) (hn2 : n ≤ sizeLine) (hdf : d.params.defaults = []) (hr : Room k callerA) (hrec : (xs.all fun y => ((recsOf q).find? (fun e => e.name == y)).isSome) = true) (hY : ∀ (w : World) (h : Heap), YP w h → (K w.params).In h)
    (hK : ∀ w : World, ((csOf (K w.params) xs).all fun p => ((K w.params).lookup p.2).isNone) = true)
    (F : ∀ (w : World) (mg : Str → Option Value) (fa : Addr) (h : Heap), YP w h → (K w.params).In h → h.Ns mainGlobals mg → mg d.name = some (.ref fa) →
      ∃ (fd : FuncData) (sp : Sp), (∀ (s : Shared) (u : Value), BindsTo s fd ⟨[u], []⟩ [(x, u)]) ∧
        (∀ (H : Hp) (a : Addr) (ns : List Int), ns.length ≤ n → (∀ z ∈ ns, Builtin.Int.intBits z ≤ 1048576) → (∀ p ∈ csOf (K w.params) xs, H p.2 = some (.tbl #[])) → SqL (K w.params) H a (ns.map V.int) → sp [.ref a] H (fun v _ => v = .bl true) fun _ _ _ => False) ∧
        ∀ base : Heap, (K w.params).In base → base.Ns mainGlobals mg → (∀ p ∈ csOf (K w.params) xs, TabB base mg p.1 p.2) → FnOk l.prog w (K w.params) mg base (CX w) k fa fd [x] sp)
    (hCX : ∀ (w : World) (H : Hp) (s : Shared) (e : Value) (s' : Shared), CX w [] H s (fun _ _ _ => False) e s' → False) :
    PySem.W.WalkO q loose XP YP l.row.toRowW d [] (fun f vs => PySem.call f vs) := by
  refine Att.attach_callB hn hdf fun w s₀ s₁ mg mb fa o pm cd doc a vs ns G Y ho hd hcd hmg hobj hints hlen hbits hg => ?_
  have KX := hY w _ Y
  obtain ⟨fd, sp, hb, hsp, hF⟩ := F w mg fa _ Y KX G.T.g hmg
  have at_ : ∀ p ∈ csOf (K w.params) xs, PySem.W.CodeHd s₁.heap p.1 p.2 ∧ s₁.heap.get? p.2 = some { cls := .none, data := .fields #[] } := fun p hp => by
    obtain ⟨y, hy, ht⟩ := List.mem_filterMap.mp hp
    have := List.all_eq_true.mp hrec y hy
    obtain ⟨r, hr⟩ := Option.isSome_iff_exists.mp this
    exact PySem.W.tab_of (c := p.1) (P := p.2) G.T KX hr ht
  exact law_callTs KX G.T.g G.T.b G.T.builtins G.T.nolimit hg (fun p hp => (at_ p hp).2) (fun p hp => Option.isNone_iff_eq_none.mp (List.all_eq_true.mp (hK w) p hp)) (fun p hp => (at_ p hp).1) G.T.bmain hobj hints (Nat.le_trans hlen hn2) hr hF hb (fun H hH hS => hsp H a ns hlen hbits hH hS) fun H e s' => hCX w H s₁ e s'
/-- all tables that the frame follows are among these -/
def tabsIn (K : PySem.W.Frag) (xs : List Str) : Bool := (tabsK K).all fun p => (csOf K xs).any fun c => c.2 == p.1
theorem tabs_all {K : PySem.W.Frag} {xs : List Str} {H : Hp} (h : tabsIn K xs = true) (hH : ∀ p ∈ csOf K xs, H p.2 = some (.tbl #[])) : Tabs (tabsK K) H := fun p hp => by
  obtain ⟨c, hc, e⟩ := List.any_eq_true.mp (List.all_eq_true.mp h p hp)
  have e : c.2 = p.1 := beq_iff_eq.mp e
  exact TabS.nil (by rw [← e]; exact hH c hc)
/-- the def y has a table that is followed -/
def lamTab (K : PySem.W.Frag) (y q : Str) : Bool := match PySem.W.tabIn K y with
  | some (_, P) => ((tabsK K).any fun p => p.1 == P && p.2 == q) && (tabsK K).all fun p => !(p.1 == P) || p.2 == q
  | none => false
theorem lam_at {K : PySem.W.Frag} {y q : Str} {xs : List Str} {f : Addr} {oc : Value} {od : Option Addr} {fd : FuncData} {sl : Array (Option Value)} (h : lamTab K y q = true) (hy : y ∈ xs) (a : PySem.W.nsIn K mainGlobals y = some (some (.ref f))) (l : K.lookup f = some ⟨oc, od, .func fd, sl⟩) :
    ∃ c P, fd.code = .ref c ∧ (c, P) ∈ csOf K xs ∧ (P, q) ∈ tabsK K ∧ ∀ p ∈ tabsK K, p.1 = P → p.2 = q := by
  unfold lamTab at h
  split at h
  · rename_i c P ht
    rw [Bool.and_eq_true] at h
    obtain ⟨h1, h2⟩ := h
    have ht' := ht
    unfold PySem.W.tabIn at ht'
    rw [a] at ht'
    dsimp only at ht'
    rw [l] at ht'
    dsimp only at ht'
    split at ht'
    · rename_i c2 hc
      split at ht'
      · split at ht'
        · cases ht'
          refine ⟨c, P, hc, List.mem_filterMap.mpr ⟨y, hy, ht⟩, ?_, fun p hp e => ?_⟩
          · obtain ⟨p, hp, e⟩ := List.any_eq_true.mp h1
            rw [Bool.and_eq_true, beq_iff_eq, beq_iff_eq] at e
            rw [← e.1, ← e.2]
            exact hp
          · have := List.all_eq_true.mp h2 p hp
            rw [e] at this
            simpa using this
        · cases ht'
      · cases ht'
    · cases ht'
  · cases h
/-! ### the classes -/
def excAll : List Str := ["BadSeller", "BadBuyer", "NoBuyer", "BadDeed", "BadPrices", "BadDealing", "BadText", "BadCount", "TooMany"]
/-- the address of the class x -/
def csK (K : PySem.W.Frag) (x : Str) : Addr := match PySem.W.nsIn K mainGlobals x with
  | some (some (.ref a)) => a
  | _ => 0
def gloB (K : PySem.W.Frag) (x : Str) : Bool := match PySem.W.nsIn K mainGlobals x with
  | some (some (.ref _)) => true
  | _ => false
theorem gloB_mg {K : PySem.W.Frag} {h : Heap} {mg : Str → Option Value} {x : Str} (X : K.In h) (G : h.Ns mainGlobals mg) (e : gloB K x = true) : mg x = some (.ref (csK K x)) := by
  unfold gloB at e
  split at e
  · rename_i a ha
    have : csK K x = a := by unfold csK; rw [ha]
    rw [this]
    exact PySem.W.mg_of X G ha
  · cases e
def excCB (K : PySem.W.Frag) (D : Addr) : Bool := decide (PySem.W.findIn K (.ref D) "__getattribute__" = some (some (.builtin "BaseException.__getattribute__"))) && (decide (PySem.W.findIn K (.ref D) "__getattr__" = some none) && (decide (PySem.W.subIn K (.ref D) (.type "BaseException") = some true) && (PySem.W.hasDictIn K D &&
  (decide (PySem.W.findIn K (.ref D) "__class__" = some (some (.builtin "object.__class__"))) && (decide (PySem.W.specialIn K (.builtin "object.__class__") "__get__" = some (some (.builtin "getset_descriptor.__get__"))) && (decide (PySem.W.takesIn K (.builtin "object.__class__") = some true) && decide (PySem.W.mroIn K D (.type "object") = some true)))))))
theorem excCB_ok {K : PySem.W.Frag} {D : Addr} (h : excCB K D = true) : ExcC K D := by
  unfold excCB at h
  simp only [Bool.and_eq_true, decide_eq_true_eq] at h
  obtain ⟨h1, h2, h3, h4, h5, h6, h7, h8⟩ := h
  exact ⟨h1, h2, h3, h4, h5, h6, h7, h8⟩
structure XFacts (K : PySem.W.Frag) (mg : Str → Option Value) : Prop where
  hm : ∀ x, x ∈ excAll → mg x = some (.ref (csK K x))
  hP : mg "PriceError" = some (.ref (csK K "PriceError"))
  isC : ∀ n, n ∈ excAll → ExcC K (csK K n)
  xf : ∀ n, n ∈ excAll → XfC K (csK K n)
  no : ∀ n, n ∈ excAll → ∀ f, f ∈ ([("number" : Str), "good", "buyer", "row"]) → PySem.W.findIn K (.ref (csK K n)) f = some none
  ex : ∀ n, n ∈ excAll → PySem.W.exmOne K (.ref (csK K n)) (.ref (csK K "PriceError")) = some true
  ve : ∀ n, n ∈ excAll → PySem.W.kitOne K (.ref (csK K n)) (.type "ValueError") = some true
  kit : ∀ n, n ∈ excAll → ∀ x, x ∈ excAll → PySem.W.kitOne K (.ref (csK K n)) (.ref (csK K x)) = some (decide (x = n))
def xfactsB (K : PySem.W.Frag) : Bool := gloB K "PriceError" && excAll.all fun n => gloB K n && (excCB K (csK K n) && (xfB K (csK K n) && ((([("number" : Str), "good", "buyer", "row"]).all fun f => decide (PySem.W.findIn K (.ref (csK K n)) f = some none)) &&
  (decide (PySem.W.exmOne K (.ref (csK K n)) (.ref (csK K "PriceError")) = some true) && (decide (PySem.W.kitOne K (.ref (csK K n)) (.type "ValueError") = some true) &&
  excAll.all fun x => decide (PySem.W.kitOne K (.ref (csK K n)) (.ref (csK K x)) = some (decide (x = n))))))))
theorem xfacts_of {K : PySem.W.Frag} {h : Heap} {mg : Str → Option Value} (X : K.In h) (G : h.Ns mainGlobals mg) (e : xfactsB K = true) : XFacts K mg := by
  unfold xfactsB at e
  simp only [Bool.and_eq_true, List.all_eq_true, decide_eq_true_eq] at e
  obtain ⟨e0, e⟩ := e
  exact { hm := fun x hx => gloB_mg X G (e x hx).1, hP := gloB_mg X G e0, isC := fun n hn => excCB_ok (e n hn).2.1, xf := fun n hn => xfB_ok (e n hn).2.2.1, no := fun n hn f hf => (e n hn).2.2.2.1 f hf, ex := fun n hn => (e n hn).2.2.2.2.1, ve := fun n hn => (e n hn).2.2.2.2.2.1, kit := fun n hn x hx => (e n hn).2.2.2.2.2.2 x hx }
/-- a class that is raised as it is made by ValueError -/
def xclsB (K : PySem.W.Frag) (x : Str) : Bool := gloB K x && (PySem.W.excIn K (csK K x) [.type "ValueError", .type "Exception", .type "BaseException", .type "object"] "ValueError.__new__" && (PySem.W.keepIn K (.ref (csK K x)) && (decide (PySem.W.subIn K (.ref (csK K x)) (.type "BaseException") = some true) && decide (PySem.W.typeIn K (.ref (csK K x)) = some (.type "type")))))
theorem xcls_of {K : PySem.W.Frag} {h : Heap} {mg : Str → Option Value} {x : Str} (X : K.In h) (G : h.Ns mainGlobals mg) (e : xclsB K x = true) : XCls K mg x (csK K x) := by
  unfold xclsB at e
  simp only [Bool.and_eq_true, decide_eq_true_eq] at e
  obtain ⟨e0, e1, e2, e3, e4⟩ := e
  exact ⟨gloB_mg X G e0, e1, e2, e3, e4⟩
theorem endF {l : PySem.W.OpenLaw} {w : World} {K : PySem.W.Frag} {mg : Str → Option Value} {fa : Addr} {k : Nat} {x : Str} {xs : List Str} (ht : tabsIn K xs = true)
    (z : ∃ fd : FuncData, (∀ (s : Shared) (v : Value), BindsTo s fd ⟨[v], []⟩ [(x, v)]) ∧ ∀ base : Heap, K.In base → base.Ns mainGlobals mg → (∀ p ∈ csOf K xs, TabB base mg p.1 p.2) → FnOk l.prog w K mg base CX0 k fa fd [x] (spLaw K)) :
    ∃ (fd : FuncData) (sp : Sp), (∀ (s : Shared) (u : Value), BindsTo s fd ⟨[u], []⟩ [(x, u)]) ∧
        (∀ (H : Hp) (a : Addr) (ns : List Int), ns.length ≤ 63 → (∀ z ∈ ns, Builtin.Int.intBits z ≤ 1048576) → (∀ p ∈ csOf K xs, H p.2 = some (.tbl #[])) → SqL K H a (ns.map V.int) → sp [.ref a] H (fun v _ => v = .bl true) fun _ _ _ => False) ∧
        ∀ base : Heap, K.In base → base.Ns mainGlobals mg → (∀ p ∈ csOf K xs, TabB base mg p.1 p.2) → FnOk l.prog w K mg base CX0 k fa fd [x] sp := by
  obtain ⟨fd, h1, h2⟩ := z
  exact ⟨fd, spLaw K, h1, fun H a ns hl _ hT hS => ⟨a, ns, rfl, hS, hl, tabs_all ht hT, fun _ => rfl⟩, h2⟩
end Fw

set_option Elab.async false
set_option linter.all false
set_option maxRecDepth 100000
set_option maxHeartbeats 4000000
/-! Xk: an own exception class with its own __init__, made by keywords -/
namespace PySem
namespace XKw
open PySem.W PySem.Calls
open PyProof.Rows PySem.HandSPX
section
variable {prog : Program} {w : World} {M : Model} {A : Around} {E : Value → Shared → Prop} {R : Result → Shared → Prop} {h : Heap} {g : Array GenState} {d : Drawn} {t : Nat} {os : OsState} {kw : List (Str × Value)} {nm q : Str} {C N : Addr} {bs bm bmB : List Value} {hdct : Bool} {sn : List Str} {sub : List Value} {ab : Bool} {col : Option Bool} {dd : Option Addr} {k0 k1 k2 k3 k5 : Option Value} {B newId initId : String}
theorem has_B (F : ExcBaseFacts B newId initId bmB) (hT : ∀ X : String, bm.contains (.type X) = bmB.contains (.type X)) : (Value.ref C :: bm).contains (.type B) = true ∧ (Value.ref C :: bm).contains (.type "AttributeError") = false ∧ (Value.ref C :: bm).contains (.type "NameError") = false :=
  ⟨(by rw [List.contains_cons, hT, F.hasB]; exact Bool.or_true _), (by rw [List.contains_cons, hT, F.noAttr] <;> rfl), by rw [List.contains_cons, hT, F.noName] <;> rfl⟩
theorem ck_newK (F : ExcBaseFacts B newId initId bmB) (hT : ∀ X : String, bm.contains (.type X) = bmB.contains (.type X)) {rest : List Value} {Q : Unit → Shared → Prop} (hC : h.get? C = some (excClassObj nm q C N bs bm hdct sn sub ab col dd k0 k1 k2 k3 k5 newId)) (hq : Q () ⟨h, g, d, t, os⟩) :
    wpAny M A (checkBuiltinCall newId ⟨.ref C :: rest, kw⟩) Q E ⟨h, g, d, t, os⟩ := by
  have star := F.noStar
  have hcont := (has_B (C := C) F hT).1
  simp only [checkBuiltinCall, F.newKind, F.newSplit, F.newRow] <;>
  (repeat (first | refine wpAny_loadPart_at hC ?_ | (refine wpAny_isSubtype_exc hC ?_; rw [hcont]) | refine wpAny_staticBase_exc hC ?_ | refine wpAny_madeBy_exc hC ?_ | (simp only [bne_self_eq_false, Bool.false_eq_true, if_false]) | wp_step))
  all_goals exact hq
theorem newK (F : ExcBaseFacts B newId initId bmB) (hT : ∀ X : String, bm.contains (.type X) = bmB.contains (.type X)) {rest : List Value} (hC : h.get? C = some (excClassObj nm q C N bs bm hdct sn sub ab col dd k0 k1 k2 k3 k5 newId))
    (hq : R (.ok (.ret (.ref (h.objs.size + 1)))) ⟨(h.push (W.kdv_tup rest)).push (excO C h.objs.size), g, d, t, os⟩) (hrest : rest.length ≤ sizeLine) : codeAny (model prog w) A (.builtin newId ⟨.ref C :: rest, kw⟩) R ⟨h, g, d, t, os⟩ := by
  obtain ⟨hcB, hcA, hcN⟩ := has_B (C := C) F hT
  have ends := F.ends
  refine codeAny_builtinAt F.entry ?_ <;> unfold Builtin.«BaseException.__new__»
  refine wpAt_bind ?_ <;> show wpAt _ _ _ (stack >>= _) _ _ _
  refine wpAt_bind (wpAt_stack fun p below => wpAt_of_wpAny ?_) <;> wp_walk
  refine wpAt_of_wpAny ?_ <;> rw [F.owner] <;>
  (repeat (first | with_reducible refine wpAny_madeHere_exc F.canon hC ?_ | with_reducible refine wpAny_loadPart_at hC ?_ | (with_reducible refine wpAny_isSubtype_exc hC ?_; (first | rw [hcB] | rw [hcA] | rw [hcN])) | wp_step))
  show R _ _ <;> rw [Heap.size_push] <;> exact hq
theorem typeCallK (F : ExcBaseFacts B newId initId bmB) (hT : ∀ X : String, bm.contains (.type X) = bmB.contains (.type X)) {rest : List Value} {fI : Addr} {Q : Fin → Shared → Prop} (hC : h.get? C = some (excClassObj nm q C N bs bm hdct sn sub ab col dd k0 k1 k2 k3 k5 newId))
    (hrest : rest.length ≤ sizeLine) (hi : W.Looks (model prog w) h (typeLookup (.ref C) "__init__") (some (.ref fI))) (hb : ∀ self, W.Looks (model prog w) h (bindSpecial (.ref fI) self) (.ref fI, [self]))
    (hq : codeAny (model prog w) A (.call (.ref fI) ⟨.ref (h.objs.size + 1) :: rest, kw⟩) (fun r s' => match r with | .ok (.ret v) => v = .none ∧ Q (.done (.ret (.ref (h.objs.size + 1)))) s' | .ok _ => False | .error e => E e s') ⟨(h.push (W.kdv_tup rest)).push (excO C h.objs.size), g, d, t, os⟩) :
    wpAny (model prog w) A (Builtin.«type.__call__» ⟨.ref C :: rest, kw⟩) Q E ⟨h, g, d, t, os⟩ := by
  (repeat (first | with_reducible refine wpAny_loadPart_at hC ?_ | with_reducible refine wpAny_madeBy_exc hC ?_ | wp_step)) <;>
  refine codeAny_call_builtin_code (Code.quiet_builtin _ F.quiet) (ck_newK F hT hC ?_) <;> refine newK F hT hC ?_ hrest <;> show wpAny _ _ _ _ _ _
  have kk : ∀ b o, h.get? b = some o → ((h.push (W.kdv_tup rest)).push (excO C h.objs.size)).get? b = some o := fun b o e => Heap.get?_push_of_some _ (Heap.get?_push_of_some _ e)
  have hD := kk _ _ hC
  have gt : ((h.push (W.kdv_tup rest)).push (excO C h.objs.size)).get? (h.objs.size + 1) = some (excO C h.objs.size) := by heap_get
  have own : (Value.ref C :: bm).contains (.ref C) = true := by simp
  have j1 := hi.keeps kk
  have b1 := (hb (.ref (h.objs.size + 1))).keeps kk
  unfold isInstance <;>
  (repeat (first | with_reducible refine wpAny_loadPart_at gt ?_ | (with_reducible refine wpAny_isSubtype_exc hD ?_; rw [own]) | wp_step))
  show wpAny _ _ (typeLookup (.ref C) _) _ _ _ <;> refine j1.at ?_
  refine wpAny_holding (wpAny_bind (b1.at ?_)) <;> refine wpAny_bind (wpAny_call (codeAny_mono hq fun r s' z => ?_))
  cases r with
  | error e => exact z
  | ok fl =>
    cases fl with
    | ret v =>
      obtain ⟨ev, z⟩ := z
      subst ev
      first
        | (exact wpAny_pure (wpAny_pure z)) | (wp_walk; exact z)
    | next => exact z.elim
    | brk => exact z.elim
    | cont => exact z.elim
theorem ck_tc {rest : List Value} {Q : Unit → Shared → Prop} (hC : h.get? C = some (excClassObj nm q C N bs bm hdct sn sub ab col dd k0 k1 k2 k3 k5 newId)) (hq : Q () ⟨h, g, d, t, os⟩) : wpAny M A (checkBuiltinCall "type.__call__" ⟨.ref C :: rest, kw⟩) Q E ⟨h, g, d, t, os⟩ := by
  have f3 := tc_sub
  have tt : (⟨h, g, d, t, os⟩ : Shared).TypeIs (.ref C) "type" := ⟨_, hC, rfl⟩
  simp only [checkBuiltinCall, tc_kind, tc_split] <;>
  (repeat (any_goals (first | assumption | with_reducible refine wpAny_loadPart_at hC ?_ | with_reducible refine wpAny_onRaise ?_ | with_reducible refine wpAny_map ?_ | wp_step)))
theorem callK (F : ExcBaseFacts B newId initId bmB) (hT : ∀ X : String, bm.contains (.type X) = bmB.contains (.type X)) {rest : List Value} {fI : Addr} (hC : h.get? C = some (excClassObj nm q C N bs bm hdct sn sub ab col dd k0 k1 k2 k3 k5 newId))
    (hrest : rest.length ≤ sizeLine) (hi : W.Looks (model prog w) h (typeLookup (.ref C) "__init__") (some (.ref fI))) (hb : ∀ self, W.Looks (model prog w) h (bindSpecial (.ref fI) self) (.ref fI, [self]))
    (hq : codeAny (model prog w) (A.under (.builtin "type.__call__" ⟨.ref C :: rest, kw⟩)) (.call (.ref fI) ⟨.ref (h.objs.size + 1) :: rest, kw⟩) (W.InitBack (h.objs.size + 1) R) ⟨(h.push (W.kdv_tup rest)).push (excO C h.objs.size), g, d, t, os⟩) : codeAny (model prog w) A (.call (.ref C) ⟨rest, kw⟩) R ⟨h, g, d, t, os⟩ := by
  have f1 := tc_lookup
  have f2 := tc_bind (.ref C)
  have tt : (⟨h, g, d, t, os⟩ : Shared).TypeIs (.ref C) "type" := ⟨_, hC, rfl⟩
  refine codeAny_of_tree ?_ <;> show wpAny _ _ (callAny (.ref C) _) _ _ _ <;>
  (repeat (any_goals (first | assumption | with_reducible refine wpAny_loadPart_at hC ?_ | wp_step)))
  refine ⟨rfl, ?_⟩ <;> refine codeAny_call_builtin_at (Code.quiet_builtin _ (by decide +kernel)) entry_typeCall (ck_tc hC (typeCallK F hT hC hrest hi hb ?_))
  refine codeAny_mono hq fun r s' z => ?_ <;> rcases r with e | (v | _ | _ | _) <;> exact z
end
end XKw
end PySem

set_option Elab.async false
set_option linter.all false
set_option maxRecDepth 100000
set_option maxHeartbeats 4000000
/-! Xi: raise C(f = e), C a class over PriceError whose __init__ hands a text on and keeps one field -/
namespace Fw
open PySem PySem.Spec PyProof.Rows L2
/-- what C's own __init__ does with a new exception -/
def spInit (ok : Int → Bool) (K : PySem.W.Frag) (C : Addr) (fld : Str) : Sp := fun vs H Q _ => ∃ (a : Addr) (i : Int), vs = [.ref a, .int i] ∧ ok i = true ∧ OexC K C ∧ PySem.W.findIn K (.ref C) fld = some none ∧ H a = some (exo a C none) ∧
  ∀ d, H d = none → d ≠ a → Q .non (upd (upd H d (exd d [(fld, .int i)])) a (exo a C (some d)))
/-- the class PriceError stands at CP: its __init__ is ValueError's -/
structure PeC (K : PySem.W.Frag) (CP : Addr) : Prop where
  ga : PySem.W.specialIn K (.ref CP) "__getattribute__" = some (some (.builtin "type.__getattribute__"))
  rd : PySem.W.readsIn K CP (.type "type") = true
  ini : PySem.W.findCls K (.ref CP) (.type "type") "__init__" = some (.val (.builtin "ValueError.__init__"))
section
variable {X : Cx}
/-- PriceError.__init__(self, e) -/
theorem pe_pinit {x : Str} {CP : Addr} {e : Expr} {es : List Expr} {ta : TA} {p1 p2 pos : Pos} {pl : Sem Bool} (T : PeC X.K CP) (hg : Gl X x) (hm : X.mg x = some (.ref CP)) (ha : PA X (e :: es) ta)
    (hc : eval (.Call (.Attribute (.Name x p1) "__init__" p2) (e :: es) [] pos) X.env = (do
      let ov ← eval (.Name x p1) X.env
      standAt p2.atName
      let (f, first) ← holding [ov] (getMethod ov "__init__" pl)
      callWith pos f first (backTo pos (starEach (e :: es) X.env)) (backToKw pos (keywordEach [] X.env))) := by rfl)
    (hdb : (x == ("__debug__" : Str)) = false := by decide) (he : starEach (e :: es) X.env = (false, eval e X.env) :: starEach es X.env := by rfl) (hpl : (backTo pos (starEach es X.env)).any (·.1) = false := by rfl) :
    PE X (.Call (.Attribute (.Name x p1) "__init__" p2) (e :: es) [] pos) (tVeI X.K ta) := by
  refine ⟨fun pins s σ H Q I h => ?_⟩
  refine PySem.W.methodCall_KW (ld_glob I hg hm ?_ hdb) hc
  refine PySem.W.method_cls I.kIn T.ga (PySem.W.cls_value I.kIn T.rd T.ini (by decide +kernel) ?_)
  show wpAny _ _ (callWith pos (Value.builtin "ValueError.__init__") [] (backTo pos (starEach (e :: es) X.env)) []) _ _ _
  refine PyProof.Rows.callWith_method1 (thn (ha.run pos pins _ σ H _ (I.tok _) h) fun us s1 ⟨vs, H1, I1, r1, a, C, ws, ev, hl, T, ea, q⟩ => ?_) he hpl
  subst ev
  cases r1 with
  | @cons _ u0 _ ur ra rw' =>
    obtain rfl : u0 = Value.ref a := ra
    exact oinit_ok T I1 ea (by rw [← rw'.length, sizeLine_eq]; omega) fun s' J => ⟨.non, H1, J, rfl, q⟩
/-- C(k = e, ..), C's own __init__ keeping sp -/
def tMkK (C : Addr) (n : Nat) (sp : Sp) (tk : TA) : L2.St → Hp → XK → Prop := fun σ H Q => tk σ H fun zs H1 => zs.length = n ∧ zs.length ≤ 1000 ∧ ∀ a, H1 a = none → sp (.ref a :: zs) (upd H1 a (exo a C none))
  (fun v H2 => v = .non ∧ ∃ (d : Addr) (fs : List (Str × V)), H2 a = some (exo a C (some d)) ∧ H2 d = some (exd d fs) ∧ H1 d = none ∧ Q (.ref C) (some d) (upd (L2.del H2 a) d (.xd fs))) (fun _ _ _ => False)
theorem pmk_kw {CX : CXT} {x : Str} {C fI : Addr} {k : Nat} {fd : FuncData} {ps ks : List Str} {sp : Sp} {tk : TA} {kws : List Keyword} {p pos : Pos} {g : List Value → List Value → List Value} {gV : List V → List V → List V} (T : OexC X.K C) (iC : PySem.W.findIn X.K (.ref C) "__init__" = some (some (.ref fI)))
    (tI : PySem.W.typeIn X.K (.ref fI) = some (.type "function")) (F1 : FnOk X.prog X.w X.K X.mg X.base CX k fI fd ps sp) (hr : Room (k + 1) X.A) (hb : KBn X.K fd ps 1 ks g gV) (hgV : ∀ a zs, gV [a] zs = a :: zs) (hx : Passes CX X (fun _ _ _ => False)) (hg : Gl X x) (hm : X.mg x = some (.ref C)) (hkw : PK X kws tk)
    (hall : (backToKw pos (keywordEach kws X.env)).all (·.1.isSome) = true := by rfl) (hks : (backToKw pos (keywordEach kws X.env)).filterMap (·.1) = ks := by rfl) (hdb : (x == ("__debug__" : Str)) = false := by decide)
    (hpl : ((backTo pos (starEach [] X.env)).any (·.1) || (backToKw pos (keywordEach kws X.env)).any (·.1.isNone)) = false := by rfl) :
    PMk X (.Call (.Name x p) [] kws pos) (tMkK C ks.length sp tk) := by
  intro pins s σ H Q I h
  obtain ⟨nm, q, N, bs, bm, sn, sub, ab, col, dd, k0, k1, k2, k3, k5, hC, hbm⟩ := T.cls
  refine wpAny_Call_Name_kw (ld_glob I hg hm ?_ hdb)
  refine PySem.W.callWith_KW0 (h₀ := X.base) I.ok.mod.kin T.kC hall ?_ hpl
  refine thn (hkw.run pos pins s σ H _ I h) fun ws s1 ⟨zs, H1, I1, r1, hn1, hz, q1⟩ => ⟨I1.kIn, ?_⟩
  rw [hks]
  show wpAny _ _ (call (.ref C) [] (ks.zip ws)) _ _ _
  obtain ⟨hp, ga, dr, tk, os⟩ := s1
  have hsz : hp.objs.size ≤ hp.objs.size + 1 := Nat.le_succ _
  have hq := q1 (hp.objs.size + 1) (I1.hok.fresh hsz)
  have kk : ∀ b o, hp.get? b = some o → ((hp.push (PySem.W.kdv_tup [])).push (PySem.HandSPX.excO C hp.objs.size)).get? b = some o := fun b o e => Heap.get?_push_of_some _ (Heap.get?_push_of_some _ e)
  have hgt : ((hp.push (PySem.W.kdv_tup [])).push (PySem.HandSPX.excO C hp.objs.size)).get? (hp.objs.size + 1) = some (PySem.HandSPX.excO C hp.objs.size) := by heap_get
  have I2 : Inv X pins σ (upd H1 (hp.objs.size + 1) (exo (hp.objs.size + 1) C none)) ⟨(hp.push (PySem.W.kdv_tup [])).push (PySem.HandSPX.excO C hp.objs.size), ga, dr, tk, os⟩ :=
    I1.laid (t' := tk) (a := hp.objs.size + 1) (o := exo (hp.objs.size + 1) C none) (h' := (hp.push (PySem.W.kdv_tup [])).push (PySem.HandSPX.excO C hp.objs.size)) kk hsz (exo_ok hgt)
  have r0 : Vals [V.ref (hp.objs.size + 1)] [Value.ref (hp.objs.size + 1)] := .cons rfl .nil
  have r2 := hb.rel r0 r1
  rw [hgV] at r2
  refine wpAny_call (PySem.XKw.callK F.excBase_ValueError (fun Y => PySem.HandSPX.refsVE_contains Y bm hbm) (I1.kIn _ _ hC) (Nat.zero_le _) (PySem.W.looks_findIn I1.kIn iC) (fun self => PySem.W.bind_fn I1.kIn self tI)
    (codeAny_mono (F1.run _ X.stack _ _ ⟨[Value.ref (hp.objs.size + 1)], ks.zip ws⟩ _ _ _ (fun _ _ _ => False) (hr.make C [] (ks.zip ws)) (I2.env0.make C [] (ks.zip ws)) (hb.to _ [Value.ref (hp.objs.size + 1)] ws I2.kIn rfl (r1.length.symm.trans hn1)) r2 hq) fun r s' hq' => ?_))
  cases r with
  | error er => exact hx pins σ _ _ er s' I2 hq'
  | ok fl =>
    cases fl with
    | ret u =>
      obtain ⟨v, H2, os2, bare2, un2, hok2, rv, ev, d, fs, ea, ed, hd1, q2⟩ := hq'
      subst ev
      obtain ⟨h2, g2, d2, t2, os'⟩ := s'
      exact ⟨rv, mk_end (raises_own T.exC T.tyC) I1 hsz kk un2 hok2 os2 bare2 ea ed hd1 q2⟩
    | next => exact False.elim hq'
    | brk => exact False.elim hq'
    | cont => exact False.elim hq'
/-- raise C(f = e) -/
def tRaiseF (ok : Int → Bool) (K : PySem.W.Frag) (E : XK) (C : Addr) (fld : Str) (t : TE) : TS := fun _ σ H => tMkK C 1 (spInit ok K C fld) (tCons t tNil) σ H E
end
/-- what is known of a class with a field -/
structure XClsF (ok : Int → Bool) (P : Program) (w : World) (K : PySem.W.Frag) (mg : Str → Option Value) (base : Heap) (x fld : Str) (C : Addr) : Prop where
  g : mg x = some (.ref C)
  o : OexC K C
  no : PySem.W.findIn K (.ref C) fld = some none
  ini : ∃ (fI : Addr) (fd : FuncData) (gg : List Value → List Value → List Value) (gV : List V → List V → List V), PySem.W.findIn K (.ref C) "__init__" = some (some (.ref fI)) ∧ PySem.W.typeIn K (.ref fI) = some (.type "function") ∧
    FnOk P w K mg base CX0 1 fI fd ["self", fld] (spInit ok K C fld) ∧ KBn K fd ["self", fld] 1 [fld] gg gV ∧ ∀ a zs, gV [a] zs = a :: zs
section
variable {X : Cx}
theorem xd_eq {H : Hp} {a d C : Addr} {fs : List (Str × V)} (ha : H a = none) (hd : d ≠ a) : upd (L2.del (upd (upd (upd H a (exo a C none)) d (exd d fs)) a (exo a C (some d))) a) d (.xd fs) = upd H d (.xd fs) := by
  funext b
  by_cases h1 : b = d
  · subst h1; rw [upd_same, upd_same]
  · rw [upd_ne h1, upd_ne h1]
    by_cases h2 : b = a
    · subst h2; rw [del_same, ha]
    · rw [del_ne h2, upd_ne h2, upd_ne h1, upd_ne h2]
theorem ps_raiseF {E : XK} {ok : Int → Bool} {x fld : Str} {C : Addr} {e : Expr} {te : TE} {p p1 pos pos2 : Pos} (T : XClsF ok X.prog X.w X.K X.mg X.base x fld C) (hc : X.calm = true) (tk : Takes X (fun cls d _ H' => E cls d H')) (hr : Room 2 X.A) (hg : Gl X x) (he : PE X e te)
    (hall : (backToKw pos (keywordEach [⟨some fld, e, p1⟩] X.env)).all (·.1.isSome) = true := by rfl) (hks : (backToKw pos (keywordEach [⟨some fld, e, p1⟩] X.env)).filterMap (·.1) = [fld] := by rfl) (hdb : (x == ("__debug__" : Str)) = false := by decide)
    (hpl : ((backTo pos (starEach [] X.env)).any (·.1) || (backToKw pos (keywordEach [⟨some fld, e, p1⟩] X.env)).any (·.1.isNone)) = false := by rfl) :
    PS X (.Raise (some (.Call (.Name x p) [] [⟨some fld, e, p1⟩] pos)) none pos2) (tRaiseF ok X.K E C fld te) := by
  obtain ⟨fI, fd, gg, gV, h1, h2, F1, hb, hgV⟩ := T.ini
  exact ps_raise (pos := pos2) hc tk (pmk_kw (p := p) (pos := pos) T.o h1 h2 F1 hr hb hgV (fun _ _ _ _ _ _ _ h => (show False from h).elim) hg T.g (pk_cons (nm := some fld) (kpos := p1) he pk_nil) hall hks hdb hpl)
end
section
variable {K : PySem.W.Frag} {E : XK} {ix : IXT} {F : Fx} {ρ ρ' : List Sl} {g g' g1 : G} {σ σ' : L2.St} {H H' H1 : Hp} {b : Bool} {t : TE} {m : MV D}
/-- raise X(..), X the class of the number c, with a field -/
def mRaiseF (ok : Int → Bool) (c : Nat) (m : MV D) : MSt := fun ρ g => match m ρ g with
  | some (.ok (.int i), g1) => if ok i = true then some (.ex ⟨c, .int i⟩, ρ, g1) else none
  | some (.ex x, g1) => some (.ex x, ρ, g1)
  | _ => none
theorem rs_raiseF {ok : Int → Bool} {c : Nat} {C : Addr} {fld : Str} (T : OexC K C) (no : PySem.W.findIn K (.ref C) fld = some none) (h : RE K E ix b t m) (hix : ∀ (i : Int) (p : Addr) (H : Hp), H p = some (.xd [(fld, .int i)]) → ix ⟨c, .int i⟩ (.ref C) (some p) H) : RS K E ix (tRaiseF ok K E C fld t) (mRaiseF ok c m) := fun F ρ g σ H R fl ρ' g' e De q => by
  unfold mRaiseF at e
  split at e
  · rename_i i g1 hm
    split at e
    · rename_i hs
      cases e
      refine h F ρ g σ H R _ _ hm _ fun v H1 e1 k1 hv => ?_
      cases (show v = .int i from hv)
      refine ⟨rfl, (by decide : 1 ≤ 1000), fun a ha => ⟨a, i, rfl, hs, T, no, upd_same, fun d hd hda => ⟨rfl, d, _, upd_same, by rw [upd_ne hda, upd_same], ?_, ?_⟩⟩⟩
      · rw [upd_ne hda] at hd; exact hd
      · rw [upd_ne hda] at hd
        rw [xd_eq ha hda]
        refine q _ _ _ ((R.ext.trans e1).trans (Ex.new hd)) (k1.new hd) (hix i d _ upd_same)
    · cases e
  · rename_i x g1 hm
    cases e
    exact h F ρ g σ H R _ _ hm _ (XPost.mono R.ext q)
  · cases e
/-! ### the __init__ itself -/
@[irreducible] def okC (i : Int) : Bool := smallI i
@[irreducible] def okJ (z1 z2 : Str) (i : Int) : Bool := decide (i.natAbs.log2 < 1920) && (small ((Str.empty ++ z1) ++ Str.ofString (toString i)).length && small (((Str.empty ++ z1) ++ Str.ofString (toString i)) ++ z2).length)
def tIni (K : PySem.W.Frag) (fld : Str) (tt : TE) : TS := tSeq (tDrop (tVeI K (tCons (tVar 0) (tCons tt tNil)))) (tOst K fld (tVar 0) (tVar 1))
theorem ini_read {K : PySem.W.Frag} {C : Addr} {ok : Int → Bool} {fld : Str} {tt : TE} {N : List Str} {vs : List V} {H : Hp} {Q : VK} {E : XK} (h : spInit ok K C fld vs H Q E) (hN : N.length = 2)
    (ht : ∀ (a : Addr) (i : Int) (S : V → Hp → Prop), ok i = true → (∀ x, S x H) → tt [some (.ref a), some (.int i)] H S) : tIni K fld tt { nx := fun _ H' => Q .non H', rt := Q } (L2.start N vs) H := by
  obtain ⟨a, i, rfl, hk, T, no, ha, q⟩ := h
  have e0 : L2.start N [V.ref a, V.int i] = [some (.ref a), some (.int i)] := by
    match N, hN with
    | [_, _], _ => rfl
  rw [e0]
  refine ⟨.ref a, rfl, ?_⟩
  refine ht a i _ hk fun x => ?_
  refine ⟨a, C, [x], rfl, (by decide : 1 ≤ 1000), T, ha, ?_⟩
  exact ⟨.int i, rfl, .ref a, rfl, a, C, rfl, T, no, .inl ⟨ha, fun d hd hda => q d hd hda⟩⟩
theorem ini_c {a : Addr} {i : Int} {z : Str} {H : Hp} {S : V → Hp → Prop} (h : ∀ x, S x H) : tC (.str z) [some (.ref a), some (.int i)] H S := h _
theorem ini_j {a : Addr} {i : Int} {z1 z2 : Str} {H : Hp} {S : V → Hp → Prop} (hk : okJ z1 z2 i = true) (hz : (Str.empty ++ z1).length ≤ sizeLine) (h : ∀ x, S x H) : (fun σ H Q => tJs [tC (.str z1), tFmt (tVar 1), tC (.str z2)] Str.empty σ H fun out H1 => Q (.str out) H1 : TE) [some (.ref a), some (.int i)] H S := by
  unfold okJ at hk
  simp only [Bool.and_eq_true, decide_eq_true_eq] at hk
  obtain ⟨k1, k2, k3⟩ := hk
  refine ⟨z1, rfl, hz, ?_⟩
  refine ⟨.int i, rfl, .inr ⟨i, rfl, k1, ?_⟩⟩
  exact ⟨_, rfl, Nat.le_of_lt (small_line k2), z2, rfl, Nat.le_of_lt (small_line k3), h _⟩
end
/-! ### what the top says of such a class -/
def oexB (K : PySem.W.Frag) (C : Addr) : Bool := (match K.lookup C with
  | some ⟨.type "type", _, .cls cd, sl⟩ => (match cd.mro, sl.toList with
    | .ref C' :: bm, [_, _, _, _, some (.builtin n), _] => C' == C && n == "ValueError.__new__" && !cd.hasDel && PySem.HandSPX.refsVE bm && cd.hasDict
    | _, _ => false)
  | _ => false) && (decide (PySem.W.findIn K (.ref C) "__setattr__" = some (some (.builtin "object.__setattr__"))) && (decide (PySem.W.subIn K (.ref C) (.type "BaseException") = some true) && (decide (PySem.W.typeIn K (.ref C) = some (.type "type")) && PySem.W.keepIn K (.ref C))))
theorem oexB_ok {K : PySem.W.Frag} {C : Addr} (h : oexB K C = true) : OexC K C := by
  unfold oexB at h
  simp only [Bool.and_eq_true, decide_eq_true_eq] at h
  obtain ⟨h0, h1, h2, h3, h4⟩ := h
  refine ⟨?_, h1, h2, h3, h4⟩
  split at h0
  · rename_i dd cd sl ho
    split at h0
    · rename_i C' bm k0 k1 k2 k3 n k5 hm hs
      simp only [Bool.and_eq_true, beq_iff_eq, Bool.not_eq_true'] at h0
      obtain ⟨⟨⟨⟨rfl, rfl⟩, hdel⟩, hv⟩, hd⟩ := h0
      obtain ⟨nm, bs, mro, ns, qn, hdct, sn, sub, ab, col, del⟩ := cd
      dsimp only at hm hdel hd
      subst hm hdel hd
      have esl : sl = #[k0, k1, k2, k3, some (.builtin "ValueError.__new__"), k5] := by
        obtain ⟨l⟩ := sl
        simp only at hs
        rw [hs]
      subst esl
      exact ⟨nm, qn, ns, bs, bm, sn, sub, ab, col, dd, k0, k1, k2, k3, k5, ho, hv⟩
    · cases h0
  · cases h0
def pecB (K : PySem.W.Frag) (CP : Addr) : Bool := decide (PySem.W.specialIn K (.ref CP) "__getattribute__" = some (some (.builtin "type.__getattribute__"))) && (PySem.W.readsIn K CP (.type "type") && (match PySem.W.findCls K (.ref CP) (.type "type") "__init__" with
  | some (.val (.builtin "ValueError.__init__")) => true
  | _ => false))
theorem pecB_ok {K : PySem.W.Frag} {CP : Addr} (h : pecB K CP = true) : PeC K CP := by
  unfold pecB at h
  simp only [Bool.and_eq_true, decide_eq_true_eq] at h
  obtain ⟨h1, h2, h3⟩ := h
  refine ⟨h1, h2, ?_⟩
  split at h3
  · assumption
  · cases h3
end Fw

set_option Elab.async false
set_option linter.all false
set_option maxRecDepth 100000
set_option maxHeartbeats 2000000
/-! Lm1: a lambda made: its object is followed from then on -/
namespace Fw
open PySem PySem.Spec PyProof.Rows L2 LamX
/-- the object at a is o, for good -/
def FnO (a : Addr) (o : Obj) : HO := .ext fun h => h.get? a = some o
theorem fnO_ok {P : Program} {w : World} {H : Hp} {h : Heap} {a : Addr} {o : Obj} (e : h.get? a = some o) : ObjOk P w H h a (FnO a o) :=
  ⟨e, ⟨o, e⟩, fun _ _ z k => k _ z⟩
theorem fnO_at {P : Program} {w : World} {H : Hp} {h : Heap} {a : Addr} {o : Obj} (k : HOk P w H h) (e : H a = some (FnO a o)) : h.get? a = some o := (k a _ e).1
theorem fnO_tbl {a : Addr} {o : Obj} {ps : Array Value} : FnO a o ≠ .tbl ps := fun z => by unfold FnO at z; cases z
/-- all but P stays -/
def ExP (P : Addr) (H H' : Hp) : Prop := ∀ b o, H b = some o → b ≠ P → H' b = some o
theorem ExP.trans {P : Addr} {H H1 H2 : Hp} (a : ExP P H H1) (b : ExP P H1 H2) : ExP P H H2 := fun c o h n => b c o (a c o h n) n
section
variable {X : Cx} {pins : List (Addr × Obj)} {σ : L2.St} {H : Hp} {s : Shared}
theorem lam_tail {T : List (Addr × Str)} {c P : Addr} {q : Str} {params : Arguments} {body : Expr} {scope : Scope} {pos : Pos} {fl : Nat} {dV : Value} {E : Value → Shared → Prop} {Q : Value → Shared → Prop} (I : Inv X pins σ H s) (TB : TabB X.base X.mg c P) (hcode : X.env.code = .ref c)
    (hm : (P, q) ∈ T) (hu : ∀ p ∈ T, p.1 = P → p.2 = q) (hT : Tabs T H) (hfree : ∀ y ∈ scope.names, y.2 = .free → ∃ c, X.env.cells.lookup y.1 = some c)
    (h : ∀ (f c' : Addr) (doc pm ctv : Value) (H1 : Hp) (s' : Shared), Inv X pins σ H1 s' → ExP P H H1 → Tabs T H1 → H f = none →
      H1 f = some (FnO f (PySem.W.kdv_obj "<lambda>" q params (.expr body) scope (cloFrom X.env.cells scope.names []) dV doc pm c' ctv)) → H1 c' = some (CodeO c' q) → Q (.ref f) s') :
    wpAny (model X.prog X.w) X.A (makeTail "<lambda>" q params (.expr body) scope X.env dV .none none pos fl) Q E s := by
  obtain ⟨ps, hP, ht, ha⟩ := hT _ hm
  have hPh : s.heap.get? P = some { cls := .none, data := .fields ps } := I.hok P _ hP
  -- the last step: the function's object stands
  have last : ∀ (c' : Addr) (doc ctv : Value) (H1 : Hp) (h' : Heap) (tk tk0 : Nat), Inv X pins σ H1 { s with heap := h', toks := tk0 } → ExP P H H1 → Tabs T H1 → s.heap.objs.size ≤ h'.objs.size → H1 c' = some (CodeO c' q) →
      Q (.ref h'.objs.size) { s with heap := h'.push (PySem.W.kdv_obj "<lambda>" q params (.expr body) scope (cloFrom X.env.cells scope.names []) dV doc ((X.mg "__name__").getD .none) c' ctv), toks := tk } := by
    intro c' doc ctv H1 h' tk tk0 I1 e1 T1 hsz hc
    have hn : H1 h'.objs.size = none := I1.hok.fresh (Nat.le_refl _)
    have up : ∀ b o, H1 b = some o → upd H1 h'.objs.size (FnO h'.objs.size (PySem.W.kdv_obj "<lambda>" q params (.expr body) scope (cloFrom X.env.cells scope.names []) dV doc ((X.mg "__name__").getD .none) c' ctv)) b = some o := fun b o e => by
      rw [upd_ne (ne_of_none e hn)]; exact e
    exact h _ c' doc _ ctv _ _ (I1.laid (t' := tk) (fun b o e => Heap.get?_push_of_some _ e) (Nat.le_refl _) (fnO_ok (Heap.get?_push_size _ rfl))) (fun b o e n => up b o (e1 b o e n)) (T1.ext up) (I.hok.fresh hsz) upd_same (up _ _ hc)
  cases hc : codeAmong pos ps.toList with
  | none =>
    refine PySem.W.kdv_makeTail (mg := X.mg) (c := c) (P := P) (ps := ps) (closure_ok hfree) I.ok.glob (I.mod.glob.keeps I.bk) hcode (TB.code.keeps I.bk) hPh ht hc TB.gP (TB.bm.keeps I.bk) fun c' ctv doc h' tk hx hge hlt hrec htb => ?_
    obtain ⟨c2, oc, vs, t, e2, hoc, hd, hv⟩ := hrec
    cases e2
    have nC : H c' = none := I.hok.fresh hge
    have I1 := inv_table (t' := s.toks) (more := #[rawInt pos.line, rawInt pos.col, .ref c']) I hP hx htb hge ⟨oc, vs, t, hoc, hd, hv⟩
    have keep : ∀ b o, H b = some o → b ≠ P → upd (upd H P (.tbl (ps ++ #[rawInt pos.line, rawInt pos.col, .ref c']))) c' (CodeO c' q) b = some o := fun b o e n => by
      rw [upd_ne (ne_of_none e nC), upd_ne n]; exact e
    refine last c' doc ctv _ h' tk _ I1 keep (fun p hp => ?_) (Nat.le_trans hge (Nat.le_of_lt hlt)) upd_same
    by_cases hb : p.1 = P
    · rw [hu p hp hb, hb]
      have eL : (ps ++ #[rawInt pos.line, rawInt pos.col, .ref c']).toList = ps.toList ++ [rawInt pos.line, rawInt pos.col, .ref c'] := by simp
      refine ⟨_, by rw [upd_ne (ne_of_none hP nC), upd_same], by rw [eL]; exact PySem.TriplesOk_snoc _ _ _ _ ht, fun p' cv hcv => ?_⟩
      rw [eL] at hcv
      rcases among_app _ ht hcv with z | z
      · obtain ⟨c0, e1, e2⟩ := ha p' cv z
        exact ⟨c0, e1, keep _ _ e2 fun w => by rw [w, hP] at e2; exact codeO_ne _ (Option.some.inj e2).symm⟩
      · exact ⟨c', z, upd_same⟩
    · obtain ⟨ps', a1, a2, a3⟩ := hT p hp
      refine ⟨ps', keep _ _ a1 hb, a2, fun p' cv hcv => ?_⟩
      obtain ⟨c0, e1, e2⟩ := a3 p' cv hcv
      exact ⟨c0, e1, keep _ _ e2 fun w => by rw [w, hP] at e2; exact codeO_ne _ (Option.some.inj e2).symm⟩
  | some cv =>
    obtain ⟨c', e, hco⟩ := ha pos cv hc
    subst e
    refine PySem.W.kdv_makeTailHit (mg := X.mg) (c := c) (P := P) (ps := ps) (closure_ok hfree) I.ok.glob (I.mod.glob.keeps I.bk) hcode (TB.code.keeps I.bk) hPh ht hc (TB.bm.keeps I.bk) fun ctv doc h' tk hx hsz => ?_
    have I1 : Inv X pins σ H { s with heap := h', toks := tk } := I.kept hx
    exact last c' doc ctv H h' tk tk I1 (fun _ _ e _ => e) hT hsz hco
end
end Fw

set_option Elab.async false
set_option linter.all false
set_option maxRecDepth 100000
set_option maxHeartbeats 2000000
/-! Lm2: a lambda called: its parameters have their defaults, its other names are captured or global -/
namespace Fw
open PySem PySem.Spec PyProof.Rows L2 LamX
/-- names: own ones that the maker does not have, captured ones, globals -/
structure LamB (N : List Str) (sc scope : Scope) : Prop where
  kind : scope.kind = .function
  co : scope.isCoroutine = false
  gen : scope.isGenerator = false
  cell : ∀ y ∈ scope.names, y.2 ≠ .cell
  loc : ∀ y ∈ scope.names, y.2 = .local → y.1 ∉ N
  free : ∀ y ∈ scope.names, y.2 = .free → sc.names.lookup y.1 = some .cell ∨ sc.names.lookup y.1 = some .free
def lamBB (N : List Str) (sc scope : Scope) : Bool :=
  (decide (scope.kind = .function) && (decide (scope.isCoroutine = false) && decide (scope.isGenerator = false))) && scope.names.all fun y => decide (y.2 ≠ .cell) && (decide (y.2 = .local → y.1 ∉ N) && decide (y.2 = .free → sc.names.lookup y.1 = some .cell ∨ sc.names.lookup y.1 = some .free))
theorem lamB_by {N : List Str} {sc scope : Scope} (h : lamBB N sc scope = true) : LamB N sc scope := by
  unfold lamBB at h
  simp only [Bool.and_eq_true, decide_eq_true_eq, List.all_eq_true] at h
  obtain ⟨⟨h1, h2, h3⟩, h4⟩ := h
  exact ⟨h1, h2, h3, fun y hy => (h4 y hy).1, fun y hy => (h4 y hy).2.1, fun y hy => (h4 y hy).2.2⟩
section
variable {X : Cx} {pins : List (Addr × Obj)} {σ : L2.St} {H HZ : Hp} {s s1 : Shared}
theorem LamB.caught {scope : Scope} (L : LamB X.N X.env.scope scope) (ok : X.Ok) : ∀ y ∈ scope.names, y.2 = .free → ∃ c, X.env.cells.lookup y.1 = some c := fun y hy e => ok.has _ (L.free y hy e)
/-- a cell of the lambda is a cell of its maker -/
theorem clo_sub {scope : Scope} (hfree : ∀ y ∈ scope.names, y.2 = .free → ∃ c, X.env.cells.lookup y.1 = some c) {y : Str} {c : Addr} (e : (cloFrom X.env.cells scope.names []).lookup y = some c) : X.env.cells.lookup y = some c := by
  rcases cloFrom_mem (PySem.mem_of_lookup e) with z | z
  · cases z
  · obtain ⟨d, hd⟩ := hfree _ z.1 rfl
    have hd' : X.env.cells.lookup y = some d := hd
    have e2 := z.2
    rw [hd'] at e2 ⊢
    rw [e2]; rfl
theorem lam_startB {A : Around} {outer : List Env} {E : XK} {scope : Scope} {f c' : Addr} {h₁ : Heap} {tk : Nat} {mb : Str → Option Value} (I : Inv X pins σ H s) (L : LamB X.N X.env.scope scope) (e0 : Env0 X.prog X.w X.K X.mg X.base A outer s1 HZ) (hd : A.handled = none)
    (un : Un (frs X.stack) [] H HZ s.heap s1.heap) (hns : h₁.Ns s1.heap.objs.size mb) (kp : ∀ b o, s1.heap.get? b = some o → h₁.get? b = some o) :
    Inv (lamCx X A outer s1 HZ E scope f c') [] σ HZ { s1 with heap := h₁, toks := tk } := by
  have hfr := L.caught I.ok
  have mem : ∀ {y : Str} {k : NameKind}, scope.names.lookup y = some k → (y, k) ∈ scope.names := fun e => PySem.mem_of_lookup e
  have cellThere : ∀ {c : Addr} {v : Option Value}, H c = none → s.heap.IsCell c v → h₁.IsCell c v := by
    rintro c v n ⟨o, ho, hdat⟩
    obtain ⟨sl, q⟩ := un.any ho n (by simp)
    exact ⟨_, kp c _ q, hdat⟩
  have found : ∀ {y : Str}, scope.names.lookup y = some .free → ∃ c, (cloFrom X.env.cells scope.names []).lookup y = some c := fun e => mem_lookup (cloFrom_has (cells := X.env.cells) (acc := []) (mem e))
  have noEx : ∀ b : Addr, ¬ b ∈ (lamCx X A outer s1 HZ E scope f c').ex := fun b z => by cases (show b ∈ ([] : List Addr) from z)
  have okL : (lamCx X A outer s1 HZ E scope f c').Ok := {
    mod := e0.mod
    kind := L.kind
    glob := rfl
    blt := rfl
    above := Nat.le_refl _
    inj := fun y z c a b => I.ok.inj y z c (clo_sub hfr a) (clo_sub hfr b)
    has := fun y hy => by
      have hy' : scope.names.lookup y = some .cell ∨ scope.names.lookup y = some .free := hy
      cases hy' with
      | inl z => exact absurd rfl (L.cell _ (mem z))
      | inr z => exact found z
    cab := fun y c z _ => by cases (show false = true from z)
    hd := fun _ => hd
    frames := Around.frames_deeper e0.frames
    stk := .inr ⟨rfl, rfl⟩
    exf := fun b z => absurd z (noEx b)
    bs := e0.bs
    bsz := e0.bsz
    noex := fun b _ _ => noEx b
    exfs := fun b z => absurd z (noEx b)
    funs := e0.funs
    frf := e0.frf }
  refine { ok := okL, os := rfl, bare := e0.bare, base := Un.kept kp, loc := ⟨mb, hns, fun i y v e1 e2 e3 => ?_⟩, cell := fun y c e => ?_, free := e0.hok.fresh (Nat.le_refl _), freeC := fun y c e => ?_, pin := fun q hq => ?_, hok := e0.hok.kept kp, len := I.len }
  · have vis : scope.names.lookup y = some .local ∨ scope.names.lookup y = some .cell ∨ scope.names.lookup y = some .free := e3
    have e1' : X.N[i]? = some y := e1
    rcases vis with k | k | k
    · exact absurd (List.mem_of_getElem? e1') (L.loc _ (mem k) rfl)
    · exact absurd rfl (L.cell _ (mem k))
    · obtain ⟨m, _, look⟩ := I.loc
      have fr := L.free _ (mem k) rfl
      obtain ⟨u, ru, lk⟩ := look i y v e1 e2 (.inr fr)
      obtain ⟨c2, h2⟩ := found k
      have c1 := clo_sub hfr h2
      refine ⟨u, ru, .inr ⟨.inr k, c2, h2, ?_⟩⟩
      rcases lk with ⟨a, _⟩ | ⟨_, c3, e3', z⟩
      · have a' : X.env.scope.names.lookup y = some .local := a
        rcases fr with w | w <;> (rw [show X.env.scope.names.lookup y = _ from w] at a'; cases a')
      · rw [c1] at e3'
        cases e3'
        exact cellThere (I.freeC y _ c1) z
  · obtain ⟨u, z⟩ := I.cell y c (clo_sub hfr e)
    exact ⟨u, cellThere (I.freeC y c (clo_sub hfr e)) z⟩
  · have c1 := clo_sub hfr e
    obtain ⟨u, o, ho, _⟩ := I.cell y c c1
    exact un.free c o ho (I.freeC y c c1) (by simp)
  · cases (show q ∈ ([] : List (Addr × Obj)) from hq)
end
end Fw

set_option Elab.async false
set_option linter.all false
set_option maxRecDepth 100000
set_option maxHeartbeats 2000000
/-! Lm3: what stands at a lambda's address; its making and its call -/
namespace Fw
open PySem PySem.Spec PyProof.Rows L2 LamX
/-- the defaults: none, or 0 for the one parameter -/
def Dflt (H : Hp) (dV : Value) : Option Str → Prop
  | none => dV = .none
  | some _ => ∃ (T0 : Addr) (tk : Tok), dV = .ref T0 ∧ H T0 = some (FnO T0 (PySem.W.kdv_tup [.int 0 tk]))
def IsLam (H : Hp) (f : Addr) (q : Str) (params : Arguments) (body : Expr) (scope : Scope) (cl : List (Str × Addr)) (a : Option Str) : Prop :=
  ∃ (dV doc pm ctv : Value) (c' : Addr), H f = some (FnO f (PySem.W.kdv_obj "<lambda>" q params (.expr body) scope cl dV doc pm c' ctv)) ∧ H c' = some (CodeO c' q) ∧ Dflt H dV a
theorem codeO_ext {c : Addr} {q : Str} {P : Addr} {H H1 : Hp} (e : ExP P H H1) (n : H P ≠ some (CodeO c q) ∨ c ≠ P) (h : H c = some (CodeO c q)) : H1 c = some (CodeO c q) := e c _ h fun z => by
  rcases n with n | n
  · rw [z] at h; rw [z] at n; exact n h
  · exact n z
/-- how the parameters are bound -/
def BindL (params : Arguments) (a : Option Str) : Prop := ∀ (q : Str) (body : FuncBody) (scope : Scope) (cl : List (Str × Addr)) (dV doc pm cd ctv : Value) (s : Shared), match a with
  | none => dV = .none → BindsTo s (PySem.W.kdv_fn "<lambda>" q params body scope cl dV doc pm cd ctv) ⟨[], []⟩ []
  | some x => ∀ (T0 : Addr) (tk : Tok), dV = .ref T0 → s.heap.get? T0 = some (PySem.W.kdv_tup [.int 0 tk]) → BindsTo s (PySem.W.kdv_fn "<lambda>" q params body scope cl dV doc pm cd ctv) ⟨[], []⟩ [(x, .int 0 tk)]
section
variable {X : Cx} {pins : List (Addr × Obj)} {σ : L2.St} {H HZ : Hp} {s s1 : Shared}
theorem lam_code {A : Around} {outer : List Env} {E : XK} {Q : VK} {k : Nat} {f : Addr} {q : Str} {params : Arguments} {body : Expr} {scope : Scope} {a : Option Str} {tb : TE} (I : Inv X pins σ H s) (L : LamB X.N X.env.scope scope) (hq : q = X.env.qual ++ "<lambda>") (hr : Room (k + 1) A)
    (e0 : Env0 X.prog X.w X.K X.mg X.base A outer s1 HZ) (hlim : s1.heap.NoLimit) (un : Un (frs X.stack) [] H HZ s.heap s1.heap) (hl : IsLam HZ f q params body scope (cloFrom X.env.cells scope.names []) a) (hb : BindL params a) (ha : ∀ x, a = some x → scope.names.lookup x = some .local)
    (hbody : ∀ (c' : Addr), Room k (A.deeper (lamEnv X scope s1.heap.objs.size f c')) → PE (lamCx X A outer s1 HZ E scope f c') body tb) (ht : tb σ HZ Q) :
    codeAny (model X.prog X.w) A (.call (.ref f) ⟨[], []⟩) (CR (L2.CX X.prog X.w) outer X.prog X.w HZ s1 Q E) s1 := by
  obtain ⟨dV, doc, pm, ctv, c', h1, h2, h3⟩ := hl
  have g1 := fnO_at e0.hok h1
  obtain ⟨⟨oc, vs, t, hoc, hdc, hvc⟩, _, _⟩ := e0.hok c' _ h2
  -- the bound names
  obtain ⟨bs, hbt, hbl⟩ : ∃ bs : List (Str × Value), BindsTo s1 (PySem.W.kdv_fn "<lambda>" q params (.expr body) scope (cloFrom X.env.cells scope.names []) dV doc pm (.ref c') ctv) ⟨[], []⟩ bs ∧ ∀ x ∈ bs, scope.names.lookup x.1 = some .local := by
    cases a with
    | none => exact ⟨[], hb q _ scope _ dV doc pm _ ctv s1 h3, fun x hx => by cases hx⟩
    | some x =>
      obtain ⟨T0, tk, e1, e2⟩ := h3
      exact ⟨_, hb q _ scope _ dV doc pm _ ctv s1 T0 tk e1 (fnO_at e0.hok e2), fun y hy => by rw [List.mem_singleton.mp hy]; exact ha x rfl⟩
  refine PySem.W.kla_callFunE hr.depth g1 rfl L.co L.gen rfl ⟨c', oc, vs, t, rfl, hoc, hdc, hvc⟩ ?_
  refine hbt _ _ _ _ (wpAny_newFunctionEnv (fun y hy => L.cell y hy) hbl (fun h₁ hns hsb => ⟨hlim.fresh _ hsb, ?_⟩) L.kind)
  have kp : ∀ b o, s1.heap.get? b = some o → h₁.get? b = some o := fun b o e => hsb.extBut b o (Nat.ne_of_lt (Heap.lt_size e)) (Heap.get?_push_of_some _ e)
  subst hq
  have J := lam_startB (E := E) (f := f) (c' := c') (tk := s1.toks + bs.length) I L e0 hr.hd un hns kp
  show codeAny _ _ (.expr body (lamEnv X scope s1.heap.objs.size f c')) _ _
  refine PySem.W.kla_codeExpr (wpAny_mono ((hbody c' (hr.deeper _)).run [] _ _ HZ Q J ht) (fun v s' hv => ?_) fun e s' hv => hv)
  obtain ⟨w', H', J', rv, qv⟩ := hv
  exact ⟨w', H', J'.os, J'.bare, J'.base, J'.hok, rv, qv⟩
end
end Fw

set_option Elab.async false
set_option linter.all false
set_option maxRecDepth 100000
set_option maxHeartbeats 2000000
/-! Lm4: the expression lambda: .. -/
namespace Fw
open PySem PySem.Spec PyProof.Rows L2 LamX
def tLam (T : List (Addr × Str)) (P : Addr) (q : Str) (params : Arguments) (body : Expr) (scope : Scope) (cl : List (Str × Addr)) (a : Option Str) : TE := fun σ H Q =>
  Tabs T H ∧ ∀ (f : Addr) (H1 : Hp), ExP P H H1 → Tabs T H1 → H f = none → IsLam H1 f q params body scope cl a → Q (.ref f) H1
section
variable {X : Cx}
theorem pe_lam0 {T : List (Addr × Str)} {c P : Addr} {q : Str} {params : Arguments} {body : Expr} {scope : Scope} {pos : Pos} (TB : TabB X.base X.mg c P) (hcode : X.env.code = .ref c) (hm : (P, q) ∈ T) (hu : ∀ p ∈ T, p.1 = P → p.2 = q)
    (L : LamB X.N X.env.scope scope) (hdef : defaultsOf params X.env = ([], [])) (hq : q = X.env.qual ++ "<lambda>") : PE X (.Lambda params body scope pos) (tLam T P q params body scope (cloFrom X.env.cells scope.names []) none) := by
  refine ⟨fun pins s σ H Q I h => ?_⟩
  obtain ⟨hT, h⟩ := h
  refine PySem.W.kla_eval hdef ?_
  rw [PySem.makeFunction_eq, ← hq]
  simp only [List.zip_nil_right, List.filterMap_nil, List.isEmpty_nil, if_true, pure_bind]
  refine lam_tail I TB hcode hm hu hT (L.caught I.ok) fun f c' doc pm ctv H1 s' I1 e1 T1 hf h1 h2 => ?_
  exact ⟨.ref f, H1, I1, rfl, h f H1 e1 T1 hf ⟨_, doc, pm, ctv, c', h1, h2, rfl⟩⟩
theorem pe_lam1 {T : List (Addr × Str)} {c P : Addr} {q x : Str} {params : Arguments} {body : Expr} {scope : Scope} {pos : Pos} {e0 : Expr} (TB : TabB X.base X.mg c P) (hcode : X.env.code = .ref c) (hm : (P, q) ∈ T) (hu : ∀ p ∈ T, p.1 = P → p.2 = q)
    (L : LamB X.N X.env.scope scope) (hd : params.defaults = [e0]) (hk : params.kw_defaults = []) (he : PE X e0 (tC (.int 0))) (hq : q = X.env.qual ++ "<lambda>") : PE X (.Lambda params body scope pos) (tLam T P q params body scope (cloFrom X.env.cells scope.names []) (some x)) := by
  refine ⟨fun pins s σ H Q I h => ?_⟩
  obtain ⟨hT, h⟩ := h
  refine PySem.W.kdv_lam (by rw [hd]; rfl) hk ?_
  rw [hd]
  refine PySem.W.kdv_all1 (thn (he.run pins s σ H (fun v H1 => v = .int 0 ∧ H1 = H) I ⟨rfl, rfl⟩) fun u s1 hh => ?_)
  obtain ⟨v, H1, I1, ru, ev, eH⟩ := hh
  subst ev
  rw [eH] at I1
  obtain ⟨tk, rfl⟩ : ∃ tk : Tok, u = Value.int 0 tk := by
    have r : RelV (.int 0) u := ru
    exact r
  refine PySem.W.kdv_all0 ?_
  rw [PySem.makeFunction_eq, ← hq]
  simp only [List.zip_nil_right, List.filterMap_nil, List.isEmpty_nil, List.isEmpty_cons, Bool.false_eq_true, if_true, if_false, pure_bind]
  refine wpAny_bind (wpAny_newTextTuple ?_)
  obtain ⟨hp, g, d, t, os⟩ := s1
  have hn : H hp.objs.size = none := I1.hok.fresh (Nat.le_refl _)
  have up : ∀ b o, H b = some o → upd H hp.objs.size (FnO hp.objs.size (PySem.W.kdv_tup [.int 0 tk])) b = some o := fun b o e => by rw [upd_ne (ne_of_none e hn)]; exact e
  have I2 : Inv X pins σ (upd H hp.objs.size (FnO hp.objs.size (PySem.W.kdv_tup [.int 0 tk]))) ⟨hp.push (PySem.W.kdv_tup [.int 0 tk]), g, d, t, os⟩ :=
    I1.laid (t' := t) (fun b o e => Heap.get?_push_of_some _ e) (Nat.le_refl _) (fnO_ok (Heap.get?_push_size _ rfl))
  refine lam_tail I2 TB hcode hm hu (hT.ext up) (L.caught I.ok) fun f c' doc pm ctv H1 s' I3 e1 T1 hf h1 h2 => ?_
  have nP : hp.objs.size ≠ P := fun z => by
    obtain ⟨ps, hP, _⟩ := hT _ hm
    have hP' : H P = some (.tbl ps) := hP
    rw [← z, hn] at hP'
    cases hP'
  have hfn : H f = none := by
    cases w : H f with
    | none => rfl
    | some o => have := up f o w; rw [hf] at this; cases this
  exact ⟨.ref f, H1, I3, rfl, h f H1 (fun b o e n => e1 b o (up b o e) n) T1 hfn ⟨_, doc, pm, ctv, c', h1, h2, hp.objs.size, tk, rfl, e1 _ _ upd_same nP⟩⟩
end
end Fw

set_option Elab.async false
set_option linter.all false
set_option maxRecDepth 100000
set_option maxHeartbeats 2000000
/-! Lm5: a list comprehension whose elements are reckoned in sight of the maker's frame -/
namespace Fw
open PySem PySem.Spec PyProof.Rows L2 LamX
section
variable {X : Cx}
/-- from any state of the block one may look at the def's own state -/
def Back (X B : Cx) (pins : List (Addr × Obj)) (σ : L2.St) : Prop := ∀ (pB : List (Addr × Obj)) (σB : L2.St) (HB : Hp) (sB : Shared), Inv B pB σB HB sB → Inv X pins σ HB sB
theorem pe_lcB {elt tg iter : Expr} {scope : Scope} {own : List (Str × Nat)} {pos : Pos} {wi : TI} {g : TG} {te : L2.St → TE} (hc : X.calm = true) (hN : X.N.Nodup) (hi : PI X tg iter wi) (ok : BlkOk X.N X.env.scope scope own)
    (hg : ∀ (s0 : Shared) (H0 : Hp) (C : Addr) (cl : List (Str × Addr)) (fp : List Addr), PG (X.blk s0 H0 scope (compEnvC scope cl C X.env) fp) tg g)
    (he : ∀ (pins : List (Addr × Obj)) (σ : L2.St) (s0 : Shared) (H0 : Hp) (C : Addr) (cl : List (Str × Addr)) (fp : List Addr), Back X (X.blk s0 H0 scope (compEnvC scope cl C X.env) fp) pins σ → PE (X.blk s0 H0 scope (compEnvC scope cl C X.env) fp) elt (te σ))
    (hs : ∀ x, foldedSetIterable iter X.env x = pure x := by intro _; rfl) :
    PE X (.ListComp elt [⟨tg, iter, [], 0⟩] scope pos) (fun σ H Q => tLc wi g tYes (te σ) (own.map (·.2)) σ H Q) := by
  refine ⟨fun pins s σ H Q I want => ?_⟩
  have caught : ∀ y ∈ scope.names, y.2 = .free → ∃ c, X.env.cells.lookup y.1 = some c := fun y hy z => I.ok.has _ (ok.free y hy z)
  rw [eval_ListComp]
  refine wpAny_comprehension_free (use := none) rfl hs (closure_ok caught) ok.kind (fun y hy z => by rw [ok.uniq y hy, z]) (thn (hi.run pins s σ H _ I want) fun xv sA hA => thn hA fun itv sB hB => ?_)
  obtain ⟨it, fp, tn, J, HB, eit, IB, tok, stB, fB, turnOf⟩ := hB
  subst eit
  refine wpAny_newObj_type (newEnv_comp ?_) (by show 0 ≤ sizeLine; decide)
  have fresh : HB sB.heap.objs.size = none := IB.hok.fresh (Nat.le_refl _)
  obtain ⟨W, ⟨m0, w0⟩, turn⟩ := turnOf _ fresh
  -- the list that is built stands; the block begins
  let D : Addr := sB.heap.objs.size
  obtain ⟨sC, hsC⟩ : ∃ sC : Shared, sC = { sB with heap := sB.heap.push { cls := .type "list", data := .seq ([] : List Value).toArray } } := ⟨_, rfl⟩
  obtain ⟨HC, hHC⟩ : ∃ HC : Hp, HC = upd HB D (.lst []) := ⟨_, rfl⟩
  have pushed : ∀ b o, sB.heap.get? b = some o → sC.heap.get? b = some o := fun b o z => by rw [hsC]; exact Heap.get?_push_of_some _ z
  have IC : Inv X pins σ HC sC := by
    rw [hsC, hHC]
    exact IB.laid (t' := sB.toks) (fun b o z => Heap.get?_push_of_some _ z) (Nat.le_refl _) ⟨Nat.zero_le _, [], 0, .nil, Heap.get?_push_size _ rfl⟩
  have lt : ∀ b ∈ fp, b < sB.heap.objs.size := fun b hb => let ⟨o, z, _⟩ := tok.obj _ _ stB b hb; Heap.lt_size z
  have fC : ∀ b ∈ fp, FpOk X pins HC b ∧ b < sC.heap.objs.size := fun b hb => by
    have := lt b hb
    refine ⟨⟨?_, (fB b hb).2⟩, by rw [hsC, Heap.size_push]; exact Nat.lt_succ_of_lt this⟩
    rw [hHC, upd_ne (Nat.ne_of_lt this)]
    exact (fB b hb).1
  have begun := block_start IC ok hN fC
  obtain ⟨sD, hsD⟩ : ∃ sD : Shared, sD = { sC with heap := pushCells (sC.heap.push { cls := .type "dict", data := .dict #[] }) scope.names } := ⟨_, rfl⟩
  obtain ⟨ce, hce⟩ : ∃ ce : Env, ce = compEnvC scope (cellsFrom (sC.heap.objs.size + 1) scope.names (cloFrom X.env.cells scope.names [])) sC.heap.objs.size X.env := ⟨_, rfl⟩
  rw [← hce, ← hsD] at begun
  -- what the block's states leave of the def's
  have home : Back X (X.blk sC HC scope ce fp) pins σ := fun pB σB H' s' J' => IC.call' (ch := fp) J'.os J'.base J'.hok J'.bare fun b hb => by
    obtain ⟨_, f1, f2, f3, f4, f5⟩ := (fC b hb).1
    exact ⟨f3, f1, f4, f5⟩
  have target := hg sC HC sC.heap.objs.size (cellsFrom (sC.heap.objs.size + 1) scope.names (cloFrom X.env.cells scope.names [])) fp
  rw [← hce] at target
  have element : PE (X.blk sC HC scope ce fp) elt (te σ) := by
    have home' := home
    rw [hce] at home' ⊢
    exact he pins σ sC HC _ _ fp home'
  have place : ce.locals = sC.heap.objs.size := by rw [hce]; rfl
  have none0 : ∀ b ∈ fp, HC b = none := fun b hb => (fC b hb).1.1
  have static : tn 0 sD.heap := tok.keep _ _ _ (tok.keep _ _ _ stB fun b _ o z => pushed b o z) fun b _ o z => by
    rw [hsD]
    exact pushCells_keeps _ _ _ _ (Heap.get?_push_of_some _ z)
  have iterOk : ∀ {σ' : L2.St} {H' : Hp} {s' : Shared}, Inv (X.blk sC HC scope ce fp) [] σ' H' s' → (∀ b ∈ fp, H' b = none) → ∀ b ∈ fp, FpOk (X.blk sC HC scope ce fp) [] H' b := by
    intro σ' H' s' J' n b hb
    refine ⟨n b hb, (J'.ok.exf b hb).1, J'.ok.exfs b hb, .inl hb, fun x c z => (J'.ok.exf b hb).2 x c z, fun p hp => ?_⟩
    cases (show p ∈ ([] : List (Addr × Obj)) from hp)
  suffices go : codeAny (model X.prog X.w) X.A (.compStart (.ListComp elt [⟨tg, iter, [], 0⟩] scope pos) 0 (.ref it) (.ref D) ce) (compPost (model X.prog X.w) X.A X.xe none (EP X pins σ Q) (.ref D) sC.heap.objs.size) sD by
    rw [hce, hsD, hsC] at go
    exact go
  have w0' : W 0 m0 HC := by rw [hHC]; exact w0
  have loop : codeAny (model X.prog X.w) X.A (.compLoop (.ListComp elt [⟨tg, iter, [], 0⟩] scope pos) 0 (.ref it) (.ref D) ce) (compPost (model X.prog X.w) X.A X.xe none (EP X pins σ Q) (.ref D) sC.heap.objs.size) sD := by
    refine compLoop_any (fun n s' => ∃ (i : Nat) (Hn : Hp), Inv (X.blk sC HC scope ce fp) [] (wipe σ (own.map (·.2))) Hn s' ∧ tn i s'.heap ∧ (∀ b ∈ fp, Hn b = none) ∧ W i n Hn) ?_ m0 ⟨0, HC, begun, static, none0, w0'⟩
    rintro n s1 ⟨i, H1, J1, st1, n1, w1⟩
    rcases turn i n H1 w1 with ⟨halt, fin⟩ | ⟨more, Nx, drop, step⟩
    · -- no item is left
      refine thnF (tok.done (X.blk sC HC scope ce fp) rfl rfl rfl hc i [] s1 _ H1 (fun _ _ => False) J1 (iterOk J1 n1) st1 halt) fun r s2 ⟨er, J2⟩ => ?_
      subst er
      have back := home _ _ _ _ J2
      obtain ⟨m, hm, _⟩ := J2.loc
      have hm' : s2.heap.Ns sC.heap.objs.size m := by rw [← place]; exact hm
      have hn : H1 sC.heap.objs.size = none := by rw [← place]; exact J2.free
      obtain ⟨g0, g1, g2, g3, g4, g5⟩ := IC.fpOk (Nat.le_refl _) hn
      exact ⟨m, hm', fun h'' sb => ⟨.ref D, H1, back.turned (t' := s2.toks) (fun b o hb z => (sb.2 b hb).trans z) g0 g1 g3 g4 g5, rfl, fin⟩⟩
    · -- one more
      refine thnF (tok.item (X.blk sC HC scope ce fp) rfl rfl rfl hc i [] s1 _ H1 (fun _ _ => False) J1 (iterOk J1 n1) st1 more) fun r s2 ⟨u, er, h2⟩ => ?_
      subst er
      refine thnF h2 fun _ s3 ⟨x, H3, J3, r3, y3, st3, n3⟩ => ?_
      have P3 := J3.pinned (iterOk J3 n3) (tok.obj _ _ st3)
      refine thnF (target.run _ s3 _ H3 x u _ P3 r3 (step x H3 y3)) fun _ s4 ⟨σ4, H4, J4, same, q4⟩ => ?_
      refine wpAny_tests_nil ?_
      rw [if_pos rfl]
      have q5 : te σ σ4 H4 (fun y H5 => ∃ acc, H5 D = some (.lst acc) ∧ acc.length < sizeLine ∧ Nx (upd H5 D (.lst (acc ++ [y])))) := q4
      refine thnF (element.run _ s4 σ4 H4 _ J4 q5) fun z s5 ⟨y, H5, J5, r5, acc, stands, room, next⟩ => ?_
      refine app_ok (X := X.blk sC HC scope ce fp) J5 stands room r5 fun s6 J6 => ?_
      obtain ⟨m', less, w'⟩ := drop _ next
      have kept : ∀ b ∈ fp, ∀ o, s3.heap.get? b = some o → s6.heap.get? b = some o ∧ upd H5 D (.lst (acc ++ [y])) b = none := fun b hb o z => by
        have pin := J6.pin (b, o) (List.mem_append_right _ (List.mem_append_right _ (mem_pinsAt hb z)))
        exact ⟨pin.1, pin.2.1⟩
      refine ⟨m', less, i + 1, _, (J6.unpinned (pins := [])).weak (by rw [← same, wipe_length]) (fun j v z => ?_), tok.keep _ _ _ st3 fun b hb o z => (kept b hb o z).1, fun b hb => ?_, w'⟩
      · rw [← same] at z
        exact (wipe_some z).1
      · obtain ⟨o, z, _⟩ := tok.obj _ _ st3 b hb
        exact (kept b hb o z).2
  exact codeAny_compStart_list loop (tok.self X.A 0 _ _ _ static loop)
end
end Fw

set_option Elab.async false
set_option linter.all false
set_option maxRecDepth 100000
set_option maxHeartbeats 2000000
/-! Lm6: a lambda handed to a def that tries it -/
namespace Fw
open PySem PySem.Spec PyProof.Rows L2 LamX
/-- a lambda of X: how it is written, what its body is worth -/
structure LamR where
  params : Arguments
  body : Expr
  scope : Scope
  a : Option Str
  tb : XK → TE
structure LamOk (X : Cx) (k : Nat) (r : LamR) : Prop where
  names : LamB X.N X.env.scope r.scope
  bind : BindL r.params r.a
  loc : ∀ x, r.a = some x → r.scope.names.lookup x = some .local
  run : ∀ (A : Around) (outer : List Env) (s : Shared) (H : Hp) (E : XK) (f c' : Addr), Room k (A.deeper (lamEnv X r.scope s.heap.objs.size f c')) → PE (lamCx X A outer s H E r.scope f c') r.body (r.tb E)
def LamAt (X : Cx) (r : LamR) (f : Addr) (H : Hp) : Prop := IsLam H f (X.env.qual ++ "<lambda>") r.params r.body r.scope (cloFrom X.env.cells r.scope.names []) r.a
section
variable {X : Cx} {pins : List (Addr × Obj)} {σ : L2.St} {H : Hp} {s : Shared}
theorem pe_actB {CXg : CXT} {Eg : XK} {Ng : List Str} {qg : Str} {sg : Scope} {g : Addr} {cdg : Value} {k i : Nat} {a : Str} {pn : List (Addr × Obj)} {xe : Value → Shared → Prop} {W : WX} {r : LamR} {p1 p2 : Pos} (I : Inv X pins σ H s) (R : LamOk X k r)
    (tk : Takes ((cxOf CXg X.prog X.w X.K X.mg X.base Ng qg sg g cdg X.A X.stack s H Eg).tr pn xe) W) (hr : Room (k + 1) (X.A.deeper (envOfC qg sg s.heap.objs.size g cdg)))
    (hN : Ng[i]? = some a) (hv : Vis sg a) (hd : (a == ("__debug__" : Str)) = false := by decide) (hcd : (a == ("__classdict__" : Str)) = false := by decide) :
    PE ((cxOf CXg X.prog X.w X.K X.mg X.base Ng qg sg g cdg X.A X.stack s H Eg).tr pn xe) (.Call (.Name a p1) [] [] p2)
      (fun σZ HZ Q => ∃ f, σZ[i]? = some (some (.ref f)) ∧ LamAt X r f HZ ∧ r.tb (WE W σZ) σ HZ Q) := by
  refine ⟨fun pinsZ sZ σZ HZ Q IZ want => ?_⟩
  obtain ⟨f, at_, lam, body⟩ := want
  refine wpAny_Call_Name_kw (thn ((pe_var (pos := p1) (i := i) hN hv hd hcd).run pinsZ sZ σZ HZ (fun v H1 => v = .ref f ∧ H1 = HZ) IZ ⟨.ref f, at_, rfl, rfl⟩) fun u s1 hu => ?_)
  obtain ⟨v, H1, I1, ru, ev, eH⟩ := hu
  subst ev
  rw [eH] at I1
  obtain rfl : u = Value.ref f := ru
  obtain ⟨dV, doc, pm, ctv, c', l1, l2, l3⟩ := id lam
  refine PySem.W.callWith_F0 ⟨_, _, _, _, fnO_at I1.hok l1⟩ ?_
  have un : Un (frs X.stack) [] H HZ s.heap s1.heap := I1.base
  have code := lam_code (A := X.A.deeper (envOfC qg sg s.heap.objs.size g cdg)) (outer := envOfC qg sg s.heap.objs.size g cdg :: X.stack) (E := WE W σZ) (Q := Q) (tb := r.tb (WE W σZ)) I R.names rfl hr I1.env0 I1.nolimit un lam R.bind R.loc (fun c' hk => R.run _ _ _ _ _ f c' hk) body
  refine wpAny_call (codeAny_mono code fun res s' hq => ?_)
  cases res with
  | error e => exact passAt tk σZ pinsZ HZ s1 e s' I1 hq
  | ok fl =>
    cases fl with
    | ret u => exact I1.after hq
    | next => exact hq.elim
    | brk => exact hq.elim
    | cont => exact hq.elim
end
end Fw

set_option Elab.async false
set_option linter.all false
set_option maxRecDepth 100000
set_option maxHeartbeats 2000000
/-! Lm7: x(y), y a lambda of the def, x a def that calls what it gets: from a comprehension's block, and from the def itself -/
namespace Fw
open PySem PySem.Spec PyProof.Rows L2 LamX
/-- what the def at g makes of the lambda at f, told at the maker's state -/
def GivesB (X : Cx) (pins : List (Addr × Obj)) (σ : L2.St) (k : Nat) (Ng : List Str) (x : Str) (sg : Scope) (g : Addr) (cdg : Value) (bg : List Stmt) (TG : Addr → Hp → VK → Prop) : Prop :=
  ∀ (s : Shared) (H : Hp) (f : Addr) (Q : VK), Inv X pins σ H s → Room k (X.A.deeper (envOfC x sg s.heap.objs.size g cdg)) → TG f H Q →
    ∃ t, PSs (cxOf C8.CX0 X.prog X.w X.K X.mg X.base Ng x sg g cdg X.A X.stack s H C8.E0) bg t ∧ t { nx := fun _ H' => Q .non H', rt := Q } (L2.start Ng [.ref f]) H
section
variable {X : Cx} {pins : List (Addr × Obj)} {σ : L2.St}
theorem give_run {k : Nat} {x a : Str} {g f : Addr} {pg : Arguments} {bg : List Stmt} {sg : Scope} {dV kV doc pm cdv ct oc : Value} {an od : Option Addr} {osl : Array (Option Value)} {Ng : List Str} {TG : Addr → Hp → VK → Prop} {s : Shared} {H : Hp} {Q : VK}
    (lk : X.K.lookup g = some ⟨oc, od, .func (PySem.W.fnOf x x pg bg sg dV kV doc pm an cdv ct), osl⟩) (hcg : PySem.W.codeIn X.K cdv x = true) (hb : L2.Binds X.K (PySem.W.fnOf x x pg bg sg dV kV doc pm an cdv ct) [a] []) (Sg : FnScope Ng [a] sg)
    (hG : GivesB X pins σ k Ng x sg g cdv bg TG) (hr : Room (k + 1) X.A) (I : Inv X pins σ H s) (h : TG f H Q) : codeAny (model X.prog X.w) X.A (.call (.ref g) ⟨[.ref f], []⟩) (CR C8.CX0 X.stack X.prog X.w H s Q C8.E0) s :=
  run_ofS (N := Ng) (ps := [a]) (us := [.ref f]) (vs := [.ref f]) lk hcg Sg hr I.env0 (hb s [.ref f] I.kIn rfl) (.cons rfl .nil) rfl fun hr' => hG s H f Q I hr' h
theorem pe_giveB {k i : Nat} {x a y : Str} {g : Addr} {pg : Arguments} {bg : List Stmt} {sg scope : Scope} {dV kV doc pm cdv ct oc : Value} {an od : Option Addr} {osl : Array (Option Value)} {Ng : List Str} {TG : Addr → Hp → VK → Prop} {s0 : Shared} {H0 : Hp} {ce : Env} {fp : List Addr} {p p1 pos : Pos}
    (home : Back X (X.blk s0 H0 scope ce fp) pins σ) (hg : Gl (X.blk s0 H0 scope ce fp) x) (hm : X.mg x = some (.ref g)) (hk : PySem.W.keepIn X.K (.ref g) = true)
    (lk : X.K.lookup g = some ⟨oc, od, .func (PySem.W.fnOf x x pg bg sg dV kV doc pm an cdv ct), osl⟩) (hcg : PySem.W.codeIn X.K cdv x = true) (hb : L2.Binds X.K (PySem.W.fnOf x x pg bg sg dV kV doc pm an cdv ct) [a] []) (Sg : FnScope Ng [a] sg)
    (hG : GivesB X pins σ k Ng x sg g cdv bg TG) (hr : Room (k + 1) X.A) (hN : X.N[i]? = some y) (hv : Vis ce.scope y)
    (hdb : (x == ("__debug__" : Str)) = false := by decide) (hd : (y == ("__debug__" : Str)) = false := by decide) (hcd : (y == ("__classdict__" : Str)) = false := by decide) :
    PE (X.blk s0 H0 scope ce fp) (.Call (.Name x p) [.Name y p1] [] pos) (fun σB HB Q => ∃ f, σB[i]? = some (some (.ref f)) ∧ TG f HB Q) := by
  refine ⟨fun pB sB σB HB Q J want => ?_⟩
  obtain ⟨f, at_, told⟩ := want
  refine wpAny_Call_Name_kw (ld_glob J hg hm ?_ hdb)
  have args : PA (X.blk s0 H0 scope ce fp) [.Name y p1] (tCons (tVar i) tNil) := pa_cons (pe_var hN hv hd hcd) pa_nil
  refine PySem.W.callWith_K (h₀ := X.base) J.ok.mod.kin hk (thn (args.run pos pB sB σB HB (fun vs H1 => vs = [V.ref f] ∧ H1 = HB) J ⟨.ref f, at_, rfl, rfl⟩) fun us s1 hu => ?_)
  obtain ⟨vs, H1, J1, r1, ev, eH⟩ := hu
  subst ev
  rw [eH] at J1
  refine ⟨J1.kIn, ?_⟩
  cases r1 with
  | cons ru rn =>
    rename_i u us'
    cases rn
    obtain rfl : u = Value.ref f := ru
    refine wpAny_call (codeAny_mono (give_run (X := X) (f := f) (Q := Q) lk hcg hb Sg hG hr (home _ _ _ _ J1) told) fun res s2 hq => ?_)
    cases res with
    | error e => exact (show False from hq).elim
    | ok fl =>
      cases fl with
      | ret u => exact J1.after hq
      | next => exact hq.elim
      | brk => exact hq.elim
      | cont => exact hq.elim
/-- x(lambda: ..) in the def -/
theorem pe_giveL {k : Nat} {x a : Str} {g : Addr} {pg : Arguments} {bg : List Stmt} {sg : Scope} {dV kV doc pm cdv ct oc : Value} {an od : Option Addr} {osl : Array (Option Value)} {Ng : List Str} {TG : L2.St → Addr → Hp → VK → Prop} {p pos : Pos} {e : Expr} {te : TE}
    (hg : Gl X x) (hm : X.mg x = some (.ref g)) (hk : PySem.W.keepIn X.K (.ref g) = true) (he : PE X e te) (hse : starEach [e] X.env = (false, eval e X.env) :: starEach [] X.env)
    (lk : X.K.lookup g = some ⟨oc, od, .func (PySem.W.fnOf x x pg bg sg dV kV doc pm an cdv ct), osl⟩) (hcg : PySem.W.codeIn X.K cdv x = true) (hb : L2.Binds X.K (PySem.W.fnOf x x pg bg sg dV kV doc pm an cdv ct) [a] []) (Sg : FnScope Ng [a] sg)
    (hG : ∀ pins σ, GivesB X pins σ k Ng x sg g cdv bg (TG σ)) (hr : Room (k + 1) X.A) (hdb : (x == ("__debug__" : Str)) = false := by decide) :
    PE X (.Call (.Name x p) [e] [] pos) (fun σ H Q => te σ H fun v H1 => ∃ f, v = .ref f ∧ TG σ f H1 Q) := by
  refine ⟨fun pins s σ H Q I want => ?_⟩
  refine wpAny_Call_Name_kw (ld_glob I hg hm ?_ hdb)
  refine PySem.W.callWith_K (h₀ := X.base) I.ok.mod.kin hk ?_ hse rfl
  rw [hse]
  show wpAny _ _ (spliced ((false, eval e X.env) :: backTo pos (starEach [] X.env))) _ _ s
  refine Calls.spliced_cons (thn (he.run pins s σ H _ I want) fun u s1 hu => ?_)
  obtain ⟨v, H1, I1, ru, f, ev, told⟩ := hu
  subst ev
  obtain rfl : u = Value.ref f := ru
  refine Calls.spliced_nil ⟨I1.kIn, ?_⟩
  refine wpAny_call (codeAny_mono (give_run (f := f) (Q := Q) lk hcg hb Sg (hG pins σ) hr I1 told) fun res s2 hq => ?_)
  cases res with
  | error e => exact (show False from hq).elim
  | ok fl =>
    cases fl with
    | ret u => exact I1.after hq
    | next => exact hq.elim
    | brk => exact hq.elim
    | cont => exact hq.elim
end
end Fw

set_option Elab.async false
set_option linter.all false
set_option maxRecDepth 100000
set_option maxHeartbeats 2000000
/-! Ls: lambdas in the frame: a lambda made is a step of the frame; what stands at its address stays -/
namespace Fw
open PySem PySem.Spec PyProof.Rows L2 LamX
section
variable {K : PySem.W.Frag} {F : Fx} {ρ : List Sl} {g g' : G} {σ : L2.St} {H H' : Hp}
theorem ext_notR (k : GOk F g H) {a : Addr} {φ : Heap → Prop} (h : H a = some (.ext φ)) : ¬ isR F a := fun z => by
  rcases z with z | z | z
  · rw [z, k.a] at h; cases h
  · rw [z, k.b] at h; cases h
  · obtain ⟨p, hp, rfl⟩ := List.mem_map.mp z
    obtain ⟨ps, h1, _⟩ := k.tab p hp
    rw [h1] at h; cases h
theorem exKeep (k : GOk F g H) (e : Ex (isR F) H H') {a : Addr} {φ : Heap → Prop} (h : H a = some (.ext φ)) : H' a = some (.ext φ) := e a _ h fun z => absurd z (ext_notR k h)
theorem isLam_ex (k : GOk F g H) (e : Ex (isR F) H H') {f : Addr} {q : Str} {params : Arguments} {body : Expr} {scope : Scope} {cl : List (Str × Addr)} {a : Option Str} (h : IsLam H f q params body scope cl a) : IsLam H' f q params body scope cl a := by
  obtain ⟨dV, doc, pm, ctv, c', h1, h2, h3⟩ := h
  refine ⟨dV, doc, pm, ctv, c', exKeep k e h1, exKeep k e h2, ?_⟩
  cases a with
  | none => exact h3
  | some x =>
    obtain ⟨T0, tk, e1, e2⟩ := h3
    exact ⟨T0, tk, e1, exKeep k e e2⟩
/-- a table grew: a step of the frame -/
theorem exP_step (k : GOk F g H) {Pt : Addr} {q : Str} (hT : (Pt, q) ∈ F.T) (e : ExP Pt H H') (t : Tabs F.T H') : Ex (isR F) H H' ∧ GOk F g H' := by
  obtain ⟨ps, hP, _⟩ := k.tab _ hT
  have hP : H Pt = some (.tbl ps) := hP
  have na : F.ra ≠ Pt := fun z => by have := k.a; rw [z, hP] at this; cases this
  have nb : F.rb ≠ Pt := fun z => by have := k.b; rw [z, hP] at this; cases this
  refine ⟨fun b o h n => e b o h fun z => ?_, ⟨k.ne, e _ _ k.a na, e _ _ k.b nb, k.sm, t⟩⟩
  subst z
  have hr : isR F b := .inr (.inr (List.mem_map.mpr ⟨_, hT, rfl⟩))
  have := n hr
  rw [hP] at h
  rw [← Option.some.inj h] at this
  exact this
/-- a lambda made -/
theorem lam_step {Pt : Addr} {q : Str} {params : Arguments} {body : Expr} {scope : Scope} {cl : List (Str × Addr)} {a : Option Str} {Q : VK} (k : GOk F g H) (hT : (Pt, q) ∈ F.T)
    (h : ∀ (f : Addr) (H1 : Hp), Ex (isR F) H H1 → GOk F g H1 → H f = none → IsLam H1 f q params body scope cl a → Q (.ref f) H1) : tLam F.T Pt q params body scope cl a σ H Q :=
  ⟨k.tab, fun f H1 e t hf hl => let ⟨e1, k1⟩ := exP_step k hT e t; h f H1 e1 k1 hf hl⟩
end
end Fw

set_option Elab.async false
set_option linter.all false
set_option maxRecDepth 100000
set_option maxHeartbeats 4000000
/-! Kg1: what a clause answers that asks an exception's kind, kind by kind -/
namespace Fw
open PySem PySem.Spec PyProof.Rows L2 LamX
def kAsk (K : PySem.W.Frag) (cs : Str → Addr) (Dc a : Addr) (d : Option Addr) (n : Str) : TE := tCB (rIsX K Dc a d) (tCons (tVar 1) (tCons (tC (.ref (cs n))) tNil))
def kSuite (K : PySem.W.Frag) (cs : Str → Addr) (Dc a : Addr) (d : Option Addr) : TS :=
  (tSeq (tAsg (tLst (tCons (kAsk K cs Dc a d "BadSeller") (tCons (kAsk K cs Dc a d "BadBuyer") (tCons (kAsk K cs Dc a d "NoBuyer") (tCons (kAsk K cs Dc a d "BadDeed") tNil))))) (gName 2))
    (tSeq (tDrop (tBM K "list" rExtend (tVar 2) (tCons (tLst (tCons (kAsk K cs Dc a d "BadPrices") (tCons (kAsk K cs Dc a d "BadDealing") (tCons (kAsk K cs Dc a d "BadText") tNil)))) tNil)))
    (tSeq (tDrop (tBM K "list" rExtend (tVar 2) (tCons (tLst (tCons (kAsk K cs Dc a d "BadCount") (tCons (kAsk K cs Dc a d "TooMany") tNil))) tNil)))
    (tSeq (tIfS (tOr (tTest (tOp rNe (tBM K "list" (rCntF K) (tVar 2) (tCons (tC (.bl true)) tNil)) (tC (.int 1)))) (tNot (tB (tCB (rIsX K Dc a d) (tCons (tVar 1) (tCons (tC (.ty "ValueError")) tNil)))))) (tRet (tTup (tCons (tC (.str "other")) (tCons (tC (.int 0)) tNil)))) tNext)
    (tSeq (tIfS (tTest (tOp (rIn K false) (tC (.bl true)) (tSl (rSlL K) (tVar 2) tNoPart (tPart (tC (.int 4)))))) (tRet (tTup (tCons (tOp (rIx K) (tLst (tCons (tC (.str "seller")) (tCons (tC (.str "buyer")) (tCons (tC (.str "nobuyer")) (tCons (tC (.str "deed")) tNil))))) (tBM K "list" (rIndex K) (tVar 2) (tCons (tC (.bl true)) tNil))) (tCons (tXf a (.ref Dc) d Dc "number" (tVar 1)) tNil)))) tNext)
    (tSeq (tIfS (tOr (tB (tOp (rIx K) (tVar 2) (tC (.int 4)))) (tB (tOp (rIx K) (tVar 2) (tC (.int 5))))) (tRet (tIf (tB (tOp (rIx K) (tVar 2) (tC (.int 4)))) (tTup (tCons (tC (.str "prices")) (tCons (tXf a (.ref Dc) d Dc "good" (tVar 1)) tNil))) (tTup (tCons (tC (.str "dealing")) (tCons (tXf a (.ref Dc) d Dc "buyer" (tVar 1)) tNil))))) tNext)
    (tRet (tIf (tB (tOp (rIx K) (tVar 2) (tC (.int 6)))) (tTup (tCons (tC (.str "text")) (tCons (tXf a (.ref Dc) d Dc "row" (tVar 1)) tNil))) (tIf (tB (tOp (rIx K) (tVar 2) (tC (.int 7)))) (tTup (tCons (tC (.str "count")) (tCons (tC (.int 0)) tNil))) (tTup (tCons (tC (.str "many")) (tCons (tC (.int 0)) tNil))))))))))))
theorem kite_f {c : Bool} {A B : Prop} (h : c = false) (b : B) : if c = true then A else B := by rw [h]; exact b
theorem kite_t {c : Bool} {A B : Prop} (h : c = true) (a : A) : if c = true then A else B := by rw [h]; exact a
theorem up_more {H H1 : Hp} {p : Addr} {o : HO} (up : ∀ b o, H b = some o → H1 b = some o) (hp : H1 p = none) : ∀ b u, H b = some u → upd H1 p o b = some u := fun b u e => by rw [upd_ne (ne_of_none (up b u e) hp)]; exact up b u e
/-- what is known of the class at Dc: it is the one of this name -/
structure KOf (K : PySem.W.Frag) (cs : Str → Addr) (Dc : Addr) (nm : Str) : Prop where
  kit : ∀ n, n ∈ excAll → PySem.W.kitOne K (.ref Dc) (.ref (cs n)) = some (decide (n = nm))
  ve : PySem.W.kitOne K (.ref Dc) (.type "ValueError") = some true

theorem kval0 {K : PySem.W.Frag} {cs : Str → Addr} {Dc a f : Addr} {D : Ends} {H : Hp} {dd : Addr} {i : Int} (ko : KOf K cs Dc "BadSeller") (hx : H dd = some (.xd [("number", .int i)])) (q : ∀ p H', (∀ b o, H b = some o → H' b = some o) → H p = none → H' p = some (.tup [.str "seller", .int i]) → D.rt (.ref p) H') :
    kSuite K cs Dc a (some dd) D [some (.ref f), some (.ref a), none] H := by
  have X : ∀ {n : Str} {H1 : Hp} {Q : VK} {σ1 : L2.St}, σ1[1]? = some (some (.ref a)) → n ∈ excAll → (∀ z, (some dd) = some z → ∃ fs, H1 z = some (.xd fs)) → Q (.bl (decide (n = ("BadSeller" : Str)))) H1 → kAsk K cs Dc a (some dd) n σ1 H1 Q :=
    fun {n H1 Q σ1} hs hn hd q => ⟨.ref a, hs, .ref (cs n), .ref (cs n), _, rfl, fun u r => r, ko.kit n hn, hd, q⟩
  have Xf : ∀ {n : Str} {H1 : Hp} {Q : VK} {σ1 : L2.St}, σ1[1]? = some (some (.ref a)) → n ∈ excAll → n ≠ ("BadSeller" : Str) → (∀ z, (some dd) = some z → ∃ fs, H1 z = some (.xd fs)) → Q (.bl false) H1 → kAsk K cs Dc a (some dd) n σ1 H1 Q :=
    fun hs hn ne hd q => X hs hn hd (by rw [decide_eq_false ne]; exact q)
  have Xt : ∀ {H1 : Hp} {Q : VK} {σ1 : L2.St}, ("BadSeller" : Str) ∈ excAll → σ1[1]? = some (some (.ref a)) → (∀ z, (some dd) = some z → ∃ fs, H1 z = some (.xd fs)) → Q (.bl true) H1 → kAsk K cs Dc a (some dd) "BadSeller" σ1 H1 Q :=
    fun hn hs hd q => X hs hn hd (by rw [decide_eq_true rfl]; exact q)
  have up0 : ∀ b o, H b = some o → H b = some o := fun _ _ e => e
  unfold kSuite
  refine Xt (by decide +kernel) rfl (fun z hz => by cases hz; exact ⟨_, up0 _ _ hx⟩) (Xf (n := "BadBuyer") rfl (by decide +kernel) (by decide +kernel) (fun z hz => by cases hz; exact ⟨_, up0 _ _ hx⟩) (Xf (n := "NoBuyer") rfl (by decide +kernel) (by decide +kernel) (fun z hz => by cases hz; exact ⟨_, up0 _ _ hx⟩) (Xf (n := "BadDeed") rfl (by decide +kernel) (by decide +kernel) (fun z hz => by cases hz; exact ⟨_, up0 _ _ hx⟩) (⟨by decide, fun p hp => ?_⟩))))
  have upA := up_more (o := .lst [.bl true, .bl false, .bl false, .bl false]) up0 hp
  have lA : (upd H p (.lst [.bl true, .bl false, .bl false, .bl false])) p = some (.lst [.bl true, .bl false, .bl false, .bl false]) := upd_same
  refine ⟨.ref p, rfl, .inl ⟨rfl, _, SqL.of lA⟩, Xf (n := "BadPrices") rfl (by decide +kernel) (by decide +kernel) (fun z hz => by cases hz; exact ⟨_, upA _ _ hx⟩) (Xf (n := "BadDealing") rfl (by decide +kernel) (by decide +kernel) (fun z hz => by cases hz; exact ⟨_, upA _ _ hx⟩) (Xf (n := "BadText") rfl (by decide +kernel) (by decide +kernel) (fun z hz => by cases hz; exact ⟨_, upA _ _ hx⟩) (⟨by decide, fun p2 hp2 => ?_⟩)))⟩
  have np2 : p ≠ p2 := fun z => by rw [← z, lA] at hp2; cases hp2
  have l1 : upd (upd H p (.lst [.bl true, .bl false, .bl false, .bl false])) p2 (.lst [.bl false, .bl false, .bl false]) p = some (.lst [.bl true, .bl false, .bl false, .bl false]) := by rw [upd_ne np2]; exact lA
  refine ⟨p, p2, _, _, rfl, rfl, l1, upd_same, by decide, ?_⟩
  have up1 : ∀ b o, H b = some o → upd (upd (upd H p (.lst [.bl true, .bl false, .bl false, .bl false])) p2 (.lst [.bl false, .bl false, .bl false])) p (.lst ([.bl true, .bl false, .bl false, .bl false] ++ [.bl false, .bl false, .bl false])) b = some o := fun b o e => by rw [upd_ne (ne_of_none e hp)]; exact up_more upA hp2 b o e
  generalize hH3 : upd (upd (upd H p (.lst [.bl true, .bl false, .bl false, .bl false])) p2 (.lst [.bl false, .bl false, .bl false])) p (.lst ([.bl true, .bl false, .bl false, .bl false] ++ [.bl false, .bl false, .bl false])) = H3 at up1
  have l3 : H3 p = some (.lst [.bl true, .bl false, .bl false, .bl false, .bl false, .bl false, .bl false]) := by rw [← hH3]; exact upd_same
  refine ⟨.ref p, rfl, .inl ⟨rfl, _, SqL.of l3⟩, Xf (n := "BadCount") rfl (by decide +kernel) (by decide +kernel) (fun z hz => by cases hz; exact ⟨_, up1 _ _ hx⟩) (Xf (n := "TooMany") rfl (by decide +kernel) (by decide +kernel) (fun z hz => by cases hz; exact ⟨_, up1 _ _ hx⟩) (⟨by decide, fun p3 hp3 => ?_⟩))⟩
  have n3 : p ≠ p3 := fun z => by rw [← z, l3] at hp3; cases hp3
  have l4 : upd H3 p3 (.lst [.bl false, .bl false]) p = some (.lst [.bl true, .bl false, .bl false, .bl false, .bl false, .bl false, .bl false]) := by rw [upd_ne n3]; exact l3
  refine ⟨p, p3, _, _, rfl, rfl, l4, upd_same, by decide, ?_⟩
  generalize hH5 : upd (upd H3 p3 _) p _ = H5
  have l5 : H5 p = some (.lst [.bl true, .bl false, .bl false, .bl false, .bl false, .bl false, .bl false, .bl false, .bl false]) := by rw [← hH5]; exact upd_same
  have up5 : ∀ b o, H b = some o → H5 b = some o := fun b o e => by rw [← hH5, upd_ne (ne_of_none e hp)]; exact up_more up1 hp3 b o e
  have s5 : SqL K H5 p _ := SqL.of l5
  refine ⟨.ref p, rfl, .inl ⟨rfl, _, s5⟩, p, _, .bl true, rfl, rfl, s5, rfl, rfl, ?_⟩
  refine ⟨rfl, _, rfl, kite_f (by decide) ?_⟩
  refine ⟨.ref a, rfl, .ty "ValueError", .type "ValueError", true, rfl, (fun u r => r), ko.ve, (fun z hz => by cases hz; exact ⟨_, up5 _ _ hx⟩), true, rfl, kite_f rfl ?_⟩
  refine ⟨.ref p, rfl, 4, rfl, p, _, rfl, s5, fun p4 hp4 => ?_⟩
  generalize hH6 : upd H5 p4 _ = H6
  have n4 : p ≠ p4 := fun z => by rw [← z, l5] at hp4; cases hp4
  have l6 : H6 p = some (.lst [.bl true, .bl false, .bl false, .bl false, .bl false, .bl false, .bl false, .bl false, .bl false]) := by rw [← hH6, upd_ne n4]; exact l5
  have up6 : ∀ b o, H b = some o → H6 b = some o := fun b o e => by rw [← hH6]; exact up_more up5 hp4 b o e
  have l4' : H6 p4 = some (.lst [.bl true, .bl false, .bl false, .bl false]) := by rw [← hH6]; exact upd_same
  have s6 : SqL K H6 p _ := SqL.of l6
  refine ⟨p4, _, rfl, .inl (SqL.of l4'), rfl, rfl, _, rfl, kite_t (by decide) ?_⟩
  refine ⟨by decide, fun p5 hp5 => ?_⟩
  have up7 := up_more (o := .lst [.str "seller", .str "buyer", .str "nobuyer", .str "deed"]) up6 hp5
  have n5 : p ≠ p5 := fun z => by rw [← z, l6] at hp5; cases hp5
  have l7 : upd H6 p5 (.lst [.str "seller", .str "buyer", .str "nobuyer", .str "deed"]) p = some (.lst [.bl true, .bl false, .bl false, .bl false, .bl false, .bl false, .bl false, .bl false, .bl false]) := by rw [upd_ne n5]; exact l6
  refine ⟨.ref p, rfl, .inl ⟨rfl, _, SqL.of l7⟩, p, _, .bl true, 0, .bl true, rfl, rfl, SqL.of l7, rfl, rfl, rfl, rfl, ?_, ?_⟩
  · intro m z' hm hz
    have : False := by omega
    exact this.elim
  refine .inl ⟨p5, _, (0 : Nat), _, rfl, rfl, SqL.of upd_same, atI_nat rfl, ?_⟩
  refine ⟨.ref a, rfl, rfl, rfl, dd, _, .int i, rfl, up7 _ _ hx, rfl, ⟨(show 2 ≤ sizeLine by decide), fun p6 hp6 => q p6 _ (up_more up7 hp6) ?_ upd_same⟩⟩
  cases z : H p6 with
  | none => rfl
  | some o => have := up7 p6 o z; rw [hp6] at this; cases this
theorem kval1 {K : PySem.W.Frag} {cs : Str → Addr} {Dc a f : Addr} {D : Ends} {H : Hp} {dd : Addr} {i : Int} (ko : KOf K cs Dc "BadBuyer") (hx : H dd = some (.xd [("number", .int i)])) (q : ∀ p H', (∀ b o, H b = some o → H' b = some o) → H p = none → H' p = some (.tup [.str "buyer", .int i]) → D.rt (.ref p) H') :
    kSuite K cs Dc a (some dd) D [some (.ref f), some (.ref a), none] H := by
  have X : ∀ {n : Str} {H1 : Hp} {Q : VK} {σ1 : L2.St}, σ1[1]? = some (some (.ref a)) → n ∈ excAll → (∀ z, (some dd) = some z → ∃ fs, H1 z = some (.xd fs)) → Q (.bl (decide (n = ("BadBuyer" : Str)))) H1 → kAsk K cs Dc a (some dd) n σ1 H1 Q :=
    fun {n H1 Q σ1} hs hn hd q => ⟨.ref a, hs, .ref (cs n), .ref (cs n), _, rfl, fun u r => r, ko.kit n hn, hd, q⟩
  have Xf : ∀ {n : Str} {H1 : Hp} {Q : VK} {σ1 : L2.St}, σ1[1]? = some (some (.ref a)) → n ∈ excAll → n ≠ ("BadBuyer" : Str) → (∀ z, (some dd) = some z → ∃ fs, H1 z = some (.xd fs)) → Q (.bl false) H1 → kAsk K cs Dc a (some dd) n σ1 H1 Q :=
    fun hs hn ne hd q => X hs hn hd (by rw [decide_eq_false ne]; exact q)
  have Xt : ∀ {H1 : Hp} {Q : VK} {σ1 : L2.St}, ("BadBuyer" : Str) ∈ excAll → σ1[1]? = some (some (.ref a)) → (∀ z, (some dd) = some z → ∃ fs, H1 z = some (.xd fs)) → Q (.bl true) H1 → kAsk K cs Dc a (some dd) "BadBuyer" σ1 H1 Q :=
    fun hn hs hd q => X hs hn hd (by rw [decide_eq_true rfl]; exact q)
  have up0 : ∀ b o, H b = some o → H b = some o := fun _ _ e => e
  unfold kSuite
  refine Xf (n := "BadSeller") rfl (by decide +kernel) (by decide +kernel) (fun z hz => by cases hz; exact ⟨_, up0 _ _ hx⟩) (Xt (by decide +kernel) rfl (fun z hz => by cases hz; exact ⟨_, up0 _ _ hx⟩) (Xf (n := "NoBuyer") rfl (by decide +kernel) (by decide +kernel) (fun z hz => by cases hz; exact ⟨_, up0 _ _ hx⟩) (Xf (n := "BadDeed") rfl (by decide +kernel) (by decide +kernel) (fun z hz => by cases hz; exact ⟨_, up0 _ _ hx⟩) (⟨by decide, fun p hp => ?_⟩))))
  have upA := up_more (o := .lst [.bl false, .bl true, .bl false, .bl false]) up0 hp
  have lA : (upd H p (.lst [.bl false, .bl true, .bl false, .bl false])) p = some (.lst [.bl false, .bl true, .bl false, .bl false]) := upd_same
  refine ⟨.ref p, rfl, .inl ⟨rfl, _, SqL.of lA⟩, Xf (n := "BadPrices") rfl (by decide +kernel) (by decide +kernel) (fun z hz => by cases hz; exact ⟨_, upA _ _ hx⟩) (Xf (n := "BadDealing") rfl (by decide +kernel) (by decide +kernel) (fun z hz => by cases hz; exact ⟨_, upA _ _ hx⟩) (Xf (n := "BadText") rfl (by decide +kernel) (by decide +kernel) (fun z hz => by cases hz; exact ⟨_, upA _ _ hx⟩) (⟨by decide, fun p2 hp2 => ?_⟩)))⟩
  have np2 : p ≠ p2 := fun z => by rw [← z, lA] at hp2; cases hp2
  have l1 : upd (upd H p (.lst [.bl false, .bl true, .bl false, .bl false])) p2 (.lst [.bl false, .bl false, .bl false]) p = some (.lst [.bl false, .bl true, .bl false, .bl false]) := by rw [upd_ne np2]; exact lA
  refine ⟨p, p2, _, _, rfl, rfl, l1, upd_same, by decide, ?_⟩
  have up1 : ∀ b o, H b = some o → upd (upd (upd H p (.lst [.bl false, .bl true, .bl false, .bl false])) p2 (.lst [.bl false, .bl false, .bl false])) p (.lst ([.bl false, .bl true, .bl false, .bl false] ++ [.bl false, .bl false, .bl false])) b = some o := fun b o e => by rw [upd_ne (ne_of_none e hp)]; exact up_more upA hp2 b o e
  generalize hH3 : upd (upd (upd H p (.lst [.bl false, .bl true, .bl false, .bl false])) p2 (.lst [.bl false, .bl false, .bl false])) p (.lst ([.bl false, .bl true, .bl false, .bl false] ++ [.bl false, .bl false, .bl false])) = H3 at up1
  have l3 : H3 p = some (.lst [.bl false, .bl true, .bl false, .bl false, .bl false, .bl false, .bl false]) := by rw [← hH3]; exact upd_same
  refine ⟨.ref p, rfl, .inl ⟨rfl, _, SqL.of l3⟩, Xf (n := "BadCount") rfl (by decide +kernel) (by decide +kernel) (fun z hz => by cases hz; exact ⟨_, up1 _ _ hx⟩) (Xf (n := "TooMany") rfl (by decide +kernel) (by decide +kernel) (fun z hz => by cases hz; exact ⟨_, up1 _ _ hx⟩) (⟨by decide, fun p3 hp3 => ?_⟩))⟩
  have n3 : p ≠ p3 := fun z => by rw [← z, l3] at hp3; cases hp3
  have l4 : upd H3 p3 (.lst [.bl false, .bl false]) p = some (.lst [.bl false, .bl true, .bl false, .bl false, .bl false, .bl false, .bl false]) := by rw [upd_ne n3]; exact l3
  refine ⟨p, p3, _, _, rfl, rfl, l4, upd_same, by decide, ?_⟩
  generalize hH5 : upd (upd H3 p3 _) p _ = H5
  have l5 : H5 p = some (.lst [.bl false, .bl true, .bl false, .bl false, .bl false, .bl false, .bl false, .bl false, .bl false]) := by rw [← hH5]; exact upd_same
  have up5 : ∀ b o, H b = some o → H5 b = some o := fun b o e => by rw [← hH5, upd_ne (ne_of_none e hp)]; exact up_more up1 hp3 b o e
  have s5 : SqL K H5 p _ := SqL.of l5
  refine ⟨.ref p, rfl, .inl ⟨rfl, _, s5⟩, p, _, .bl true, rfl, rfl, s5, rfl, rfl, ?_⟩
  refine ⟨rfl, _, rfl, kite_f (by decide) ?_⟩
  refine ⟨.ref a, rfl, .ty "ValueError", .type "ValueError", true, rfl, (fun u r => r), ko.ve, (fun z hz => by cases hz; exact ⟨_, up5 _ _ hx⟩), true, rfl, kite_f rfl ?_⟩
  refine ⟨.ref p, rfl, 4, rfl, p, _, rfl, s5, fun p4 hp4 => ?_⟩
  generalize hH6 : upd H5 p4 _ = H6
  have n4 : p ≠ p4 := fun z => by rw [← z, l5] at hp4; cases hp4
  have l6 : H6 p = some (.lst [.bl false, .bl true, .bl false, .bl false, .bl false, .bl false, .bl false, .bl false, .bl false]) := by rw [← hH6, upd_ne n4]; exact l5
  have up6 : ∀ b o, H b = some o → H6 b = some o := fun b o e => by rw [← hH6]; exact up_more up5 hp4 b o e
  have l4' : H6 p4 = some (.lst [.bl false, .bl true, .bl false, .bl false]) := by rw [← hH6]; exact upd_same
  have s6 : SqL K H6 p _ := SqL.of l6
  refine ⟨p4, _, rfl, .inl (SqL.of l4'), rfl, rfl, _, rfl, kite_t (by decide) ?_⟩
  refine ⟨by decide, fun p5 hp5 => ?_⟩
  have up7 := up_more (o := .lst [.str "seller", .str "buyer", .str "nobuyer", .str "deed"]) up6 hp5
  have n5 : p ≠ p5 := fun z => by rw [← z, l6] at hp5; cases hp5
  have l7 : upd H6 p5 (.lst [.str "seller", .str "buyer", .str "nobuyer", .str "deed"]) p = some (.lst [.bl false, .bl true, .bl false, .bl false, .bl false, .bl false, .bl false, .bl false, .bl false]) := by rw [upd_ne n5]; exact l6
  refine ⟨.ref p, rfl, .inl ⟨rfl, _, SqL.of l7⟩, p, _, .bl true, 1, .bl true, rfl, rfl, SqL.of l7, rfl, rfl, rfl, rfl, ?_, ?_⟩
  · intro m z' hm hz
    have : m = 0 := by omega
    subst this; cases hz; rfl
  refine .inl ⟨p5, _, (1 : Nat), _, rfl, rfl, SqL.of upd_same, atI_nat rfl, ?_⟩
  refine ⟨.ref a, rfl, rfl, rfl, dd, _, .int i, rfl, up7 _ _ hx, rfl, ⟨(show 2 ≤ sizeLine by decide), fun p6 hp6 => q p6 _ (up_more up7 hp6) ?_ upd_same⟩⟩
  cases z : H p6 with
  | none => rfl
  | some o => have := up7 p6 o z; rw [hp6] at this; cases this
theorem kval2 {K : PySem.W.Frag} {cs : Str → Addr} {Dc a f : Addr} {D : Ends} {H : Hp} {dd : Addr} {i : Int} (ko : KOf K cs Dc "NoBuyer") (hx : H dd = some (.xd [("number", .int i)])) (q : ∀ p H', (∀ b o, H b = some o → H' b = some o) → H p = none → H' p = some (.tup [.str "nobuyer", .int i]) → D.rt (.ref p) H') :
    kSuite K cs Dc a (some dd) D [some (.ref f), some (.ref a), none] H := by
  have X : ∀ {n : Str} {H1 : Hp} {Q : VK} {σ1 : L2.St}, σ1[1]? = some (some (.ref a)) → n ∈ excAll → (∀ z, (some dd) = some z → ∃ fs, H1 z = some (.xd fs)) → Q (.bl (decide (n = ("NoBuyer" : Str)))) H1 → kAsk K cs Dc a (some dd) n σ1 H1 Q :=
    fun {n H1 Q σ1} hs hn hd q => ⟨.ref a, hs, .ref (cs n), .ref (cs n), _, rfl, fun u r => r, ko.kit n hn, hd, q⟩
  have Xf : ∀ {n : Str} {H1 : Hp} {Q : VK} {σ1 : L2.St}, σ1[1]? = some (some (.ref a)) → n ∈ excAll → n ≠ ("NoBuyer" : Str) → (∀ z, (some dd) = some z → ∃ fs, H1 z = some (.xd fs)) → Q (.bl false) H1 → kAsk K cs Dc a (some dd) n σ1 H1 Q :=
    fun hs hn ne hd q => X hs hn hd (by rw [decide_eq_false ne]; exact q)
  have Xt : ∀ {H1 : Hp} {Q : VK} {σ1 : L2.St}, ("NoBuyer" : Str) ∈ excAll → σ1[1]? = some (some (.ref a)) → (∀ z, (some dd) = some z → ∃ fs, H1 z = some (.xd fs)) → Q (.bl true) H1 → kAsk K cs Dc a (some dd) "NoBuyer" σ1 H1 Q :=
    fun hn hs hd q => X hs hn hd (by rw [decide_eq_true rfl]; exact q)
  have up0 : ∀ b o, H b = some o → H b = some o := fun _ _ e => e
  unfold kSuite
  refine Xf (n := "BadSeller") rfl (by decide +kernel) (by decide +kernel) (fun z hz => by cases hz; exact ⟨_, up0 _ _ hx⟩) (Xf (n := "BadBuyer") rfl (by decide +kernel) (by decide +kernel) (fun z hz => by cases hz; exact ⟨_, up0 _ _ hx⟩) (Xt (by decide +kernel) rfl (fun z hz => by cases hz; exact ⟨_, up0 _ _ hx⟩) (Xf (n := "BadDeed") rfl (by decide +kernel) (by decide +kernel) (fun z hz => by cases hz; exact ⟨_, up0 _ _ hx⟩) (⟨by decide, fun p hp => ?_⟩))))
  have upA := up_more (o := .lst [.bl false, .bl false, .bl true, .bl false]) up0 hp
  have lA : (upd H p (.lst [.bl false, .bl false, .bl true, .bl false])) p = some (.lst [.bl false, .bl false, .bl true, .bl false]) := upd_same
  refine ⟨.ref p, rfl, .inl ⟨rfl, _, SqL.of lA⟩, Xf (n := "BadPrices") rfl (by decide +kernel) (by decide +kernel) (fun z hz => by cases hz; exact ⟨_, upA _ _ hx⟩) (Xf (n := "BadDealing") rfl (by decide +kernel) (by decide +kernel) (fun z hz => by cases hz; exact ⟨_, upA _ _ hx⟩) (Xf (n := "BadText") rfl (by decide +kernel) (by decide +kernel) (fun z hz => by cases hz; exact ⟨_, upA _ _ hx⟩) (⟨by decide, fun p2 hp2 => ?_⟩)))⟩
  have np2 : p ≠ p2 := fun z => by rw [← z, lA] at hp2; cases hp2
  have l1 : upd (upd H p (.lst [.bl false, .bl false, .bl true, .bl false])) p2 (.lst [.bl false, .bl false, .bl false]) p = some (.lst [.bl false, .bl false, .bl true, .bl false]) := by rw [upd_ne np2]; exact lA
  refine ⟨p, p2, _, _, rfl, rfl, l1, upd_same, by decide, ?_⟩
  have up1 : ∀ b o, H b = some o → upd (upd (upd H p (.lst [.bl false, .bl false, .bl true, .bl false])) p2 (.lst [.bl false, .bl false, .bl false])) p (.lst ([.bl false, .bl false, .bl true, .bl false] ++ [.bl false, .bl false, .bl false])) b = some o := fun b o e => by rw [upd_ne (ne_of_none e hp)]; exact up_more upA hp2 b o e
  generalize hH3 : upd (upd (upd H p (.lst [.bl false, .bl false, .bl true, .bl false])) p2 (.lst [.bl false, .bl false, .bl false])) p (.lst ([.bl false, .bl false, .bl true, .bl false] ++ [.bl false, .bl false, .bl false])) = H3 at up1
  have l3 : H3 p = some (.lst [.bl false, .bl false, .bl true, .bl false, .bl false, .bl false, .bl false]) := by rw [← hH3]; exact upd_same
  refine ⟨.ref p, rfl, .inl ⟨rfl, _, SqL.of l3⟩, Xf (n := "BadCount") rfl (by decide +kernel) (by decide +kernel) (fun z hz => by cases hz; exact ⟨_, up1 _ _ hx⟩) (Xf (n := "TooMany") rfl (by decide +kernel) (by decide +kernel) (fun z hz => by cases hz; exact ⟨_, up1 _ _ hx⟩) (⟨by decide, fun p3 hp3 => ?_⟩))⟩
  have n3 : p ≠ p3 := fun z => by rw [← z, l3] at hp3; cases hp3
  have l4 : upd H3 p3 (.lst [.bl false, .bl false]) p = some (.lst [.bl false, .bl false, .bl true, .bl false, .bl false, .bl false, .bl false]) := by rw [upd_ne n3]; exact l3
  refine ⟨p, p3, _, _, rfl, rfl, l4, upd_same, by decide, ?_⟩
  generalize hH5 : upd (upd H3 p3 _) p _ = H5
  have l5 : H5 p = some (.lst [.bl false, .bl false, .bl true, .bl false, .bl false, .bl false, .bl false, .bl false, .bl false]) := by rw [← hH5]; exact upd_same
  have up5 : ∀ b o, H b = some o → H5 b = some o := fun b o e => by rw [← hH5, upd_ne (ne_of_none e hp)]; exact up_more up1 hp3 b o e
  have s5 : SqL K H5 p _ := SqL.of l5
  refine ⟨.ref p, rfl, .inl ⟨rfl, _, s5⟩, p, _, .bl true, rfl, rfl, s5, rfl, rfl, ?_⟩
  refine ⟨rfl, _, rfl, kite_f (by decide) ?_⟩
  refine ⟨.ref a, rfl, .ty "ValueError", .type "ValueError", true, rfl, (fun u r => r), ko.ve, (fun z hz => by cases hz; exact ⟨_, up5 _ _ hx⟩), true, rfl, kite_f rfl ?_⟩
  refine ⟨.ref p, rfl, 4, rfl, p, _, rfl, s5, fun p4 hp4 => ?_⟩
  generalize hH6 : upd H5 p4 _ = H6
  have n4 : p ≠ p4 := fun z => by rw [← z, l5] at hp4; cases hp4
  have l6 : H6 p = some (.lst [.bl false, .bl false, .bl true, .bl false, .bl false, .bl false, .bl false, .bl false, .bl false]) := by rw [← hH6, upd_ne n4]; exact l5
  have up6 : ∀ b o, H b = some o → H6 b = some o := fun b o e => by rw [← hH6]; exact up_more up5 hp4 b o e
  have l4' : H6 p4 = some (.lst [.bl false, .bl false, .bl true, .bl false]) := by rw [← hH6]; exact upd_same
  have s6 : SqL K H6 p _ := SqL.of l6
  refine ⟨p4, _, rfl, .inl (SqL.of l4'), rfl, rfl, _, rfl, kite_t (by decide) ?_⟩
  refine ⟨by decide, fun p5 hp5 => ?_⟩
  have up7 := up_more (o := .lst [.str "seller", .str "buyer", .str "nobuyer", .str "deed"]) up6 hp5
  have n5 : p ≠ p5 := fun z => by rw [← z, l6] at hp5; cases hp5
  have l7 : upd H6 p5 (.lst [.str "seller", .str "buyer", .str "nobuyer", .str "deed"]) p = some (.lst [.bl false, .bl false, .bl true, .bl false, .bl false, .bl false, .bl false, .bl false, .bl false]) := by rw [upd_ne n5]; exact l6
  refine ⟨.ref p, rfl, .inl ⟨rfl, _, SqL.of l7⟩, p, _, .bl true, 2, .bl true, rfl, rfl, SqL.of l7, rfl, rfl, rfl, rfl, ?_, ?_⟩
  · intro m z' hm hz
    have : m = 0 ∨ m = 1 := by omega
    rcases this with rfl | rfl <;> (cases hz; rfl)
  refine .inl ⟨p5, _, (2 : Nat), _, rfl, rfl, SqL.of upd_same, atI_nat rfl, ?_⟩
  refine ⟨.ref a, rfl, rfl, rfl, dd, _, .int i, rfl, up7 _ _ hx, rfl, ⟨(show 2 ≤ sizeLine by decide), fun p6 hp6 => q p6 _ (up_more up7 hp6) ?_ upd_same⟩⟩
  cases z : H p6 with
  | none => rfl
  | some o => have := up7 p6 o z; rw [hp6] at this; cases this
theorem kval3 {K : PySem.W.Frag} {cs : Str → Addr} {Dc a f : Addr} {D : Ends} {H : Hp} {dd : Addr} {i : Int} (ko : KOf K cs Dc "BadDeed") (hx : H dd = some (.xd [("number", .int i)])) (q : ∀ p H', (∀ b o, H b = some o → H' b = some o) → H p = none → H' p = some (.tup [.str "deed", .int i]) → D.rt (.ref p) H') :
    kSuite K cs Dc a (some dd) D [some (.ref f), some (.ref a), none] H := by
  have X : ∀ {n : Str} {H1 : Hp} {Q : VK} {σ1 : L2.St}, σ1[1]? = some (some (.ref a)) → n ∈ excAll → (∀ z, (some dd) = some z → ∃ fs, H1 z = some (.xd fs)) → Q (.bl (decide (n = ("BadDeed" : Str)))) H1 → kAsk K cs Dc a (some dd) n σ1 H1 Q :=
    fun {n H1 Q σ1} hs hn hd q => ⟨.ref a, hs, .ref (cs n), .ref (cs n), _, rfl, fun u r => r, ko.kit n hn, hd, q⟩
  have Xf : ∀ {n : Str} {H1 : Hp} {Q : VK} {σ1 : L2.St}, σ1[1]? = some (some (.ref a)) → n ∈ excAll → n ≠ ("BadDeed" : Str) → (∀ z, (some dd) = some z → ∃ fs, H1 z = some (.xd fs)) → Q (.bl false) H1 → kAsk K cs Dc a (some dd) n σ1 H1 Q :=
    fun hs hn ne hd q => X hs hn hd (by rw [decide_eq_false ne]; exact q)
  have Xt : ∀ {H1 : Hp} {Q : VK} {σ1 : L2.St}, ("BadDeed" : Str) ∈ excAll → σ1[1]? = some (some (.ref a)) → (∀ z, (some dd) = some z → ∃ fs, H1 z = some (.xd fs)) → Q (.bl true) H1 → kAsk K cs Dc a (some dd) "BadDeed" σ1 H1 Q :=
    fun hn hs hd q => X hs hn hd (by rw [decide_eq_true rfl]; exact q)
  have up0 : ∀ b o, H b = some o → H b = some o := fun _ _ e => e
  unfold kSuite
  refine Xf (n := "BadSeller") rfl (by decide +kernel) (by decide +kernel) (fun z hz => by cases hz; exact ⟨_, up0 _ _ hx⟩) (Xf (n := "BadBuyer") rfl (by decide +kernel) (by decide +kernel) (fun z hz => by cases hz; exact ⟨_, up0 _ _ hx⟩) (Xf (n := "NoBuyer") rfl (by decide +kernel) (by decide +kernel) (fun z hz => by cases hz; exact ⟨_, up0 _ _ hx⟩) (Xt (by decide +kernel) rfl (fun z hz => by cases hz; exact ⟨_, up0 _ _ hx⟩) (⟨by decide, fun p hp => ?_⟩))))
  have upA := up_more (o := .lst [.bl false, .bl false, .bl false, .bl true]) up0 hp
  have lA : (upd H p (.lst [.bl false, .bl false, .bl false, .bl true])) p = some (.lst [.bl false, .bl false, .bl false, .bl true]) := upd_same
  refine ⟨.ref p, rfl, .inl ⟨rfl, _, SqL.of lA⟩, Xf (n := "BadPrices") rfl (by decide +kernel) (by decide +kernel) (fun z hz => by cases hz; exact ⟨_, upA _ _ hx⟩) (Xf (n := "BadDealing") rfl (by decide +kernel) (by decide +kernel) (fun z hz => by cases hz; exact ⟨_, upA _ _ hx⟩) (Xf (n := "BadText") rfl (by decide +kernel) (by decide +kernel) (fun z hz => by cases hz; exact ⟨_, upA _ _ hx⟩) (⟨by decide, fun p2 hp2 => ?_⟩)))⟩
  have np2 : p ≠ p2 := fun z => by rw [← z, lA] at hp2; cases hp2
  have l1 : upd (upd H p (.lst [.bl false, .bl false, .bl false, .bl true])) p2 (.lst [.bl false, .bl false, .bl false]) p = some (.lst [.bl false, .bl false, .bl false, .bl true]) := by rw [upd_ne np2]; exact lA
  refine ⟨p, p2, _, _, rfl, rfl, l1, upd_same, by decide, ?_⟩
  have up1 : ∀ b o, H b = some o → upd (upd (upd H p (.lst [.bl false, .bl false, .bl false, .bl true])) p2 (.lst [.bl false, .bl false, .bl false])) p (.lst ([.bl false, .bl false, .bl false, .bl true] ++ [.bl false, .bl false, .bl false])) b = some o := fun b o e => by rw [upd_ne (ne_of_none e hp)]; exact up_more upA hp2 b o e
  generalize hH3 : upd (upd (upd H p (.lst [.bl false, .bl false, .bl false, .bl true])) p2 (.lst [.bl false, .bl false, .bl false])) p (.lst ([.bl false, .bl false, .bl false, .bl true] ++ [.bl false, .bl false, .bl false])) = H3 at up1
  have l3 : H3 p = some (.lst [.bl false, .bl false, .bl false, .bl true, .bl false, .bl false, .bl false]) := by rw [← hH3]; exact upd_same
  refine ⟨.ref p, rfl, .inl ⟨rfl, _, SqL.of l3⟩, Xf (n := "BadCount") rfl (by decide +kernel) (by decide +kernel) (fun z hz => by cases hz; exact ⟨_, up1 _ _ hx⟩) (Xf (n := "TooMany") rfl (by decide +kernel) (by decide +kernel) (fun z hz => by cases hz; exact ⟨_, up1 _ _ hx⟩) (⟨by decide, fun p3 hp3 => ?_⟩))⟩
  have n3 : p ≠ p3 := fun z => by rw [← z, l3] at hp3; cases hp3
  have l4 : upd H3 p3 (.lst [.bl false, .bl false]) p = some (.lst [.bl false, .bl false, .bl false, .bl true, .bl false, .bl false, .bl false]) := by rw [upd_ne n3]; exact l3
  refine ⟨p, p3, _, _, rfl, rfl, l4, upd_same, by decide, ?_⟩
  generalize hH5 : upd (upd H3 p3 _) p _ = H5
  have l5 : H5 p = some (.lst [.bl false, .bl false, .bl false, .bl true, .bl false, .bl false, .bl false, .bl false, .bl false]) := by rw [← hH5]; exact upd_same
  have up5 : ∀ b o, H b = some o → H5 b = some o := fun b o e => by rw [← hH5, upd_ne (ne_of_none e hp)]; exact up_more up1 hp3 b o e
  have s5 : SqL K H5 p _ := SqL.of l5
  refine ⟨.ref p, rfl, .inl ⟨rfl, _, s5⟩, p, _, .bl true, rfl, rfl, s5, rfl, rfl, ?_⟩
  refine ⟨rfl, _, rfl, kite_f (by decide) ?_⟩
  refine ⟨.ref a, rfl, .ty "ValueError", .type "ValueError", true, rfl, (fun u r => r), ko.ve, (fun z hz => by cases hz; exact ⟨_, up5 _ _ hx⟩), true, rfl, kite_f rfl ?_⟩
  refine ⟨.ref p, rfl, 4, rfl, p, _, rfl, s5, fun p4 hp4 => ?_⟩
  generalize hH6 : upd H5 p4 _ = H6
  have n4 : p ≠ p4 := fun z => by rw [← z, l5] at hp4; cases hp4
  have l6 : H6 p = some (.lst [.bl false, .bl false, .bl false, .bl true, .bl false, .bl false, .bl false, .bl false, .bl false]) := by rw [← hH6, upd_ne n4]; exact l5
  have up6 : ∀ b o, H b = some o → H6 b = some o := fun b o e => by rw [← hH6]; exact up_more up5 hp4 b o e
  have l4' : H6 p4 = some (.lst [.bl false, .bl false, .bl false, .bl true]) := by rw [← hH6]; exact upd_same
  have s6 : SqL K H6 p _ := SqL.of l6
  refine ⟨p4, _, rfl, .inl (SqL.of l4'), rfl, rfl, _, rfl, kite_t (by decide) ?_⟩
  refine ⟨by decide, fun p5 hp5 => ?_⟩
  have up7 := up_more (o := .lst [.str "seller", .str "buyer", .str "nobuyer", .str "deed"]) up6 hp5
  have n5 : p ≠ p5 := fun z => by rw [← z, l6] at hp5; cases hp5
  have l7 : upd H6 p5 (.lst [.str "seller", .str "buyer", .str "nobuyer", .str "deed"]) p = some (.lst [.bl false, .bl false, .bl false, .bl true, .bl false, .bl false, .bl false, .bl false, .bl false]) := by rw [upd_ne n5]; exact l6
  refine ⟨.ref p, rfl, .inl ⟨rfl, _, SqL.of l7⟩, p, _, .bl true, 3, .bl true, rfl, rfl, SqL.of l7, rfl, rfl, rfl, rfl, ?_, ?_⟩
  · intro m z' hm hz
    have : m = 0 ∨ m = 1 ∨ m = 2 := by omega
    rcases this with rfl | rfl | rfl <;> (cases hz; rfl)
  refine .inl ⟨p5, _, (3 : Nat), _, rfl, rfl, SqL.of upd_same, atI_nat rfl, ?_⟩
  refine ⟨.ref a, rfl, rfl, rfl, dd, _, .int i, rfl, up7 _ _ hx, rfl, ⟨(show 2 ≤ sizeLine by decide), fun p6 hp6 => q p6 _ (up_more up7 hp6) ?_ upd_same⟩⟩
  cases z : H p6 with
  | none => rfl
  | some o => have := up7 p6 o z; rw [hp6] at this; cases this
theorem kval4 {K : PySem.W.Frag} {cs : Str → Addr} {Dc a f : Addr} {D : Ends} {H : Hp} {dd : Addr} {i : Int} (ko : KOf K cs Dc "BadPrices") (hx : H dd = some (.xd [("good", .int i)])) (q : ∀ p H', (∀ b o, H b = some o → H' b = some o) → H p = none → H' p = some (.tup [.str "prices", .int i]) → D.rt (.ref p) H') :
    kSuite K cs Dc a (some dd) D [some (.ref f), some (.ref a), none] H := by
  have X : ∀ {n : Str} {H1 : Hp} {Q : VK} {σ1 : L2.St}, σ1[1]? = some (some (.ref a)) → n ∈ excAll → (∀ z, (some dd) = some z → ∃ fs, H1 z = some (.xd fs)) → Q (.bl (decide (n = ("BadPrices" : Str)))) H1 → kAsk K cs Dc a (some dd) n σ1 H1 Q :=
    fun {n H1 Q σ1} hs hn hd q => ⟨.ref a, hs, .ref (cs n), .ref (cs n), _, rfl, fun u r => r, ko.kit n hn, hd, q⟩
  have Xf : ∀ {n : Str} {H1 : Hp} {Q : VK} {σ1 : L2.St}, σ1[1]? = some (some (.ref a)) → n ∈ excAll → n ≠ ("BadPrices" : Str) → (∀ z, (some dd) = some z → ∃ fs, H1 z = some (.xd fs)) → Q (.bl false) H1 → kAsk K cs Dc a (some dd) n σ1 H1 Q :=
    fun hs hn ne hd q => X hs hn hd (by rw [decide_eq_false ne]; exact q)
  have Xt : ∀ {H1 : Hp} {Q : VK} {σ1 : L2.St}, ("BadPrices" : Str) ∈ excAll → σ1[1]? = some (some (.ref a)) → (∀ z, (some dd) = some z → ∃ fs, H1 z = some (.xd fs)) → Q (.bl true) H1 → kAsk K cs Dc a (some dd) "BadPrices" σ1 H1 Q :=
    fun hn hs hd q => X hs hn hd (by rw [decide_eq_true rfl]; exact q)
  have up0 : ∀ b o, H b = some o → H b = some o := fun _ _ e => e
  unfold kSuite
  refine Xf (n := "BadSeller") rfl (by decide +kernel) (by decide +kernel) (fun z hz => by cases hz; exact ⟨_, up0 _ _ hx⟩) (Xf (n := "BadBuyer") rfl (by decide +kernel) (by decide +kernel) (fun z hz => by cases hz; exact ⟨_, up0 _ _ hx⟩) (Xf (n := "NoBuyer") rfl (by decide +kernel) (by decide +kernel) (fun z hz => by cases hz; exact ⟨_, up0 _ _ hx⟩) (Xf (n := "BadDeed") rfl (by decide +kernel) (by decide +kernel) (fun z hz => by cases hz; exact ⟨_, up0 _ _ hx⟩) (⟨by decide, fun p hp => ?_⟩))))
  have upA := up_more (o := .lst [.bl false, .bl false, .bl false, .bl false]) up0 hp
  have lA : (upd H p (.lst [.bl false, .bl false, .bl false, .bl false])) p = some (.lst [.bl false, .bl false, .bl false, .bl false]) := upd_same
  refine ⟨.ref p, rfl, .inl ⟨rfl, _, SqL.of lA⟩, Xt (by decide +kernel) rfl (fun z hz => by cases hz; exact ⟨_, upA _ _ hx⟩) (Xf (n := "BadDealing") rfl (by decide +kernel) (by decide +kernel) (fun z hz => by cases hz; exact ⟨_, upA _ _ hx⟩) (Xf (n := "BadText") rfl (by decide +kernel) (by decide +kernel) (fun z hz => by cases hz; exact ⟨_, upA _ _ hx⟩) (⟨by decide, fun p2 hp2 => ?_⟩)))⟩
  have np2 : p ≠ p2 := fun z => by rw [← z, lA] at hp2; cases hp2
  have l1 : upd (upd H p (.lst [.bl false, .bl false, .bl false, .bl false])) p2 (.lst [.bl true, .bl false, .bl false]) p = some (.lst [.bl false, .bl false, .bl false, .bl false]) := by rw [upd_ne np2]; exact lA
  refine ⟨p, p2, _, _, rfl, rfl, l1, upd_same, by decide, ?_⟩
  have up1 : ∀ b o, H b = some o → upd (upd (upd H p (.lst [.bl false, .bl false, .bl false, .bl false])) p2 (.lst [.bl true, .bl false, .bl false])) p (.lst ([.bl false, .bl false, .bl false, .bl false] ++ [.bl true, .bl false, .bl false])) b = some o := fun b o e => by rw [upd_ne (ne_of_none e hp)]; exact up_more upA hp2 b o e
  generalize hH3 : upd (upd (upd H p (.lst [.bl false, .bl false, .bl false, .bl false])) p2 (.lst [.bl true, .bl false, .bl false])) p (.lst ([.bl false, .bl false, .bl false, .bl false] ++ [.bl true, .bl false, .bl false])) = H3 at up1
  have l3 : H3 p = some (.lst [.bl false, .bl false, .bl false, .bl false, .bl true, .bl false, .bl false]) := by rw [← hH3]; exact upd_same
  refine ⟨.ref p, rfl, .inl ⟨rfl, _, SqL.of l3⟩, Xf (n := "BadCount") rfl (by decide +kernel) (by decide +kernel) (fun z hz => by cases hz; exact ⟨_, up1 _ _ hx⟩) (Xf (n := "TooMany") rfl (by decide +kernel) (by decide +kernel) (fun z hz => by cases hz; exact ⟨_, up1 _ _ hx⟩) (⟨by decide, fun p3 hp3 => ?_⟩))⟩
  have n3 : p ≠ p3 := fun z => by rw [← z, l3] at hp3; cases hp3
  have l4 : upd H3 p3 (.lst [.bl false, .bl false]) p = some (.lst [.bl false, .bl false, .bl false, .bl false, .bl true, .bl false, .bl false]) := by rw [upd_ne n3]; exact l3
  refine ⟨p, p3, _, _, rfl, rfl, l4, upd_same, by decide, ?_⟩
  generalize hH5 : upd (upd H3 p3 _) p _ = H5
  have l5 : H5 p = some (.lst [.bl false, .bl false, .bl false, .bl false, .bl true, .bl false, .bl false, .bl false, .bl false]) := by rw [← hH5]; exact upd_same
  have up5 : ∀ b o, H b = some o → H5 b = some o := fun b o e => by rw [← hH5, upd_ne (ne_of_none e hp)]; exact up_more up1 hp3 b o e
  have s5 : SqL K H5 p _ := SqL.of l5
  refine ⟨.ref p, rfl, .inl ⟨rfl, _, s5⟩, p, _, .bl true, rfl, rfl, s5, rfl, rfl, ?_⟩
  refine ⟨rfl, _, rfl, kite_f (by decide) ?_⟩
  refine ⟨.ref a, rfl, .ty "ValueError", .type "ValueError", true, rfl, (fun u r => r), ko.ve, (fun z hz => by cases hz; exact ⟨_, up5 _ _ hx⟩), true, rfl, kite_f rfl ?_⟩
  refine ⟨.ref p, rfl, 4, rfl, p, _, rfl, s5, fun p4 hp4 => ?_⟩
  generalize hH6 : upd H5 p4 _ = H6
  have n4 : p ≠ p4 := fun z => by rw [← z, l5] at hp4; cases hp4
  have l6 : H6 p = some (.lst [.bl false, .bl false, .bl false, .bl false, .bl true, .bl false, .bl false, .bl false, .bl false]) := by rw [← hH6, upd_ne n4]; exact l5
  have up6 : ∀ b o, H b = some o → H6 b = some o := fun b o e => by rw [← hH6]; exact up_more up5 hp4 b o e
  have l4' : H6 p4 = some (.lst [.bl false, .bl false, .bl false, .bl false]) := by rw [← hH6]; exact upd_same
  have s6 : SqL K H6 p _ := SqL.of l6
  refine ⟨p4, _, rfl, .inl (SqL.of l4'), rfl, rfl, _, rfl, kite_f (by decide) ?_⟩
  have at_ : ∀ {j : Nat} {b : Bool} {Q : VK}, ([.bl false, .bl false, .bl false, .bl false, .bl true, .bl false, .bl false, .bl false, .bl false] : List V)[j]? = some (.bl b) → Q (.bl b) H6 → rIx K (.ref p) (.int (j : Int)) H6 Q := fun {j b Q} hj q => .inl ⟨p, _, (j : Int), _, rfl, rfl, s6, atI_nat hj, q⟩
  refine ⟨.ref p, rfl, at_ (j := 4) rfl ⟨true, rfl, kite_t rfl ?_⟩⟩
  refine ⟨.ref p, rfl, at_ (j := 4) rfl ⟨true, rfl, kite_t rfl ?_⟩⟩
  refine ⟨.ref a, rfl, rfl, rfl, dd, _, .int i, rfl, up6 _ _ hx, rfl, ⟨(show 2 ≤ sizeLine by decide), fun p6 hp6 => q p6 _ (up_more up6 hp6) ?_ upd_same⟩⟩
  cases z : H p6 with
  | none => rfl
  | some o => have := up6 p6 o z; rw [hp6] at this; cases this
theorem kval5 {K : PySem.W.Frag} {cs : Str → Addr} {Dc a f : Addr} {D : Ends} {H : Hp} {dd : Addr} {i : Int} (ko : KOf K cs Dc "BadDealing") (hx : H dd = some (.xd [("buyer", .int i)])) (q : ∀ p H', (∀ b o, H b = some o → H' b = some o) → H p = none → H' p = some (.tup [.str "dealing", .int i]) → D.rt (.ref p) H') :
    kSuite K cs Dc a (some dd) D [some (.ref f), some (.ref a), none] H := by
  have X : ∀ {n : Str} {H1 : Hp} {Q : VK} {σ1 : L2.St}, σ1[1]? = some (some (.ref a)) → n ∈ excAll → (∀ z, (some dd) = some z → ∃ fs, H1 z = some (.xd fs)) → Q (.bl (decide (n = ("BadDealing" : Str)))) H1 → kAsk K cs Dc a (some dd) n σ1 H1 Q :=
    fun {n H1 Q σ1} hs hn hd q => ⟨.ref a, hs, .ref (cs n), .ref (cs n), _, rfl, fun u r => r, ko.kit n hn, hd, q⟩
  have Xf : ∀ {n : Str} {H1 : Hp} {Q : VK} {σ1 : L2.St}, σ1[1]? = some (some (.ref a)) → n ∈ excAll → n ≠ ("BadDealing" : Str) → (∀ z, (some dd) = some z → ∃ fs, H1 z = some (.xd fs)) → Q (.bl false) H1 → kAsk K cs Dc a (some dd) n σ1 H1 Q :=
    fun hs hn ne hd q => X hs hn hd (by rw [decide_eq_false ne]; exact q)
  have Xt : ∀ {H1 : Hp} {Q : VK} {σ1 : L2.St}, ("BadDealing" : Str) ∈ excAll → σ1[1]? = some (some (.ref a)) → (∀ z, (some dd) = some z → ∃ fs, H1 z = some (.xd fs)) → Q (.bl true) H1 → kAsk K cs Dc a (some dd) "BadDealing" σ1 H1 Q :=
    fun hn hs hd q => X hs hn hd (by rw [decide_eq_true rfl]; exact q)
  have up0 : ∀ b o, H b = some o → H b = some o := fun _ _ e => e
  unfold kSuite
  refine Xf (n := "BadSeller") rfl (by decide +kernel) (by decide +kernel) (fun z hz => by cases hz; exact ⟨_, up0 _ _ hx⟩) (Xf (n := "BadBuyer") rfl (by decide +kernel) (by decide +kernel) (fun z hz => by cases hz; exact ⟨_, up0 _ _ hx⟩) (Xf (n := "NoBuyer") rfl (by decide +kernel) (by decide +kernel) (fun z hz => by cases hz; exact ⟨_, up0 _ _ hx⟩) (Xf (n := "BadDeed") rfl (by decide +kernel) (by decide +kernel) (fun z hz => by cases hz; exact ⟨_, up0 _ _ hx⟩) (⟨by decide, fun p hp => ?_⟩))))
  have upA := up_more (o := .lst [.bl false, .bl false, .bl false, .bl false]) up0 hp
  have lA : (upd H p (.lst [.bl false, .bl false, .bl false, .bl false])) p = some (.lst [.bl false, .bl false, .bl false, .bl false]) := upd_same
  refine ⟨.ref p, rfl, .inl ⟨rfl, _, SqL.of lA⟩, Xf (n := "BadPrices") rfl (by decide +kernel) (by decide +kernel) (fun z hz => by cases hz; exact ⟨_, upA _ _ hx⟩) (Xt (by decide +kernel) rfl (fun z hz => by cases hz; exact ⟨_, upA _ _ hx⟩) (Xf (n := "BadText") rfl (by decide +kernel) (by decide +kernel) (fun z hz => by cases hz; exact ⟨_, upA _ _ hx⟩) (⟨by decide, fun p2 hp2 => ?_⟩)))⟩
  have np2 : p ≠ p2 := fun z => by rw [← z, lA] at hp2; cases hp2
  have l1 : upd (upd H p (.lst [.bl false, .bl false, .bl false, .bl false])) p2 (.lst [.bl false, .bl true, .bl false]) p = some (.lst [.bl false, .bl false, .bl false, .bl false]) := by rw [upd_ne np2]; exact lA
  refine ⟨p, p2, _, _, rfl, rfl, l1, upd_same, by decide, ?_⟩
  have up1 : ∀ b o, H b = some o → upd (upd (upd H p (.lst [.bl false, .bl false, .bl false, .bl false])) p2 (.lst [.bl false, .bl true, .bl false])) p (.lst ([.bl false, .bl false, .bl false, .bl false] ++ [.bl false, .bl true, .bl false])) b = some o := fun b o e => by rw [upd_ne (ne_of_none e hp)]; exact up_more upA hp2 b o e
  generalize hH3 : upd (upd (upd H p (.lst [.bl false, .bl false, .bl false, .bl false])) p2 (.lst [.bl false, .bl true, .bl false])) p (.lst ([.bl false, .bl false, .bl false, .bl false] ++ [.bl false, .bl true, .bl false])) = H3 at up1
  have l3 : H3 p = some (.lst [.bl false, .bl false, .bl false, .bl false, .bl false, .bl true, .bl false]) := by rw [← hH3]; exact upd_same
  refine ⟨.ref p, rfl, .inl ⟨rfl, _, SqL.of l3⟩, Xf (n := "BadCount") rfl (by decide +kernel) (by decide +kernel) (fun z hz => by cases hz; exact ⟨_, up1 _ _ hx⟩) (Xf (n := "TooMany") rfl (by decide +kernel) (by decide +kernel) (fun z hz => by cases hz; exact ⟨_, up1 _ _ hx⟩) (⟨by decide, fun p3 hp3 => ?_⟩))⟩
  have n3 : p ≠ p3 := fun z => by rw [← z, l3] at hp3; cases hp3
  have l4 : upd H3 p3 (.lst [.bl false, .bl false]) p = some (.lst [.bl false, .bl false, .bl false, .bl false, .bl false, .bl true, .bl false]) := by rw [upd_ne n3]; exact l3
  refine ⟨p, p3, _, _, rfl, rfl, l4, upd_same, by decide, ?_⟩
  generalize hH5 : upd (upd H3 p3 _) p _ = H5
  have l5 : H5 p = some (.lst [.bl false, .bl false, .bl false, .bl false, .bl false, .bl true, .bl false, .bl false, .bl false]) := by rw [← hH5]; exact upd_same
  have up5 : ∀ b o, H b = some o → H5 b = some o := fun b o e => by rw [← hH5, upd_ne (ne_of_none e hp)]; exact up_more up1 hp3 b o e
  have s5 : SqL K H5 p _ := SqL.of l5
  refine ⟨.ref p, rfl, .inl ⟨rfl, _, s5⟩, p, _, .bl true, rfl, rfl, s5, rfl, rfl, ?_⟩
  refine ⟨rfl, _, rfl, kite_f (by decide) ?_⟩
  refine ⟨.ref a, rfl, .ty "ValueError", .type "ValueError", true, rfl, (fun u r => r), ko.ve, (fun z hz => by cases hz; exact ⟨_, up5 _ _ hx⟩), true, rfl, kite_f rfl ?_⟩
  refine ⟨.ref p, rfl, 4, rfl, p, _, rfl, s5, fun p4 hp4 => ?_⟩
  generalize hH6 : upd H5 p4 _ = H6
  have n4 : p ≠ p4 := fun z => by rw [← z, l5] at hp4; cases hp4
  have l6 : H6 p = some (.lst [.bl false, .bl false, .bl false, .bl false, .bl false, .bl true, .bl false, .bl false, .bl false]) := by rw [← hH6, upd_ne n4]; exact l5
  have up6 : ∀ b o, H b = some o → H6 b = some o := fun b o e => by rw [← hH6]; exact up_more up5 hp4 b o e
  have l4' : H6 p4 = some (.lst [.bl false, .bl false, .bl false, .bl false]) := by rw [← hH6]; exact upd_same
  have s6 : SqL K H6 p _ := SqL.of l6
  refine ⟨p4, _, rfl, .inl (SqL.of l4'), rfl, rfl, _, rfl, kite_f (by decide) ?_⟩
  have at_ : ∀ {j : Nat} {b : Bool} {Q : VK}, ([.bl false, .bl false, .bl false, .bl false, .bl false, .bl true, .bl false, .bl false, .bl false] : List V)[j]? = some (.bl b) → Q (.bl b) H6 → rIx K (.ref p) (.int (j : Int)) H6 Q := fun {j b Q} hj q => .inl ⟨p, _, (j : Int), _, rfl, rfl, s6, atI_nat hj, q⟩
  refine ⟨.ref p, rfl, at_ (j := 4) rfl ⟨false, rfl, kite_f rfl ?_⟩⟩
  refine ⟨.ref p, rfl, at_ (j := 5) rfl ⟨true, rfl, kite_t rfl ?_⟩⟩
  refine ⟨.ref p, rfl, at_ (j := 4) rfl ⟨false, rfl, kite_f rfl ?_⟩⟩
  refine ⟨.ref a, rfl, rfl, rfl, dd, _, .int i, rfl, up6 _ _ hx, rfl, ⟨(show 2 ≤ sizeLine by decide), fun p6 hp6 => q p6 _ (up_more up6 hp6) ?_ upd_same⟩⟩
  cases z : H p6 with
  | none => rfl
  | some o => have := up6 p6 o z; rw [hp6] at this; cases this
theorem kval6 {K : PySem.W.Frag} {cs : Str → Addr} {Dc a f : Addr} {D : Ends} {H : Hp} {dd : Addr} {i : Int} (ko : KOf K cs Dc "BadText") (hx : H dd = some (.xd [("row", .int i)])) (q : ∀ p H', (∀ b o, H b = some o → H' b = some o) → H p = none → H' p = some (.tup [.str "text", .int i]) → D.rt (.ref p) H') :
    kSuite K cs Dc a (some dd) D [some (.ref f), some (.ref a), none] H := by
  have X : ∀ {n : Str} {H1 : Hp} {Q : VK} {σ1 : L2.St}, σ1[1]? = some (some (.ref a)) → n ∈ excAll → (∀ z, (some dd) = some z → ∃ fs, H1 z = some (.xd fs)) → Q (.bl (decide (n = ("BadText" : Str)))) H1 → kAsk K cs Dc a (some dd) n σ1 H1 Q :=
    fun {n H1 Q σ1} hs hn hd q => ⟨.ref a, hs, .ref (cs n), .ref (cs n), _, rfl, fun u r => r, ko.kit n hn, hd, q⟩
  have Xf : ∀ {n : Str} {H1 : Hp} {Q : VK} {σ1 : L2.St}, σ1[1]? = some (some (.ref a)) → n ∈ excAll → n ≠ ("BadText" : Str) → (∀ z, (some dd) = some z → ∃ fs, H1 z = some (.xd fs)) → Q (.bl false) H1 → kAsk K cs Dc a (some dd) n σ1 H1 Q :=
    fun hs hn ne hd q => X hs hn hd (by rw [decide_eq_false ne]; exact q)
  have Xt : ∀ {H1 : Hp} {Q : VK} {σ1 : L2.St}, ("BadText" : Str) ∈ excAll → σ1[1]? = some (some (.ref a)) → (∀ z, (some dd) = some z → ∃ fs, H1 z = some (.xd fs)) → Q (.bl true) H1 → kAsk K cs Dc a (some dd) "BadText" σ1 H1 Q :=
    fun hn hs hd q => X hs hn hd (by rw [decide_eq_true rfl]; exact q)
  have up0 : ∀ b o, H b = some o → H b = some o := fun _ _ e => e
  unfold kSuite
  refine Xf (n := "BadSeller") rfl (by decide +kernel) (by decide +kernel) (fun z hz => by cases hz; exact ⟨_, up0 _ _ hx⟩) (Xf (n := "BadBuyer") rfl (by decide +kernel) (by decide +kernel) (fun z hz => by cases hz; exact ⟨_, up0 _ _ hx⟩) (Xf (n := "NoBuyer") rfl (by decide +kernel) (by decide +kernel) (fun z hz => by cases hz; exact ⟨_, up0 _ _ hx⟩) (Xf (n := "BadDeed") rfl (by decide +kernel) (by decide +kernel) (fun z hz => by cases hz; exact ⟨_, up0 _ _ hx⟩) (⟨by decide, fun p hp => ?_⟩))))
  have upA := up_more (o := .lst [.bl false, .bl false, .bl false, .bl false]) up0 hp
  have lA : (upd H p (.lst [.bl false, .bl false, .bl false, .bl false])) p = some (.lst [.bl false, .bl false, .bl false, .bl false]) := upd_same
  refine ⟨.ref p, rfl, .inl ⟨rfl, _, SqL.of lA⟩, Xf (n := "BadPrices") rfl (by decide +kernel) (by decide +kernel) (fun z hz => by cases hz; exact ⟨_, upA _ _ hx⟩) (Xf (n := "BadDealing") rfl (by decide +kernel) (by decide +kernel) (fun z hz => by cases hz; exact ⟨_, upA _ _ hx⟩) (Xt (by decide +kernel) rfl (fun z hz => by cases hz; exact ⟨_, upA _ _ hx⟩) (⟨by decide, fun p2 hp2 => ?_⟩)))⟩
  have np2 : p ≠ p2 := fun z => by rw [← z, lA] at hp2; cases hp2
  have l1 : upd (upd H p (.lst [.bl false, .bl false, .bl false, .bl false])) p2 (.lst [.bl false, .bl false, .bl true]) p = some (.lst [.bl false, .bl false, .bl false, .bl false]) := by rw [upd_ne np2]; exact lA
  refine ⟨p, p2, _, _, rfl, rfl, l1, upd_same, by decide, ?_⟩
  have up1 : ∀ b o, H b = some o → upd (upd (upd H p (.lst [.bl false, .bl false, .bl false, .bl false])) p2 (.lst [.bl false, .bl false, .bl true])) p (.lst ([.bl false, .bl false, .bl false, .bl false] ++ [.bl false, .bl false, .bl true])) b = some o := fun b o e => by rw [upd_ne (ne_of_none e hp)]; exact up_more upA hp2 b o e
  generalize hH3 : upd (upd (upd H p (.lst [.bl false, .bl false, .bl false, .bl false])) p2 (.lst [.bl false, .bl false, .bl true])) p (.lst ([.bl false, .bl false, .bl false, .bl false] ++ [.bl false, .bl false, .bl true])) = H3 at up1
  have l3 : H3 p = some (.lst [.bl false, .bl false, .bl false, .bl false, .bl false, .bl false, .bl true]) := by rw [← hH3]; exact upd_same
  refine ⟨.ref p, rfl, .inl ⟨rfl, _, SqL.of l3⟩, Xf (n := "BadCount") rfl (by decide +kernel) (by decide +kernel) (fun z hz => by cases hz; exact ⟨_, up1 _ _ hx⟩) (Xf (n := "TooMany") rfl (by decide +kernel) (by decide +kernel) (fun z hz => by cases hz; exact ⟨_, up1 _ _ hx⟩) (⟨by decide, fun p3 hp3 => ?_⟩))⟩
  have n3 : p ≠ p3 := fun z => by rw [← z, l3] at hp3; cases hp3
  have l4 : upd H3 p3 (.lst [.bl false, .bl false]) p = some (.lst [.bl false, .bl false, .bl false, .bl false, .bl false, .bl false, .bl true]) := by rw [upd_ne n3]; exact l3
  refine ⟨p, p3, _, _, rfl, rfl, l4, upd_same, by decide, ?_⟩
  generalize hH5 : upd (upd H3 p3 _) p _ = H5
  have l5 : H5 p = some (.lst [.bl false, .bl false, .bl false, .bl false, .bl false, .bl false, .bl true, .bl false, .bl false]) := by rw [← hH5]; exact upd_same
  have up5 : ∀ b o, H b = some o → H5 b = some o := fun b o e => by rw [← hH5, upd_ne (ne_of_none e hp)]; exact up_more up1 hp3 b o e
  have s5 : SqL K H5 p _ := SqL.of l5
  refine ⟨.ref p, rfl, .inl ⟨rfl, _, s5⟩, p, _, .bl true, rfl, rfl, s5, rfl, rfl, ?_⟩
  refine ⟨rfl, _, rfl, kite_f (by decide) ?_⟩
  refine ⟨.ref a, rfl, .ty "ValueError", .type "ValueError", true, rfl, (fun u r => r), ko.ve, (fun z hz => by cases hz; exact ⟨_, up5 _ _ hx⟩), true, rfl, kite_f rfl ?_⟩
  refine ⟨.ref p, rfl, 4, rfl, p, _, rfl, s5, fun p4 hp4 => ?_⟩
  generalize hH6 : upd H5 p4 _ = H6
  have n4 : p ≠ p4 := fun z => by rw [← z, l5] at hp4; cases hp4
  have l6 : H6 p = some (.lst [.bl false, .bl false, .bl false, .bl false, .bl false, .bl false, .bl true, .bl false, .bl false]) := by rw [← hH6, upd_ne n4]; exact l5
  have up6 : ∀ b o, H b = some o → H6 b = some o := fun b o e => by rw [← hH6]; exact up_more up5 hp4 b o e
  have l4' : H6 p4 = some (.lst [.bl false, .bl false, .bl false, .bl false]) := by rw [← hH6]; exact upd_same
  have s6 : SqL K H6 p _ := SqL.of l6
  refine ⟨p4, _, rfl, .inl (SqL.of l4'), rfl, rfl, _, rfl, kite_f (by decide) ?_⟩
  have at_ : ∀ {j : Nat} {b : Bool} {Q : VK}, ([.bl false, .bl false, .bl false, .bl false, .bl false, .bl false, .bl true, .bl false, .bl false] : List V)[j]? = some (.bl b) → Q (.bl b) H6 → rIx K (.ref p) (.int (j : Int)) H6 Q := fun {j b Q} hj q => .inl ⟨p, _, (j : Int), _, rfl, rfl, s6, atI_nat hj, q⟩
  refine ⟨.ref p, rfl, at_ (j := 4) rfl ⟨false, rfl, kite_f rfl ?_⟩⟩
  refine ⟨.ref p, rfl, at_ (j := 5) rfl ⟨false, rfl, kite_f rfl ?_⟩⟩
  refine ⟨.ref p, rfl, at_ (j := 6) rfl ⟨true, rfl, kite_t rfl ?_⟩⟩
  refine ⟨.ref a, rfl, rfl, rfl, dd, _, .int i, rfl, up6 _ _ hx, rfl, ⟨(show 2 ≤ sizeLine by decide), fun p6 hp6 => q p6 _ (up_more up6 hp6) ?_ upd_same⟩⟩
  cases z : H p6 with
  | none => rfl
  | some o => have := up6 p6 o z; rw [hp6] at this; cases this
theorem kval7 {K : PySem.W.Frag} {cs : Str → Addr} {Dc a f : Addr} {D : Ends} {H : Hp} (ko : KOf K cs Dc "BadCount") (q : ∀ p H', (∀ b o, H b = some o → H' b = some o) → H p = none → H' p = some (.tup [.str "count", .int 0]) → D.rt (.ref p) H') :
    kSuite K cs Dc a none D [some (.ref f), some (.ref a), none] H := by
  have X : ∀ {n : Str} {H1 : Hp} {Q : VK} {σ1 : L2.St}, σ1[1]? = some (some (.ref a)) → n ∈ excAll → (∀ z, none = some z → ∃ fs, H1 z = some (.xd fs)) → Q (.bl (decide (n = ("BadCount" : Str)))) H1 → kAsk K cs Dc a none n σ1 H1 Q :=
    fun {n H1 Q σ1} hs hn hd q => ⟨.ref a, hs, .ref (cs n), .ref (cs n), _, rfl, fun u r => r, ko.kit n hn, hd, q⟩
  have Xf : ∀ {n : Str} {H1 : Hp} {Q : VK} {σ1 : L2.St}, σ1[1]? = some (some (.ref a)) → n ∈ excAll → n ≠ ("BadCount" : Str) → (∀ z, none = some z → ∃ fs, H1 z = some (.xd fs)) → Q (.bl false) H1 → kAsk K cs Dc a none n σ1 H1 Q :=
    fun hs hn ne hd q => X hs hn hd (by rw [decide_eq_false ne]; exact q)
  have Xt : ∀ {H1 : Hp} {Q : VK} {σ1 : L2.St}, ("BadCount" : Str) ∈ excAll → σ1[1]? = some (some (.ref a)) → (∀ z, none = some z → ∃ fs, H1 z = some (.xd fs)) → Q (.bl true) H1 → kAsk K cs Dc a none "BadCount" σ1 H1 Q :=
    fun hn hs hd q => X hs hn hd (by rw [decide_eq_true rfl]; exact q)
  have up0 : ∀ b o, H b = some o → H b = some o := fun _ _ e => e
  unfold kSuite
  refine Xf (n := "BadSeller") rfl (by decide +kernel) (by decide +kernel) (fun z hz => by cases hz) (Xf (n := "BadBuyer") rfl (by decide +kernel) (by decide +kernel) (fun z hz => by cases hz) (Xf (n := "NoBuyer") rfl (by decide +kernel) (by decide +kernel) (fun z hz => by cases hz) (Xf (n := "BadDeed") rfl (by decide +kernel) (by decide +kernel) (fun z hz => by cases hz) (⟨by decide, fun p hp => ?_⟩))))
  have upA := up_more (o := .lst [.bl false, .bl false, .bl false, .bl false]) up0 hp
  have lA : (upd H p (.lst [.bl false, .bl false, .bl false, .bl false])) p = some (.lst [.bl false, .bl false, .bl false, .bl false]) := upd_same
  refine ⟨.ref p, rfl, .inl ⟨rfl, _, SqL.of lA⟩, Xf (n := "BadPrices") rfl (by decide +kernel) (by decide +kernel) (fun z hz => by cases hz) (Xf (n := "BadDealing") rfl (by decide +kernel) (by decide +kernel) (fun z hz => by cases hz) (Xf (n := "BadText") rfl (by decide +kernel) (by decide +kernel) (fun z hz => by cases hz) (⟨by decide, fun p2 hp2 => ?_⟩)))⟩
  have np2 : p ≠ p2 := fun z => by rw [← z, lA] at hp2; cases hp2
  have l1 : upd (upd H p (.lst [.bl false, .bl false, .bl false, .bl false])) p2 (.lst [.bl false, .bl false, .bl false]) p = some (.lst [.bl false, .bl false, .bl false, .bl false]) := by rw [upd_ne np2]; exact lA
  refine ⟨p, p2, _, _, rfl, rfl, l1, upd_same, by decide, ?_⟩
  have up1 : ∀ b o, H b = some o → upd (upd (upd H p (.lst [.bl false, .bl false, .bl false, .bl false])) p2 (.lst [.bl false, .bl false, .bl false])) p (.lst ([.bl false, .bl false, .bl false, .bl false] ++ [.bl false, .bl false, .bl false])) b = some o := fun b o e => by rw [upd_ne (ne_of_none e hp)]; exact up_more upA hp2 b o e
  generalize hH3 : upd (upd (upd H p (.lst [.bl false, .bl false, .bl false, .bl false])) p2 (.lst [.bl false, .bl false, .bl false])) p (.lst ([.bl false, .bl false, .bl false, .bl false] ++ [.bl false, .bl false, .bl false])) = H3 at up1
  have l3 : H3 p = some (.lst [.bl false, .bl false, .bl false, .bl false, .bl false, .bl false, .bl false]) := by rw [← hH3]; exact upd_same
  refine ⟨.ref p, rfl, .inl ⟨rfl, _, SqL.of l3⟩, Xt (by decide +kernel) rfl (fun z hz => by cases hz) (Xf (n := "TooMany") rfl (by decide +kernel) (by decide +kernel) (fun z hz => by cases hz) (⟨by decide, fun p3 hp3 => ?_⟩))⟩
  have n3 : p ≠ p3 := fun z => by rw [← z, l3] at hp3; cases hp3
  have l4 : upd H3 p3 (.lst [.bl true, .bl false]) p = some (.lst [.bl false, .bl false, .bl false, .bl false, .bl false, .bl false, .bl false]) := by rw [upd_ne n3]; exact l3
  refine ⟨p, p3, _, _, rfl, rfl, l4, upd_same, by decide, ?_⟩
  generalize hH5 : upd (upd H3 p3 _) p _ = H5
  have l5 : H5 p = some (.lst [.bl false, .bl false, .bl false, .bl false, .bl false, .bl false, .bl false, .bl true, .bl false]) := by rw [← hH5]; exact upd_same
  have up5 : ∀ b o, H b = some o → H5 b = some o := fun b o e => by rw [← hH5, upd_ne (ne_of_none e hp)]; exact up_more up1 hp3 b o e
  have s5 : SqL K H5 p _ := SqL.of l5
  refine ⟨.ref p, rfl, .inl ⟨rfl, _, s5⟩, p, _, .bl true, rfl, rfl, s5, rfl, rfl, ?_⟩
  refine ⟨rfl, _, rfl, kite_f (by decide) ?_⟩
  refine ⟨.ref a, rfl, .ty "ValueError", .type "ValueError", true, rfl, (fun u r => r), ko.ve, (fun z hz => by cases hz), true, rfl, kite_f rfl ?_⟩
  refine ⟨.ref p, rfl, 4, rfl, p, _, rfl, s5, fun p4 hp4 => ?_⟩
  generalize hH6 : upd H5 p4 _ = H6
  have n4 : p ≠ p4 := fun z => by rw [← z, l5] at hp4; cases hp4
  have l6 : H6 p = some (.lst [.bl false, .bl false, .bl false, .bl false, .bl false, .bl false, .bl false, .bl true, .bl false]) := by rw [← hH6, upd_ne n4]; exact l5
  have up6 : ∀ b o, H b = some o → H6 b = some o := fun b o e => by rw [← hH6]; exact up_more up5 hp4 b o e
  have l4' : H6 p4 = some (.lst [.bl false, .bl false, .bl false, .bl false]) := by rw [← hH6]; exact upd_same
  have s6 : SqL K H6 p _ := SqL.of l6
  refine ⟨p4, _, rfl, .inl (SqL.of l4'), rfl, rfl, _, rfl, kite_f (by decide) ?_⟩
  have at_ : ∀ {j : Nat} {b : Bool} {Q : VK}, ([.bl false, .bl false, .bl false, .bl false, .bl false, .bl false, .bl false, .bl true, .bl false] : List V)[j]? = some (.bl b) → Q (.bl b) H6 → rIx K (.ref p) (.int (j : Int)) H6 Q := fun {j b Q} hj q => .inl ⟨p, _, (j : Int), _, rfl, rfl, s6, atI_nat hj, q⟩
  refine ⟨.ref p, rfl, at_ (j := 4) rfl ⟨false, rfl, kite_f rfl ?_⟩⟩
  refine ⟨.ref p, rfl, at_ (j := 5) rfl ⟨false, rfl, kite_f rfl ?_⟩⟩
  refine ⟨.ref p, rfl, at_ (j := 6) rfl ⟨false, rfl, kite_f rfl ?_⟩⟩
  refine ⟨.ref p, rfl, at_ (j := 7) rfl ⟨true, rfl, kite_t rfl ?_⟩⟩
  refine ⟨(show 2 ≤ sizeLine by decide), fun p6 hp6 => q p6 _ (up_more up6 hp6) ?_ upd_same⟩
  cases z : H p6 with
  | none => rfl
  | some o => have := up6 p6 o z; rw [hp6] at this; cases this
theorem kval8 {K : PySem.W.Frag} {cs : Str → Addr} {Dc a f : Addr} {D : Ends} {H : Hp} (ko : KOf K cs Dc "TooMany") (q : ∀ p H', (∀ b o, H b = some o → H' b = some o) → H p = none → H' p = some (.tup [.str "many", .int 0]) → D.rt (.ref p) H') :
    kSuite K cs Dc a none D [some (.ref f), some (.ref a), none] H := by
  have X : ∀ {n : Str} {H1 : Hp} {Q : VK} {σ1 : L2.St}, σ1[1]? = some (some (.ref a)) → n ∈ excAll → (∀ z, none = some z → ∃ fs, H1 z = some (.xd fs)) → Q (.bl (decide (n = ("TooMany" : Str)))) H1 → kAsk K cs Dc a none n σ1 H1 Q :=
    fun {n H1 Q σ1} hs hn hd q => ⟨.ref a, hs, .ref (cs n), .ref (cs n), _, rfl, fun u r => r, ko.kit n hn, hd, q⟩
  have Xf : ∀ {n : Str} {H1 : Hp} {Q : VK} {σ1 : L2.St}, σ1[1]? = some (some (.ref a)) → n ∈ excAll → n ≠ ("TooMany" : Str) → (∀ z, none = some z → ∃ fs, H1 z = some (.xd fs)) → Q (.bl false) H1 → kAsk K cs Dc a none n σ1 H1 Q :=
    fun hs hn ne hd q => X hs hn hd (by rw [decide_eq_false ne]; exact q)
  have Xt : ∀ {H1 : Hp} {Q : VK} {σ1 : L2.St}, ("TooMany" : Str) ∈ excAll → σ1[1]? = some (some (.ref a)) → (∀ z, none = some z → ∃ fs, H1 z = some (.xd fs)) → Q (.bl true) H1 → kAsk K cs Dc a none "TooMany" σ1 H1 Q :=
    fun hn hs hd q => X hs hn hd (by rw [decide_eq_true rfl]; exact q)
  have up0 : ∀ b o, H b = some o → H b = some o := fun _ _ e => e
  unfold kSuite
  refine Xf (n := "BadSeller") rfl (by decide +kernel) (by decide +kernel) (fun z hz => by cases hz) (Xf (n := "BadBuyer") rfl (by decide +kernel) (by decide +kernel) (fun z hz => by cases hz) (Xf (n := "NoBuyer") rfl (by decide +kernel) (by decide +kernel) (fun z hz => by cases hz) (Xf (n := "BadDeed") rfl (by decide +kernel) (by decide +kernel) (fun z hz => by cases hz) (⟨by decide, fun p hp => ?_⟩))))
  have upA := up_more (o := .lst [.bl false, .bl false, .bl false, .bl false]) up0 hp
  have lA : (upd H p (.lst [.bl false, .bl false, .bl false, .bl false])) p = some (.lst [.bl false, .bl false, .bl false, .bl false]) := upd_same
  refine ⟨.ref p, rfl, .inl ⟨rfl, _, SqL.of lA⟩, Xf (n := "BadPrices") rfl (by decide +kernel) (by decide +kernel) (fun z hz => by cases hz) (Xf (n := "BadDealing") rfl (by decide +kernel) (by decide +kernel) (fun z hz => by cases hz) (Xf (n := "BadText") rfl (by decide +kernel) (by decide +kernel) (fun z hz => by cases hz) (⟨by decide, fun p2 hp2 => ?_⟩)))⟩
  have np2 : p ≠ p2 := fun z => by rw [← z, lA] at hp2; cases hp2
  have l1 : upd (upd H p (.lst [.bl false, .bl false, .bl false, .bl false])) p2 (.lst [.bl false, .bl false, .bl false]) p = some (.lst [.bl false, .bl false, .bl false, .bl false]) := by rw [upd_ne np2]; exact lA
  refine ⟨p, p2, _, _, rfl, rfl, l1, upd_same, by decide, ?_⟩
  have up1 : ∀ b o, H b = some o → upd (upd (upd H p (.lst [.bl false, .bl false, .bl false, .bl false])) p2 (.lst [.bl false, .bl false, .bl false])) p (.lst ([.bl false, .bl false, .bl false, .bl false] ++ [.bl false, .bl false, .bl false])) b = some o := fun b o e => by rw [upd_ne (ne_of_none e hp)]; exact up_more upA hp2 b o e
  generalize hH3 : upd (upd (upd H p (.lst [.bl false, .bl false, .bl false, .bl false])) p2 (.lst [.bl false, .bl false, .bl false])) p (.lst ([.bl false, .bl false, .bl false, .bl false] ++ [.bl false, .bl false, .bl false])) = H3 at up1
  have l3 : H3 p = some (.lst [.bl false, .bl false, .bl false, .bl false, .bl false, .bl false, .bl false]) := by rw [← hH3]; exact upd_same
  refine ⟨.ref p, rfl, .inl ⟨rfl, _, SqL.of l3⟩, Xf (n := "BadCount") rfl (by decide +kernel) (by decide +kernel) (fun z hz => by cases hz) (Xt (by decide +kernel) rfl (fun z hz => by cases hz) (⟨by decide, fun p3 hp3 => ?_⟩))⟩
  have n3 : p ≠ p3 := fun z => by rw [← z, l3] at hp3; cases hp3
  have l4 : upd H3 p3 (.lst [.bl false, .bl true]) p = some (.lst [.bl false, .bl false, .bl false, .bl false, .bl false, .bl false, .bl false]) := by rw [upd_ne n3]; exact l3
  refine ⟨p, p3, _, _, rfl, rfl, l4, upd_same, by decide, ?_⟩
  generalize hH5 : upd (upd H3 p3 _) p _ = H5
  have l5 : H5 p = some (.lst [.bl false, .bl false, .bl false, .bl false, .bl false, .bl false, .bl false, .bl false, .bl true]) := by rw [← hH5]; exact upd_same
  have up5 : ∀ b o, H b = some o → H5 b = some o := fun b o e => by rw [← hH5, upd_ne (ne_of_none e hp)]; exact up_more up1 hp3 b o e
  have s5 : SqL K H5 p _ := SqL.of l5
  refine ⟨.ref p, rfl, .inl ⟨rfl, _, s5⟩, p, _, .bl true, rfl, rfl, s5, rfl, rfl, ?_⟩
  refine ⟨rfl, _, rfl, kite_f (by decide) ?_⟩
  refine ⟨.ref a, rfl, .ty "ValueError", .type "ValueError", true, rfl, (fun u r => r), ko.ve, (fun z hz => by cases hz), true, rfl, kite_f rfl ?_⟩
  refine ⟨.ref p, rfl, 4, rfl, p, _, rfl, s5, fun p4 hp4 => ?_⟩
  generalize hH6 : upd H5 p4 _ = H6
  have n4 : p ≠ p4 := fun z => by rw [← z, l5] at hp4; cases hp4
  have l6 : H6 p = some (.lst [.bl false, .bl false, .bl false, .bl false, .bl false, .bl false, .bl false, .bl false, .bl true]) := by rw [← hH6, upd_ne n4]; exact l5
  have up6 : ∀ b o, H b = some o → H6 b = some o := fun b o e => by rw [← hH6]; exact up_more up5 hp4 b o e
  have l4' : H6 p4 = some (.lst [.bl false, .bl false, .bl false, .bl false]) := by rw [← hH6]; exact upd_same
  have s6 : SqL K H6 p _ := SqL.of l6
  refine ⟨p4, _, rfl, .inl (SqL.of l4'), rfl, rfl, _, rfl, kite_f (by decide) ?_⟩
  have at_ : ∀ {j : Nat} {b : Bool} {Q : VK}, ([.bl false, .bl false, .bl false, .bl false, .bl false, .bl false, .bl false, .bl false, .bl true] : List V)[j]? = some (.bl b) → Q (.bl b) H6 → rIx K (.ref p) (.int (j : Int)) H6 Q := fun {j b Q} hj q => .inl ⟨p, _, (j : Int), _, rfl, rfl, s6, atI_nat hj, q⟩
  refine ⟨.ref p, rfl, at_ (j := 4) rfl ⟨false, rfl, kite_f rfl ?_⟩⟩
  refine ⟨.ref p, rfl, at_ (j := 5) rfl ⟨false, rfl, kite_f rfl ?_⟩⟩
  refine ⟨.ref p, rfl, at_ (j := 6) rfl ⟨false, rfl, kite_f rfl ?_⟩⟩
  refine ⟨.ref p, rfl, at_ (j := 7) rfl ⟨false, rfl, kite_f rfl ?_⟩⟩
  refine ⟨(show 2 ≤ sizeLine by decide), fun p6 hp6 => q p6 _ (up_more up6 hp6) ?_ upd_same⟩
  cases z : H p6 with
  | none => rfl
  | some o => have := up6 p6 o z; rw [hp6] at this; cases this
end Fw

set_option Elab.async false
set_option linter.all false
set_option maxRecDepth 100000
set_option maxHeartbeats 4000000
/-! Kg2: the kind of a lambda's end, whatever it is; lambdas in a list, asked one behind the other -/
namespace Fw
open PySem PySem.Spec PyProof.Rows L2 LamX
def excName : Nat → Str
  | 0 => "BadSeller" | 1 => "BadBuyer" | 2 => "NoBuyer" | 3 => "BadDeed" | 4 => "BadPrices" | 5 => "BadDealing" | 6 => "BadText" | 7 => "BadCount" | _ => "TooMany"
def kWord : Nat → Str
  | 0 => "seller" | 1 => "buyer" | 2 => "nobuyer" | 3 => "deed" | 4 => "prices" | 5 => "dealing" | 6 => "text" | 7 => "count" | _ => "many"
/-- (the word of a refusal, its value) -/
def kOfX (x : Exn) : Option D := match x.cls with
  | 7 => some (.tup [.str "count", .int 0])
  | 8 => some (.tup [.str "many", .int 0])
  | n => match excFld n, x.arg with
    | some _, .int i => some (.tup [.str (kWord n), .int i])
    | _, _ => none
def mKind (m : MV D) : MV D := fun ρ g => match m ρ g with
  | some (.ok _, g1) => some (.ok (.tup [.str "", .int 0]), g1)
  | some (.ex x, g1) => (match kOfX x with
    | some d => some (.ok d, g1)
    | none => none)
  | none => none
def mKinds : List (MV D) → MV (List D)
  | [] => mret []
  | m :: ms => mbind (mKind m) fun d => mbind (mKinds ms) fun l => mret (d :: l)
def kClause (K : PySem.W.Frag) (cs : Str → Addr) : Addr → Value → Option Addr → TS := fun a cls d D σ H => ∃ n, n ∈ excAll ∧ cls = .ref (cs n) ∧ kSuite K cs (cs n) a d D σ H
def kKind (K : PySem.W.Frag) (cs : Str → Addr) (CP : Addr) (tcall : WX → TE) : TS :=
  tSeq (fun D σ H => tDrop (tcall (wAs K (.ref CP) 1 (kClause K cs) (fun _ _ _ _ => False) D)) D σ H) (tRet (tTup (tCons (tC (.str "")) (tCons (tC (.int 0)) tNil))))
/-- the call of the lambda r, the def's own slots being σ -/
def kCall (X : Cx) (r : LamR) (σ : L2.St) (W : WX) : TE := fun σZ HZ Q => ∃ f, σZ[0]? = some (some (.ref f)) ∧ LamAt X r f HZ ∧ r.tb (WE W σZ) σ HZ Q
abbrev kN : List Str := ["_law_call", "e", "_law_kinds"]
def kTG (X : Cx) (K : PySem.W.Frag) (cs : Str → Addr) (CP : Addr) (rs : List LamR) (σ : L2.St) : Addr → Hp → VK → Prop := fun f H Q => ∃ r ∈ rs, kKind K cs CP (kCall X r σ) { nx := fun _ H' => Q .non H', rt := Q } (L2.start kN [.ref f]) H
theorem gok_up {F : Fx} {g : G} {H H' : Hp} (k : GOk F g H) (up : ∀ b o, H b = some o → H' b = some o) : GOk F g H' := ⟨k.ne, up _ _ k.a, up _ _ k.b, k.sm, k.tab.ext up⟩
section
variable {X : Cx} {K : PySem.W.Frag} {mg : Str → Option Value} {F : Fx} {ρ : List Sl} {g g' : G} {σ : L2.St} {H : Hp}
theorem kof (xf : XFacts K mg) {n : Str} (hn : n ∈ excAll) : KOf K (csK K) (csK K n) n := ⟨fun x hx => xf.kit n hn x hx, xf.ve n hn⟩
/-- an exception's clause answers its word and value -/
theorem kval_all (xf : XFacts K mg) {x : Exn} {d : D} {cls : Value} {dd : Option Addr} {a f : Addr} {D0 : Ends} (hd : kOfX x = some d) (hix : ixX (csK K) x cls dd H)
    (q : ∀ p H' (w : Str) (i : Int), d = .tup [.str w, .int i] → (∀ b o, H b = some o → H' b = some o) → H p = none → H' p = some (.tup [.str w, .int i]) → D0.rt (.ref p) H') :
    ∃ n, n ∈ excAll ∧ cls = .ref (csK K n) ∧ kSuite K (csK K) (csK K n) a dd D0 [some (.ref f), some (.ref a), none] H := by
  obtain ⟨c, arg⟩ := x
  have two : ∀ (c : Nat) (nm fl : Str), excFld c = some (nm, fl) → (∃ i, arg = .int i) → kOfX ⟨c, arg⟩ = some d → c ≠ 7 → c ≠ 8 → ∃ i, arg = .int i ∧ d = .tup [.str (kWord c), .int i] := by
    intro c nm fl h1 ⟨i, hi⟩ h3 h7 h8
    refine ⟨i, hi, ?_⟩
    unfold kOfX at h3
    split at h3
    · rename_i e; exact absurd e h7
    · rename_i e; exact absurd e h8
    · rw [h1] at h3
      simp only [hi] at h3
      exact (Option.some.inj h3).symm
  match c, hd, hix with
  | 0, hd, hix =>
    obtain ⟨rfl, p, i, rfl, ha, hp⟩ := hix
    obtain ⟨j, hj, e⟩ := two 0 _ _ rfl ⟨i, ha⟩ hd (by decide) (by decide)
    have : j = i := by have := ha.symm.trans hj; injection this with z; exact z.symm
    subst this
    exact ⟨_, by decide +kernel, rfl, kval0 (kof xf (by decide +kernel)) hp fun p H' u n t => q p H' _ _ e u n t⟩
  | 1, hd, hix =>
    obtain ⟨rfl, p, i, rfl, ha, hp⟩ := hix
    obtain ⟨j, hj, e⟩ := two 1 _ _ rfl ⟨i, ha⟩ hd (by decide) (by decide)
    have : j = i := by have := ha.symm.trans hj; injection this with z; exact z.symm
    subst this
    exact ⟨_, by decide +kernel, rfl, kval1 (kof xf (by decide +kernel)) hp fun p H' u n t => q p H' _ _ e u n t⟩
  | 2, hd, hix =>
    obtain ⟨rfl, p, i, rfl, ha, hp⟩ := hix
    obtain ⟨j, hj, e⟩ := two 2 _ _ rfl ⟨i, ha⟩ hd (by decide) (by decide)
    have : j = i := by have := ha.symm.trans hj; injection this with z; exact z.symm
    subst this
    exact ⟨_, by decide +kernel, rfl, kval2 (kof xf (by decide +kernel)) hp fun p H' u n t => q p H' _ _ e u n t⟩
  | 3, hd, hix =>
    obtain ⟨rfl, p, i, rfl, ha, hp⟩ := hix
    obtain ⟨j, hj, e⟩ := two 3 _ _ rfl ⟨i, ha⟩ hd (by decide) (by decide)
    have : j = i := by have := ha.symm.trans hj; injection this with z; exact z.symm
    subst this
    exact ⟨_, by decide +kernel, rfl, kval3 (kof xf (by decide +kernel)) hp fun p H' u n t => q p H' _ _ e u n t⟩
  | 4, hd, hix =>
    obtain ⟨rfl, p, i, rfl, ha, hp⟩ := hix
    obtain ⟨j, hj, e⟩ := two 4 _ _ rfl ⟨i, ha⟩ hd (by decide) (by decide)
    have : j = i := by have := ha.symm.trans hj; injection this with z; exact z.symm
    subst this
    exact ⟨_, by decide +kernel, rfl, kval4 (kof xf (by decide +kernel)) hp fun p H' u n t => q p H' _ _ e u n t⟩
  | 5, hd, hix =>
    obtain ⟨rfl, p, i, rfl, ha, hp⟩ := hix
    obtain ⟨j, hj, e⟩ := two 5 _ _ rfl ⟨i, ha⟩ hd (by decide) (by decide)
    have : j = i := by have := ha.symm.trans hj; injection this with z; exact z.symm
    subst this
    exact ⟨_, by decide +kernel, rfl, kval5 (kof xf (by decide +kernel)) hp fun p H' u n t => q p H' _ _ e u n t⟩
  | 6, hd, hix =>
    obtain ⟨rfl, p, i, rfl, ha, hp⟩ := hix
    obtain ⟨j, hj, e⟩ := two 6 _ _ rfl ⟨i, ha⟩ hd (by decide) (by decide)
    have : j = i := by have := ha.symm.trans hj; injection this with z; exact z.symm
    subst this
    exact ⟨_, by decide +kernel, rfl, kval6 (kof xf (by decide +kernel)) hp fun p H' u n t => q p H' _ _ e u n t⟩
  | 7, hd, hix =>
    obtain ⟨rfl, rfl⟩ := hix
    have e : d = .tup [.str "count", .int 0] := (Option.some.inj hd).symm
    exact ⟨_, by decide +kernel, rfl, kval7 (kof xf (by decide +kernel)) fun p H' u n t => q p H' _ _ e u n t⟩
  | 8, hd, hix =>
    obtain ⟨rfl, rfl⟩ := hix
    have e : d = .tup [.str "many", .int 0] := (Option.some.inj hd).symm
    exact ⟨_, by decide +kernel, rfl, kval8 (kof xf (by decide +kernel)) fun p H' u n t => q p H' _ _ e u n t⟩
  | n + 9, hd, hix => exact hix.elim
/-- one lambda asked for its kind -/
theorem kone (xf : XFacts K mg) {rs : List LamR} {f : Addr} {r : LamR} {b : Bool} {m : MV D} {d : D} {Q : VK} (R : Rep K F ρ g σ H) (hr : r ∈ rs) (hl : LamAt X r f H) (hre : ∀ E, RE K E (ixX (csK K)) b (r.tb E) m) (hm : mKind m ρ g = some (.ok d, g'))
    (hQ : ∀ p H' (w : Str) (i : Int), d = .tup [.str w, .int i] → Ex (isR F) H H' → GOk F g' H' → H p = none → H' p = some (.tup [.str w, .int i]) → Q (.ref p) H') : kTG X K (csK K) (csK K "PriceError") rs σ f H Q := by
  refine ⟨r, hr, f, rfl, hl, ?_⟩
  unfold mKind at hm
  split at hm
  · rename_i d0 g1 e
    cases hm
    refine hre _ F ρ g σ H R _ _ e _ fun v H1 e1 k1 _ => ⟨(show 2 ≤ sizeLine by decide), fun p hp => ?_⟩
    exact hQ p _ _ _ rfl (e1.trans (Ex.new hp)) (k1.new hp) (fresh_back R e1 k1 hp) upd_same
  · rename_i x g1 e
    split at hm
    · rename_i d1 hd
      cases hm
      refine hre _ F ρ g σ H R _ _ e _ fun cls dd H1 e1 k1 hix => ?_
      have hex : PySem.W.exmOne K cls (.ref (csK K "PriceError")) = some true := by
        obtain ⟨n, hn, rfl, _⟩ := kval_all (a := 0) (f := 0) (D0 := { nx := fun _ _ => True, rt := fun _ _ => True, bk := fun _ _ => True, ct := fun _ _ => True }) xf hd hix fun _ _ _ _ _ _ _ _ => trivial
        exact xf.ex n hn
      refine ⟨true, hex, fun _ a ha => ?_, fun z => by cases z⟩
      exact kval_all (f := f) xf hd hix fun p H2 w i ed up hn hp => hQ p H2 w i ed (e1.trans fun c o h _ => up c o h) (gok_up k1 up) (fresh_back R e1 k1 hn) hp
    · cases hm
  · cases hm
/-! ### lambdas one behind the other -/
/-- the lambdas rs at fs, their readings -/
def LamsAt (X : Cx) (K : PySem.W.Frag) (H : Hp) : List LamR → List (MV D) → List Addr → Prop
  | [], [], [] => True
  | r :: rs, m :: ms, f :: fs => LamAt X r f H ∧ (∃ b, ∀ E, RE K E (ixX (csK K)) b (r.tb E) m) ∧ LamsAt X K H rs ms fs
  | _, _, _ => False
theorem LamsAt.step {H' : Hp} (k : GOk F g H) (e : Ex (isR F) H H') : ∀ {rs : List LamR} {ms : List (MV D)} {fs : List Addr}, LamsAt X K H rs ms fs → LamsAt X K H' rs ms fs
  | [], [], [], h => h
  | r :: rs, m :: ms, f :: fs, h => ⟨isLam_ex k e h.1, h.2.1, LamsAt.step k e h.2.2⟩
  | [], _ :: _, _, h => h.elim
  | [], [], _ :: _, h => h.elim
  | _ :: _, [], _, h => h.elim
  | _ :: _, _ :: _, [], h => h.elim
theorem LamsAt.len : ∀ {rs : List LamR} {ms : List (MV D)} {fs : List Addr}, LamsAt X K H rs ms fs → ms.length = fs.length
  | [], [], [], _ => rfl
  | _ :: _, _ :: _, _ :: _, h => by simp [LamsAt.len h.2.2]
  | [], _ :: _, _, h => h.elim
  | [], [], _ :: _, h => h.elim
  | _ :: _, [], _, h => h.elim
  | _ :: _, _ :: _, [], h => h.elim
theorem LamsAt.app : ∀ {rs rs' : List LamR} {ms ms' : List (MV D)} {fs fs' : List Addr}, LamsAt X K H rs ms fs → LamsAt X K H rs' ms' fs' → LamsAt X K H (rs ++ rs') (ms ++ ms') (fs ++ fs')
  | [], _, [], _, [], _, _, h => h
  | _ :: _, _, _ :: _, _, _ :: _, _, h, h' => ⟨h.1, h.2.1, LamsAt.app h.2.2 h'⟩
  | [], _, _ :: _, _, _, _, h, _ => h.elim
  | [], _, [], _, _ :: _, _, h, _ => h.elim
  | _ :: _, _, [], _, _, _, h, _ => h.elim
  | _ :: _, _, _ :: _, _, [], _, h, _ => h.elim
theorem LamsAt.at : ∀ {rs : List LamR} {ms : List (MV D)} {fs : List Addr} {i : Nat} {f : Addr}, LamsAt X K H rs ms fs → fs[i]? = some f → ∃ r m b, r ∈ rs ∧ ms[i]? = some m ∧ LamAt X r f H ∧ ∀ E, RE K E (ixX (csK K)) b (r.tb E) m
  | _, _, [], _, _, _, h => by simp at h
  | r :: rs, m :: ms, f :: fs, 0, f', h, e => by
    simp at e; subst e
    obtain ⟨b, hb⟩ := h.2.1
    exact ⟨r, m, b, List.mem_cons_self, rfl, h.1, hb⟩
  | r :: rs, m :: ms, f :: fs, i + 1, f', h, e => by
    obtain ⟨r', m', b, h1, h2, h3, h4⟩ := LamsAt.at h.2.2 (i := i) (by simpa using e)
    exact ⟨r', m', b, List.mem_cons_of_mem _ h1, by simpa using h2, h3, h4⟩
  | [], _, _ :: _, _, _, h, _ => by cases ‹List (MV D)› <;> exact h.elim
  | _ :: _, [], _ :: _, _, _, h, _ => h.elim
/-- [kind(x) for x in works] -/
def kKinds (X : Cx) (K : PySem.W.Frag) (i j : Nat) (TG : L2.St → Addr → Hp → VK → Prop) : TE := fun σ H Q => tLc (iList K (tVar i)) (gName j) tYes (fun σB HB Q => ∃ f, σB[j]? = some (some (.ref f)) ∧ TG σ f HB Q) [j] σ H Q
theorem mKinds_drop : ∀ {ms : List (MV D)} {i : Nat} {m : MV D} {ρ : List Sl} {g g' : G} {l : List D}, ms[i]? = some m → mKinds (ms.drop i) ρ g = some (.ok l, g') → ∃ d r g1, l = d :: r ∧ mKind m ρ g = some (.ok d, g1) ∧ mKinds (ms.drop (i + 1)) ρ g1 = some (.ok r, g') := by
  intro ms i m ρ g g' l hi h
  have hlt : i < ms.length := (List.getElem?_eq_some_iff.mp hi).1
  have e : ms.drop i = m :: ms.drop (i + 1) := by
    rw [List.drop_eq_getElem_cons hlt]
    congr 1
    exact (List.getElem?_eq_some_iff.mp hi).2
  rw [e] at h
  unfold mKinds mbind at h
  split at h
  · rename_i d g1 h1
    dsimp only at h
    split at h
    · rename_i r g2 h2
      cases h
      exact ⟨d, r, g1, rfl, h1, h2⟩
    · cases h
    · cases h
  · cases h
  · cases h
theorem kkinds (xf : XFacts K mg) {i j : Nat} {L : Addr} {rs : List LamR} {ms : List (MV D)} {fs : List Addr} {ds : List D} {Q : VK} (R : Rep K F ρ g σ H) (hi : σ[i]? = some (some (.ref L))) (hj : j < σ.length) (hL : H L = some (.lst (fs.map V.ref))) (nL : ¬ isR F L) (hf : LamsAt X K H rs ms fs) (hz : fs.length ≤ 100)
    (hm : mKinds ms ρ g = some (.ok ds, g'))
    (hQ : ∀ (Da : Addr) (H2 : Hp) (xs : List V), Ex (isR F) H H2 → GOk F g' H2 → H Da = none → H2 Da = some (.lst xs) → IsL K F.ra (fun b => imB F ρ σ b ∨ b = Da) H2 ds xs → Q (.ref Da) H2) : kKinds X K i j (kTG X K (csK K) (csK K "PriceError") rs) σ H Q := by
  refine ⟨.ref L, hi, L, rfl, ⟨_, SqL.of hL⟩, fun Da hD => ?_⟩
  have nD : ¬ isR F Da := fun z => R.gok.there z hD
  have start : ∀ {H2 : Hp}, Ex (isR F) H H2 → ∀ {o : HO}, Ex (isR F) H (upd H2 Da o) := fun e o c u hc n => by
    rw [upd_ne (ne_of_none hc hD)]; exact e c u hc n
  refine lc_list (K := K) (g := gName j) (tt := tYes) (te := fun σB HB Q => ∃ f, σB[j]? = some (some (.ref f)) ∧ kTG X K (csK K) (csK K "PriceError") rs σ f HB Q) (vs := [j]) (σ := σ) (Qd := Q (.ref Da)) (xs := fs.map V.ref)
    (fun n H2 => ∃ (g2 : G) (done rest : List D) (xs : List V), Ex (isR F) H H2 ∧ GOk F g2 H2 ∧ ds = done ++ rest ∧ done.length = n ∧ mKinds (ms.drop n) ρ g2 = some (.ok rest, g') ∧ H2 Da = some (.lst xs) ∧ IsL K F.ra (fun b => imB F ρ σ b ∨ b = Da) H2 done xs)
    ⟨g, [], ds, [], start Ex.refl, R.gok.new hD, rfl, rfl, hm, upd_same, rfl⟩ (fun n H2 _ ⟨_, _, _, _, e, _⟩ => SqL.of (e.lst hL nL)) ?_ ?_
  · rintro n x H2 hx ⟨g2, done, rest, xs, e2, k2, hds, hn, hm2, hD2, hxs⟩
    rw [List.getElem?_map] at hx
    obtain ⟨f, hfi, rfl⟩ := Option.map_eq_some_iff.mp hx
    have hlt : n < fs.length := (List.getElem?_eq_some_iff.mp hfi).1
    refine ⟨?_, ?_⟩
    · show ((wipe σ []).set j none |>.set j (some (V.ref f))).set j none = _
      rw [List.set_set, List.set_set]
      rfl
    show ∃ f', _ ∧ _
    refine ⟨f, ?_, ?_⟩
    · show (((wipe σ []).set j none).set j (some (V.ref f)))[j]? = _
      rw [List.getElem?_set]
      have : j < ((wipe σ []).set j none).length := by rw [List.length_set]; exact hj
      simp [this]
      exact hj
    · obtain ⟨r, m, b, h1, h2, h3, h4⟩ := (hf.step R.gok e2).at hfi
      obtain ⟨d, rest', g3, rfl, hk, hm3⟩ := mKinds_drop h2 hm2
      refine kone xf (R.step e2 k2) h1 h3 h4 hk fun p H4 w v hd e4 k4 hp0 hp => ?_
      have hD4 := e4.lst hD2 nD
      have ex5 : Ex (fun b => isR F b ∨ b = Da) H2 (upd H4 Da (.lst (xs ++ [V.ref p]))) := fun c o hc hn => by
        by_cases hcD : c = Da
        · subst hcD
          rw [hD2] at hc
          cases hc
          exact absurd (hn (.inr rfl)) id
        · rw [upd_ne hcD]
          exact e4 c o hc fun z => hn (.inl z)
      have np : p ≠ Da := fun z => by rw [z, hD4] at hp; cases hp
      have hp5 : upd H4 Da (.lst (xs ++ [V.ref p])) p = some (.tup [.str w, .int v]) := by rw [upd_ne np]; exact hp
      refine ⟨_, hD4, ?_, g3, done ++ [d], rest', xs ++ [V.ref p], start (e2.trans e4), k4.put nD hD4, by rw [hds]; simp, by simp [hn], hm3, upd_same, ?_⟩
      · rw [hxs.length, hn]
        have := sizeLine_eq
        omega
      · refine (IsL.step (fun a z => ?_) ex5 hxs).append (.one ?_)
        · rcases z with z | z
          · exact .inl (R.im_r a z)
          · exact .inr z
        · rw [hd]
          exact ⟨p, _, rfl, SqT.of hp5, _, _, rfl, rfl, _, _, rfl, rfl, rfl⟩
  · rintro H2 ⟨g2, done, rest, xs, e2, k2, hds, hn, hm2, hD2, hxs⟩
    have e0 : ms.drop (fs.map V.ref).length = [] := by
      rw [List.length_map]
      exact List.drop_eq_nil_of_le (by rw [hf.len]; exact Nat.le_refl _)
    rw [e0] at hm2
    cases hm2
    rw [List.append_nil] at hds
    subst hds
    exact hQ Da H2 xs e2 k2 hD hD2 hxs
end
end Fw

set_option Elab.async false
set_option linter.all false
set_option maxRecDepth 100000
set_option maxHeartbeats 4000000
/-! Kg3: kind(lambda: ..); a list of lambdas made, added to, asked -/
namespace Fw
open PySem PySem.Spec PyProof.Rows L2 LamX
def tLamOf (X : Cx) (K : PySem.W.Frag) (P : Addr) (q : Str) (r : LamR) : TE := tLam (tabsK K) P q r.params r.body r.scope (cloFrom X.env.cells r.scope.names []) r.a
def tLamsA (X : Cx) (K : PySem.W.Frag) (P : Addr) (q : Str) : List LamR → TA
  | [] => tNil
  | r :: rs => tCons (tLamOf X K P q r) (tLamsA X K P q rs)
/-- readings of the lambdas' bodies -/
def LamsRe (K : PySem.W.Frag) : List LamR → List (MV D) → Prop
  | [], [] => True
  | r :: rs, m :: ms => (∃ b, ∀ E, RE K E (ixX (csK K)) b (r.tb E) m) ∧ LamsRe K rs ms
  | _, _ => False
section
variable {X : Cx} {K : PySem.W.Frag} {mg : Str → Option Value} {F : Fx} {ρ : List Sl} {g g' : G} {σ σb : L2.St} {H Hb : Hp} {P : Addr} {q : Str}
theorem lamOf_step {r : LamR} {Q : VK} (hk : F.T = tabsK K) (k : GOk F g H) (hT : (P, q) ∈ tabsK K) (hX : X.env.qual ++ "<lambda>" = q) (h : ∀ (f : Addr) (H1 : Hp), Ex (isR F) H H1 → GOk F g H1 → H f = none → LamAt X r f H1 → Q (.ref f) H1) : tLamOf X K P q r σ H Q := by
  unfold tLamOf
  rw [← hk] at hT ⊢
  exact lam_step k hT fun f H1 e k1 hf hl => h f H1 e k1 hf (by unfold LamAt; rw [hX]; exact hl)
theorem lams_made (hk : F.T = tabsK K) (hT : (P, q) ∈ tabsK K) (hX : X.env.qual ++ "<lambda>" = q) : ∀ {rs : List LamR} {ms : List (MV D)} {H : Hp} {Q : List V → Hp → Prop}, LamsRe K rs ms → GOk F g H →
    (∀ (fs : List Addr) (H1 : Hp), Ex (isR F) H H1 → GOk F g H1 → LamsAt X K H1 rs ms fs → Q (fs.map V.ref) H1) → tLamsA X K P q rs σ H Q
  | [], [], H, Q, _, k, h => h [] H Ex.refl k trivial
  | r :: rs, m :: ms, H, Q, hr, k, h => by
    unfold tLamsA tCons
    refine lamOf_step hk k hT hX fun f H1 e1 k1 _ hl => ?_
    refine lams_made hk hT hX hr.2 k1 fun fs H2 e2 k2 hL => ?_
    exact h (f :: fs) H2 (e1.trans e2) k2 ⟨isLam_ex k1 e2 hl, hr.1, hL⟩
  | [], _ :: _, _, _, hr, _, _ => hr.elim
  | _ :: _, [], _, _, hr, _, _ => hr.elim
/-- kind(lambda: ..) -/
def tKindL (X : Cx) (K : PySem.W.Frag) (P : Addr) (q : Str) (r : LamR) (rs : List LamR) : TE := fun σ H Q => tLamOf X K P q r σ H fun v H1 => ∃ f, v = .ref f ∧ kTG X K (csK K) (csK K "PriceError") rs σ f H1 Q
theorem re_kind {E : XK} {ix : IXT} {b b' : Bool} {m : MV D} {r : LamR} {rs : List LamR} (xf : XFacts K mg) (hT : (P, q) ∈ tabsK K) (hX : X.env.qual ++ "<lambda>" = q) (hr : r ∈ rs) (hre : ∀ E, RE K E (ixX (csK K)) b' (r.tb E) m) : RE K E ix b (tKindL X K P q r rs) (mKind m) := fun F ρ g σ H R rr g' e Q qq => by
  refine lamOf_step R.tk R.gok hT hX fun f H1 e1 k1 _ hl => ⟨f, rfl, ?_⟩
  cases rr with
  | ok d =>
    refine kone xf (R.step e1 k1) hr hl hre e fun p H2 w i hd e2 k2 hn hp => ?_
    exact qq (.ref p) H2 (e1.trans e2) k2 (by rw [hd]; exact ⟨p, _, rfl, SqT.of hp, _, _, rfl, rfl, _, _, rfl, rfl, rfl⟩)
  | ex x =>
    exfalso
    unfold mKind at e
    split at e
    · cases e
    · split at e <;> cases e
    · cases e
/-! ### lists of lambdas -/
structure LS (X : Cx) (K : PySem.W.Frag) (F : Fx) (ρ : List Sl) (σb : L2.St) (Hb : Hp) (i : Nat) (rs : List LamR) (ms : List (MV D)) (σ : L2.St) (H : Hp) : Prop where
  no : ρ[i]? = some .no
  ex : Ex (isR F) Hb H
  sg : ∃ x, σ = σb.set i x
  at_ : ∃ (L : Addr) (fs : List Addr), σ[i]? = some (some (.ref L)) ∧ H L = some (.lst (fs.map V.ref)) ∧ ¬ isR F L ∧ Hb L = none ∧ LamsAt X K H rs ms fs ∧ fs.length ≤ 100
theorem no_set {i : Nat} (h : ρ[i]? = some .no) : ρ.set i .no = ρ := by
  obtain ⟨hi, e⟩ := List.getElem?_eq_some_iff.mp h
  rw [← e]; exact List.set_getElem_self hi
theorem own_off {i : Nat} {x : Option V} (h : ρ[i]? = some .no) {a : Addr} (o : Own ρ (σb.set i x) a) : Own ρ σb a := by
  obtain ⟨j, l, h1, h2⟩ := o
  have n : i ≠ j := fun z => by subst z; rw [h] at h1; cases h1
  rw [List.getElem?_set_ne n] at h2
  exact ⟨j, l, h1, h2⟩
theorem own_on {i : Nat} {x : Option V} (h : ρ[i]? = some .no) {a : Addr} (o : Own ρ σb a) : Own ρ (σb.set i x) a := by
  obtain ⟨j, l, h1, h2⟩ := o
  have n : i ≠ j := fun z => by subst z; rw [h] at h1; cases h1
  exact ⟨j, l, h1, by rw [List.getElem?_set_ne n]; exact h2⟩
theorem LS.fr {i : Nat} {rs : List LamR} {ms : List (MV D)} (s : LS X K F ρ σb Hb i rs ms σ H) : Fr F ρ σb Hb ρ σ H := by
  obtain ⟨x, hx⟩ := s.sg
  exact ⟨s.ex.mono fun _ h => .inl h, fun a o => .inl (by rw [hx] at o; exact own_off s.no o)⟩
theorem LS.rep {i : Nat} {x : Option V} {g0 : G} (no : ρ[i]? = some .no) (R : Rep K F ρ g0 σb Hb) (e : Ex (isR F) Hb H) (k : GOk F g H) : Rep K F ρ g (σb.set i x) H := by
  have := (R.step e k).set (i := i) (s := .no) (x := x) (fun l z => by cases z) trivial
  rw [no_set no] at this
  exact this
/-- a statement that may ask the lambdas in slot i -/
def RSL (X : Cx) (K : PySem.W.Frag) (E : XK) (ix : IXT) (i : Nat) (rs : List LamR) (ms : List (MV D)) (t : TS) (m : MSt) : Prop := ∀ (F : Fx) (ρ : List Sl) (g0 g : G) (σb σ : L2.St) (Hb H : Hp), Rep K F ρ g0 σb Hb → Rep K F ρ g σ H → LS X K F ρ σb Hb i rs ms σ H →
  ∀ fl ρ' g', m ρ g = some (fl, ρ', g') → ∀ De : Ends, SPost K E ix F ρ σb Hb De fl ρ' g' → t De σ H
variable {E : XK} {ix : IXT} {i j : Nat} {rs rs' : List LamR} {ms ms' : List (MV D)} {t t1 t2 : TS} {m m1 m2 : MSt}
theorem rsl_of (h : RS K E ix t m) : RSL X K E ix i rs ms t m := fun F ρ g0 g σb σ Hb H R0 R s fl ρ' g' e De qq => h F ρ g σ H R fl ρ' g' e De (qq.on R0 R s.fr)
theorem rsl_seq (h1 : RSL X K E ix i rs ms t1 m1) (h2 : RS K E ix t2 m2) : RSL X K E ix i rs ms (tSeq t1 t2) (mSeq m1 m2) := fun F ρ g0 g σb σ Hb H R0 R s fl ρ' g' e De qq => by
  unfold mSeq at e
  cases hm : m1 ρ g with
  | none => rw [hm] at e; cases e
  | some p =>
    obtain ⟨fl1, ρ1, g1⟩ := p
    rw [hm] at e
    cases fl1 with
    | nx => exact h1 F ρ g0 g σb σ Hb H R0 R s _ _ _ hm { De with nx := t2 De } fun σ1 H1 R1 f1 => h2 F ρ1 g1 σ1 H1 R1 fl ρ' g' e De (qq.on R0 R1 f1)
    | bk => cases e; exact h1 F ρ g0 g σb σ Hb H R0 R s _ _ _ hm { De with nx := t2 De } qq
    | ct => cases e; exact h1 F ρ g0 g σb σ Hb H R0 R s _ _ _ hm { De with nx := t2 De } qq
    | rt d => cases e; exact h1 F ρ g0 g σb σ Hb H R0 R s _ _ _ hm { De with nx := t2 De } qq
    | ex x => cases e; exact h1 F ρ g0 g σb σ Hb H R0 R s _ _ _ hm { De with nx := t2 De } qq
def isNo : Option Sl → Bool
  | some .no => true
  | _ => false
theorem isNo_is {o : Option Sl} (h : isNo o = true) : o = some .no := by
  unfold isNo at h
  split at h
  · rfl
  · cases h
def mLamNew (i n : Nat) (m : MSt) : MSt := fun ρ g => if isNo ρ[i]? = true ∧ n ≤ 100 then m ρ g else none
/-- works = [lambda: .., ..] -/
theorem rs_lamNew (hT : (P, q) ∈ tabsK K) (hX : X.env.qual ++ "<lambda>" = q) (hr : LamsRe K rs ms) (h : RSL X K E ix i rs ms t m) : RS K E ix (tSeq (tAsg (tLst (tLamsA X K P q rs)) (gName i)) t) (mLamNew i rs.length m) := fun F ρ g σ H R fl ρ' g' e De qq => by
  unfold mLamNew at e
  split at e
  · rename_i hc
    have no := isNo_is hc.1
    have hi : i < σ.length := by rw [R.len]; exact (List.getElem?_eq_some_iff.mp no).1
    refine lams_made R.tk hT hX hr R.gok fun fs H1 e1 k1 hL => ?_
    have hlen : fs.length = rs.length := by
      rw [← hL.len]
      have : ∀ {rs : List LamR} {ms : List (MV D)}, LamsRe K rs ms → ms.length = rs.length := by
        intro rs
        induction rs with
        | nil => intro ms h; cases ms with
          | nil => rfl
          | cons _ _ => exact h.elim
        | cons r rs ih => intro ms h; cases ms with
          | nil => exact h.elim
          | cons m ms => simp [ih h.2]
      exact this hr
    refine ⟨by rw [List.length_map, hlen, sizeLine_eq]; omega, fun p hp => ?_⟩
    have ep : Ex (isR F) H1 (upd H1 p (.lst (fs.map V.ref))) := Ex.new hp
    have kp : GOk F g (upd H1 p (.lst (fs.map V.ref))) := k1.new hp
    have np : ¬ isR F p := fun z => k1.there z hp
    have hp0 := fresh_back R e1 k1 hp
    refine h F ρ g g σ (σ.set i (some (.ref p))) H _ R (LS.rep no R (e1.trans ep) kp) ⟨no, e1.trans ep, ⟨_, rfl⟩, p, fs, ?_, upd_same, np, hp0, hL.step k1 ep, by omega⟩ fl ρ' g' e De qq
    rw [List.getElem?_set]; simp [hi]
  · cases e
theorem rsl_cat (hT : (P, q) ∈ tabsK K) (hX : X.env.qual ++ "<lambda>" = q) (hr : LamsRe K rs' ms') (hz : rs.length + rs'.length ≤ 100) (h : RSL X K E ix i (rs ++ rs') (ms ++ ms') t m) : RSL X K E ix i rs ms (tSeq (tAsg (tOp rCat (tVar i) (tLst (tLamsA X K P q rs'))) (gName i)) t) m := fun F ρ g0 g σb σ Hb H R0 R s fl ρ' g' e De qq => by
  obtain ⟨L, fs, h1, h2, h3, h4, h5, h6⟩ := s.at_
  have hi : i < σ.length := (List.getElem?_eq_some_iff.mp h1).1
  refine ⟨.ref L, h1, ?_⟩
  refine lams_made R.tk hT hX hr R.gok fun fs' H1 e1 k1 hL => ?_
  have len : ∀ {rs : List LamR} {ms : List (MV D)} {fs : List Addr} {H : Hp}, LamsAt X K H rs ms fs → fs.length = rs.length := by
    intro rs
    induction rs with
    | nil => intro ms fs H h; cases ms <;> cases fs <;> first | rfl | exact h.elim
    | cons r rs ih => intro ms fs H h; cases ms with
      | nil => exact h.elim
      | cons m ms => cases fs with
        | nil => exact h.elim
        | cons f fs => simp [ih h.2.2]
  have l1 := len h5
  have l2 := len hL
  refine ⟨by rw [List.length_map, sizeLine_eq]; omega, fun p hp => ?_⟩
  have ep : Ex (isR F) H1 (upd H1 p (.lst (fs'.map V.ref))) := Ex.new hp
  have kp : GOk F g (upd H1 p (.lst (fs'.map V.ref))) := k1.new hp
  have hL2 := (e1.trans ep).lst h2 h3
  refine ⟨L, p, _, _, rfl, rfl, hL2, upd_same, by rw [List.length_map, List.length_map, sizeLine_eq]; omega, fun p3 hp3 => ?_⟩
  have e3 : Ex (isR F) (upd H1 p (.lst (fs'.map V.ref))) (upd (upd H1 p (.lst (fs'.map V.ref))) p3 (.lst (fs.map V.ref ++ fs'.map V.ref))) := Ex.new hp3
  have k3 := kp.new (o := .lst (fs.map V.ref ++ fs'.map V.ref)) hp3
  have n3 : ¬ isR F p3 := fun z => kp.there z hp3
  have ex3 := ((s.ex.trans e1).trans ep).trans e3
  have f3 : Hb p3 = none := fresh_back R0 ((s.ex.trans e1).trans ep) kp hp3
  obtain ⟨x, hx⟩ := s.sg
  have sg3 : σ.set i (some (.ref p3)) = σb.set i (some (.ref p3)) := by rw [hx, List.set_set]
  have Rn : Rep K F ρ g (σ.set i (some (.ref p3))) (upd (upd H1 p (.lst (fs'.map V.ref))) p3 (.lst (fs.map V.ref ++ fs'.map V.ref))) := by rw [sg3]; exact LS.rep s.no R0 ex3 k3
  refine h F ρ g0 g σb (σ.set i (some (.ref p3))) Hb _ R0 Rn ⟨s.no, ex3, ⟨_, sg3⟩, p3, fs ++ fs', ?_, by rw [upd_same, List.map_append], n3, f3, ((h5.step R.gok ((e1.trans ep).trans e3))).app (hL.step k1 (ep.trans e3)), by rw [List.length_append]; omega⟩ fl ρ' g' e De qq
  rw [List.getElem?_set]; simp [hi]
theorem rsl_app {r : LamR} {mr : MV D} (hT : (P, q) ∈ tabsK K) (hX : X.env.qual ++ "<lambda>" = q) (hr : LamsRe K [r] [mr]) (hz : rs.length + 1 ≤ 100) (h : RSL X K E ix i (rs ++ [r]) (ms ++ [mr]) t m) :
    RSL X K E ix i rs ms (tSeq (tDrop (tBM K "list" rAppend (tVar i) (tCons (tLamOf X K P q r) tNil))) t) m := fun F ρ g0 g σb σ Hb H R0 R s fl ρ' g' e De qq => by
  obtain ⟨L, fs, h1, h2, h3, h4, h5, h6⟩ := s.at_
  have hi : i < σ.length := (List.getElem?_eq_some_iff.mp h1).1
  have l1 : fs.length = rs.length := by
    have len : ∀ {rs : List LamR} {ms : List (MV D)} {fs : List Addr} {H : Hp}, LamsAt X K H rs ms fs → fs.length = rs.length := by
      intro rs
      induction rs with
      | nil => intro ms fs H h; cases ms <;> cases fs <;> first | rfl | exact h.elim
      | cons r rs ih => intro ms fs H h; cases ms with
        | nil => exact h.elim
        | cons m ms => cases fs with
          | nil => exact h.elim
          | cons f fs => simp [ih h.2.2]
    exact len h5
  refine ⟨.ref L, h1, .inl ⟨rfl, _, SqL.of h2⟩, ?_⟩
  refine lamOf_step R.tk R.gok hT hX fun f H1 e1 k1 _ hl => ?_
  have hL1 := e1.lst h2 h3
  refine ⟨L, _, .ref f, rfl, rfl, hL1, by rw [List.length_map, sizeLine_eq]; omega, ?_⟩
  have k2 : GOk F g (upd H1 L (.lst (fs.map V.ref ++ [.ref f]))) := k1.put h3 hL1
  have ex2 : Ex (isR F) Hb (upd H1 L (.lst (fs.map V.ref ++ [.ref f]))) := fun c o hc n => by
    rw [upd_ne (ne_of_none hc h4)]
    exact e1 c o (s.ex c o hc n) n
  have e12 : ∀ {a : Addr} {φ : Heap → Prop}, H1 a = some (.ext φ) → upd H1 L (.lst (fs.map V.ref ++ [.ref f])) a = some (.ext φ) := fun {a φ} ha => by
    rw [upd_ne fun z => by rw [z, hL1] at ha; cases ha]; exact ha
  have lamx : ∀ {r : LamR} {f : Addr}, LamAt X r f H1 → LamAt X r f (upd H1 L (.lst (fs.map V.ref ++ [.ref f]))) → True := fun _ _ => trivial
  have lam_up : ∀ {r : LamR} {f' : Addr}, LamAt X r f' H1 → LamAt X r f' (upd H1 L (.lst (fs.map V.ref ++ [.ref f]))) := fun {r f'} hl => by
    obtain ⟨dV, doc, pm, ctv, c', a1, a2, a3⟩ := hl
    refine ⟨dV, doc, pm, ctv, c', e12 a1, e12 a2, ?_⟩
    revert a3
    cases r.a with
    | none => exact id
    | some y => exact fun ⟨T0, tk, b1, b2⟩ => ⟨T0, tk, b1, e12 b2⟩
  have lams_up : ∀ {rs : List LamR} {ms : List (MV D)} {fs' : List Addr}, LamsAt X K H1 rs ms fs' → LamsAt X K (upd H1 L (.lst (fs.map V.ref ++ [.ref f]))) rs ms fs' := by
    intro rs
    induction rs with
    | nil => intro ms fs' h; cases ms <;> cases fs' <;> first | trivial | exact h.elim
    | cons r rs ih => intro ms fs' h; cases ms with
      | nil => exact h.elim
      | cons m ms => cases fs' with
        | nil => exact h.elim
        | cons f' fs' => exact ⟨lam_up h.1, h.2.1, ih h.2.2⟩
  obtain ⟨x, hx⟩ := s.sg
  have Rn : Rep K F ρ g σ (upd H1 L (.lst (fs.map V.ref ++ [.ref f]))) := by rw [hx]; exact LS.rep s.no R0 ex2 k2
  refine h F ρ g0 g σb σ Hb _ R0 Rn ⟨s.no, ex2, ⟨x, hx⟩, L, fs ++ [f], h1, by rw [upd_same, List.map_append]; rfl, h3, h4, (lams_up (h5.step R.gok e1)).app ⟨lam_up hl, hr.1, trivial⟩, by rw [List.length_append, List.length_singleton]; omega⟩ fl ρ' g' e De qq
end
end Fw

set_option Elab.async false
set_option linter.all false
set_option maxRecDepth 100000
set_option maxHeartbeats 4000000
/-! Kg4: the ends: kinds compared, kinds given back -/
namespace Fw
open PySem PySem.Spec PyProof.Rows L2 LamX
def REa (K : PySem.W.Frag) (E : XK) (ix : IXT) (b : Bool) (t : TE) (m : MV D) (F : Fx) (ρ : List Sl) (g : G) (σ : L2.St) (H : Hp) : Prop := ∀ r g', m ρ g = some (r, g') → ∀ Q : VK,
  Post r (fun d => ∀ v H', Ex (isR F) H H' → GOk F g' H' → Is K F.ra (bad b F ρ σ) H' d v → Q v H') (XPost E ix F H g') → t σ H Q
def mKindsAt (j : Nat) (ms : List (MV D)) : MV (List D) := fun ρ g => if j < ρ.length then mKinds ms ρ g else none
section
variable {X : Cx} {K : PySem.W.Frag} {mg : Str → Option Value} {F : Fx} {ρ : List Sl} {g g' : G} {σ σb : L2.St} {H Hb : Hp} {E : XK} {ix : IXT} {i j : Nat} {rs : List LamR} {ms : List (MV D)} {t1 t2 : TS} {m1 m2 : MSt} {b b1 b2 : Bool} {te ta tb : TE} {me ma mb : MV D}
theorem kinds_ok : ∀ {ms : List (MV D)} {ρ : List Sl} {g g' : G} {r : Out (List D)}, mKinds ms ρ g = some (r, g') → ∃ l, r = .ok l := by
  intro ms
  induction ms with
  | nil => intro ρ g g' r h; cases h; exact ⟨_, rfl⟩
  | cons m ms ih =>
    intro ρ g g' r h
    unfold mKinds mbind at h
    split at h
    · rename_i d g1 h1
      dsimp only at h
      split at h
      · cases h; exact ⟨_, rfl⟩
      · rename_i x g2 h2
        obtain ⟨l, hl⟩ := ih h2
        cases hl
      · cases h
    · rename_i x g1 h1
      exfalso
      unfold mKind at h1
      split at h1
      · cases h1
      · split at h1 <;> cases h1
      · cases h1
    · cases h
theorem rea_kinds (xf : XFacts K mg) (R : Rep K F ρ g σ H) (s : LS X K F ρ σb Hb i rs ms σ H) : REa K E ix b (kKinds X K i j (kTG X K (csK K) (csK K "PriceError") rs)) (mFr (mKindsAt j ms)) F ρ g σ H := fun r g' e Q q => by
  unfold mFr mbind at e
  split at e
  · rename_i l g1 h1
    cases e
    unfold mKindsAt at h1
    split at h1
    · rename_i hj
      obtain ⟨L, fs, a1, a2, a3, a4, a5, a6⟩ := s.at_
      refine kkinds xf R a1 (by rw [R.len]; exact hj) a2 a3 a5 a6 h1 fun Da H2 xs e2 k2 hn hD hx => ?_
      exact q (.ref Da) H2 e2 k2 (R.bad_own ⟨Da, xs, rfl, fresh_im R hn, hD, IsL.anti (fun c z => .inl z) hx⟩)
    · cases h1
  · rename_i x g1 h1
    exfalso
    unfold mKindsAt at h1
    split at h1
    · obtain ⟨l, hl⟩ := kinds_ok h1
      cases hl
    · cases h1
  · cases e
theorem rea_op {r : R2} {f : D → D → Option D} (hs : Sc2 K r f) (R : Rep K F ρ g σ H) (ha : REa K E ix b1 ta ma F ρ g σ H) (hb : RE K E ix b2 tb mb) : REa K E ix b (tOp r ta tb) (mOp f ma mb) F ρ g σ H := fun rr g' e Q q => by
  have e' := e
  unfold mOp mbind at e'
  split at e'
  · rename_i x g1 h1
    refine ha _ _ h1 _ fun p H1 e1 k1 i1 => ?_
    have R1 := R.step e1 k1
    refine hb.one (k := fun y => mlift (f x y)) (r := rr) (g' := g') R1 e' (fun z hz => (q.x z hz).mono e1) fun y w H2 g2 e2 R2 i2 k2 => ?_
    obtain ⟨c, hc, rfl, rfl⟩ := mlift_some k2
    obtain ⟨z, hz, hq⟩ := hs _ _ _ H2 x y c p w (Is.step (bad_r R) e2 i1) i2 hc
    exact hq Q (q z H2 (e1.trans e2) R2.gok (hz _ _ _))
  · rename_i x g1 h1
    cases e'
    exact ha _ _ h1 _ q
  · cases e'
theorem rsa_if (R : Rep K F ρ g σ H) (R0 : Rep K F ρ g σb Hb) (fr : Fr F ρ σb Hb ρ σ H) (ha : REa K E ix b te me F ρ g σ H) (h1 : RS K E ix t1 m1) (h2 : RS K E ix t2 m2) {fl : Fl} {ρ' : List Sl} (e : mIfS (mB me) m1 m2 ρ g = some (fl, ρ', g')) {De : Ends} (q : SPost K E ix F ρ σb Hb De fl ρ' g') : tIfS (tTest te) t1 t2 De σ H := by
  have q2 := q.on R0 R fr
  have key : ∀ {c : Bool} {g1 : G}, mB me ρ g = some (.ok c, g1) → (∀ H1, Ex (isR F) H H1 → GOk F g1 H1 → (if c = true then t1 De σ H1 else t2 De σ H1)) → tIfS (tTest te) t1 t2 De σ H := fun {c g1} hb hq => by
    unfold mB mbind at hb
    split at hb
    · rename_i d g2 hd
      obtain ⟨c', hc', hr, rfl⟩ := mlift_some hb
      cases hr
      refine ha _ _ hd _ fun v H1 e1 k1 i1 => ?_
      have ev := (asB_is (K := K) (ra := F.ra) (B := bad b F ρ σ) (H := H1) hc' i1).1
      exact ⟨c, ev, hq H1 e1 k1⟩
    · cases hb
    · cases hb
  unfold mIfS at e
  split at e
  · rename_i g1 hm
    refine key hm fun H1 e1 k1 => ?_
    rw [if_pos rfl]
    exact h1 F ρ g1 σ H1 (R.step e1 k1) fl ρ' g' e De (q2.on R (R.step e1 k1) (Fr.of e1))
  · rename_i g1 hm
    refine key hm fun H1 e1 k1 => ?_
    rw [if_neg Bool.false_ne_true]
    exact h2 F ρ g1 σ H1 (R.step e1 k1) fl ρ' g' e De (q2.on R (R.step e1 k1) (Fr.of e1))
  · rename_i x g1 hm
    cases e
    unfold mB mbind at hm
    split at hm
    · rename_i d g2 hd
      obtain ⟨c', hc', hr, _⟩ := mlift_some hm
      cases hr
    · rename_i x g2 hd
      cases hm
      exact ha _ _ hd _ (XPost.mono R.ext q2)
    · cases hm
  · cases e
theorem rsl_if {neg : Bool} (xf : XFacts K mg) {r : R2} {f : D → D → Option D} (hs : Sc2 K r f) (he : RE K E ix b2 te me) (h1 : RS K E ix t1 m1) (h2 : RS K E ix t2 m2) :
    RSL X K E ix i rs ms (tIfS (tTest (tOp r (kKinds X K i j (kTG X K (csK K) (csK K "PriceError") rs)) te)) t1 t2) (mIfS (mB (mOp f (mFr (mKindsAt j ms)) me)) m1 m2) := fun F ρ g0 g σb σ Hb H R0 R s fl ρ' g' e De q => by
  obtain ⟨x, hx⟩ := s.sg
  have R0' : Rep K F ρ g0 σb Hb := R0
  have q2 := q.on R0 R s.fr
  exact rsa_if (b := true) R R Fr.refl (rea_op (b1 := true) hs R (rea_kinds xf R s) he) h1 h2 e q2
theorem rsl_ret (xf : XFacts K mg) {r : R2} {f : D → D → Option D} (hs : Sc2 K r f) (he : RE K E ix b2 te me) :
    RSL X K E ix i rs ms (tRet (tOp r (kKinds X K i j (kTG X K (csK K) (csK K "PriceError") rs)) te)) (mRet (mOp f (mFr (mKindsAt j ms)) me)) := fun F ρ g0 g σb σ Hb H R0 R s fl ρ' g' e De q => by
  have q2 := q.on R0 R s.fr
  have ha : REa K E ix true _ _ F ρ g σ H := rea_op (b := true) (b1 := true) hs R (rea_kinds (j := j) xf R s) he
  unfold mRet at e
  split at e
  · rename_i d g1 hm
    cases e
    exact ha _ _ hm _ fun v H1 e1 k1 i1 => q2 v H1 (R.ext.trans e1) k1 (Is.anti (fun a z => .inl z) i1)
  · rename_i x g1 hm
    cases e
    exact ha _ _ hm _ (XPost.mono R.ext q2)
  · cases e
theorem rsl_retK (xf : XFacts K mg) : RSL X K E ix i rs ms (tRet (kKinds X K i j (kTG X K (csK K) (csK K "PriceError") rs))) (mRet (mFr (mKindsAt j ms))) := fun F ρ g0 g σb σ Hb H R0 R s fl ρ' g' e De q => by
  have q2 := q.on R0 R s.fr
  have ha : REa K E ix true _ _ F ρ g σ H := rea_kinds (j := j) xf R s
  unfold mRet at e
  split at e
  · rename_i d g1 hm
    cases e
    exact ha _ _ hm _ fun v H1 e1 k1 i1 => q2 v H1 (R.ext.trans e1) k1 (Is.anti (fun a z => .inl z) i1)
  · rename_i x g1 hm
    cases e
    exact ha _ _ hm _ (XPost.mono R.ext q2)
  · cases e
end
end Fw

set_option Elab.async false
set_option linter.all false
set_option maxRecDepth 100000
set_option maxHeartbeats 4000000
/-! Kg0: where a lambda stands in a def; lists of lambdas; t + u, t * k of any tuples -/
namespace Fw
open PySem PySem.Spec PyProof.Rows L2 LamX
def exNo : Expr := .Constant .none 0 ⟨0, 0, 0, 0⟩
def stAt (b : List Stmt) (i : Nat) : Stmt := b.getD i (.Pass ⟨0, 0, 0, 0⟩)
def stBody : Stmt → List Stmt
  | .For _ _ b _ _ => b
  | .While _ b _ _ => b
  | .If _ b _ _ => b
  | .ClassDef _ _ _ b _ _ _ _ _ _ _ => b
  | _ => []
def stElse : Stmt → List Stmt
  | .If _ _ b _ => b
  | _ => []
def stExpr : Stmt → Expr
  | .Assign _ e _ => e
  | .Expr e _ => e
  | .Return (some e) _ => e
  | .If c _ _ _ => c
  | _ => exNo
def exAt : Expr → Nat → Expr
  | .List es _, i => es.getD i exNo
  | .Tuple es _ _, i => es.getD i exNo
  | .BoolOp _ es _, i => es.getD i exNo
  | .BinOp l _ r _, i => if i = 0 then l else r
  | .Compare l _ rs _, i => (l :: rs).getD i exNo
  | .UnaryOp _ e _, _ => e
  | .Call _ es _ _, i => es.getD i exNo
  | .IfExp c a b _, i => [c, a, b].getD i exNo
  | _, _ => exNo
def exLam : Expr → Arguments × Expr × Scope
  | .Lambda a b sc _ => (a, b, sc)
  | _ => (⟨[], [], none, [], [], none, []⟩, exNo, ⟨.function, [], false, false, []⟩)
/-- what is known of all lambdas of a def -/
theorem lams_map {X : Cx} {k : Nat} {lr : Nat → LamR} (h : ∀ n, LamOk X k (lr n)) (ns : List Nat) : ∀ r ∈ ns.map lr, LamOk X k r := fun r hr => by
  obtain ⟨n, _, rfl⟩ := List.mem_map.mp hr
  exact h n
theorem lams_app {X : Cx} {k : Nat} {a b : List LamR} (h1 : ∀ r ∈ a, LamOk X k r) (h2 : ∀ r ∈ b, LamOk X k r) : ∀ r ∈ a ++ b, LamOk X k r := fun r hr => (List.mem_append.mp hr).elim (h1 r) (h2 r)
theorem lams_one {X : Cx} {k : Nat} {lr : Nat → LamR} (h : ∀ n, LamOk X k (lr n)) (n : Nat) : ∀ r ∈ [lr n], LamOk X k r := fun r hr => by rw [List.mem_singleton.mp hr]; exact h n
def LamRe (K : PySem.W.Frag) (lr : Nat → LamR) (ml : Nat → MV D) : Prop := ∀ n, ∃ b, ∀ E, RE K E (ixX (csK K)) b ((lr n).tb E) (ml n)
theorem re_map {K : PySem.W.Frag} {lr : Nat → LamR} {ml : Nat → MV D} (h : LamRe K lr ml) : ∀ ns : List Nat, LamsRe K (ns.map lr) (ns.map ml)
  | [] => trivial
  | n :: ns => ⟨h n, re_map h ns⟩
theorem re_app {K : PySem.W.Frag} : ∀ {a b : List LamR} {c d : List (MV D)}, LamsRe K a c → LamsRe K b d → LamsRe K (a ++ b) (c ++ d)
  | [], _, [], _, _, h => h
  | _ :: _, _, _ :: _, _, h, h' => ⟨h.1, re_app h.2 h'⟩
  | [], _, _ :: _, _, h, _ => h.elim
  | _ :: _, _, [], _, h, _ => h.elim
theorem re_one {K : PySem.W.Frag} {lr : Nat → LamR} {ml : Nat → MV D} (h : LamRe K lr ml) (n : Nat) : LamsRe K [lr n] [ml n] := ⟨h n, trivial⟩
theorem re_kindN {X : Cx} {K : PySem.W.Frag} {mg : Str → Option Value} {P : Addr} {q : Str} {lr : Nat → LamR} {ml : Nat → MV D} {E : XK} {ix : IXT} {b : Bool} (xf : XFacts K mg) (hT : (P, q) ∈ tabsK K) (hX : X.env.qual ++ "<lambda>" = q) (h : LamRe K lr ml) (n : Nat) :
    RE K E ix b (tKindL X K P q (lr n) [lr n]) (mKind (ml n)) := by
  obtain ⟨b', hb⟩ := h n
  exact re_kind xf hT hX (List.mem_singleton.mpr rfl) hb
section
variable {K : PySem.W.Frag} {E : XK} {ix : IXT} {b b1 : Bool} {ta tb : TE} {ma mb : MV D}
def mCatA (ma mb : MV D) : MV D := mbind ma fun x => mbind mb fun y => mlift (match x, y with
  | .tup l, .tup k => if small (l.length + k.length) = true then some (.tup (l ++ k)) else none
  | _, _ => none)
theorem nil_of {ra : Addr} {B : Addr → Prop} {H : Hp} {l : List D} (h : IsL K ra B H l []) : l = [] := by
  have := h.length
  cases l with
  | nil => rfl
  | cons _ _ => simp at this
theorem re_catA (ha : RE K E ix b ta ma) (hb : RE K E ix b tb mb) : RE K E ix b (tOp (rCatA K) ta tb) (mCatA ma mb) := fun F ρ g σ H R r g' e Q q =>
  ha.one R e q.x fun x p H1 g1 e1 R1 i1 k1 => hb.one R1 k1 (fun z hz => (q.x z hz).mono e1) fun y w H2 g2 e2 R2 i2 k2 => by
    obtain ⟨c, hc, rfl, rfl⟩ := mlift_some k2
    split at hc
    · rename_i l k
      split at hc
      · rename_i hz
        cases hc
        obtain ⟨a, xs, rfl, h2, h3⟩ := Is.step (bad_r R) e2 i1
        obtain ⟨a', ys, rfl, h2', h3'⟩ := i2
        refine ⟨a, a', xs, ys, rfl, rfl, h2, h2', by rw [h3.length, h3'.length]; exact Nat.le_of_lt (small_line hz), fun z => ?_, fun _ z => ?_, fun _ _ p hp => ?_⟩
        · subst z
          rw [nil_of h3, List.nil_append] at q
          exact q (.ref a') H2 (e1.trans e2) R2.gok ⟨a', ys, rfl, h2', h3'⟩
        · subst z
          rw [nil_of h3', List.append_nil] at q
          exact q (.ref a) H2 (e1.trans e2) R2.gok ⟨a, xs, rfl, h2, h3⟩
        · have en : Ex (isR F) H2 (upd H2 p (.tup (xs ++ ys))) := Ex.new hp
          exact q (.ref p) _ ((e1.trans e2).trans en) (R2.gok.new hp) ⟨p, _, rfl, SqT.of upd_same, IsL.step (bad_r R) en (h3.append h3')⟩
      · cases hc
    · cases hc
def mRepT (ma mb : MV D) : MV D := mbind ma fun x => mbind mb fun y => mlift (match x, y with
  | .tup l, .int k => if (!l.isEmpty && (decide (2 ≤ k) && (decide (k ≤ 1000) && decide (l.length ≤ 1000)))) = true then some (.tup (List.replicate k.toNat l).flatten) else none
  | _, _ => none)
theorem re_repT (ha : RE K E ix b ta ma) (hb : RE K E ix b1 tb mb) : RE K E ix b (tOp (rRepT K) ta tb) (mRepT ma mb) := fun F ρ g σ H R r g' e Q q =>
  ha.one R e q.x fun x p H1 g1 e1 R1 i1 k1 => hb.one R1 k1 (fun z hz => (q.x z hz).mono e1) fun y w H2 g2 e2 R2 i2 k2 => by
    obtain ⟨c, hc, rfl, rfl⟩ := mlift_some k2
    split at hc
    · rename_i l k
      split at hc
      · rename_i hz
        cases hc
        simp only [Bool.and_eq_true, decide_eq_true_eq, Bool.not_eq_true'] at hz
        obtain ⟨z0, z1, z2, z3⟩ := hz
        obtain ⟨a, xs, rfl, h2, h3⟩ := Is.step (bad_r R) e2 i1
        refine ⟨a, k, xs, rfl, i2, h2, fun z => ?_, z1, z2, by rw [h3.length]; exact z3, fun p hp => ?_⟩
        · subst z
          rw [nil_of h3] at z0
          cases z0
        · have en : Ex (isR F) H2 (upd H2 p (.tup (List.replicate k.toNat xs).flatten)) := Ex.new hp
          exact q (.ref p) _ ((e1.trans e2).trans en) (R2.gok.new hp) ⟨p, _, rfl, SqT.of upd_same, IsL.step (bad_r R) en (h3.rep _)⟩
      · cases hc
    · cases hc
end
/-- of a class with a field, without the run -/
structure XKF (K : PySem.W.Frag) (C : Addr) (fld : Str) : Prop where
  o : OexC K C
  no : PySem.W.findIn K (.ref C) fld = some none
theorem XClsF.k {ok : Int → Bool} {P : Program} {w : World} {K : PySem.W.Frag} {mg : Str → Option Value} {base : Heap} {x fld : Str} {C : Addr} (T : XClsF ok P w K mg base x fld C) : XKF K C fld := ⟨T.o, T.no⟩
/-- the class is made from what the top says of it and of its __init__ -/
theorem xclsF_mk {ok : Int → Bool} {P : Program} {w : World} {K : PySem.W.Frag} {mg : Str → Option Value} {base : Heap} {x fld : Str} {C fI : Addr} {fd : FuncData} (g : mg x = some (.ref C)) (o : oexB K C = true) (no : PySem.W.findIn K (.ref C) fld = some none) (h1 : PySem.W.findIn K (.ref C) "__init__" = some (some (.ref fI))) (h2 : PySem.W.typeIn K (.ref fI) = some (.type "function"))
    (F : FnOk P w K mg base CX0 1 fI fd ["self", fld] (spInit ok K C fld)) (hb : ∀ (s : Shared) (u v : Value), BindsTo s fd ⟨[u], [(fld, v)]⟩ [("self", u), (fld, v)]) : XClsF ok P w K mg base x fld C :=
  ⟨g, oexB_ok o, no, fI, fd, fun us ws => us ++ ws, fun vs zs => vs ++ zs, h1, h2, F, ⟨fun s us ws _ l1 l2 => by
    match us, l1, ws, l2 with
    | [u], _, [v], _ => exact hb s u v, fun r1 r2 => r1.append r2⟩, fun _ _ => rfl⟩
end Fw

set_option Elab.async false
set_option linter.all false
set_option maxRecDepth 100000
set_option maxHeartbeats 4000000
namespace Pr
open PySem PySem.Spec PyProof.Rows L2 Fw
/-! ### check_prices -/
def m_check_prices : MSt :=
  (mSeq (mFor (mEnum (mCons (mVar 1) mNil)) (bTup 2 (bCons (bName 2) (bCons (bName 3) bNil))) (mFgE [2, 3, 4, 5] (mSeq (mIfS (mB (mOp dGe (mVarB 2) (mCB fLen (mCons (mVarB 0) mNil)))) mNv mNx)
    (mSeq (mAsg (mSlT (mOp dIx (mVar 0) (mVarB 2)) (mPart (mret (.int 4))) (mret none)) (bTup 2 (bCons (bName 4) (bCons (bName 5) bNil))))
    (mIfS (mTNot (mB (mCall0 3 ph_is_within (mCons (mVarB 3) (mCons (mVarB 4) (mCons (mVarB 5) mNil)))))) mNv mNx)))))
    (mIfS (mB (mOp dLt (mCB fLen (mCons (mVarB 1) mNil)) (mCB fLen (mCons (mVarB 0) mNil)))) mNv mNx))
def ph_check_prices : PhiT := phi 6 m_check_prices
def t_check_prices (K : PySem.W.Frag) (ix : IXT) : TS :=
  (tSeq (tFor (iEnumA K (tCons (tVar 1) tNil)) (gTup K 2 (gCons (gName 2) (gCons (gName 3) gNil))) (tSeq (tIfS (tTest (tOp rGeI (tVar 2) (tCB (rLenA K) (tCons (tVar 0) tNil)))) tNever tNext)
    (tSeq (tAsg (tSl (rSlT K) (tOp (rIx K) (tVar 0) (tVar 2)) (tPart (tC (.int 4))) tNoPart) (gTup K 2 (gCons (gName 4) (gCons (gName 5) gNil))))
    (tIfS (tNot (tB (tCall (spOf K ix 3 ph_is_within) [] E0 (tCons (tVar 3) (tCons (tVar 4) (tCons (tVar 5) tNil)))))) tNever tNext))))
    (tIfS (tTest (tOp rLtI (tCB (rLenA K) (tCons (tVar 1) tNil)) (tCB (rLenA K) (tCons (tVar 0) tNil)))) tNever tNext))
theorem rs_check_prices {K : PySem.W.Frag} {E : XK} {ix : IXT} : RS K E ix (t_check_prices K ix) m_check_prices :=
  (rs_seq (rs_for (ri_enum (ra_cons re_var ra_nil)) (rg_tup (rgs_cons rg_name (rgs_cons rg_name rgs_nil))) (rs_fgE (is := [2, 3, 4, 5]) (rs_seq (rs_if (rt_test (re_op (b := false) sc_ge rb_var (re_cb (b := false) sc_len (ra_cons rb_var ra_nil)))) rs_never rs_nx)
    (rs_seq (rs_asg (re_slT (re_ix re_var rb_var) (ro_part (re_int (b := false))) ro_no) (rg_tup (rgs_cons rg_name (rgs_cons rg_name rgs_nil))))
    (rs_if (rt_not (rt_B (re_call0 (b := false) (ra_cons rb_var (ra_cons rb_var (ra_cons rb_var ra_nil)))))) rs_never rs_nx)))))
    (rs_if (rt_test (re_op (b := false) sc_lt (re_cb (b := false) sc_len (ra_cons rb_var ra_nil)) (re_cb (b := false) sc_len (ra_cons rb_var ra_nil)))) rs_never rs_nx))
/-! ### day_of -/
def m_day_of : MSt :=
  (mSeq (mDrop (mCall0 1 ph_check_market (mCons (mVarB 0) mNil)))
    (mSeq (mAsg (mVar 0) (bTup 2 (bCons (bName 3) (bCons (bName 4) bNil))))
    (mSeq (mDrop (mCall0 2 ph_check_prices (mCons (mVarB 3) (mCons (mVarB 1) mNil))))
    (mSeq (mDrop (mCall0 2 ph_check_count (mCons (mVarB 2) (mCons (mret (.int 1000000000000)) mNil))))
    (mRet (mCall0 3 ph_day_done (mCons (mVarB 0) (mCons (mVarB 1) (mCons (mVarB 2) mNil)))))))))
def ph_day_of : PhiT := phi 5 m_day_of
def t_day_of (K : PySem.W.Frag) (ix : IXT) : TS :=
  (tSeq (tDrop (tCall (spOf K ix 1 ph_check_market) [] E0 (tCons (tVar 0) tNil)))
    (tSeq (tAsg (tVar 0) (gTup K 2 (gCons (gName 3) (gCons (gName 4) gNil))))
    (tSeq (tDrop (tCall (spOf K ix 2 ph_check_prices) [] E0 (tCons (tVar 3) (tCons (tVar 1) tNil))))
    (tSeq (tDrop (tCall (spOf K ix 2 ph_check_count) [] E0 (tCons (tVar 2) (tCons (tC (.int 1000000000000)) tNil))))
    (tRet (tCall (spOf K ix 3 ph_day_done) [] E0 (tCons (tVar 0) (tCons (tVar 1) (tCons (tVar 2) tNil)))))))))
theorem rs_day_of {K : PySem.W.Frag} {E : XK} {ix : IXT} : RS K E ix (t_day_of K ix) m_day_of :=
  (rs_seq (rs_drop (re_call0 (b := false) (ra_cons rb_var ra_nil)))
    (rs_seq (rs_asg re_var (rg_tup (rgs_cons rg_name (rgs_cons rg_name rgs_nil))))
    (rs_seq (rs_drop (re_call0 (b := false) (ra_cons rb_var (ra_cons rb_var ra_nil))))
    (rs_seq (rs_drop (re_call0 (b := false) (ra_cons rb_var (ra_cons (re_int (b := false)) ra_nil))))
    (rs_ret (re_call0 (b := true) (ra_cons rb_var (ra_cons rb_var (ra_cons rb_var ra_nil)))))))))
/-! ### _law_prices -/
def m__law_prices : MSt :=
  (mRet (mTupOf (mCons (mFr (mLc (mItT (mOp dIx (mVar 1) (mret (.int 0)))) (bName 2) [2] (mret true) (mOp dAdd (mOp dIx (mVarB 2) (mret (.int 4))) (mCall0 2 ph__law_next (mCons (mVarB 0) (mCons (mOp dAdd (mOp dSub (mOp dIx (mVarB 2) (mret (.int 5))) (mOp dIx (mVarB 2) (mret (.int 4)))) (mret (.int 1))) mNil)))))) mNil)))
def ph__law_prices : PhiT := phi 3 m__law_prices
def t__law_prices (K : PySem.W.Frag) (ix : IXT) : TS :=
  (tRet (tCB (rTupOf K) (tCons (tLc (iTup K (tOp (rIx K) (tVar 1) (tC (.int 0)))) (gName 2) tYes (tOp rAddI (tOp (rIx K) (tVar 2) (tC (.int 4))) (tCall (spOf K ix 2 ph__law_next) [] E0 (tCons (tVar 0) (tCons (tOp rAddI (tOp rSubI (tOp (rIx K) (tVar 2) (tC (.int 5))) (tOp (rIx K) (tVar 2) (tC (.int 4)))) (tC (.int 1))) tNil)))) [2]) tNil)))
theorem rs__law_prices {K : PySem.W.Frag} {E : XK} {ix : IXT} : RS K E ix (t__law_prices K ix) m__law_prices :=
  (rs_ret (re_tupOf (ra_cons (re_new (b := true) (rf_lc (ri_tup (re_ix re_var (re_int (b := false)))) rg_name rt_yes (re_op (b := true) sc_add (re_ix rb_var (re_int (b := false))) (re_call0 (b := false) (ra_cons rb_var (ra_cons (re_op (b := false) sc_add (re_op (b := false) sc_sub (re_ix rb_var (re_int (b := false))) (re_ix rb_var (re_int (b := false)))) (re_int (b := false))) ra_nil)))) (by decide))) ra_nil)))
end Pr

set_option Elab.async false
set_option linter.all false
set_option maxRecDepth 100000
set_option maxHeartbeats 4000000
namespace Pr
open PySem PySem.Spec PyProof.Rows L2 Fw
/-! ### check_market, which may raise -/
def mx_check_market : MSt :=
  (mSeq (mAsg (mVar 0) (bTup 2 (bCons (bName 1) (bCons (bName 2) bNil))))
    (mSeq (mFor (mEnum (mCons (mVar 1) mNil)) (bTup 2 (bCons (bName 3) (bCons (bName 4) bNil))) (mFgE [3, 4] (mIfS (mTOr (mB (mOp dGe (mVarB 3) (mret (.int 4)))) (mTNot (mB (mCall0 1 ph_can_sell (mCons (mVarB 4) mNil))))) (mRaiseF (okJ "seller " " can't be") 0 (mVarB 3)) mNx)))
    (mFor (mEnum (mCons (mVar 2) mNil)) (bTup 2 (bCons (bName 3) (bCons (bName 5) bNil))) (mFgE [3, 5] (mIfS (mTOr (mB (mOp dGe (mVarB 3) (mret (.int 6)))) (mTNot (mB (mCall0 2 ph_can_buy (mCons (mVarB 5) (mCons (mCB fLen (mCons (mVarB 1) mNil)) mNil)))))) (mRaiseF (okJ "buyer " " can't be") 1 (mVarB 3)) mNx)))))
def φx_check_market : PhiT := phi 6 mx_check_market
def tx_check_market (K : PySem.W.Frag) (cs : Str → Addr) (E : XK) : TS :=
  (tSeq (tAsg (tVar 0) (gTup K 2 (gCons (gName 1) (gCons (gName 2) gNil))))
    (tSeq (tFor (iEnumA K (tCons (tVar 1) tNil)) (gTup K 2 (gCons (gName 3) (gCons (gName 4) gNil))) (tIfS (tOr (tTest (tOp rGeI (tVar 3) (tC (.int 4)))) (tNot (tB (tCall (spOf K ix0 1 ph_can_sell) [] E0 (tCons (tVar 4) tNil))))) (tRaiseF (okJ "seller " " can't be") K E (cs "BadSeller") "number" (tVar 3)) tNext))
    (tFor (iEnumA K (tCons (tVar 2) tNil)) (gTup K 2 (gCons (gName 3) (gCons (gName 5) gNil))) (tIfS (tOr (tTest (tOp rGeI (tVar 3) (tC (.int 6)))) (tNot (tB (tCall (spOf K ix0 2 ph_can_buy) [] E0 (tCons (tVar 5) (tCons (tCB (rLenA K) (tCons (tVar 1) tNil)) tNil)))))) (tRaiseF (okJ "buyer " " can't be") K E (cs "BadBuyer") "number" (tVar 3)) tNext))))
theorem rsx_check_market {K : PySem.W.Frag} {cs : Str → Addr} {E : XK} (hk_BadBuyer : XKF K (cs "BadBuyer") "number") (hk_BadSeller : XKF K (cs "BadSeller") "number") : RS K E (ixX cs) (tx_check_market K cs E) mx_check_market :=
  (rs_seq (rs_asg re_var (rg_tup (rgs_cons rg_name (rgs_cons rg_name rgs_nil))))
    (rs_seq (rs_for (ri_enum (ra_cons re_var ra_nil)) (rg_tup (rgs_cons rg_name (rgs_cons rg_name rgs_nil))) (rs_fgE (is := [3, 4]) (rs_if (rt_or (rt_test (re_op (b := false) sc_ge rb_var (re_int (b := false)))) (rt_not (rt_B (re_call0 (b := false) (ra_cons rb_var ra_nil))))) (rs_raiseF hk_BadSeller.o hk_BadSeller.no rb_var (fun i p H h => ⟨rfl, p, i, rfl, rfl, h⟩)) rs_nx)))
    (rs_for (ri_enum (ra_cons re_var ra_nil)) (rg_tup (rgs_cons rg_name (rgs_cons rg_name rgs_nil))) (rs_fgE (is := [3, 5]) (rs_if (rt_or (rt_test (re_op (b := false) sc_ge rb_var (re_int (b := false)))) (rt_not (rt_B (re_call0 (b := false) (ra_cons rb_var (ra_cons (re_cb (b := false) sc_len (ra_cons rb_var ra_nil)) ra_nil)))))) (rs_raiseF hk_BadBuyer.o hk_BadBuyer.no rb_var (fun i p H h => ⟨rfl, p, i, rfl, rfl, h⟩)) rs_nx)))))
/-! ### check_prices, which may raise -/
def mx_check_prices : MSt :=
  (mSeq (mFor (mEnum (mCons (mVar 1) mNil)) (bTup 2 (bCons (bName 2) (bCons (bName 3) bNil))) (mFgE [2, 3, 4, 5] (mSeq (mIfS (mB (mOp dGe (mVarB 2) (mCB fLen (mCons (mVarB 0) mNil)))) (mRaiseF okC 4 (mVarB 2)) mNx)
    (mSeq (mAsg (mSlT (mOp dIx (mVar 0) (mVarB 2)) (mPart (mret (.int 4))) (mret none)) (bTup 2 (bCons (bName 4) (bCons (bName 5) bNil))))
    (mIfS (mTNot (mB (mCall0 3 ph_is_within (mCons (mVarB 3) (mCons (mVarB 4) (mCons (mVarB 5) mNil)))))) (mRaiseF okC 4 (mVarB 2)) mNx)))))
    (mIfS (mB (mOp dLt (mCB fLen (mCons (mVarB 1) mNil)) (mCB fLen (mCons (mVarB 0) mNil)))) (mRaiseF okC 4 (mCB fLen (mCons (mVarB 1) mNil))) mNx))
def φx_check_prices : PhiT := phi 6 mx_check_prices
def tx_check_prices (K : PySem.W.Frag) (cs : Str → Addr) (E : XK) : TS :=
  (tSeq (tFor (iEnumA K (tCons (tVar 1) tNil)) (gTup K 2 (gCons (gName 2) (gCons (gName 3) gNil))) (tSeq (tIfS (tTest (tOp rGeI (tVar 2) (tCB (rLenA K) (tCons (tVar 0) tNil)))) (tRaiseF okC K E (cs "BadPrices") "good" (tVar 2)) tNext)
    (tSeq (tAsg (tSl (rSlT K) (tOp (rIx K) (tVar 0) (tVar 2)) (tPart (tC (.int 4))) tNoPart) (gTup K 2 (gCons (gName 4) (gCons (gName 5) gNil))))
    (tIfS (tNot (tB (tCall (spOf K ix0 3 ph_is_within) [] E0 (tCons (tVar 3) (tCons (tVar 4) (tCons (tVar 5) tNil)))))) (tRaiseF okC K E (cs "BadPrices") "good" (tVar 2)) tNext))))
    (tIfS (tTest (tOp rLtI (tCB (rLenA K) (tCons (tVar 1) tNil)) (tCB (rLenA K) (tCons (tVar 0) tNil)))) (tRaiseF okC K E (cs "BadPrices") "good" (tCB (rLenA K) (tCons (tVar 1) tNil))) tNext))
theorem rsx_check_prices {K : PySem.W.Frag} {cs : Str → Addr} {E : XK} (hk_BadPrices : XKF K (cs "BadPrices") "good") : RS K E (ixX cs) (tx_check_prices K cs E) mx_check_prices :=
  (rs_seq (rs_for (ri_enum (ra_cons re_var ra_nil)) (rg_tup (rgs_cons rg_name (rgs_cons rg_name rgs_nil))) (rs_fgE (is := [2, 3, 4, 5]) (rs_seq (rs_if (rt_test (re_op (b := false) sc_ge rb_var (re_cb (b := false) sc_len (ra_cons rb_var ra_nil)))) (rs_raiseF hk_BadPrices.o hk_BadPrices.no rb_var (fun i p H h => ⟨rfl, p, i, rfl, rfl, h⟩)) rs_nx)
    (rs_seq (rs_asg (re_slT (re_ix re_var rb_var) (ro_part (re_int (b := false))) ro_no) (rg_tup (rgs_cons rg_name (rgs_cons rg_name rgs_nil))))
    (rs_if (rt_not (rt_B (re_call0 (b := false) (ra_cons rb_var (ra_cons rb_var (ra_cons rb_var ra_nil)))))) (rs_raiseF hk_BadPrices.o hk_BadPrices.no rb_var (fun i p H h => ⟨rfl, p, i, rfl, rfl, h⟩)) rs_nx)))))
    (rs_if (rt_test (re_op (b := false) sc_lt (re_cb (b := false) sc_len (ra_cons rb_var ra_nil)) (re_cb (b := false) sc_len (ra_cons rb_var ra_nil)))) (rs_raiseF hk_BadPrices.o hk_BadPrices.no (re_cb (b := false) sc_len (ra_cons rb_var ra_nil)) (fun i p H h => ⟨rfl, p, i, rfl, rfl, h⟩)) rs_nx))
/-! ### check_count, which may raise -/
def mx_check_count : MSt :=
  (mIfS (mTNot (mB (mCall0 3 ph_is_within (mCons (mVarB 0) (mCons (mret (.int 0)) (mCons (mVarB 1) mNil)))))) (mRaise0 7 (mJs "not a number from 0 to " (mVarB 1))) mNx)
def φx_check_count : PhiT := phi 2 mx_check_count
def tx_check_count (K : PySem.W.Frag) (cs : Str → Addr) (E : XK) : TS :=
  (tIfS (tNot (tB (tCall (spOf K ix0 3 ph_is_within) [] E0 (tCons (tVar 0) (tCons (tC (.int 0)) (tCons (tVar 1) tNil)))))) (tRaise0 E (cs "BadCount") (tJsI "not a number from 0 to " (tVar 1))) tNext)
theorem rsx_check_count {K : PySem.W.Frag} {cs : Str → Addr} {E : XK} : RS K E (ixX cs) (tx_check_count K cs E) mx_check_count :=
  (rs_if (rt_not (rt_B (re_call0 (b := false) (ra_cons rb_var (ra_cons (re_int (b := false)) (ra_cons rb_var ra_nil)))))) (rs_raise0 (re_js (b := false) rb_var) (fun _ => ⟨rfl, rfl⟩)) rs_nx)
/-! ### day_of, which may raise -/
def mx_day_of : MSt :=
  (mSeq (mDrop (mCall 1 φx_check_market (mCons (mVarB 0) mNil)))
    (mSeq (mAsg (mVar 0) (bTup 2 (bCons (bName 3) (bCons (bName 4) bNil))))
    (mSeq (mDrop (mCall 2 φx_check_prices (mCons (mVarB 3) (mCons (mVarB 1) mNil))))
    (mSeq (mDrop (mCall 2 φx_check_count (mCons (mVarB 2) (mCons (mret (.int 1000000000000)) mNil))))
    (mRet (mCall0 3 ph_day_done (mCons (mVarB 0) (mCons (mVarB 1) (mCons (mVarB 2) mNil)))))))))
def φx_day_of : PhiT := phi 5 mx_day_of
def tx_day_of (K : PySem.W.Frag) (cs : Str → Addr) (E : XK) : TS :=
  (tSeq (tDrop (tCall (spOf K (ixX cs) 1 φx_check_market) [] E (tCons (tVar 0) tNil)))
    (tSeq (tAsg (tVar 0) (gTup K 2 (gCons (gName 3) (gCons (gName 4) gNil))))
    (tSeq (tDrop (tCall (spOf K (ixX cs) 2 φx_check_prices) [] E (tCons (tVar 3) (tCons (tVar 1) tNil))))
    (tSeq (tDrop (tCall (spOf K (ixX cs) 2 φx_check_count) [] E (tCons (tVar 2) (tCons (tC (.int 1000000000000)) tNil))))
    (tRet (tCall (spOf K ix0 3 ph_day_done) [] E0 (tCons (tVar 0) (tCons (tVar 1) (tCons (tVar 2) tNil)))))))))
theorem rsx_day_of {K : PySem.W.Frag} {cs : Str → Addr} {E : XK} : RS K E (ixX cs) (tx_day_of K cs E) mx_day_of :=
  (rs_seq (rs_drop (re_call (b := false) (ra_cons rb_var ra_nil)))
    (rs_seq (rs_asg re_var (rg_tup (rgs_cons rg_name (rgs_cons rg_name rgs_nil))))
    (rs_seq (rs_drop (re_call (b := false) (ra_cons rb_var (ra_cons rb_var ra_nil))))
    (rs_seq (rs_drop (re_call (b := false) (ra_cons rb_var (ra_cons (re_int (b := false)) ra_nil))))
    (rs_ret (re_call0 (b := true) (ra_cons rb_var (ra_cons rb_var (ra_cons rb_var ra_nil)))))))))
end Pr

set_option Elab.async false
set_option linter.all false
set_option maxRecDepth 100000
set_option maxHeartbeats 4000000
namespace Pr
open PySem PySem.Spec PyProof.Rows L2 Fw
/-! ### law: 17 slots, seed 5: 0 _law_script 1 _law_h 2 _law_turn 3 _law_seller 4 _law_crowd 5 _law_market_here 6 _law_prices_here 7 _law_day_here 8 _law_works 9 _law_far 10 _law_many 11 _law_at 12 _law_other 13 _law_bad 14 _law_low 15 _law_high 16 _law_call -/
def ml_law : Nat → MV D
  | 0 => (mCall 3 φx_day_of (mCons (mVarB 5) (mCons (mVarB 6) (mCons (mOp dSub (mUn dNeg (mret (.int 1))) (mVarB 9)) mNil))))
  | 1 => (mCall 3 φx_day_of (mCons (mVarB 5) (mCons (mVarB 6) (mCons (mOp dAdd (mOp dAdd (mOp dPow (mret (.int 10)) (mret (.int 12))) (mret (.int 1))) (mVarB 9)) mNil))))
  | 2 => (mCall 3 φx_day_of (mCons (mVarB 5) (mCons (mCatA (mVarB 6) (mTup (mCons (mret (.int 0)) mNil))) (mCons (mUn dNeg (mret (.int 1))) mNil))))
  | 3 => (mCall 3 φx_day_of (mCons (mVarB 5) (mCons (mCatA (mVarB 13) (mTup (mCons (mret (.int 0)) mNil))) (mCons (mUn dNeg (mret (.int 1))) mNil))))
  | _ => (mCall 3 φx_day_of (mCons (mVarB 5) (mCons (mSlA (mVarB 6) (mret none) (mPart (mVarB 11))) (mCons (mUn dNeg (mret (.int 1))) mNil))))
abbrev qL_law : Str := "law.<locals>." ++ "<lambda>"
def m_law : MSt :=
  (mSeq (mFor (mRng1 (mCons (mret (.int 8)) mNil)) (bName 2) (mFgE [2, 3, 4, 5, 6, 7, 8, 9, 10, 11, 12, 13, 14, 15] (mSeq (mAsg (mTup (mCons (mCall0 2 ph__law_next (mCons (mVarB 1) (mCons (mret (.int 90)) mNil))) (mCons (mOp dAdd (mret (.int 1)) (mCall0 2 ph__law_next (mCons (mVarB 1) (mCons (mret (.int 5)) mNil)))) (mCons (mCall0 2 ph__law_next (mCons (mVarB 1) (mCons (mret (.int 10)) mNil))) (mCons (mCall0 2 ph__law_next (mCons (mVarB 1) (mCons (mret (.int 10)) mNil))) (mCons (mret (.int 0)) (mCons (mret (.int 99)) mNil))))))) (bName 3))
    (mSeq (mAsg (mTup (mCons (mTup (mCons (mVar 3) mNil)) (mCons (mRepT (mTup (mCons (mTup (mCons (mret (.int 1)) (mCons (mret (.int 0)) (mCons (mTup (mCons (mret (.int 90)) mNil)) mNil)))) mNil)) (mret (.int 6))) mNil))) (bName 4))
    (mSeq (mIfS (mTNot (mB (mCall0 2 (ph__law_alike 7) (mCons (mCall0 3 ph_day_of (mCons (mVarB 4) (mCons (mCall0 1 ph__law_first (mCons (mVarB 4) mNil)) (mCons (mVarB 2) mNil)))) (mCons (mCall0 3 ph__law_day (mCons (mVarB 4) (mCons (mCall0 1 ph__law_first (mCons (mVarB 4) mNil)) (mCons (mVarB 2) mNil)))) mNil))))) (mRet (mret (.bl false))) mNx)
    (mSeq (mAsg (mCall0 4 ph__law_market (mCons (mVarB 1) (mCons (mret (.int 4)) (mCons (mret (.int 6)) (mCons (mOp dIx (mFr (mLst (mCons (mret (.int 9)) (mCons (mret (.int 99)) mNil)))) (mCall0 2 ph__law_next (mCons (mVarB 1) (mCons (mret (.int 2)) mNil)))) mNil))))) (bName 5))
    (mSeq (mAsg (mCall0 2 ph__law_prices (mCons (mVarB 1) (mCons (mVarB 5) mNil))) (bName 6))
    (mSeq (mAsg (mOp dIx (mFr (mLst (mCons (mCall0 2 ph__law_next (mCons (mVarB 1) (mCons (mret (.int 12)) mNil))) (mCons (mCall0 2 ph__law_next (mCons (mVarB 1) (mCons (mOp dAdd (mOp dPow (mret (.int 10)) (mret (.int 12))) (mret (.int 1))) mNil))) (mCons (mOp dPow (mret (.int 10)) (mret (.int 12))) mNil))))) (mCall0 2 ph__law_next (mCons (mVarB 1) (mCons (mret (.int 3)) mNil)))) (bName 7))
    (mSeq (mIfS (mTNot (mB (mCall0 2 (ph__law_alike 7) (mCons (mCall0 3 ph_day_of (mCons (mVarB 5) (mCons (mVarB 6) (mCons (mVarB 7) mNil)))) (mCons (mCall0 3 ph__law_day (mCons (mVarB 5) (mCons (mVarB 6) (mCons (mVarB 7) mNil)))) mNil))))) (mRet (mret (.bl false))) mNx)
    (mSeq (mPar [Stp.im (mCall0 2 ph__law_next (mCons (mVarB 1) (mCons (mOp dIx (mFr (mLst (mCons (mret (.int 1)) (mCons (mOp dPow (mret (.int 10)) (mret (.int 6))) mNil)))) (mCall0 2 ph__law_next (mCons (mVarB 1) (mCons (mret (.int 2)) mNil)))) mNil))), Stp.im (mCB fLen (mCons (mVarB 6) mNil))] [9, 10])
    (mLamNew 8 2
    (mSeq (mIfS (mB (mOp dNeD (mFr (mKindsAt 16 ([0, 1].map ml_law))) (mFr (mRep (mFr (mLst (mCons (mTup (mCons (mret (.str "count")) (mCons (mret (.int 0)) mNil))) mNil))) (mret (.int 2)))))) (mRet (mret (.bl false))) mNx)
    (mSeq (mIfS (mB (mOp dNeD (mKind (ml_law 2)) (mTup (mCons (mret (.str "prices")) (mCons (mVarB 10) mNil))))) (mRet (mret (.bl false))) mNx)
    (mIfS (mB (mOp dGt (mVarB 10) (mret (.int 0)))) (mSeq (mAsg (mCall0 2 ph__law_next (mCons (mVarB 1) (mCons (mVarB 10) mNil))) (bName 11))
    (mSeq (mAsg (mSlA (mOp dIx (mOp dIx (mVar 5) (mret (.int 0))) (mVarB 11)) (mPart (mret (.int 4))) (mret none)) (bTup 2 (bCons (bName 14) (bCons (bName 15) bNil))))
    (mSeq (mAsg (mOp dIx (mFr (mLst (mCons (mOp dSub (mOp dSub (mVarB 14) (mret (.int 1))) (mVarB 9)) (mCons (mOp dAdd (mOp dAdd (mVarB 15) (mret (.int 1))) (mVarB 9)) mNil)))) (mCall0 2 ph__law_next (mCons (mVarB 1) (mCons (mret (.int 2)) mNil)))) (bName 12))
    (mSeq (mAsg (mCatA (mCatA (mSlA (mVar 6) (mret none) (mPart (mVarB 11))) (mTup (mCons (mVar 12) mNil))) (mSlA (mVar 6) (mPart (mOp dAdd (mVarB 11) (mret (.int 1)))) (mret none))) (bName 13))
    (mLamNew 8 2
    (mIfS (mB (mOp dNeD (mFr (mKindsAt 16 ([3, 4].map ml_law))) (mFr (mRep (mFr (mLst (mCons (mTup (mCons (mret (.str "prices")) (mCons (mVar 11) mNil))) mNil))) (mret (.int 2)))))) (mRet (mret (.bl false))) mNx)))))) mNx))))))))))))))
    (mRet (mret (.bl true))))
def t_law (X : Cx) (K : PySem.W.Frag) (ix : IXT) (Pt : Addr) (lr : Nat → LamR) : TS :=
  (tSeq (tFor (iRng1 (tCons (tC (.int 8)) tNil)) (gName 2) (tSeq (tAsg (tTup (tCons (tCall (spOf K ix 2 ph__law_next) [] E0 (tCons (tVar 1) (tCons (tC (.int 90)) tNil))) (tCons (tOp rAddI (tC (.int 1)) (tCall (spOf K ix 2 ph__law_next) [] E0 (tCons (tVar 1) (tCons (tC (.int 5)) tNil)))) (tCons (tCall (spOf K ix 2 ph__law_next) [] E0 (tCons (tVar 1) (tCons (tC (.int 10)) tNil))) (tCons (tCall (spOf K ix 2 ph__law_next) [] E0 (tCons (tVar 1) (tCons (tC (.int 10)) tNil))) (tCons (tC (.int 0)) (tCons (tC (.int 99)) tNil))))))) (gName 3))
    (tSeq (tAsg (tTup (tCons (tTup (tCons (tVar 3) tNil)) (tCons (tOp (rRepT K) (tTup (tCons (tTup (tCons (tC (.int 1)) (tCons (tC (.int 0)) (tCons (tTup (tCons (tC (.int 90)) tNil)) tNil)))) tNil)) (tC (.int 6))) tNil))) (gName 4))
    (tSeq (tIfS (tNot (tB (tCall (spOf K ix 2 (ph__law_alike 7)) [] E0 (tCons (tCall (spOf K ix 3 ph_day_of) [] E0 (tCons (tVar 4) (tCons (tCall (spOf K ix 1 ph__law_first) [] E0 (tCons (tVar 4) tNil)) (tCons (tVar 2) tNil)))) (tCons (tCall (spOf K ix 3 ph__law_day) [] E0 (tCons (tVar 4) (tCons (tCall (spOf K ix 1 ph__law_first) [] E0 (tCons (tVar 4) tNil)) (tCons (tVar 2) tNil)))) tNil))))) (tRet (tC (.bl false))) tNext)
    (tSeq (tAsg (tCall (spOf K ix 4 ph__law_market) [] E0 (tCons (tVar 1) (tCons (tC (.int 4)) (tCons (tC (.int 6)) (tCons (tOp (rIx K) (tLst (tCons (tC (.int 9)) (tCons (tC (.int 99)) tNil))) (tCall (spOf K ix 2 ph__law_next) [] E0 (tCons (tVar 1) (tCons (tC (.int 2)) tNil)))) tNil))))) (gName 5))
    (tSeq (tAsg (tCall (spOf K ix 2 ph__law_prices) [] E0 (tCons (tVar 1) (tCons (tVar 5) tNil))) (gName 6))
    (tSeq (tAsg (tOp (rIx K) (tLst (tCons (tCall (spOf K ix 2 ph__law_next) [] E0 (tCons (tVar 1) (tCons (tC (.int 12)) tNil))) (tCons (tCall (spOf K ix 2 ph__law_next) [] E0 (tCons (tVar 1) (tCons (tOp rAddI (tOp rPowI (tC (.int 10)) (tC (.int 12))) (tC (.int 1))) tNil))) (tCons (tOp rPowI (tC (.int 10)) (tC (.int 12))) tNil)))) (tCall (spOf K ix 2 ph__law_next) [] E0 (tCons (tVar 1) (tCons (tC (.int 3)) tNil)))) (gName 7))
    (tSeq (tIfS (tNot (tB (tCall (spOf K ix 2 (ph__law_alike 7)) [] E0 (tCons (tCall (spOf K ix 3 ph_day_of) [] E0 (tCons (tVar 5) (tCons (tVar 6) (tCons (tVar 7) tNil)))) (tCons (tCall (spOf K ix 3 ph__law_day) [] E0 (tCons (tVar 5) (tCons (tVar 6) (tCons (tVar 7) tNil)))) tNil))))) (tRet (tC (.bl false))) tNext)
    (tSeq (tAsg (tTup (tCons (tCall (spOf K ix 2 ph__law_next) [] E0 (tCons (tVar 1) (tCons (tOp (rIx K) (tLst (tCons (tC (.int 1)) (tCons (tOp rPowI (tC (.int 10)) (tC (.int 6))) tNil))) (tCall (spOf K ix 2 ph__law_next) [] E0 (tCons (tVar 1) (tCons (tC (.int 2)) tNil)))) tNil))) (tCons (tCB (rLenA K) (tCons (tVar 6) tNil)) tNil))) (gTup K 2 (gNames [9, 10])))
    (tSeq (tAsg (tLst (tLamsA X K Pt qL_law ([0, 1].map lr))) (gName 8))
    (tSeq (tIfS (tTest (tOp (rNeD K) (kKinds X K 8 16 (kTG X K (csK K) (csK K "PriceError") ([0, 1].map lr))) (tOp rRep (tLst (tCons (tTup (tCons (tC (.str "count")) (tCons (tC (.int 0)) tNil))) tNil)) (tC (.int 2))))) (tRet (tC (.bl false))) tNext)
    (tSeq (tIfS (tTest (tOp (rNeD K) (tKindL X K Pt qL_law (lr 2) [lr 2]) (tTup (tCons (tC (.str "prices")) (tCons (tVar 10) tNil))))) (tRet (tC (.bl false))) tNext)
    (tIfS (tTest (tOp rGtI (tVar 10) (tC (.int 0)))) (tSeq (tAsg (tCall (spOf K ix 2 ph__law_next) [] E0 (tCons (tVar 1) (tCons (tVar 10) tNil))) (gName 11))
    (tSeq (tAsg (tSl (rSlA K) (tOp (rIx K) (tOp (rIx K) (tVar 5) (tC (.int 0))) (tVar 11)) (tPart (tC (.int 4))) tNoPart) (gTup K 2 (gCons (gName 14) (gCons (gName 15) gNil))))
    (tSeq (tAsg (tOp (rIx K) (tLst (tCons (tOp rSubI (tOp rSubI (tVar 14) (tC (.int 1))) (tVar 9)) (tCons (tOp rAddI (tOp rAddI (tVar 15) (tC (.int 1))) (tVar 9)) tNil))) (tCall (spOf K ix 2 ph__law_next) [] E0 (tCons (tVar 1) (tCons (tC (.int 2)) tNil)))) (gName 12))
    (tSeq (tAsg (tOp (rCatA K) (tOp (rCatA K) (tSl (rSlA K) (tVar 6) tNoPart (tPart (tVar 11))) (tTup (tCons (tVar 12) tNil))) (tSl (rSlA K) (tVar 6) (tPart (tOp rAddI (tVar 11) (tC (.int 1)))) tNoPart)) (gName 13))
    (tSeq (tAsg (tLst (tLamsA X K Pt qL_law ([3, 4].map lr))) (gName 8))
    (tIfS (tTest (tOp (rNeD K) (kKinds X K 8 16 (kTG X K (csK K) (csK K "PriceError") ([3, 4].map lr))) (tOp rRep (tLst (tCons (tTup (tCons (tC (.str "prices")) (tCons (tVar 11) tNil))) tNil)) (tC (.int 2))))) (tRet (tC (.bl false))) tNext)))))) tNext)))))))))))))
    (tRet (tC (.bl true))))
theorem rs_law {X : Cx} {K : PySem.W.Frag} {E : XK} {ix : IXT} {Pt : Addr} {lr : Nat → LamR} {mg : Str → Option Value} (xf : XFacts K mg) (hT : (Pt, qL_law) ∈ tabsK K) (hq : X.env.qual ++ "<lambda>" = qL_law) (hl : LamRe K lr ml_law) : RS K E ix (t_law X K ix Pt lr) m_law :=
  (rs_seq (rs_for (ri_rng1 (ra_cons (re_int (b := false)) ra_nil)) rg_name (rs_fgE (is := [2, 3, 4, 5, 6, 7, 8, 9, 10, 11, 12, 13, 14, 15]) (rs_seq (rs_asg (re_tup (ra_cons (re_call0 (b := true) (ra_cons rb_var (ra_cons (re_int (b := false)) ra_nil))) (ra_cons (re_op (b := true) sc_add (re_int (b := false)) (re_call0 (b := false) (ra_cons rb_var (ra_cons (re_int (b := false)) ra_nil)))) (ra_cons (re_call0 (b := true) (ra_cons rb_var (ra_cons (re_int (b := false)) ra_nil))) (ra_cons (re_call0 (b := true) (ra_cons rb_var (ra_cons (re_int (b := false)) ra_nil))) (ra_cons (re_int (b := true)) (ra_cons (re_int (b := true)) ra_nil))))))) rg_name)
    (rs_seq (rs_asg (re_tup (ra_cons (re_tup (ra_cons re_var ra_nil)) (ra_cons (re_repT (re_tup (ra_cons (re_tup (ra_cons (re_int (b := true)) (ra_cons (re_int (b := true)) (ra_cons (re_tup (ra_cons (re_int (b := true)) ra_nil)) ra_nil)))) ra_nil)) (re_int (b := false))) ra_nil))) rg_name)
    (rs_seq (rs_if (rt_not (rt_B (re_call0 (b := false) (ra_cons (re_call0 (b := false) (ra_cons rb_var (ra_cons (re_call0 (b := false) (ra_cons rb_var ra_nil)) (ra_cons rb_var ra_nil)))) (ra_cons (re_call0 (b := false) (ra_cons rb_var (ra_cons (re_call0 (b := false) (ra_cons rb_var ra_nil)) (ra_cons rb_var ra_nil)))) ra_nil))))) (rs_ret (re_bl (b := true))) rs_nx)
    (rs_seq (rs_asg (re_call0 (b := true) (ra_cons rb_var (ra_cons (re_int (b := false)) (ra_cons (re_int (b := false)) (ra_cons (re_ix (re_new (b := false) (rf_lst (ra_cons (re_int (b := true)) (ra_cons (re_int (b := true)) ra_nil)))) (re_call0 (b := false) (ra_cons rb_var (ra_cons (re_int (b := false)) ra_nil)))) ra_nil))))) rg_name)
    (rs_seq (rs_asg (re_call0 (b := true) (ra_cons rb_var (ra_cons rb_var ra_nil))) rg_name)
    (rs_seq (rs_asg (re_ix (re_new (b := true) (rf_lst (ra_cons (re_call0 (b := true) (ra_cons rb_var (ra_cons (re_int (b := false)) ra_nil))) (ra_cons (re_call0 (b := true) (ra_cons rb_var (ra_cons (re_op (b := false) sc_add (re_op (b := false) sc_pow (re_int (b := false)) (re_int (b := false))) (re_int (b := false))) ra_nil))) (ra_cons (re_op (b := true) sc_pow (re_int (b := false)) (re_int (b := false))) ra_nil))))) (re_call0 (b := false) (ra_cons rb_var (ra_cons (re_int (b := false)) ra_nil)))) rg_name)
    (rs_seq (rs_if (rt_not (rt_B (re_call0 (b := false) (ra_cons (re_call0 (b := false) (ra_cons rb_var (ra_cons rb_var (ra_cons rb_var ra_nil)))) (ra_cons (re_call0 (b := false) (ra_cons rb_var (ra_cons rb_var (ra_cons rb_var ra_nil)))) ra_nil))))) (rs_ret (re_bl (b := true))) rs_nx)
    (rs_seq (rs_parT (is := [9, 10]) (RPar.im (re_call0 (b := true) (ra_cons rb_var (ra_cons (re_ix (re_new (b := false) (rf_lst (ra_cons (re_int (b := true)) (ra_cons (re_op (b := true) sc_pow (re_int (b := false)) (re_int (b := false))) ra_nil)))) (re_call0 (b := false) (ra_cons rb_var (ra_cons (re_int (b := false)) ra_nil)))) ra_nil))) (RPar.im (re_cb (b := true) sc_len (ra_cons rb_var ra_nil)) RPar.nil)))
    (rs_lamNew hT hq (re_map hl [0, 1])
    (rsl_seq (rsl_if (neg := true) (j := 16) xf sc_neD (re_new (b := false) (rf_rep (re_new (b := true) (rf_lst (ra_cons (re_tup (ra_cons (re_str (b := true)) (ra_cons (re_int (b := true)) ra_nil))) ra_nil))) (re_int (b := false)))) (rs_ret (re_bl (b := true))) rs_nx)
    (rs_seq (rs_if (rt_test (re_op (b := false) sc_neD (re_kindN (b := false) xf hT hq hl 2) (re_tup (ra_cons (re_str (b := false)) (ra_cons rb_var ra_nil))))) (rs_ret (re_bl (b := true))) rs_nx)
    (rs_if (rt_test (re_op (b := false) sc_gt rb_var (re_int (b := false)))) (rs_seq (rs_asg (re_call0 (b := true) (ra_cons rb_var (ra_cons rb_var ra_nil))) rg_name)
    (rs_seq (rs_asg (re_slA (re_ix (re_ix re_var (re_int (b := false))) rb_var) (ro_part (re_int (b := false))) ro_no) (rg_tup (rgs_cons rg_name (rgs_cons rg_name rgs_nil))))
    (rs_seq (rs_asg (re_ix (re_new (b := true) (rf_lst (ra_cons (re_op (b := true) sc_sub (re_op (b := false) sc_sub rb_var (re_int (b := false))) rb_var) (ra_cons (re_op (b := true) sc_add (re_op (b := false) sc_add rb_var (re_int (b := false))) rb_var) ra_nil)))) (re_call0 (b := false) (ra_cons rb_var (ra_cons (re_int (b := false)) ra_nil)))) rg_name)
    (rs_seq (rs_asg (re_catA (re_catA (re_slA re_var ro_no (ro_part rb_var)) (re_tup (ra_cons re_var ra_nil))) (re_slA re_var (ro_part (re_op (b := false) sc_add rb_var (re_int (b := false)))) ro_no)) rg_name)
    (rs_lamNew hT hq (re_map hl [3, 4])
    (rsl_if (neg := true) (j := 16) xf sc_neD (re_new (b := false) (rf_rep (re_new (b := true) (rf_lst (ra_cons (re_tup (ra_cons (re_str (b := true)) (ra_cons re_var ra_nil))) ra_nil))) (re_int (b := false)))) (rs_ret (re_bl (b := true))) rs_nx)))))) rs_nx))))))))))))))
    (rs_ret (re_bl (b := true))))
end Pr

set_option Elab.async false
set_option linter.all false
set_option maxRecDepth 100000
set_option maxHeartbeats 4000000
namespace Pr
open PySem PySem.Spec PyProof.Rows L2 Fw
def topS (i : Nat) : Stmt := PySem.Challenge.pw_learnprices_k02_whole_a_day.main.body.getD i (.Pass ⟨0, 0, 0, 0⟩)
structure Blt (mg : Str → Option Value) : Prop where
  len : mg "len" = none
  range : mg "range" = none
  enumerate : mg "enumerate" = none
  min : mg "min" = none
  max : mg "max" = none
  tuple : mg "tuple" = none
  list : mg "list" = none
  isinstance : mg "isinstance" = none
  int : mg "int" = none
  bool : mg "bool" = none
  all : mg "all" = none
  any : mg "any" = none
  sum : mg "sum" = none
  sorted : mg "sorted" = none
  zip : mg "zip" = none
  str : mg "str" = none
  abs : mg "abs" = none
structure Cst (mg : Str → Option Value) : Prop where
  c_MOST_SELLERS : ∃ t, mg "MOST_SELLERS" = some (.int 4 t)
  c_MOST_BUYERS : ∃ t, mg "MOST_BUYERS" = some (.int 6 t)
  c_MOST_STOCK : ∃ t, mg "MOST_STOCK" = some (.int 5 t)
  c_MOST_STEP : ∃ t, mg "MOST_STEP" = some (.int 9 t)
  c_MOST_PRICE : ∃ t, mg "MOST_PRICE" = some (.int 99 t)
  c_MOST_EVERY : ∃ t, mg "MOST_EVERY" = some (.int 4 t)
  c_LAST_DAY : ∃ t, mg "LAST_DAY" = some (.int 1000000000000 t)
structure Mth (mg : Str → Option Value) : Prop where
  lcm : mg "lcm" = some (.builtin "math.lcm")
abbrev s_BadSeller : Stmt := stAt (stBody (topS 2)) 0
theorem sc_BadSeller : FnScope ["self", "number"] ["self", "number"] (defScope s_BadSeller) := ⟨rfl, rfl, rfl, by decide +kernel, rfl, by decide +kernel, by decide +kernel⟩
theorem ini_BadSeller {P : Program} {w : World} {K : PySem.W.Frag} {mg : Str → Option Value} {base : Heap} {C CP f : Addr} {fd : FuncData} (Fu : Fun K "__init__" "BadSeller.__init__" s_BadSeller f fd) (hPe : PeC K CP) (hP : mg "PriceError" = some (.ref CP)) : FnOk P w K mg base CX0 1 f fd ["self", "number"] (spInit (okJ "seller " " can't be") K C "number") :=
  Fu.ok sc_BadSeller (fun vs H Q E h => by obtain ⟨a, i, rfl, _⟩ := h; rfl) fun cdv A outer s H vs Q E hr hsp =>
    ⟨tIni K "number" (fun σ H Q => tJs [tC (.str "seller "), tFmt (tVar 1), tC (.str " can't be")] Str.empty σ H fun out H1 => Q (.str out) H1), pss_cons (ps_expr (pe_pinit hPe rfl hP (pa_cons (pv 0) (pa_cons (pe_joined (.cons pe_str (.cons (pe_fmt (pv 1)) (.cons pe_str .nil)))) pa_nil)))) (pss_one (ps_ost (pv 0) (pv 1))), ini_read hsp rfl fun a i S hk h => ini_j hk (by decide +kernel) h⟩
abbrev s_BadBuyer : Stmt := stAt (stBody (topS 3)) 0
theorem sc_BadBuyer : FnScope ["self", "number"] ["self", "number"] (defScope s_BadBuyer) := ⟨rfl, rfl, rfl, by decide +kernel, rfl, by decide +kernel, by decide +kernel⟩
theorem ini_BadBuyer {P : Program} {w : World} {K : PySem.W.Frag} {mg : Str → Option Value} {base : Heap} {C CP f : Addr} {fd : FuncData} (Fu : Fun K "__init__" "BadBuyer.__init__" s_BadBuyer f fd) (hPe : PeC K CP) (hP : mg "PriceError" = some (.ref CP)) : FnOk P w K mg base CX0 1 f fd ["self", "number"] (spInit (okJ "buyer " " can't be") K C "number") :=
  Fu.ok sc_BadBuyer (fun vs H Q E h => by obtain ⟨a, i, rfl, _⟩ := h; rfl) fun cdv A outer s H vs Q E hr hsp =>
    ⟨tIni K "number" (fun σ H Q => tJs [tC (.str "buyer "), tFmt (tVar 1), tC (.str " can't be")] Str.empty σ H fun out H1 => Q (.str out) H1), pss_cons (ps_expr (pe_pinit hPe rfl hP (pa_cons (pv 0) (pa_cons (pe_joined (.cons pe_str (.cons (pe_fmt (pv 1)) (.cons pe_str .nil)))) pa_nil)))) (pss_one (ps_ost (pv 0) (pv 1))), ini_read hsp rfl fun a i S hk h => ini_j hk (by decide +kernel) h⟩
abbrev s_BadPrices : Stmt := stAt (stBody (topS 4)) 0
theorem sc_BadPrices : FnScope ["self", "good"] ["self", "good"] (defScope s_BadPrices) := ⟨rfl, rfl, rfl, by decide +kernel, rfl, by decide +kernel, by decide +kernel⟩
theorem ini_BadPrices {P : Program} {w : World} {K : PySem.W.Frag} {mg : Str → Option Value} {base : Heap} {C CP f : Addr} {fd : FuncData} (Fu : Fun K "__init__" "BadPrices.__init__" s_BadPrices f fd) (hPe : PeC K CP) (hP : mg "PriceError" = some (.ref CP)) : FnOk P w K mg base CX0 1 f fd ["self", "good"] (spInit okC K C "good") :=
  Fu.ok sc_BadPrices (fun vs H Q E h => by obtain ⟨a, i, rfl, _⟩ := h; rfl) fun cdv A outer s H vs Q E hr hsp =>
    ⟨tIni K "good" (tC (.str "the price of a good can't be")), pss_cons (ps_expr (pe_pinit hPe rfl hP (pa_cons (pv 0) (pa_cons pe_str pa_nil)))) (pss_one (ps_ost (pv 0) (pv 1))), ini_read hsp rfl fun a i S hk h => ini_c h⟩
abbrev s__law_kind : Stmt := topS 38
abbrev N__law_kind : List Str := ["_law_call", "e", "_law_kinds"]
abbrev P__law_kind : List Str := ["_law_call"]
theorem sc__law_kind : FnScope N__law_kind P__law_kind (defScope s__law_kind) := ⟨rfl, rfl, rfl, by decide +kernel, rfl, by decide +kernel, by decide +kernel⟩
theorem suite_ps {P : Program} {w : World} {K : PySem.W.Frag} {mg : Str → Option Value} {base : Heap} {g : Addr} {cdg : Value} {A : Around} {outer : List Env} {s : Shared} {H : Hp} {a Dc : Addr} {d : Option Addr} {oe : Obj} {pn : List (Addr × Obj)} {cs : Str → Addr}
    (hB : Blt mg) (hVE : mg "ValueError" = none) (hm : ∀ x, x ∈ excAll → mg x = some (.ref (cs x))) (C : ExcC K Dc) (XC : XfC K Dc) (hno : ∀ f, f ∈ ([("number" : Str), "good", "buyer", "row"]) → PySem.W.findIn K (.ref Dc) f = some none) (hz : Zc (.ref Dc) d oe) (hf : ∃ vs, oe.data = .fields vs) :
    PSs ((cxOf C8.CX0 P w K mg base N__law_kind "_law_kind" (defScope s__law_kind) g cdg A outer s H C8.E0).suite a ((a, oe) :: pn)) (match defBody s__law_kind with | [.Try _ [.ExceptHandler _ _ body _] _ _ _, _] => body | _ => []) (kSuite K cs Dc a d) :=
  have nd := sc__law_kind.nd
  have K1 := fun (n : Str) (hn : n ∈ excAll) => hm n hn
  (pss_cons (ps_set (i := 2) nd rfl (Or.inl rfl) (pe_lst (pa_cons (pe_callB (call_isX C hz hf) (by rfl) hB.isinstance (by decide +kernel) (pa_cons (pv 1) (pa_cons (pe_glob (v := .ref (cs "BadSeller")) rfl (hm _ (by decide +kernel)) rfl) pa_nil))) (pa_cons (pe_callB (call_isX C hz hf) (by rfl) hB.isinstance (by decide +kernel) (pa_cons (pv 1) (pa_cons (pe_glob (v := .ref (cs "BadBuyer")) rfl (hm _ (by decide +kernel)) rfl) pa_nil))) (pa_cons (pe_callB (call_isX C hz hf) (by rfl) hB.isinstance (by decide +kernel) (pa_cons (pv 1) (pa_cons (pe_glob (v := .ref (cs "NoBuyer")) rfl (hm _ (by decide +kernel)) rfl) pa_nil))) (pa_cons (pe_callB (call_isX C hz hf) (by rfl) hB.isinstance (by decide +kernel) (pa_cons (pv 1) (pa_cons (pe_glob (v := .ref (cs "BadDeed")) rfl (hm _ (by decide +kernel)) rfl) pa_nil))) pa_nil))))))
    (pss_cons (ps_expr (pe_bm PySem.F.plainAttrs_list PySem.F.slot_list_extend PySem.F.type_list_extend mt_extend (pv 2) (pa_cons (pe_lst (pa_cons (pe_callB (call_isX C hz hf) (by rfl) hB.isinstance (by decide +kernel) (pa_cons (pv 1) (pa_cons (pe_glob (v := .ref (cs "BadPrices")) rfl (hm _ (by decide +kernel)) rfl) pa_nil))) (pa_cons (pe_callB (call_isX C hz hf) (by rfl) hB.isinstance (by decide +kernel) (pa_cons (pv 1) (pa_cons (pe_glob (v := .ref (cs "BadDealing")) rfl (hm _ (by decide +kernel)) rfl) pa_nil))) (pa_cons (pe_callB (call_isX C hz hf) (by rfl) hB.isinstance (by decide +kernel) (pa_cons (pv 1) (pa_cons (pe_glob (v := .ref (cs "BadText")) rfl (hm _ (by decide +kernel)) rfl) pa_nil))) pa_nil)))) pa_nil)))
    (pss_cons (ps_expr (pe_bm PySem.F.plainAttrs_list PySem.F.slot_list_extend PySem.F.type_list_extend mt_extend (pv 2) (pa_cons (pe_lst (pa_cons (pe_callB (call_isX C hz hf) (by rfl) hB.isinstance (by decide +kernel) (pa_cons (pv 1) (pa_cons (pe_glob (v := .ref (cs "BadCount")) rfl (hm _ (by decide +kernel)) rfl) pa_nil))) (pa_cons (pe_callB (call_isX C hz hf) (by rfl) hB.isinstance (by decide +kernel) (pa_cons (pv 1) (pa_cons (pe_glob (v := .ref (cs "TooMany")) rfl (hm _ (by decide +kernel)) rfl) pa_nil))) pa_nil))) pa_nil)))
    (pss_cons (ps_if (PW.pt (pw_or (pt_cmpR op_ne (pe_bm PySem.F.plainAttrs_list PySem.F.slot_list_count PySem.F.type_list_count mt_cntF (pv 2) (pa_cons pe_bl pa_nil)) pe_int (nomark _)) (pw_or1 (pt_not (pt_val (pe_callB (call_isX C hz hf) (by rfl) hB.isinstance (by decide +kernel) (pa_cons (pv 1) (pa_cons (pe_ty (T := "ValueError") hVE (by decide +kernel)) pa_nil)))))))) (pss_one (ps_ret (pe_tup (pa_cons pe_str (pa_cons pe_int pa_nil))))) pss_nil)
    (pss_cons (ps_if (pt_cmpR op_in_seq pe_bl (pe_slice sl_list (pv 2) po_none (po_some pe_int)) rfl) (pss_one (ps_ret (pe_tup (pa_cons (pe_ix ix_seq (pe_lst (pa_cons pe_str (pa_cons pe_str (pa_cons pe_str (pa_cons pe_str pa_nil))))) (pe_bm PySem.F.plainAttrs_list PySem.F.slot_list_index PySem.F.type_list_index mt_index (pv 2) (pa_cons pe_bl pa_nil)) (fun _ _ => rfl)) (pa_cons (pe_xf XC (hno "number" (by decide +kernel)) hz hf (pv 1)) pa_nil))))) pss_nil)
    (pss_cons (ps_if (PW.pt (pw_or (pt_val (pe_ix ix_seq (pv 2) pe_int (fun _ _ => rfl))) (pw_or1 (pt_val (pe_ix ix_seq (pv 2) pe_int (fun _ _ => rfl)))))) (pss_one (ps_ret (pe_ifExp (pt_val (pe_ix ix_seq (pv 2) pe_int (fun _ _ => rfl))) (pe_tup (pa_cons pe_str (pa_cons (pe_xf XC (hno "good" (by decide +kernel)) hz hf (pv 1)) pa_nil))) (pe_tup (pa_cons pe_str (pa_cons (pe_xf XC (hno "buyer" (by decide +kernel)) hz hf (pv 1)) pa_nil)))))) pss_nil)
    (pss_one (ps_ret (pe_ifExp (pt_val (pe_ix ix_seq (pv 2) pe_int (fun _ _ => rfl))) (pe_tup (pa_cons pe_str (pa_cons (pe_xf XC (hno "row" (by decide +kernel)) hz hf (pv 1)) pa_nil))) (pe_ifExp (pt_val (pe_ix ix_seq (pv 2) pe_int (fun _ _ => rfl))) (pe_tup (pa_cons pe_str (pa_cons pe_int pa_nil))) (pe_tup (pa_cons pe_str (pa_cons pe_int pa_nil)))))))))))))
theorem clause_ps {P : Program} {w : World} {K : PySem.W.Frag} {mg : Str → Option Value} {base : Heap} {g : Addr} {cdg : Value} {A : Around} {outer : List Env} {s : Shared} {H : Hp} {a : Addr} {d : Option Addr} {cls : Value} {oe : Obj} {pn : List (Addr × Obj)} (hB : Blt mg) (hVE : mg "ValueError" = none) (hX : XFacts K mg) (hz : Zc cls d oe) (hf : ∃ vs, oe.data = .fields vs) :
    PSs ((cxOf C8.CX0 P w K mg base N__law_kind "_law_kind" (defScope s__law_kind) g cdg A outer s H C8.E0).suite a ((a, oe) :: pn)) (match defBody s__law_kind with | [.Try _ [.ExceptHandler _ _ body _] _ _ _, _] => body | _ => []) (kClause K (csK K) a cls d) := by
  refine ⟨fun pins s' σ H' D I h => ?_⟩
  obtain ⟨n, hn, rfl, h⟩ := h
  exact (suite_ps hB hVE hX.hm (hX.isC n hn) (hX.xf n hn) (hX.no n hn) hz hf).run pins s' σ H' D I h
theorem kind_givesX {X : Cx} {pins : List (Addr × Obj)} {σ : L2.St} {k : Nat} {g : Addr} {cdg : Value} {rs : List LamR} (hB : Blt X.mg) (hVE : X.mg "ValueError" = none) (hX : XFacts X.K X.mg) (R : ∀ r ∈ rs, LamOk X k r) :
    GivesB X pins σ (k + 1) N__law_kind "_law_kind" (defScope s__law_kind) g cdg (defBody s__law_kind) (kTG X X.K (csK X.K) (csK X.K "PriceError") rs σ) := by
  intro s H f Q I hr ⟨r, hmem, h⟩
  have nd := sc__law_kind.nd
  refine ⟨kKind X.K (csK X.K) (csK X.K "PriceError") (kCall X r σ), ?_, h⟩
  exact pss_cons (ps_try_as (X := cxOf C8.CX0 X.prog X.w X.K X.mg X.base N__law_kind "_law_kind" (defScope s__law_kind) g cdg X.A X.stack s H C8.E0) (c := .ref (csK X.K "PriceError")) (tb := fun W => tDrop (kCall X r σ W)) (ts := kClause X.K (csK X.K)) rfl rfl nd rfl rfl ⟨rfl, by decide +kernel, .inl hX.hP⟩ LamX.takes0
      (fun W pn xe tk _ => pss_one (ps_expr (pe_actB (i := 0) I (R r hmem) tk hr rfl (Or.inl rfl))))
      (fun a oe cls d pn hz hf => clause_ps hB hVE hX hz hf))
    (pss_one (ps_ret (pe_tup (pa_cons pe_str (pa_cons pe_int pa_nil)))))
abbrev s_is_within : Stmt := topS 19
abbrev N_is_within : List Str := ["number", "least", "most"]
abbrev P_is_within : List Str := ["number", "least", "most"]
abbrev s_can_sell : Stmt := topS 20
abbrev N_can_sell : List Str := ["seller", "price", "stock", "up", "down", "low", "high"]
abbrev P_can_sell : List Str := ["seller"]
abbrev s_can_buy : Stmt := topS 21
abbrev N_can_buy : List Str := ["buyer", "goods", "every", "first", "worths", "worth"]
abbrev P_can_buy : List Str := ["buyer", "goods"]
abbrev s_check_market : Stmt := topS 22
abbrev N_check_market : List Str := ["market", "sellers", "buyers", "number", "seller", "buyer"]
abbrev P_check_market : List Str := ["market"]
abbrev s_check_prices : Stmt := topS 23
abbrev N_check_prices : List Str := ["sellers", "prices", "good", "price", "low", "high"]
abbrev P_check_prices : List Str := ["sellers", "prices"]
abbrev s_check_count : Stmt := topS 24
abbrev N_check_count : List Str := ["count", "most"]
abbrev P_check_count : List Str := ["count", "most"]
abbrev s_comes : Stmt := topS 25
abbrev N_comes : List Str := ["buyer", "day", "every", "first", "_"]
abbrev P_comes : List Str := ["buyer", "day"]
abbrev s_good_for : Stmt := topS 26
abbrev N_good_for : List Str := ["worths", "prices", "left", "rows", "good", "worth"]
abbrev P_good_for : List Str := ["worths", "prices", "left"]
abbrev s_price_behind : Stmt := topS 27
abbrev N_price_behind : List Str := ["seller", "price", "left", "_", "stock", "up", "down", "low", "high"]
abbrev P_price_behind : List Str := ["seller", "price", "left"]
abbrev s_day_done : Stmt := topS 28
abbrev N_day_done : List Str := ["market", "prices", "day", "left", "bought", "buyer", "behind", "sellers", "buyers", "good", "seller"]
abbrev P_day_done : List Str := ["market", "prices", "day"]
abbrev s_day_of : Stmt := topS 29
abbrev N_day_of : List Str := ["market", "prices", "day", "sellers", "_"]
abbrev P_day_of : List Str := ["market", "prices", "day"]
abbrev s__law_mix : Stmt := topS 31
abbrev P__law_mix : List Str := ["_law_script", "_law_seed"]
abbrev s__law_next : Stmt := topS 32
abbrev P__law_next : List Str := ["_law_h", "_law_many"]
abbrev s__law_alike : Stmt := topS 33
abbrev N__law_alike : List Str := ["_law_found", "_law_due", "_law_k"]
abbrev P__law_alike : List Str := ["_law_found", "_law_due"]
abbrev s__law_market : Stmt := topS 34
abbrev N__law_market : List Str := ["_law_h", "_law_goods", "_law_buyers", "_law_most", "_law_k", "_law_sellers", "_law_found", "_law_low", "_law_high", "_law_price", "_law_stock", "_law_every", "_law_seller"]
abbrev P__law_market : List Str := ["_law_h", "_law_goods", "_law_buyers", "_law_most"]
abbrev s__law_prices : Stmt := topS 35
abbrev N__law_prices : List Str := ["_law_h", "_law_market_here", "_law_seller"]
abbrev P__law_prices : List Str := ["_law_h", "_law_market_here"]
abbrev s__law_day : Stmt := topS 36
abbrev N__law_day : List Str := ["_law_market_here", "_law_prices_here", "_law_day_here", "_law_later", "_law_good", "_law_left", "_law_goods", "_law_every", "_law_first_here", "_law_worths", "_law_mine", "_law_price", "_law_stock", "_law_up", "_law_down", "_law_low", "_law_high", "_law_seller", "_law_gain", "_law_old"]
abbrev P__law_day : List Str := ["_law_market_here", "_law_prices_here", "_law_day_here"]
abbrev s__law_first : Stmt := topS 37
abbrev N__law_first : List Str := ["_law_market_here", "_law_seller"]
abbrev P__law_first : List Str := ["_law_market_here"]
abbrev s_law : Stmt := topS 39
abbrev N_law : List Str := ["_law_script", "_law_h", "_law_turn", "_law_seller", "_law_crowd", "_law_market_here", "_law_prices_here", "_law_day_here", "_law_works", "_law_far", "_law_many", "_law_at", "_law_other", "_law_bad", "_law_low", "_law_high", "_law_call"]
abbrev P_law : List Str := ["_law_script"]
theorem sc_is_within : FnScope N_is_within P_is_within (defScope s_is_within) := ⟨rfl, rfl, rfl, by decide +kernel, rfl, by decide +kernel, by decide +kernel⟩
theorem ok_is_within {P : Program} {w : World} {K : PySem.W.Frag} {mg : Str → Option Value} {base : Heap} {ix : IXT} {f : Addr} {fd : FuncData} (Fu : Fun K "is_within" "is_within" s_is_within f fd) (hB : Blt mg) :
    FnOk P w K mg base CX0 1 f fd P_is_within (spOf K ix 3 ph_is_within) :=
  fn_ok0 Fu sc_is_within rfl (fun E => rs_is_within) fun cdv A outer s H E hr =>
    have nd := sc_is_within.nd
  (pss_one (ps_ret (pe_and (pe_callB call_isi (by rfl) hB.isinstance (by decide +kernel) (pa_cons (pv 0) (pa_cons (pe_ty (T := "int") hB.int (by decide +kernel)) pa_nil))) (pe_and (pe_not (pe_callB call_isi (by rfl) hB.isinstance (by decide +kernel) (pa_cons (pv 0) (pa_cons (pe_ty (T := "bool") hB.bool (by decide +kernel)) pa_nil)))) (pe_one (pe_chain op_le op_le (pv 1) (pv 0) (pv 2)))))))
theorem sc_can_sell : FnScope N_can_sell P_can_sell (defScope s_can_sell) := ⟨rfl, rfl, rfl, by decide +kernel, rfl, by decide +kernel, by decide +kernel⟩
theorem ok_can_sell {P : Program} {w : World} {K : PySem.W.Frag} {mg : Str → Option Value} {base : Heap} {ix : IXT} {f : Addr} {fd : FuncData} (Fu : Fun K "can_sell" "can_sell" s_can_sell f fd) (hB : Blt mg) (hC : Cst mg) (h_is_within : Cal P w K mg base CX0 1 "is_within" (spOf K ix 3 ph_is_within)) :
    FnOk P w K mg base CX0 2 f fd P_can_sell (spOf K ix 1 ph_can_sell) :=
  fn_ok0 Fu sc_can_sell rfl (fun E => rs_can_sell) fun cdv A outer s H E hr =>
    have nd := sc_can_sell.nd
  (pss_cons (ps_if (PW.pt (pw_or (pt_not (pt_val (pe_callB call_isi (by rfl) hB.isinstance (by decide +kernel) (pa_cons (pv 0) (pa_cons (pe_ty (T := "tuple") hB.tuple (by decide +kernel)) pa_nil))))) (pw_or1 (pt_cmpR op_ne (pe_callB call_len_seq (by rfl) hB.len (by decide +kernel) (pa_cons (pv 0) pa_nil)) pe_int (nomark _))))) (pss_one (ps_ret pe_bl)) pss_nil)
    (pss_cons (ps_asg (pv 0) (pg_tup (by rfl) (pgs_cons (pg_name (i := 1) nd rfl (Or.inl rfl)) (pgs_cons (pg_name (i := 2) nd rfl (Or.inl rfl)) (pgs_cons (pg_name (i := 3) nd rfl (Or.inl rfl)) (pgs_cons (pg_name (i := 4) nd rfl (Or.inl rfl)) (pgs_cons (pg_name (i := 5) nd rfl (Or.inl rfl)) (pgs_cons (pg_name (i := 6) nd rfl (Or.inl rfl)) pgs_nil))))))))
    (pss_one (ps_ret (pe_and (pe_cal (sp := (spOf K ix 3 ph_is_within)) h_is_within (hr.mono (by decide)) (pa_cons (pv 5) (pa_cons pe_int (pa_cons (pe_gi hC.c_MOST_PRICE) pa_nil)))) (pe_and (pe_cal (sp := (spOf K ix 3 ph_is_within)) h_is_within (hr.mono (by decide)) (pa_cons (pv 6) (pa_cons (pv 5) (pa_cons (pe_gi hC.c_MOST_PRICE) pa_nil)))) (pe_and (pe_cal (sp := (spOf K ix 3 ph_is_within)) h_is_within (hr.mono (by decide)) (pa_cons (pv 1) (pa_cons (pv 5) (pa_cons (pv 6) pa_nil)))) (pe_and (pe_cal (sp := (spOf K ix 3 ph_is_within)) h_is_within (hr.mono (by decide)) (pa_cons (pv 2) (pa_cons pe_int (pa_cons (pe_gi hC.c_MOST_STOCK) pa_nil)))) (pe_and (pe_cal (sp := (spOf K ix 3 ph_is_within)) h_is_within (hr.mono (by decide)) (pa_cons (pv 3) (pa_cons pe_int (pa_cons (pe_gi hC.c_MOST_STEP) pa_nil)))) (pe_one (pe_cal (sp := (spOf K ix 3 ph_is_within)) h_is_within (hr.mono (by decide)) (pa_cons (pv 4) (pa_cons pe_int (pa_cons (pe_gi hC.c_MOST_STEP) pa_nil))))))))))))))
theorem sc_can_buy : FnScope N_can_buy P_can_buy (defScope s_can_buy) := ⟨rfl, rfl, rfl, by decide +kernel, rfl, by decide +kernel, by decide +kernel⟩
theorem ok_can_buy {P : Program} {w : World} {K : PySem.W.Frag} {mg : Str → Option Value} {base : Heap} {ix : IXT} {f : Addr} {fd : FuncData} (Fu : Fun K "can_buy" "can_buy" s_can_buy f fd) (hB : Blt mg) (hC : Cst mg) (h_is_within : Cal P w K mg base CX0 1 "is_within" (spOf K ix 3 ph_is_within)) :
    FnOk P w K mg base CX0 2 f fd P_can_buy (spOf K ix 2 ph_can_buy) :=
  fn_ok0 Fu sc_can_buy rfl (fun E => rs_can_buy) fun cdv A outer s H E hr =>
    have nd := sc_can_buy.nd
  (pss_cons (ps_if (PW.pt (pw_or (pt_not (pt_val (pe_callB call_isi (by rfl) hB.isinstance (by decide +kernel) (pa_cons (pv 0) (pa_cons (pe_ty (T := "tuple") hB.tuple (by decide +kernel)) pa_nil))))) (pw_or1 (pt_cmpR op_ne (pe_callB call_len_seq (by rfl) hB.len (by decide +kernel) (pa_cons (pv 0) pa_nil)) pe_int (nomark _))))) (pss_one (ps_ret pe_bl)) pss_nil)
    (pss_cons (ps_asg (pv 0) (pg_tup (by rfl) (pgs_cons (pg_name (i := 2) nd rfl (Or.inl rfl)) (pgs_cons (pg_name (i := 3) nd rfl (Or.inl rfl)) (pgs_cons (pg_name (i := 4) nd rfl (Or.inl rfl)) pgs_nil)))))
    (pss_cons (ps_if (PW.pt (pw_or (pt_not (pt_val (pe_callB call_isi (by rfl) hB.isinstance (by decide +kernel) (pa_cons (pv 4) (pa_cons (pe_ty (T := "tuple") hB.tuple (by decide +kernel)) pa_nil))))) (pw_or1 (pt_cmpR op_ne (pe_callB call_len_seq (by rfl) hB.len (by decide +kernel) (pa_cons (pv 4) pa_nil)) (pv 1) (nomark _))))) (pss_one (ps_ret pe_bl)) pss_nil)
    (pss_one (ps_ret (pe_and (pe_cal (sp := (spOf K ix 3 ph_is_within)) h_is_within (hr.mono (by decide)) (pa_cons (pv 2) (pa_cons pe_int (pa_cons (pe_gi hC.c_MOST_EVERY) pa_nil)))) (pe_and (pe_cal (sp := (spOf K ix 3 ph_is_within)) h_is_within (hr.mono (by decide)) (pa_cons (pv 3) (pa_cons pe_int (pa_cons (pe_op op_sub (pv 2) pe_int) pa_nil)))) (pe_one (pe_callB (cr_all rfl) (by rfl) hB.all (by decide +kernel) (pa_cons (pe_lc (own := [("worth", 5)]) (g := (gName 5)) (tt := tYes) rfl nd (pi_tup (pv 4)) (blkOk_by (N := N_can_buy) (sc := defScope s_can_buy) (by decide +kernel)) (fun _ _ _ _ _ => (pg_name (i := 5) nd rfl (Or.inl rfl))) (fun _ _ _ _ _ => pts_nil) (fun _ _ _ _ _ => (pe_cal (sp := (spOf K ix 3 ph_is_within)) h_is_within (hr.mono (by decide)) (pa_cons (pv 5) (pa_cons pe_int (pa_cons (pe_gi hC.c_MOST_PRICE) pa_nil)))))) pa_nil))))))))))
theorem sc_check_market : FnScope N_check_market P_check_market (defScope s_check_market) := ⟨rfl, rfl, rfl, by decide +kernel, rfl, by decide +kernel, by decide +kernel⟩
theorem okx_check_market {P : Program} {w : World} {K : PySem.W.Frag} {mg : Str → Option Value} {base : Heap} {cs : Str → Addr} {f : Addr} {fd : FuncData} (Fu : Fun K "check_market" "check_market" s_check_market f fd) (hB : Blt mg) (hC : Cst mg) (hX_BadBuyer : XClsF (okJ "buyer " " can't be") P w K mg base "BadBuyer" "number" (cs "BadBuyer")) (hX_BadSeller : XClsF (okJ "seller " " can't be") P w K mg base "BadSeller" "number" (cs "BadSeller")) (h_can_sell : Cal P w K mg base CX0 2 "can_sell" (spOf K ix0 1 ph_can_sell)) (h_can_buy : Cal P w K mg base CX0 2 "can_buy" (spOf K ix0 2 ph_can_buy)) :
    FnOk P w K mg base (L2.CX P w) 3 f fd P_check_market (spOf K (ixX cs) 1 φx_check_market) :=
  fn_okX Fu sc_check_market rfl (fun E => rsx_check_market hX_BadBuyer.k hX_BadSeller.k) fun cdv A outer s H E hr tk =>
    have nd := sc_check_market.nd
  (pss_cons (ps_asg (pv 0) (pg_tup (by rfl) (pgs_cons (pg_name (i := 1) nd rfl (Or.inl rfl)) (pgs_cons (pg_name (i := 2) nd rfl (Or.inl rfl)) pgs_nil))))
    (pss_cons (ps_for (passes_of rfl) rfl (pi_enumA (by rfl) hB.enumerate (pa_cons (pv 1) pa_nil)) (pg_tup (by rfl) (pgs_cons (pg_name (i := 3) nd rfl (Or.inl rfl)) (pgs_cons (pg_name (i := 4) nd rfl (Or.inl rfl)) pgs_nil))) (pss_one (ps_if (PW.pt (pw_or (pt_cmpR op_ge (pv 3) (pe_gi hC.c_MOST_SELLERS) (nomark _)) (pw_or1 (pt_not (pt_val (pe_calX (sp := (spOf K ix0 1 ph_can_sell)) h_can_sell.up passL (hr.mono (by decide)) (pa_cons (pv 4) pa_nil))))))) (pss_one (ps_raiseF hX_BadSeller rfl tk (hr.mono (by decide)) rfl (pv 3))) pss_nil)))
    (pss_one (ps_for (passes_of rfl) rfl (pi_enumA (by rfl) hB.enumerate (pa_cons (pv 2) pa_nil)) (pg_tup (by rfl) (pgs_cons (pg_name (i := 3) nd rfl (Or.inl rfl)) (pgs_cons (pg_name (i := 5) nd rfl (Or.inl rfl)) pgs_nil))) (pss_one (ps_if (PW.pt (pw_or (pt_cmpR op_ge (pv 3) (pe_gi hC.c_MOST_BUYERS) (nomark _)) (pw_or1 (pt_not (pt_val (pe_calX (sp := (spOf K ix0 2 ph_can_buy)) h_can_buy.up passL (hr.mono (by decide)) (pa_cons (pv 5) (pa_cons (pe_callB call_len_seq (by rfl) hB.len (by decide +kernel) (pa_cons (pv 1) pa_nil)) pa_nil)))))))) (pss_one (ps_raiseF hX_BadBuyer rfl tk (hr.mono (by decide)) rfl (pv 3))) pss_nil))))))
theorem ok_check_market {P : Program} {w : World} {K : PySem.W.Frag} {mg : Str → Option Value} {base : Heap} {ix : IXT} {f : Addr} {fd : FuncData} (Fu : Fun K "check_market" "check_market" s_check_market f fd) (hB : Blt mg) (hC : Cst mg) (h_can_sell : Cal P w K mg base CX0 2 "can_sell" (spOf K ix 1 ph_can_sell)) (h_can_buy : Cal P w K mg base CX0 2 "can_buy" (spOf K ix 2 ph_can_buy)) :
    FnOk P w K mg base CX0 3 f fd P_check_market (spOf K ix 1 ph_check_market) :=
  fn_ok0 Fu sc_check_market rfl (fun E => rs_check_market) fun cdv A outer s H E hr =>
    have nd := sc_check_market.nd
  (pss_cons (ps_asg (pv 0) (pg_tup (by rfl) (pgs_cons (pg_name (i := 1) nd rfl (Or.inl rfl)) (pgs_cons (pg_name (i := 2) nd rfl (Or.inl rfl)) pgs_nil))))
    (pss_cons (ps_for PassesOwn.never rfl (pi_enumA (by rfl) hB.enumerate (pa_cons (pv 1) pa_nil)) (pg_tup (by rfl) (pgs_cons (pg_name (i := 3) nd rfl (Or.inl rfl)) (pgs_cons (pg_name (i := 4) nd rfl (Or.inl rfl)) pgs_nil))) (pss_one (ps_if (PW.pt (pw_or (pt_cmpR op_ge (pv 3) (pe_gi hC.c_MOST_SELLERS) (nomark _)) (pw_or1 (pt_not (pt_val (pe_cal (sp := (spOf K ix 1 ph_can_sell)) h_can_sell (hr.mono (by decide)) (pa_cons (pv 4) pa_nil))))))) (pss_one ps_never) pss_nil)))
    (pss_one (ps_for PassesOwn.never rfl (pi_enumA (by rfl) hB.enumerate (pa_cons (pv 2) pa_nil)) (pg_tup (by rfl) (pgs_cons (pg_name (i := 3) nd rfl (Or.inl rfl)) (pgs_cons (pg_name (i := 5) nd rfl (Or.inl rfl)) pgs_nil))) (pss_one (ps_if (PW.pt (pw_or (pt_cmpR op_ge (pv 3) (pe_gi hC.c_MOST_BUYERS) (nomark _)) (pw_or1 (pt_not (pt_val (pe_cal (sp := (spOf K ix 2 ph_can_buy)) h_can_buy (hr.mono (by decide)) (pa_cons (pv 5) (pa_cons (pe_callB call_len_seq (by rfl) hB.len (by decide +kernel) (pa_cons (pv 1) pa_nil)) pa_nil)))))))) (pss_one ps_never) pss_nil))))))
theorem sc_check_prices : FnScope N_check_prices P_check_prices (defScope s_check_prices) := ⟨rfl, rfl, rfl, by decide +kernel, rfl, by decide +kernel, by decide +kernel⟩
theorem okx_check_prices {P : Program} {w : World} {K : PySem.W.Frag} {mg : Str → Option Value} {base : Heap} {cs : Str → Addr} {f : Addr} {fd : FuncData} (Fu : Fun K "check_prices" "check_prices" s_check_prices f fd) (hB : Blt mg) (hX_BadPrices : XClsF okC P w K mg base "BadPrices" "good" (cs "BadPrices")) (h_is_within : Cal P w K mg base CX0 1 "is_within" (spOf K ix0 3 ph_is_within)) :
    FnOk P w K mg base (L2.CX P w) 3 f fd P_check_prices (spOf K (ixX cs) 2 φx_check_prices) :=
  fn_okX Fu sc_check_prices rfl (fun E => rsx_check_prices hX_BadPrices.k) fun cdv A outer s H E hr tk =>
    have nd := sc_check_prices.nd
  (pss_cons (ps_for (passes_of rfl) rfl (pi_enumA (by rfl) hB.enumerate (pa_cons (pv 1) pa_nil)) (pg_tup (by rfl) (pgs_cons (pg_name (i := 2) nd rfl (Or.inl rfl)) (pgs_cons (pg_name (i := 3) nd rfl (Or.inl rfl)) pgs_nil))) (pss_cons (ps_if (pt_cmpR op_ge (pv 2) (pe_callB call_len_seq (by rfl) hB.len (by decide +kernel) (pa_cons (pv 0) pa_nil)) (nomark _)) (pss_one (ps_raiseF hX_BadPrices rfl tk (hr.mono (by decide)) rfl (pv 2))) pss_nil)
    (pss_cons (ps_asg (pe_slice sl_tup (pe_ix ix_seq (pv 0) (pv 2) (fun _ _ => rfl)) (po_some pe_int) po_none) (pg_tup (by rfl) (pgs_cons (pg_name (i := 4) nd rfl (Or.inl rfl)) (pgs_cons (pg_name (i := 5) nd rfl (Or.inl rfl)) pgs_nil))))
    (pss_one (ps_if (pt_not (pt_val (pe_calX (sp := (spOf K ix0 3 ph_is_within)) h_is_within.up passL (hr.mono (by decide)) (pa_cons (pv 3) (pa_cons (pv 4) (pa_cons (pv 5) pa_nil)))))) (pss_one (ps_raiseF hX_BadPrices rfl tk (hr.mono (by decide)) rfl (pv 2))) pss_nil)))))
    (pss_one (ps_if (pt_cmpR op_lt (pe_callB call_len_seq (by rfl) hB.len (by decide +kernel) (pa_cons (pv 1) pa_nil)) (pe_callB call_len_seq (by rfl) hB.len (by decide +kernel) (pa_cons (pv 0) pa_nil)) (nomark _)) (pss_one (ps_raiseF hX_BadPrices rfl tk (hr.mono (by decide)) rfl (pe_callB call_len_seq (by rfl) hB.len (by decide +kernel) (pa_cons (pv 1) pa_nil)))) pss_nil)))
theorem ok_check_prices {P : Program} {w : World} {K : PySem.W.Frag} {mg : Str → Option Value} {base : Heap} {ix : IXT} {f : Addr} {fd : FuncData} (Fu : Fun K "check_prices" "check_prices" s_check_prices f fd) (hB : Blt mg) (h_is_within : Cal P w K mg base CX0 1 "is_within" (spOf K ix 3 ph_is_within)) :
    FnOk P w K mg base CX0 3 f fd P_check_prices (spOf K ix 2 ph_check_prices) :=
  fn_ok0 Fu sc_check_prices rfl (fun E => rs_check_prices) fun cdv A outer s H E hr =>
    have nd := sc_check_prices.nd
  (pss_cons (ps_for PassesOwn.never rfl (pi_enumA (by rfl) hB.enumerate (pa_cons (pv 1) pa_nil)) (pg_tup (by rfl) (pgs_cons (pg_name (i := 2) nd rfl (Or.inl rfl)) (pgs_cons (pg_name (i := 3) nd rfl (Or.inl rfl)) pgs_nil))) (pss_cons (ps_if (pt_cmpR op_ge (pv 2) (pe_callB call_len_seq (by rfl) hB.len (by decide +kernel) (pa_cons (pv 0) pa_nil)) (nomark _)) (pss_one ps_never) pss_nil)
    (pss_cons (ps_asg (pe_slice sl_tup (pe_ix ix_seq (pv 0) (pv 2) (fun _ _ => rfl)) (po_some pe_int) po_none) (pg_tup (by rfl) (pgs_cons (pg_name (i := 4) nd rfl (Or.inl rfl)) (pgs_cons (pg_name (i := 5) nd rfl (Or.inl rfl)) pgs_nil))))
    (pss_one (ps_if (pt_not (pt_val (pe_cal (sp := (spOf K ix 3 ph_is_within)) h_is_within (hr.mono (by decide)) (pa_cons (pv 3) (pa_cons (pv 4) (pa_cons (pv 5) pa_nil)))))) (pss_one ps_never) pss_nil)))))
    (pss_one (ps_if (pt_cmpR op_lt (pe_callB call_len_seq (by rfl) hB.len (by decide +kernel) (pa_cons (pv 1) pa_nil)) (pe_callB call_len_seq (by rfl) hB.len (by decide +kernel) (pa_cons (pv 0) pa_nil)) (nomark _)) (pss_one ps_never) pss_nil)))
theorem sc_check_count : FnScope N_check_count P_check_count (defScope s_check_count) := ⟨rfl, rfl, rfl, by decide +kernel, rfl, by decide +kernel, by decide +kernel⟩
theorem okx_check_count {P : Program} {w : World} {K : PySem.W.Frag} {mg : Str → Option Value} {base : Heap} {cs : Str → Addr} {f : Addr} {fd : FuncData} (Fu : Fun K "check_count" "check_count" s_check_count f fd) (hX_BadCount : XCls K mg "BadCount" (cs "BadCount")) (h_is_within : Cal P w K mg base CX0 1 "is_within" (spOf K ix0 3 ph_is_within)) :
    FnOk P w K mg base (L2.CX P w) 2 f fd P_check_count (spOf K (ixX cs) 2 φx_check_count) :=
  fn_okX Fu sc_check_count rfl (fun E => rsx_check_count) fun cdv A outer s H E hr tk =>
    have nd := sc_check_count.nd
  (pss_one (ps_if (pt_not (pt_val (pe_calX (sp := (spOf K ix0 3 ph_is_within)) h_is_within.up passL (hr.mono (by decide)) (pa_cons (pv 0) (pa_cons pe_int (pa_cons (pv 1) pa_nil)))))) (pss_one (ps_raise rfl tk (SkE.pmk_own1 PySem.F.excBase_ValueError hX_BadCount.ex hX_BadCount.g hX_BadCount.k hX_BadCount.r rfl (pe_jsI (pv 1))))) pss_nil))
theorem ok_check_count {P : Program} {w : World} {K : PySem.W.Frag} {mg : Str → Option Value} {base : Heap} {ix : IXT} {f : Addr} {fd : FuncData} (Fu : Fun K "check_count" "check_count" s_check_count f fd) (h_is_within : Cal P w K mg base CX0 1 "is_within" (spOf K ix 3 ph_is_within)) :
    FnOk P w K mg base CX0 2 f fd P_check_count (spOf K ix 2 ph_check_count) :=
  fn_ok0 Fu sc_check_count rfl (fun E => rs_check_count) fun cdv A outer s H E hr =>
    have nd := sc_check_count.nd
  (pss_one (ps_if (pt_not (pt_val (pe_cal (sp := (spOf K ix 3 ph_is_within)) h_is_within (hr.mono (by decide)) (pa_cons (pv 0) (pa_cons pe_int (pa_cons (pv 1) pa_nil)))))) (pss_one ps_never) pss_nil))
theorem sc_comes : FnScope N_comes P_comes (defScope s_comes) := ⟨rfl, rfl, rfl, by decide +kernel, rfl, by decide +kernel, by decide +kernel⟩
theorem ok_comes {P : Program} {w : World} {K : PySem.W.Frag} {mg : Str → Option Value} {base : Heap} {ix : IXT} {f : Addr} {fd : FuncData} (Fu : Fun K "comes" "comes" s_comes f fd) :
    FnOk P w K mg base CX0 1 f fd P_comes (spOf K ix 2 ph_comes) :=
  fn_ok0 Fu sc_comes rfl (fun E => rs_comes) fun cdv A outer s H E hr =>
    have nd := sc_comes.nd
  (pss_cons (ps_asg (pv 0) (pg_tup (by rfl) (pgs_cons (pg_name (i := 2) nd rfl (Or.inl rfl)) (pgs_cons (pg_name (i := 3) nd rfl (Or.inl rfl)) (pgs_cons (pg_name (i := 4) nd rfl (Or.inl rfl)) pgs_nil)))))
    (pss_one (ps_ret (pe_cmpR op_eq (pe_op op_mod (pv 1) (pv 2)) (pv 3) (nomark _)))))
theorem sc_good_for : FnScope N_good_for P_good_for (defScope s_good_for) := ⟨rfl, rfl, rfl, by decide +kernel, rfl, by decide +kernel, by decide +kernel⟩
theorem ok_good_for {P : Program} {w : World} {K : PySem.W.Frag} {mg : Str → Option Value} {base : Heap} {ix : IXT} {f : Addr} {fd : FuncData} (Fu : Fun K "good_for" "good_for" s_good_for f fd) (hB : Blt mg) :
    FnOk P w K mg base CX0 1 f fd P_good_for (spOf K ix 3 ph_good_for) :=
  fn_ok0 Fu sc_good_for rfl (fun E => rs_good_for) fun cdv A outer s H E hr =>
    have nd := sc_good_for.nd
  (pss_cons (ps_setLc (i := 3) (own := [("good", 4), ("worth", 5)]) (g := (gTup K 2 (gCons (gName 4) (gCons (gName 5) gNil)))) (tt := (tAnd (tTest (tOp rGtI (tOp (rIx K) (tVar 2) (tVar 4)) (tC (.int 0)))) (tTest (tOp rLeI (tOp (rIx K) (tVar 1) (tVar 4)) (tVar 5))))) rfl nd rfl rfl (sw_true rfl rfl rfl (by decide +kernel)) (pi_enumA (by rfl) hB.enumerate (pa_cons (pv 0) pa_nil)) (blkOk_by (N := N_good_for) (sc := defScope s_good_for) (by decide +kernel)) (fun _ _ _ _ _ => (pg_tup (by rfl) (pgs_cons (pg_name (i := 4) nd rfl (Or.inl rfl)) (pgs_cons (pg_name (i := 5) nd rfl (Or.inl rfl)) pgs_nil)))) (fun _ _ _ _ _ => (pts_one (PW.pt (pw_and (pt_cmpR op_gt (pe_ix ix_seq (pv 2) (pv 4) (fun _ _ => rfl)) pe_int (nomark _)) (pw_and1 (pt_cmpR op_le (pe_ix ix_seq (pv 1) (pv 4) (fun _ _ => rfl)) (pv 5) (nomark _))))))) (fun _ _ _ _ _ => (pe_tup (pa_cons (pe_op op_sub (pe_ix ix_seq (pv 1) (pv 4) (fun _ _ => rfl)) (pv 5)) (pa_cons (pe_ix ix_seq (pv 1) (pv 4) (fun _ _ => rfl)) (pa_cons (pv 4) pa_nil))))))
    (pss_cons (ps_if (pt_not (pt_truth (pv 3) (by intro _; rfl))) (pss_one (ps_ret pe_non)) pss_nil)
    (pss_one (ps_ret (pe_ix ix_seq (pe_callB (cr_minT rfl (units8 hr)) (by rfl) hB.min (by decide +kernel) (pa_cons (pv 3) pa_nil)) pe_int (fun _ _ => rfl))))))
theorem sc_price_behind : FnScope N_price_behind P_price_behind (defScope s_price_behind) := ⟨rfl, rfl, rfl, by decide +kernel, rfl, by decide +kernel, by decide +kernel⟩
theorem ok_price_behind {P : Program} {w : World} {K : PySem.W.Frag} {mg : Str → Option Value} {base : Heap} {ix : IXT} {f : Addr} {fd : FuncData} (Fu : Fun K "price_behind" "price_behind" s_price_behind f fd) (hB : Blt mg) :
    FnOk P w K mg base CX0 1 f fd P_price_behind (spOf K ix 3 ph_price_behind) :=
  fn_ok0 Fu sc_price_behind rfl (fun E => rs_price_behind) fun cdv A outer s H E hr =>
    have nd := sc_price_behind.nd
  (pss_cons (ps_asg (pv 0) (pg_tup (by rfl) (pgs_cons (pg_name (i := 3) nd rfl (Or.inl rfl)) (pgs_cons (pg_name (i := 4) nd rfl (Or.inl rfl)) (pgs_cons (pg_name (i := 5) nd rfl (Or.inl rfl)) (pgs_cons (pg_name (i := 6) nd rfl (Or.inl rfl)) (pgs_cons (pg_name (i := 7) nd rfl (Or.inl rfl)) (pgs_cons (pg_name (i := 8) nd rfl (Or.inl rfl)) pgs_nil))))))))
    (pss_cons (ps_if (pt_cmpR op_eq (pv 2) pe_int (nomark _)) (pss_one (ps_ret (pe_callB (call_min2 rfl) (by rfl) hB.min (by decide +kernel) (pa_cons (pv 8) (pa_cons (pe_op op_add (pv 1) (pv 5)) pa_nil))))) pss_nil)
    (pss_cons (ps_if (pt_cmpR op_eq (pv 2) (pv 4) (nomark _)) (pss_one (ps_ret (pe_callB (call_max2 rfl) (by rfl) hB.max (by decide +kernel) (pa_cons (pv 7) (pa_cons (pe_op op_sub (pv 1) (pv 6)) pa_nil))))) pss_nil)
    (pss_one (ps_ret (pv 1))))))
theorem sc_day_done : FnScope N_day_done P_day_done (defScope s_day_done) := ⟨rfl, rfl, rfl, by decide +kernel, rfl, by decide +kernel, by decide +kernel⟩
theorem ok_day_done {P : Program} {w : World} {K : PySem.W.Frag} {mg : Str → Option Value} {base : Heap} {ix : IXT} {f : Addr} {fd : FuncData} (Fu : Fun K "day_done" "day_done" s_day_done f fd) (hB : Blt mg) (h_comes : Cal P w K mg base CX0 1 "comes" (spOf K ix 2 ph_comes)) (h_good_for : Cal P w K mg base CX0 1 "good_for" (spOf K ix 3 ph_good_for)) (h_price_behind : Cal P w K mg base CX0 1 "price_behind" (spOf K ix 3 ph_price_behind)) :
    FnOk P w K mg base CX0 2 f fd P_day_done (spOf K ix 3 ph_day_done) :=
  fn_ok0 Fu sc_day_done rfl (fun E => rs_day_done) fun cdv A outer s H E hr =>
    have nd := sc_day_done.nd
  (pss_cons (ps_asg (pv 0) (pg_tup (by rfl) (pgs_cons (pg_name (i := 7) nd rfl (Or.inl rfl)) (pgs_cons (pg_name (i := 8) nd rfl (Or.inl rfl)) pgs_nil))))
    (pss_cons (ps_set (i := 3) nd rfl (Or.inr rfl) (pe_lc (own := [("seller", 10)]) (g := (gName 10)) (tt := tYes) rfl nd (pi_tup (pv 7)) (blkOk_by (N := N_day_done) (sc := defScope s_day_done) (by decide +kernel)) (fun _ _ _ _ _ => (pg_name (i := 10) nd rfl (Or.inl rfl))) (fun _ _ _ _ _ => pts_nil) (fun _ _ _ _ _ => (pe_ix ix_seq (pv 10) pe_int (fun _ _ => rfl)))))
    (pss_cons (ps_set (i := 4) nd rfl (Or.inl rfl) (pe_lst pa_nil))
    (pss_cons (ps_for PassesOwn.never rfl (pi_tup (pv 8)) (pg_name (i := 5) nd rfl (Or.inl rfl)) (pss_cons (ps_set (i := 9) nd rfl (Or.inl rfl) pe_non)
    (pss_cons (ps_if (pt_val (pe_cal (sp := (spOf K ix 2 ph_comes)) h_comes (hr.mono (by decide)) (pa_cons (pv 5) (pa_cons (pv 2) pa_nil)))) (pss_one (ps_set (i := 9) nd rfl (Or.inl rfl) (pe_cal (sp := (spOf K ix 3 ph_good_for)) h_good_for (hr.mono (by decide)) (pa_cons (pe_ix ix_seq (pv 5) pe_int (fun _ _ => rfl)) (pa_cons (pv 1) (pa_cons (pv 3) pa_nil)))))) pss_nil)
    (pss_cons (ps_if (pt_cmpR op_notN (pv 9) pe_non (nomark _)) (pss_one (ps_augS (pv 3) (pv 9) get_listA pe_int ip_sub set_list)) pss_nil)
    (pss_one (ps_expr (pe_bm PySem.F.plainAttrs_list PySem.F.slot_list_append PySem.F.type_list_append mt_append (pv 4) (pa_cons (pv 9) pa_nil))))))))
    (pss_cons (ps_setLc (i := 6) (own := [("good", 9), ("seller", 10)]) (g := (gTup K 2 (gCons (gName 9) (gCons (gName 10) gNil)))) (tt := tYes) rfl nd rfl rfl (sw_true rfl rfl rfl (by decide +kernel)) (pi_enumA (by rfl) hB.enumerate (pa_cons (pv 7) pa_nil)) (blkOk_by (N := N_day_done) (sc := defScope s_day_done) (by decide +kernel)) (fun _ _ _ _ _ => (pg_tup (by rfl) (pgs_cons (pg_name (i := 9) nd rfl (Or.inl rfl)) (pgs_cons (pg_name (i := 10) nd rfl (Or.inl rfl)) pgs_nil)))) (fun _ _ _ _ _ => pts_nil) (fun _ _ _ _ _ => (pe_cal (sp := (spOf K ix 3 ph_price_behind)) h_price_behind (hr.mono (by decide)) (pa_cons (pv 10) (pa_cons (pe_ix ix_seq (pv 1) (pv 9) (fun _ _ => rfl)) (pa_cons (pe_ix ix_seq (pv 3) (pv 9) (fun _ _ => rfl)) pa_nil))))))
    (pss_one (ps_ret (pe_tup (pa_cons (pv 4) (pa_cons (pe_callTy call_tuple_of (by rfl) hB.tuple (by decide +kernel) (pa_cons (pv 6) pa_nil)) pa_nil))))))))))
theorem sc_day_of : FnScope N_day_of P_day_of (defScope s_day_of) := ⟨rfl, rfl, rfl, by decide +kernel, rfl, by decide +kernel, by decide +kernel⟩
theorem okx_day_of {P : Program} {w : World} {K : PySem.W.Frag} {mg : Str → Option Value} {base : Heap} {cs : Str → Addr} {f : Addr} {fd : FuncData} (Fu : Fun K "day_of" "day_of" s_day_of f fd) (hC : Cst mg) (h_check_market : Cal P w K mg base (L2.CX P w) 3 "check_market" (spOf K (ixX cs) 1 φx_check_market)) (h_check_prices : Cal P w K mg base (L2.CX P w) 3 "check_prices" (spOf K (ixX cs) 2 φx_check_prices)) (h_check_count : Cal P w K mg base (L2.CX P w) 2 "check_count" (spOf K (ixX cs) 2 φx_check_count)) (h_day_done : Cal P w K mg base CX0 2 "day_done" (spOf K ix0 3 ph_day_done)) :
    FnOk P w K mg base (L2.CX P w) 4 f fd P_day_of (spOf K (ixX cs) 3 φx_day_of) :=
  fn_okX Fu sc_day_of rfl (fun E => rsx_day_of) fun cdv A outer s H E hr tk =>
    have nd := sc_day_of.nd
  (pss_cons (ps_expr (pe_calX (sp := (spOf K (ixX cs) 1 φx_check_market)) h_check_market (passes_call tk fun _ _ _ _ h => h) (hr.mono (by decide)) (pa_cons (pv 0) pa_nil)))
    (pss_cons (ps_asg (pv 0) (pg_tup (by rfl) (pgs_cons (pg_name (i := 3) nd rfl (Or.inl rfl)) (pgs_cons (pg_name (i := 4) nd rfl (Or.inl rfl)) pgs_nil))))
    (pss_cons (ps_expr (pe_calX (sp := (spOf K (ixX cs) 2 φx_check_prices)) h_check_prices (passes_call tk fun _ _ _ _ h => h) (hr.mono (by decide)) (pa_cons (pv 3) (pa_cons (pv 1) pa_nil))))
    (pss_cons (ps_expr (pe_calX (sp := (spOf K (ixX cs) 2 φx_check_count)) h_check_count (passes_call tk fun _ _ _ _ h => h) (hr.mono (by decide)) (pa_cons (pv 2) (pa_cons (pe_gi hC.c_LAST_DAY) pa_nil))))
    (pss_one (ps_ret (pe_calX (sp := (spOf K ix0 3 ph_day_done)) h_day_done.up passL (hr.mono (by decide)) (pa_cons (pv 0) (pa_cons (pv 1) (pa_cons (pv 2) pa_nil))))))))))
theorem ok_day_of {P : Program} {w : World} {K : PySem.W.Frag} {mg : Str → Option Value} {base : Heap} {ix : IXT} {f : Addr} {fd : FuncData} (Fu : Fun K "day_of" "day_of" s_day_of f fd) (hC : Cst mg) (h_check_market : Cal P w K mg base CX0 3 "check_market" (spOf K ix 1 ph_check_market)) (h_check_prices : Cal P w K mg base CX0 3 "check_prices" (spOf K ix 2 ph_check_prices)) (h_check_count : Cal P w K mg base CX0 2 "check_count" (spOf K ix 2 ph_check_count)) (h_day_done : Cal P w K mg base CX0 2 "day_done" (spOf K ix 3 ph_day_done)) :
    FnOk P w K mg base CX0 4 f fd P_day_of (spOf K ix 3 ph_day_of) :=
  fn_ok0 Fu sc_day_of rfl (fun E => rs_day_of) fun cdv A outer s H E hr =>
    have nd := sc_day_of.nd
  (pss_cons (ps_expr (pe_cal (sp := (spOf K ix 1 ph_check_market)) h_check_market (hr.mono (by decide)) (pa_cons (pv 0) pa_nil)))
    (pss_cons (ps_asg (pv 0) (pg_tup (by rfl) (pgs_cons (pg_name (i := 3) nd rfl (Or.inl rfl)) (pgs_cons (pg_name (i := 4) nd rfl (Or.inl rfl)) pgs_nil))))
    (pss_cons (ps_expr (pe_cal (sp := (spOf K ix 2 ph_check_prices)) h_check_prices (hr.mono (by decide)) (pa_cons (pv 3) (pa_cons (pv 1) pa_nil))))
    (pss_cons (ps_expr (pe_cal (sp := (spOf K ix 2 ph_check_count)) h_check_count (hr.mono (by decide)) (pa_cons (pv 2) (pa_cons (pe_gi hC.c_LAST_DAY) pa_nil))))
    (pss_one (ps_ret (pe_cal (sp := (spOf K ix 3 ph_day_done)) h_day_done (hr.mono (by decide)) (pa_cons (pv 0) (pa_cons (pv 1) (pa_cons (pv 2) pa_nil))))))))))
theorem sc__law_mix : FnScope N__law_mix P__law_mix (defScope s__law_mix) := ⟨rfl, rfl, rfl, by decide +kernel, rfl, by decide +kernel, by decide +kernel⟩
theorem ok__law_mix {P : Program} {w : World} {K : PySem.W.Frag} {mg : Str → Option Value} {base : Heap} {ix : IXT} {f : Addr} {fd : FuncData} (Fu : Fun K "_law_mix" "_law_mix" s__law_mix f fd) (hB : Blt mg) :
    FnOk P w K mg base CX0 1 f fd P__law_mix (spMix K) :=
  Fu.ok sc__law_mix (fun vs H Q E h => len__law_mix h) fun cdv A outer s H vs Q E hr hsp =>
    have nd := sc__law_mix.nd
    ⟨t__law_mix K ix, (pss_cons (ps_set (i := 2) nd rfl (Or.inl rfl) (pv 1))
    (pss_cons (ps_for PassesOwn.never rfl (pi_list (pv 0)) (pg_name (i := 3) nd rfl (Or.inl rfl)) (pss_one (ps_set (i := 2) nd rfl (Or.inl rfl) (pe_op op_mod (pe_op op_add (pe_op op_add (pe_op op_mul (pv 2) pe_int) (pe_op op_mod (pv 3) pe_int)) pe_int) pe_int))))
    (pss_one (ps_ret (pe_lst (pa_cons (pv 2) (pa_cons (pe_callTy call_list_of (by rfl) hB.list (by decide +kernel) (pa_cons (pv 0) pa_nil)) (pa_cons pe_int pa_nil)))))))),
    raw__law_mix hsp⟩
theorem sc__law_next : FnScope N__law_next P__law_next (defScope s__law_next) := ⟨rfl, rfl, rfl, by decide +kernel, rfl, by decide +kernel, by decide +kernel⟩
theorem ok__law_next {P : Program} {w : World} {K : PySem.W.Frag} {mg : Str → Option Value} {base : Heap} {ix : IXT} {f : Addr} {fd : FuncData} (Fu : Fun K "_law_next" "_law_next" s__law_next f fd) (hB : Blt mg) :
    FnOk P w K mg base CX0 1 f fd P__law_next (spOf K ix 2 ph__law_next) :=
  fn_okR Fu sc__law_next rfl (fun vs H Q E h => raw__law_next h) fun cdv A outer s H E hr =>
    have nd := sc__law_next.nd
  (pss_cons (ps_set (i := 2) nd rfl (Or.inl rfl) (pe_ix ix_seq (pe_op op_cat (pe_ix ix_seq (pv 0) pe_int (fun _ _ => rfl)) (pe_lst (pa_cons pe_int pa_nil))) (pe_op op_mod (pe_ix ix_seq (pv 0) pe_int (fun _ _ => rfl)) (pe_callB (call_max2 rfl) (by rfl) hB.max (by decide +kernel) (pa_cons pe_int (pa_cons (pe_callB call_len_seq (by rfl) hB.len (by decide +kernel) (pa_cons (pe_ix ix_seq (pv 0) pe_int (fun _ _ => rfl)) pa_nil)) pa_nil)))) (fun _ _ => rfl)))
    (pss_cons (ps_if (pt_cmpR op_ge (pv 2) (pe_op op_pow pe_int pe_int) (nomark _)) (pss_cons (ps_asg (pe_op op_fdivW (pv 2) (pv 1)) (pg_sub (pe_ix ix_seq (pv 0) pe_int (fun _ _ => rfl)) (pe_op op_mod (pe_ix ix_seq (pv 0) pe_int (fun _ _ => rfl)) (pe_callB call_len_seq (by rfl) hB.len (by decide +kernel) (pa_cons (pe_ix ix_seq (pv 0) pe_int (fun _ _ => rfl)) pa_nil))) set_list))
    (pss_one (ps_ret (pe_op op_mod (pv 2) (pv 1))))) pss_nil)
    (pss_cons (ps_asg (pe_op op_mod (pe_op op_add (pe_op op_add (pe_op op_mul (pe_ix ix_seq (pv 0) pe_int (fun _ _ => rfl)) pe_int) (pe_op op_mul (pv 2) pe_int)) pe_int) pe_int) (pg_sub (pv 0) pe_int set_list))
    (pss_cons (ps_asg (pe_op op_add (pe_ix ix_seq (pv 0) pe_int (fun _ _ => rfl)) pe_int) (pg_sub (pv 0) pe_int set_list))
    (pss_one (ps_ret (pe_op op_mod (pe_op op_fdivW (pe_ix ix_seq (pv 0) pe_int (fun _ _ => rfl)) pe_int) (pv 1))))))))
theorem sc__law_alike : FnScope N__law_alike P__law_alike (defScope s__law_alike) := ⟨rfl, rfl, rfl, by decide +kernel, rfl, by decide +kernel, by decide +kernel⟩
theorem ok__law_alike {P : Program} {w : World} {K : PySem.W.Frag} {mg : Str → Option Value} {base : Heap} {ix : IXT} {f : Addr} {fd : FuncData} (Fu : Fun K "_law_alike" "_law_alike" s__law_alike f fd) (hB : Blt mg) (hmg : mg "_law_alike" = some (.ref f)) (hkp : PySem.W.keepIn K (.ref f) = true) (hbd : Binds K fd P__law_alike []) :
    ∀ n : Nat, FnOk P w K mg base CX0 (n + 1) f fd P__law_alike (spOf K ix 2 (ph__law_alike n))
  | 0 => fn_never
  | n + 1 =>
  have h__law_alike : Cal P w K mg base CX0 (n + 1) "_law_alike" (spOf K ix 2 (ph__law_alike n)) := ⟨_, _, _, ok__law_alike Fu hB hmg hkp hbd n, hmg, hkp, hbd⟩
  fn_ok0 Fu sc__law_alike rfl (fun E => rs__law_alike) fun cdv A outer s H E hr =>
    have nd := sc__law_alike.nd
  (pss_cons (ps_if (pt_val (pe_callB call_isiT (by rfl) hB.isinstance (by decide +kernel) (pa_cons (pv 1) (pa_cons (pe_tup (pa_cons (pe_ty (T := "tuple") hB.tuple (by decide +kernel)) (pa_cons (pe_ty (T := "list") hB.list (by decide +kernel)) pa_nil))) pa_nil)))) (pss_cons (ps_if (PW.pt (pw_or (pt_not (pt_val (pe_callB call_isiT (by rfl) hB.isinstance (by decide +kernel) (pa_cons (pv 0) (pa_cons (pe_tup (pa_cons (pe_ty (T := "tuple") hB.tuple (by decide +kernel)) (pa_cons (pe_ty (T := "list") hB.list (by decide +kernel)) pa_nil))) pa_nil))))) (pw_or1 (pt_cmpR op_ne (pe_callB call_isi (by rfl) hB.isinstance (by decide +kernel) (pa_cons (pv 0) (pa_cons (pe_ty (T := "list") hB.list (by decide +kernel)) pa_nil))) (pe_callB call_isi (by rfl) hB.isinstance (by decide +kernel) (pa_cons (pv 1) (pa_cons (pe_ty (T := "list") hB.list (by decide +kernel)) pa_nil))) (nomark _))))) (pss_one (ps_ret pe_bl)) pss_nil)
    (pss_cons (ps_if (pt_cmpR op_ne (pe_callB call_len_seq (by rfl) hB.len (by decide +kernel) (pa_cons (pv 0) pa_nil)) (pe_callB call_len_seq (by rfl) hB.len (by decide +kernel) (pa_cons (pv 1) pa_nil)) (nomark _)) (pss_one (ps_ret pe_bl)) pss_nil)
    (pss_one (ps_ret (pe_cmpR (op_eqD hr.units) (pe_lc (own := [("_law_k", 2)]) (g := (gName 2)) (tt := (tNot (tB (tCall (spOf K ix 2 (ph__law_alike n)) [] E0 (tCons (tOp (rIx K) (tVar 0) (tVar 2)) (tCons (tOp (rIx K) (tVar 1) (tVar 2)) tNil)))))) rfl nd (pi_range1 rfl hB.range (pa_cons (pe_callB call_len_seq (by rfl) hB.len (by decide +kernel) (pa_cons (pv 1) pa_nil)) pa_nil)) (blkOk_by (N := N__law_alike) (sc := defScope s__law_alike) (by decide +kernel)) (fun _ _ _ _ _ => (pg_name (i := 2) nd rfl (Or.inl rfl))) (fun _ _ _ _ _ => (pts_one (pt_not (pt_val (pe_cal (sp := (spOf K ix 2 (ph__law_alike n))) h__law_alike hr (pa_cons (pe_ix ix_seq (pv 0) (pv 2) (fun _ _ => rfl)) (pa_cons (pe_ix ix_seq (pv 1) (pv 2) (fun _ _ => rfl)) pa_nil))))))) (fun _ _ _ _ _ => (pv 2))) (pe_lst pa_nil) (nomark _)))))) pss_nil)
    (pss_cons (ps_if (PW.pt (pw_or (pt_cmpR op_isN (pv 1) pe_non (nomark _)) (pw_or1 (pt_val (pe_callB call_isi (by rfl) hB.isinstance (by decide +kernel) (pa_cons (pv 1) (pa_cons (pe_ty (T := "str") hB.str (by decide +kernel)) pa_nil))))))) (pss_one (ps_ret (pe_and (pe_cmpR op_eq (pv 0) (pv 1) (nomark _)) (pe_one (pe_cmpR op_eq (pe_callB call_isi (by rfl) hB.isinstance (by decide +kernel) (pa_cons (pv 0) (pa_cons (pe_ty (T := "str") hB.str (by decide +kernel)) pa_nil))) (pe_callB call_isi (by rfl) hB.isinstance (by decide +kernel) (pa_cons (pv 1) (pa_cons (pe_ty (T := "str") hB.str (by decide +kernel)) pa_nil))) (nomark _)))))) pss_nil)
    (pss_one (ps_ret (pe_and (pe_callB call_isi (by rfl) hB.isinstance (by decide +kernel) (pa_cons (pv 0) (pa_cons (pe_ty (T := "int") hB.int (by decide +kernel)) pa_nil))) (pe_and (pe_cmpR op_eq (pe_callB call_isi (by rfl) hB.isinstance (by decide +kernel) (pa_cons (pv 0) (pa_cons (pe_ty (T := "bool") hB.bool (by decide +kernel)) pa_nil))) (pe_callB call_isi (by rfl) hB.isinstance (by decide +kernel) (pa_cons (pv 1) (pa_cons (pe_ty (T := "bool") hB.bool (by decide +kernel)) pa_nil))) (nomark _)) (pe_one (pe_cmpR op_eq (pv 0) (pv 1) (nomark _)))))))))
theorem sc__law_market : FnScope N__law_market P__law_market (defScope s__law_market) := ⟨rfl, rfl, rfl, by decide +kernel, rfl, by decide +kernel, by decide +kernel⟩
theorem ok__law_market {P : Program} {w : World} {K : PySem.W.Frag} {mg : Str → Option Value} {base : Heap} {ix : IXT} {f : Addr} {fd : FuncData} (Fu : Fun K "_law_market" "_law_market" s__law_market f fd) (hB : Blt mg) (h__law_next : Cal P w K mg base CX0 1 "_law_next" (spOf K ix 2 ph__law_next)) :
    FnOk P w K mg base CX0 2 f fd P__law_market (spOf K ix 4 ph__law_market) :=
  fn_ok0 Fu sc__law_market rfl (fun E => rs__law_market) fun cdv A outer s H E hr =>
    have nd := sc__law_market.nd
  (pss_cons (ps_par (i := 5) (j := 6) rfl nd rfl rfl (by decide) rfl rfl (pa_cons (pe_lst pa_nil) (pa_cons (pe_lst pa_nil) pa_nil)) (by rfl))
    (pss_cons (ps_for PassesOwn.never rfl (pi_range1 rfl hB.range (pa_cons (pe_cal (sp := (spOf K ix 2 ph__law_next)) h__law_next (hr.mono (by decide)) (pa_cons (pv 0) (pa_cons (pe_op op_add (pv 1) pe_int) pa_nil))) pa_nil)) (pg_name (i := 4) nd rfl (Or.inl rfl)) (pss_cons (ps_set (i := 7) nd rfl (Or.inl rfl) (pe_ix ix_seq (pe_lst (pa_cons pe_int (pa_cons (pe_cal (sp := (spOf K ix 2 ph__law_next)) h__law_next (hr.mono (by decide)) (pa_cons (pv 0) (pa_cons (pe_op op_add (pv 3) pe_int) pa_nil))) pa_nil))) (pe_op op_fdiv (pe_cal (sp := (spOf K ix 2 ph__law_next)) h__law_next (hr.mono (by decide)) (pa_cons (pv 0) (pa_cons pe_int pa_nil))) pe_int) (fun _ _ => rfl)))
    (pss_cons (ps_set (i := 8) nd rfl (Or.inl rfl) (pe_op op_add (pv 7) (pe_cal (sp := (spOf K ix 2 ph__law_next)) h__law_next (hr.mono (by decide)) (pa_cons (pv 0) (pa_cons (pe_op op_add (pe_op op_sub (pv 3) (pv 7)) pe_int) pa_nil)))))
    (pss_cons (ps_set (i := 9) nd rfl (Or.inl rfl) (pe_op op_add (pv 7) (pe_cal (sp := (spOf K ix 2 ph__law_next)) h__law_next (hr.mono (by decide)) (pa_cons (pv 0) (pa_cons (pe_op op_add (pe_op op_sub (pv 8) (pv 7)) pe_int) pa_nil)))))
    (pss_cons (ps_set (i := 10) nd rfl (Or.inl rfl) (pe_op op_add pe_int (pe_cal (sp := (spOf K ix 2 ph__law_next)) h__law_next (hr.mono (by decide)) (pa_cons (pv 0) (pa_cons (pe_ix ix_seq (pe_lst (pa_cons pe_int (pa_cons pe_int pa_nil))) (pe_op op_fdiv (pe_cal (sp := (spOf K ix 2 ph__law_next)) h__law_next (hr.mono (by decide)) (pa_cons (pv 0) (pa_cons pe_int pa_nil))) pe_int) (fun _ _ => rfl)) pa_nil)))))
    (pss_one (ps_expr (pe_bm PySem.F.plainAttrs_list PySem.F.slot_list_append PySem.F.type_list_append mt_append (pv 5) (pa_cons (pe_tup (pa_cons (pv 9) (pa_cons (pv 10) (pa_cons (pe_cal (sp := (spOf K ix 2 ph__law_next)) h__law_next (hr.mono (by decide)) (pa_cons (pv 0) (pa_cons pe_int pa_nil))) (pa_cons (pe_cal (sp := (spOf K ix 2 ph__law_next)) h__law_next (hr.mono (by decide)) (pa_cons (pv 0) (pa_cons pe_int pa_nil))) (pa_cons (pv 7) (pa_cons (pv 8) pa_nil))))))) pa_nil)))))))))
    (pss_cons (ps_for PassesOwn.never rfl (pi_range1 rfl hB.range (pa_cons (pe_cal (sp := (spOf K ix 2 ph__law_next)) h__law_next (hr.mono (by decide)) (pa_cons (pv 0) (pa_cons (pe_op op_add (pv 2) pe_int) pa_nil))) pa_nil)) (pg_name (i := 4) nd rfl (Or.inl rfl)) (pss_cons (ps_set (i := 11) nd rfl (Or.inl rfl) (pe_op op_add pe_int (pe_op op_mul (pe_cal (sp := (spOf K ix 2 ph__law_next)) h__law_next (hr.mono (by decide)) (pa_cons (pv 0) (pa_cons pe_int pa_nil))) (pe_cal (sp := (spOf K ix 2 ph__law_next)) h__law_next (hr.mono (by decide)) (pa_cons (pv 0) (pa_cons pe_int pa_nil))))))
    (pss_one (ps_expr (pe_bm PySem.F.plainAttrs_list PySem.F.slot_list_append PySem.F.type_list_append mt_append (pv 6) (pa_cons (pe_tup (pa_cons (pv 11) (pa_cons (pe_cal (sp := (spOf K ix 2 ph__law_next)) h__law_next (hr.mono (by decide)) (pa_cons (pv 0) (pa_cons (pv 11) pa_nil))) (pa_cons (pe_callTy call_tuple_of (by rfl) hB.tuple (by decide +kernel) (pa_cons (pe_lc (own := [("_law_seller", 12)]) (g := (gName 12)) (tt := tYes) rfl nd (pi_list (pv 5)) (blkOk_by (N := N__law_market) (sc := defScope s__law_market) (by decide +kernel)) (fun _ _ _ _ _ => (pg_name (i := 12) nd rfl (Or.inl rfl))) (fun _ _ _ _ _ => pts_nil) (fun _ _ _ _ _ => (pe_cal (sp := (spOf K ix 2 ph__law_next)) h__law_next (hr.mono (by decide)) (pa_cons (pv 0) (pa_cons (pe_op op_add (pv 3) pe_int) pa_nil))))) pa_nil)) pa_nil)))) pa_nil))))))
    (pss_one (ps_ret (pe_tup (pa_cons (pe_callTy call_tuple_of (by rfl) hB.tuple (by decide +kernel) (pa_cons (pv 5) pa_nil)) (pa_cons (pe_callTy call_tuple_of (by rfl) hB.tuple (by decide +kernel) (pa_cons (pv 6) pa_nil)) pa_nil))))))))
theorem sc__law_prices : FnScope N__law_prices P__law_prices (defScope s__law_prices) := ⟨rfl, rfl, rfl, by decide +kernel, rfl, by decide +kernel, by decide +kernel⟩
theorem ok__law_prices {P : Program} {w : World} {K : PySem.W.Frag} {mg : Str → Option Value} {base : Heap} {ix : IXT} {f : Addr} {fd : FuncData} (Fu : Fun K "_law_prices" "_law_prices" s__law_prices f fd) (hB : Blt mg) (h__law_next : Cal P w K mg base CX0 1 "_law_next" (spOf K ix 2 ph__law_next)) :
    FnOk P w K mg base CX0 2 f fd P__law_prices (spOf K ix 2 ph__law_prices) :=
  fn_ok0 Fu sc__law_prices rfl (fun E => rs__law_prices) fun cdv A outer s H E hr =>
    have nd := sc__law_prices.nd
  (pss_one (ps_ret (pe_callTy call_tuple_of (by rfl) hB.tuple (by decide +kernel) (pa_cons (pe_lc (own := [("_law_seller", 2)]) (g := (gName 2)) (tt := tYes) rfl nd (pi_tup (pe_ix ix_seq (pv 1) pe_int (fun _ _ => rfl))) (blkOk_by (N := N__law_prices) (sc := defScope s__law_prices) (by decide +kernel)) (fun _ _ _ _ _ => (pg_name (i := 2) nd rfl (Or.inl rfl))) (fun _ _ _ _ _ => pts_nil) (fun _ _ _ _ _ => (pe_op op_add (pe_ix ix_seq (pv 2) pe_int (fun _ _ => rfl)) (pe_cal (sp := (spOf K ix 2 ph__law_next)) h__law_next (hr.mono (by decide)) (pa_cons (pv 0) (pa_cons (pe_op op_add (pe_op op_sub (pe_ix ix_seq (pv 2) pe_int (fun _ _ => rfl)) (pe_ix ix_seq (pv 2) pe_int (fun _ _ => rfl))) pe_int) pa_nil)))))) pa_nil))))
theorem sc__law_day : FnScope N__law_day P__law_day (defScope s__law_day) := ⟨rfl, rfl, rfl, by decide +kernel, rfl, by decide +kernel, by decide +kernel⟩
theorem ok__law_day {P : Program} {w : World} {K : PySem.W.Frag} {mg : Str → Option Value} {base : Heap} {ix : IXT} {f : Addr} {fd : FuncData} (Fu : Fun K "_law_day" "_law_day" s__law_day f fd) (hB : Blt mg) :
    FnOk P w K mg base CX0 1 f fd P__law_day (spOf K ix 3 ph__law_day) :=
  fn_ok0 Fu sc__law_day rfl (fun E => rs__law_day) fun cdv A outer s H E hr =>
    have nd := sc__law_day.nd
  (pss_cons (ps_par (i := 5) (j := 6) rfl nd rfl rfl (by decide) rfl rfl (pa_cons (pe_lc (own := [("_law_seller", 17)]) (g := (gName 17)) (tt := tYes) rfl nd (pi_tup (pe_ix ix_seq (pv 0) pe_int (fun _ _ => rfl))) (blkOk_by (N := N__law_day) (sc := defScope s__law_day) (by decide +kernel)) (fun _ _ _ _ _ => (pg_name (i := 17) nd rfl (Or.inl rfl))) (fun _ _ _ _ _ => pts_nil) (fun _ _ _ _ _ => (pe_ix ix_seq (pv 17) pe_int (fun _ _ => rfl)))) (pa_cons (pe_lst pa_nil) pa_nil)) (by rfl))
    (pss_cons (ps_for PassesOwn.never rfl (pi_tup (pe_ix ix_seq (pv 0) pe_int (fun _ _ => rfl))) (pg_tup (by rfl) (pgs_cons (pg_name (i := 7) nd rfl (Or.inl rfl)) (pgs_cons (pg_name (i := 8) nd rfl (Or.inl rfl)) (pgs_cons (pg_name (i := 9) nd rfl (Or.inl rfl)) pgs_nil)))) (pss_cons (ps_set (i := 10) nd rfl (Or.inl rfl) pe_non)
    (pss_cons (ps_if (pt_cmpR op_eq (pe_op op_mod (pv 2) (pv 7)) (pv 8) (nomark _)) (pss_one (ps_for PassesOwn.never rfl (pi_range1 rfl hB.range (pa_cons (pe_callB call_len_seq (by rfl) hB.len (by decide +kernel) (pa_cons (pv 9) pa_nil)) pa_nil)) (pg_name (i := 4) nd rfl (Or.inl rfl)) (pss_cons (ps_set (i := 18) nd rfl (Or.inl rfl) (pe_op op_sub (pe_ix ix_seq (pv 9) (pv 4) (fun _ _ => rfl)) (pe_ix ix_seq (pv 1) (pv 4) (fun _ _ => rfl))))
    (pss_one (ps_if (PW.pt (pw_and (pt_cmpR op_gt (pe_ix ix_seq (pv 5) (pv 4) (fun _ _ => rfl)) pe_int (nomark _)) (pw_and1 (pt_cmpR op_ge (pv 18) pe_int (nomark _))))) (pss_cons (ps_set (i := 19) nd rfl (Or.inl rfl) (pe_ifExp (pt_cmpR op_isN (pv 10) pe_non (nomark _)) pe_non (pe_op op_sub (pe_ix ix_seq (pv 9) (pv 10) (fun _ _ => rfl)) (pe_ix ix_seq (pv 1) (pv 10) (fun _ _ => rfl)))))
    (pss_one (ps_if (PW.pt (pw_or (pt_cmpR op_isN (pv 10) pe_non (nomark _)) (pw_or (pt_cmpR op_gt (pv 18) (pv 19) (nomark _)) (pw_or1 (PW.pt (pw_and (pt_cmpR op_eq (pv 18) (pv 19) (nomark _)) (pw_and1 (pt_cmpR op_lt (pe_ix ix_seq (pv 1) (pv 4) (fun _ _ => rfl)) (pe_ix ix_seq (pv 1) (pv 10) (fun _ _ => rfl)) (nomark _))))))))) (pss_one (ps_set (i := 10) nd rfl (Or.inl rfl) (pv 4))) pss_nil))) pss_nil))))) pss_nil)
    (pss_cons (ps_if (pt_cmpR op_notN (pv 10) pe_non (nomark _)) (pss_one (ps_asg (pe_op op_sub (pe_ix ix_seq (pv 5) (pv 10) (fun _ _ => rfl)) pe_int) (pg_sub (pv 5) (pv 10) set_list))) pss_nil)
    (pss_one (ps_expr (pe_bm PySem.F.plainAttrs_list PySem.F.slot_list_append PySem.F.type_list_append mt_append (pv 6) (pa_cons (pv 10) pa_nil))))))))
    (pss_cons (ps_set (i := 3) nd rfl (Or.inl rfl) (pe_lst pa_nil))
    (pss_cons (ps_for PassesOwn.never rfl (pi_range1 rfl hB.range (pa_cons (pe_callB call_len_seq (by rfl) hB.len (by decide +kernel) (pa_cons (pv 1) pa_nil)) pa_nil)) (pg_name (i := 4) nd rfl (Or.inl rfl)) (pss_cons (ps_asg (pe_ix ix_seq (pe_ix ix_seq (pv 0) pe_int (fun _ _ => rfl)) (pv 4) (fun _ _ => rfl)) (pg_tup (by rfl) (pgs_cons (pg_name (i := 11) nd rfl (Or.inl rfl)) (pgs_cons (pg_name (i := 12) nd rfl (Or.inl rfl)) (pgs_cons (pg_name (i := 13) nd rfl (Or.inl rfl)) (pgs_cons (pg_name (i := 14) nd rfl (Or.inl rfl)) (pgs_cons (pg_name (i := 15) nd rfl (Or.inl rfl)) (pgs_cons (pg_name (i := 16) nd rfl (Or.inl rfl)) pgs_nil))))))))
    (pss_cons (ps_set (i := 11) nd rfl (Or.inl rfl) (pe_ix ix_seq (pv 1) (pv 4) (fun _ _ => rfl)))
    (pss_cons (ps_if (pt_cmpR op_eq (pe_ix ix_seq (pv 5) (pv 4) (fun _ _ => rfl)) pe_int (nomark _)) (pss_one (ps_set (i := 11) nd rfl (Or.inl rfl) (pe_callB (call_min2 rfl) (by rfl) hB.min (by decide +kernel) (pa_cons (pv 16) (pa_cons (pe_op op_add (pv 11) (pv 13)) pa_nil))))) (pss_one (ps_if (pt_cmpR op_eq (pe_ix ix_seq (pv 5) (pv 4) (fun _ _ => rfl)) (pv 12) (nomark _)) (pss_one (ps_set (i := 11) nd rfl (Or.inl rfl) (pe_callB (call_max2 rfl) (by rfl) hB.max (by decide +kernel) (pa_cons (pv 15) (pa_cons (pe_op op_sub (pv 11) (pv 14)) pa_nil))))) pss_nil)))
    (pss_one (ps_expr (pe_bm PySem.F.plainAttrs_list PySem.F.slot_list_append PySem.F.type_list_append mt_append (pv 3) (pa_cons (pv 11) pa_nil))))))))
    (pss_one (ps_ret (pe_tup (pa_cons (pv 6) (pa_cons (pe_callTy call_tuple_of (by rfl) hB.tuple (by decide +kernel) (pa_cons (pv 3) pa_nil)) pa_nil)))))))))
theorem sc__law_first : FnScope N__law_first P__law_first (defScope s__law_first) := ⟨rfl, rfl, rfl, by decide +kernel, rfl, by decide +kernel, by decide +kernel⟩
theorem ok__law_first {P : Program} {w : World} {K : PySem.W.Frag} {mg : Str → Option Value} {base : Heap} {ix : IXT} {f : Addr} {fd : FuncData} (Fu : Fun K "_law_first" "_law_first" s__law_first f fd) (hB : Blt mg) :
    FnOk P w K mg base CX0 1 f fd P__law_first (spOf K ix 1 ph__law_first) :=
  fn_ok0 Fu sc__law_first rfl (fun E => rs__law_first) fun cdv A outer s H E hr =>
    have nd := sc__law_first.nd
  (pss_one (ps_ret (pe_callTy call_tuple_of (by rfl) hB.tuple (by decide +kernel) (pa_cons (pe_lc (own := [("_law_seller", 1)]) (g := (gName 1)) (tt := tYes) rfl nd (pi_tup (pe_ix ix_seq (pv 0) pe_int (fun _ _ => rfl))) (blkOk_by (N := N__law_first) (sc := defScope s__law_first) (by decide +kernel)) (fun _ _ _ _ _ => (pg_name (i := 1) nd rfl (Or.inl rfl))) (fun _ _ _ _ _ => pts_nil) (fun _ _ _ _ _ => (pe_ix ix_seq (pv 1) pe_int (fun _ _ => rfl)))) pa_nil))))
theorem sc_law : FnScope N_law P_law (defScope s_law) := ⟨rfl, rfl, rfl, by decide +kernel, rfl, by decide +kernel, by decide +kernel⟩
abbrev la_law_0 : Arguments × Expr × Scope := exLam (exAt (stExpr (stAt (stBody (stAt (defBody s_law) 1)) 8)) 0)
def lr_law_0 (K : PySem.W.Frag) : LamR := ⟨la_law_0.1, la_law_0.2.1, la_law_0.2.2, none, fun E => (tCall (spOf K (ixX (csK K)) 3 φx_day_of) [] E (tCons (tVar 5) (tCons (tVar 6) (tCons (tOp rSubI (tUn rNegI (tC (.int 1))) (tVar 9)) tNil))))⟩
theorem lb_law_0 : LamB N_law (defScope s_law) la_law_0.2.2 := lamB_by (by decide +kernel)
abbrev la_law_1 : Arguments × Expr × Scope := exLam (exAt (stExpr (stAt (stBody (stAt (defBody s_law) 1)) 8)) 1)
def lr_law_1 (K : PySem.W.Frag) : LamR := ⟨la_law_1.1, la_law_1.2.1, la_law_1.2.2, some "_law_a", fun E => (tCall (spOf K (ixX (csK K)) 3 φx_day_of) [] E (tCons (tVar 5) (tCons (tVar 6) (tCons (tOp rAddI (tOp rAddI (tOp rPowI (tC (.int 10)) (tC (.int 12))) (tC (.int 1))) (tVar 9)) tNil))))⟩
theorem ll_law_1 : la_law_1.2.2.names.lookup ("_law_a" : Str) = some .local := by decide +kernel
theorem lb_law_1 : LamB N_law (defScope s_law) la_law_1.2.2 := lamB_by (by decide +kernel)
abbrev la_law_2 : Arguments × Expr × Scope := exLam (exAt (exAt (stExpr (stAt (stBody (stAt (defBody s_law) 1)) 10)) 0) 0)
def lr_law_2 (K : PySem.W.Frag) : LamR := ⟨la_law_2.1, la_law_2.2.1, la_law_2.2.2, none, fun E => (tCall (spOf K (ixX (csK K)) 3 φx_day_of) [] E (tCons (tVar 5) (tCons (tOp (rCatA K) (tVar 6) (tTup (tCons (tC (.int 0)) tNil))) (tCons (tUn rNegI (tC (.int 1))) tNil))))⟩
theorem lb_law_2 : LamB N_law (defScope s_law) la_law_2.2.2 := lamB_by (by decide +kernel)
abbrev la_law_3 : Arguments × Expr × Scope := exLam (exAt (stExpr (stAt (stBody (stAt (stBody (stAt (defBody s_law) 1)) 11)) 4)) 0)
def lr_law_3 (K : PySem.W.Frag) : LamR := ⟨la_law_3.1, la_law_3.2.1, la_law_3.2.2, none, fun E => (tCall (spOf K (ixX (csK K)) 3 φx_day_of) [] E (tCons (tVar 5) (tCons (tOp (rCatA K) (tVar 13) (tTup (tCons (tC (.int 0)) tNil))) (tCons (tUn rNegI (tC (.int 1))) tNil))))⟩
theorem lb_law_3 : LamB N_law (defScope s_law) la_law_3.2.2 := lamB_by (by decide +kernel)
abbrev la_law_4 : Arguments × Expr × Scope := exLam (exAt (stExpr (stAt (stBody (stAt (stBody (stAt (defBody s_law) 1)) 11)) 4)) 1)
def lr_law_4 (K : PySem.W.Frag) : LamR := ⟨la_law_4.1, la_law_4.2.1, la_law_4.2.2, some "_law_a", fun E => (tCall (spOf K (ixX (csK K)) 3 φx_day_of) [] E (tCons (tVar 5) (tCons (tSl (rSlA K) (tVar 6) tNoPart (tPart (tVar 11))) (tCons (tUn rNegI (tC (.int 1))) tNil))))⟩
theorem ll_law_4 : la_law_4.2.2.names.lookup ("_law_a" : Str) = some .local := by decide +kernel
theorem lb_law_4 : LamB N_law (defScope s_law) la_law_4.2.2 := lamB_by (by decide +kernel)
abbrev lr_law (K : PySem.W.Frag) : Nat → LamR
  | 0 => lr_law_0 K
  | 1 => lr_law_1 K
  | 2 => lr_law_2 K
  | 3 => lr_law_3 K
  | _ => lr_law_4 K
theorem re_lams_law {K : PySem.W.Frag} : LamRe K (lr_law K) ml_law := fun n => match n with
  | 0 => ⟨false, fun E => (re_call (b := false) (ra_cons rb_var (ra_cons rb_var (ra_cons (re_op (b := false) sc_sub (re_un (b := false) sc_neg (re_int (b := false))) rb_var) ra_nil))))⟩
  | 1 => ⟨false, fun E => (re_call (b := false) (ra_cons rb_var (ra_cons rb_var (ra_cons (re_op (b := false) sc_add (re_op (b := false) sc_add (re_op (b := false) sc_pow (re_int (b := false)) (re_int (b := false))) (re_int (b := false))) rb_var) ra_nil))))⟩
  | 2 => ⟨false, fun E => (re_call (b := false) (ra_cons rb_var (ra_cons (re_catA rb_var (re_tup (ra_cons (re_int (b := false)) ra_nil))) (ra_cons (re_un (b := false) sc_neg (re_int (b := false))) ra_nil))))⟩
  | 3 => ⟨false, fun E => (re_call (b := false) (ra_cons rb_var (ra_cons (re_catA rb_var (re_tup (ra_cons (re_int (b := false)) ra_nil))) (ra_cons (re_un (b := false) sc_neg (re_int (b := false))) ra_nil))))⟩
  | _ + 4 => ⟨false, fun E => (re_call (b := false) (ra_cons rb_var (ra_cons (re_slA rb_var ro_no (ro_part rb_var)) (ra_cons (re_un (b := false) sc_neg (re_int (b := false))) ra_nil))))⟩
abbrev cx_law (P : Program) (w : World) (K : PySem.W.Frag) (mg : Str → Option Value) (base : Heap) (f : Addr) (cd : Value) (A : Around) (outer : List Env) (s : Shared) (H : Hp) (E : XK) : Cx := (cxOf CX0 P w K mg base N_law "law" (defScope s_law) f cd A outer s H E).nox
theorem ok_law {P : Program} {w : World} {K : PySem.W.Frag} {mg : Str → Option Value} {base : Heap} (hB : Blt mg) (h__law_next : Cal P w K mg base CX0 1 "_law_next" (spOf K ix0 2 ph__law_next)) (h__law_alike : Cal P w K mg base CX0 8 "_law_alike" (spOf K ix0 2 (ph__law_alike 7))) (h__law_day : Cal P w K mg base CX0 1 "_law_day" (spOf K ix0 3 ph__law_day)) (h__law_first : Cal P w K mg base CX0 1 "_law_first" (spOf K ix0 1 ph__law_first)) (h_day_of : Cal P w K mg base CX0 4 "day_of" (spOf K ix0 3 ph_day_of)) (h__law_market : Cal P w K mg base CX0 2 "_law_market" (spOf K ix0 4 ph__law_market)) (h__law_prices : Cal P w K mg base CX0 2 "_law_prices" (spOf K ix0 2 ph__law_prices)) (h__law_mix : Cal P w K mg base CX0 1 "_law_mix" (spMix K)) (hx_day_of : Cal P w K mg base (L2.CX P w) 4 "day_of" (spOf K (ixX (csK K)) 3 φx_day_of)) (hVE : mg "ValueError" = none) (hX : XFacts K mg)
    {g : Addr} {oc kV doc pm cdv ct : Value} {an od : Option Addr} {osl : Array (Option Value)} (hg : mg "_law_kind" = some (.ref g)) (hk : PySem.W.keepIn K (.ref g) = true) (lk : K.lookup g = some ⟨oc, od, .func (PySem.W.fnOf "_law_kind" "_law_kind" (defArgs s__law_kind) (defBody s__law_kind) (defScope s__law_kind) .none kV doc pm an cdv ct), osl⟩)
    (hcg : PySem.W.codeIn K cdv "_law_kind" = true) (hb : L2.Binds K (PySem.W.fnOf "_law_kind" "_law_kind" (defArgs s__law_kind) (defBody s__law_kind) (defScope s__law_kind) .none kV doc pm an cdv ct) ["_law_call"] [])
    {f c Pt : Addr} {oc' kV' doc' pm' ct' : Value} {an' od' : Option Addr} {osl' : Array (Option Value)} (lz : K.lookup f = some ⟨oc', od', .func (PySem.W.fnOf "law" "law" (defArgs s_law) (defBody s_law) (defScope s_law) .none kV' doc' pm' an' (.ref c) ct'), osl'⟩) (hcz : PySem.W.codeIn K (.ref c) "law" = true)
    (TB : LamX.TabB base mg c Pt) (hT : (Pt, qL_law) ∈ tabsK K) (hu : ∀ p ∈ tabsK K, p.1 = Pt → p.2 = qL_law)
    (hm : ∀ ns : List Int, ns.length ≤ 63 → ∃ ρ' g', m_law (lawS 17) (lawG 5 ns) = some (.rt (.bl true), ρ', g')) :
    FnOk P w K mg base CX0 9 f (PySem.W.fnOf "law" "law" (defArgs s_law) (defBody s_law) (defScope s_law) .none kV' doc' pm' an' (.ref c) ct') P_law (spLaw K) := by
  refine fn_of lz hcz sc_law (fun vs H Q E h => by obtain ⟨a, ns, rfl, _⟩ := h; rfl) fun A outer s H vs Q E hr hsp => ?_
  have nd := sc_law.nd
  have lams_ok : ∀ n, LamOk (cx_law P w K mg base f (.ref c) A outer s H E) 6 (lr_law K n) := fun n => match n with
    | 0 => ⟨lb_law_0, (fun q body scope cl dV doc pm cd ctv s e => by subst e; exact BindsTo.of_eq rfl), (fun x hx => by cases hx), fun A outer s H E f c' hr => (pe_calX (sp := (spOf K (ixX (csK K)) 3 φx_day_of)) hx_day_of (passes_call (takes_of rfl rfl rfl rfl) fun _ _ _ _ h => h) (hr.mono (by decide)) (pa_cons (pv 5) (pa_cons (pv 6) (pa_cons (pe_op op_sub (pe_un un_neg pe_int) (pv 9)) pa_nil))))⟩
    | 1 => ⟨lb_law_1, (fun q body scope cl dV doc pm cd ctv s T0 tk e ho => by subst e; exact BindsTo.of_defaults rfl ho rfl rfl rfl), (fun x hx => by cases hx; exact ll_law_1), fun A outer s H E f c' hr => (pe_calX (sp := (spOf K (ixX (csK K)) 3 φx_day_of)) hx_day_of (passes_call (takes_of rfl rfl rfl rfl) fun _ _ _ _ h => h) (hr.mono (by decide)) (pa_cons (pv 5) (pa_cons (pv 6) (pa_cons (pe_op op_add (pe_op op_add (pe_op op_pow pe_int pe_int) pe_int) (pv 9)) pa_nil))))⟩
    | 2 => ⟨lb_law_2, (fun q body scope cl dV doc pm cd ctv s e => by subst e; exact BindsTo.of_eq rfl), (fun x hx => by cases hx), fun A outer s H E f c' hr => (pe_calX (sp := (spOf K (ixX (csK K)) 3 φx_day_of)) hx_day_of (passes_call (takes_of rfl rfl rfl rfl) fun _ _ _ _ h => h) (hr.mono (by decide)) (pa_cons (pv 5) (pa_cons (pe_op op_catA (pv 6) (pe_tup (pa_cons pe_int pa_nil))) (pa_cons (pe_un un_neg pe_int) pa_nil))))⟩
    | 3 => ⟨lb_law_3, (fun q body scope cl dV doc pm cd ctv s e => by subst e; exact BindsTo.of_eq rfl), (fun x hx => by cases hx), fun A outer s H E f c' hr => (pe_calX (sp := (spOf K (ixX (csK K)) 3 φx_day_of)) hx_day_of (passes_call (takes_of rfl rfl rfl rfl) fun _ _ _ _ h => h) (hr.mono (by decide)) (pa_cons (pv 5) (pa_cons (pe_op op_catA (pv 13) (pe_tup (pa_cons pe_int pa_nil))) (pa_cons (pe_un un_neg pe_int) pa_nil))))⟩
    | _ + 4 => ⟨lb_law_4, (fun q body scope cl dV doc pm cd ctv s T0 tk e ho => by subst e; exact BindsTo.of_defaults rfl ho rfl rfl rfl), (fun x hx => by cases hx; exact ll_law_4), fun A outer s H E f c' hr => (pe_calX (sp := (spOf K (ixX (csK K)) 3 φx_day_of)) hx_day_of (passes_call (takes_of rfl rfl rfl rfl) fun _ _ _ _ h => h) (hr.mono (by decide)) (pa_cons (pv 5) (pa_cons (pe_slice sl_tupA (pv 6) po_none (po_some (pv 11))) (pa_cons (pe_un un_neg pe_int) pa_nil))))⟩
  have body : PSs (cx_law P w K mg base f (.ref c) A outer s H E) (defBody s_law) (tSeq (tAsg (tCall (spMix K) [] E0 (tCons (tVar 0) (tCons (tC (.int 5)) tNil))) (gName 1)) (t_law (cx_law P w K mg base f (.ref c) A outer s H E) K ix0 Pt (lr_law K))) :=
    pss_cons (ps_set (i := 1) nd rfl (Or.inl rfl) (pe_cal (sp := spMix K) h__law_mix (hr.mono (by decide)) (pa_cons (pv 0) (pa_cons pe_int pa_nil))))
    (pss_cons (ps_for PassesOwn.never rfl (pi_range1 rfl hB.range (pa_cons pe_int pa_nil)) (pg_name (i := 2) nd rfl (Or.inl rfl)) (pss_cons (ps_set (i := 3) nd rfl (Or.inl rfl) (pe_tup (pa_cons (pe_cal (sp := (spOf K ix0 2 ph__law_next)) h__law_next (hr.mono (by decide)) (pa_cons (pv 1) (pa_cons pe_int pa_nil))) (pa_cons (pe_op op_add pe_int (pe_cal (sp := (spOf K ix0 2 ph__law_next)) h__law_next (hr.mono (by decide)) (pa_cons (pv 1) (pa_cons pe_int pa_nil)))) (pa_cons (pe_cal (sp := (spOf K ix0 2 ph__law_next)) h__law_next (hr.mono (by decide)) (pa_cons (pv 1) (pa_cons pe_int pa_nil))) (pa_cons (pe_cal (sp := (spOf K ix0 2 ph__law_next)) h__law_next (hr.mono (by decide)) (pa_cons (pv 1) (pa_cons pe_int pa_nil))) (pa_cons pe_int (pa_cons pe_int pa_nil))))))))
    (pss_cons (ps_set (i := 4) nd rfl (Or.inl rfl) (pe_tup (pa_cons (pe_tup (pa_cons (pv 3) pa_nil)) (pa_cons (pe_op op_repT (pe_tup (pa_cons (pe_tup (pa_cons pe_int (pa_cons pe_int (pa_cons (pe_tup (pa_cons pe_int pa_nil)) pa_nil)))) pa_nil)) pe_int) pa_nil))))
    (pss_cons (ps_if (pt_not (pt_val (pe_cal (sp := (spOf K ix0 2 (ph__law_alike 7))) h__law_alike (hr.mono (by decide)) (pa_cons (pe_cal (sp := (spOf K ix0 3 ph_day_of)) h_day_of (hr.mono (by decide)) (pa_cons (pv 4) (pa_cons (pe_cal (sp := (spOf K ix0 1 ph__law_first)) h__law_first (hr.mono (by decide)) (pa_cons (pv 4) pa_nil)) (pa_cons (pv 2) pa_nil)))) (pa_cons (pe_cal (sp := (spOf K ix0 3 ph__law_day)) h__law_day (hr.mono (by decide)) (pa_cons (pv 4) (pa_cons (pe_cal (sp := (spOf K ix0 1 ph__law_first)) h__law_first (hr.mono (by decide)) (pa_cons (pv 4) pa_nil)) (pa_cons (pv 2) pa_nil)))) pa_nil))))) (pss_one (ps_ret pe_bl)) pss_nil)
    (pss_cons (ps_set (i := 5) nd rfl (Or.inr rfl) (pe_cal (sp := (spOf K ix0 4 ph__law_market)) h__law_market (hr.mono (by decide)) (pa_cons (pv 1) (pa_cons pe_int (pa_cons pe_int (pa_cons (pe_ix ix_seq (pe_lst (pa_cons pe_int (pa_cons pe_int pa_nil))) (pe_cal (sp := (spOf K ix0 2 ph__law_next)) h__law_next (hr.mono (by decide)) (pa_cons (pv 1) (pa_cons pe_int pa_nil))) (fun _ _ => rfl)) pa_nil))))))
    (pss_cons (ps_set (i := 6) nd rfl (Or.inr rfl) (pe_cal (sp := (spOf K ix0 2 ph__law_prices)) h__law_prices (hr.mono (by decide)) (pa_cons (pv 1) (pa_cons (pv 5) pa_nil))))
    (pss_cons (ps_set (i := 7) nd rfl (Or.inl rfl) (pe_ix ix_seq (pe_lst (pa_cons (pe_cal (sp := (spOf K ix0 2 ph__law_next)) h__law_next (hr.mono (by decide)) (pa_cons (pv 1) (pa_cons pe_int pa_nil))) (pa_cons (pe_cal (sp := (spOf K ix0 2 ph__law_next)) h__law_next (hr.mono (by decide)) (pa_cons (pv 1) (pa_cons (pe_op op_add (pe_op op_pow pe_int pe_int) pe_int) pa_nil))) (pa_cons (pe_op op_pow pe_int pe_int) pa_nil)))) (pe_cal (sp := (spOf K ix0 2 ph__law_next)) h__law_next (hr.mono (by decide)) (pa_cons (pv 1) (pa_cons pe_int pa_nil))) (fun _ _ => rfl)))
    (pss_cons (ps_if (pt_not (pt_val (pe_cal (sp := (spOf K ix0 2 (ph__law_alike 7))) h__law_alike (hr.mono (by decide)) (pa_cons (pe_cal (sp := (spOf K ix0 3 ph_day_of)) h_day_of (hr.mono (by decide)) (pa_cons (pv 5) (pa_cons (pv 6) (pa_cons (pv 7) pa_nil)))) (pa_cons (pe_cal (sp := (spOf K ix0 3 ph__law_day)) h__law_day (hr.mono (by decide)) (pa_cons (pv 5) (pa_cons (pv 6) (pa_cons (pv 7) pa_nil)))) pa_nil))))) (pss_one (ps_ret pe_bl)) pss_nil)
    (pss_cons (ps_asg (pe_tup (pa_cons (pe_cal (sp := (spOf K ix0 2 ph__law_next)) h__law_next (hr.mono (by decide)) (pa_cons (pv 1) (pa_cons (pe_ix ix_seq (pe_lst (pa_cons pe_int (pa_cons (pe_op op_pow pe_int pe_int) pa_nil))) (pe_cal (sp := (spOf K ix0 2 ph__law_next)) h__law_next (hr.mono (by decide)) (pa_cons (pv 1) (pa_cons pe_int pa_nil))) (fun _ _ => rfl)) pa_nil))) (pa_cons (pe_callB call_len_seq (by rfl) hB.len (by decide +kernel) (pa_cons (pv 6) pa_nil)) pa_nil))) (pg_tup (by rfl) (pgs_cons (pg_name (i := 9) nd rfl (Or.inr rfl)) (pgs_cons (pg_name (i := 10) nd rfl (Or.inl rfl)) pgs_nil))))
    (pss_cons (ps_set (i := 8) nd rfl (Or.inl rfl) (pe_lst (pa_cons (pe_lam0 TB rfl hT hu lb_law_0 rfl rfl) (pa_cons (pe_lam1 (x := "_law_a") TB rfl hT hu lb_law_1 rfl rfl pe_int rfl) pa_nil))))
    (pss_cons (ps_if (pt_cmpR (op_neD hr.units) (pe_lcB (own := [("_law_call", 16)]) (g := (gName 16)) (te := fun σ σB HB Q => ∃ fz, σB[16]? = some (some (.ref fz)) ∧ kTG (cx_law P w K mg base f (.ref c) A outer s H E) K (csK K) (csK K "PriceError") ([0, 1].map (lr_law K)) σ fz HB Q) rfl nd (pi_list (pv 8)) (blkOk_by (N := N_law) (sc := defScope s_law) (by decide +kernel)) (fun _ _ _ _ _ => (pg_name (i := 16) nd rfl (Or.inl rfl))) (fun pins σ s0 H0 C cl fp home => pe_giveB (TG := kTG (cx_law P w K mg base f (.ref c) A outer s H E) K (csK K) (csK K "PriceError") ([0, 1].map (lr_law K)) σ) home (by rfl) hg hk lk hcg hb sc__law_kind (kind_givesX hB hVE hX (lams_map lams_ok [0, 1])) hr (by rfl) (by exact Or.inl rfl))) (pe_op op_rep (pe_lst (pa_cons (pe_tup (pa_cons pe_str (pa_cons pe_int pa_nil))) pa_nil)) pe_int) (nomark _)) (pss_one (ps_ret pe_bl)) pss_nil)
    (pss_cons (ps_if (pt_cmpR (op_neD hr.units) (pe_giveL (TG := fun σ => kTG (cx_law P w K mg base f (.ref c) A outer s H E) K (csK K) (csK K "PriceError") [lr_law K 2] σ) rfl hg hk (pe_lam0 TB rfl hT hu lb_law_2 rfl rfl) rfl lk hcg hb sc__law_kind (fun pins σ => (kind_givesX hB hVE hX (lams_one lams_ok 2))) hr) (pe_tup (pa_cons pe_str (pa_cons (pv 10) pa_nil))) (nomark _)) (pss_one (ps_ret pe_bl)) pss_nil)
    (pss_one (ps_if (pt_cmpR op_gt (pv 10) pe_int (nomark _)) (pss_cons (ps_set (i := 11) nd rfl (Or.inr rfl) (pe_cal (sp := (spOf K ix0 2 ph__law_next)) h__law_next (hr.mono (by decide)) (pa_cons (pv 1) (pa_cons (pv 10) pa_nil))))
    (pss_cons (ps_asg (pe_slice sl_tupA (pe_ix ix_seq (pe_ix ix_seq (pv 5) pe_int (fun _ _ => rfl)) (pv 11) (fun _ _ => rfl)) (po_some pe_int) po_none) (pg_tup (by rfl) (pgs_cons (pg_name (i := 14) nd rfl (Or.inl rfl)) (pgs_cons (pg_name (i := 15) nd rfl (Or.inl rfl)) pgs_nil))))
    (pss_cons (ps_set (i := 12) nd rfl (Or.inl rfl) (pe_ix ix_seq (pe_lst (pa_cons (pe_op op_sub (pe_op op_sub (pv 14) pe_int) (pv 9)) (pa_cons (pe_op op_add (pe_op op_add (pv 15) pe_int) (pv 9)) pa_nil))) (pe_cal (sp := (spOf K ix0 2 ph__law_next)) h__law_next (hr.mono (by decide)) (pa_cons (pv 1) (pa_cons pe_int pa_nil))) (fun _ _ => rfl)))
    (pss_cons (ps_set (i := 13) nd rfl (Or.inr rfl) (pe_op op_catA (pe_op op_catA (pe_slice sl_tupA (pv 6) po_none (po_some (pv 11))) (pe_tup (pa_cons (pv 12) pa_nil))) (pe_slice sl_tupA (pv 6) (po_some (pe_op op_add (pv 11) pe_int)) po_none)))
    (pss_cons (ps_set (i := 8) nd rfl (Or.inl rfl) (pe_lst (pa_cons (pe_lam0 TB rfl hT hu lb_law_3 rfl rfl) (pa_cons (pe_lam1 (x := "_law_a") TB rfl hT hu lb_law_4 rfl rfl pe_int rfl) pa_nil))))
    (pss_one (ps_if (pt_cmpR (op_neD hr.units) (pe_lcB (own := [("_law_call", 16)]) (g := (gName 16)) (te := fun σ σB HB Q => ∃ fz, σB[16]? = some (some (.ref fz)) ∧ kTG (cx_law P w K mg base f (.ref c) A outer s H E) K (csK K) (csK K "PriceError") ([3, 4].map (lr_law K)) σ fz HB Q) rfl nd (pi_list (pv 8)) (blkOk_by (N := N_law) (sc := defScope s_law) (by decide +kernel)) (fun _ _ _ _ _ => (pg_name (i := 16) nd rfl (Or.inl rfl))) (fun pins σ s0 H0 C cl fp home => pe_giveB (TG := kTG (cx_law P w K mg base f (.ref c) A outer s H E) K (csK K) (csK K "PriceError") ([3, 4].map (lr_law K)) σ) home (by rfl) hg hk lk hcg hb sc__law_kind (kind_givesX hB hVE hX (lams_map lams_ok [3, 4])) hr (by rfl) (by exact Or.inl rfl))) (pe_op op_rep (pe_lst (pa_cons (pe_tup (pa_cons pe_str (pa_cons (pv 11) pa_nil))) pa_nil)) pe_int) (nomark _)) (pss_one (ps_ret pe_bl)) pss_nil))))))) pss_nil))))))))))))))
    (pss_one (ps_ret pe_bl)))
  exact ⟨_, body.nox, law_run (N := N_law) (seed := 5) hsp (by decide) (by decide) (by decide) (fun a e => by rw [e]; rfl) (rs_law (X := (cx_law P w K mg base f (.ref c) A outer s H E)) (ix := ix0) hX hT rfl re_lams_law) hm⟩
end Pr

set_option Elab.async false
set_option linter.all false
set_option maxRecDepth 100000
set_option maxHeartbeats 400000
/-! M1: markets as plain data; what the checks answer -/
namespace Pr
open PySem PySem.Spec PyProof.Rows L2 Fw
structure Se where
  price : Int
  stock : Int
  up : Int
  down : Int
  low : Int
  high : Int
structure Bu where
  every : Int
  first : Int
  worths : List Int
structure Mk where
  ss : List Se
  bs : List Bu
def dInts (l : List Int) : D := .tup (l.map .int)
def dSe (s : Se) : D := .tup [.int s.price, .int s.stock, .int s.up, .int s.down, .int s.low, .int s.high]
def dBu (b : Bu) : D := .tup [.int b.every, .int b.first, dInts b.worths]
def dMk (m : Mk) : D := .tup [.tup (m.ss.map dSe), .tup (m.bs.map dBu)]
structure Se.Ok (s : Se) : Prop where
  low0 : 0 ≤ s.low
  lowP : s.low ≤ s.price
  pHigh : s.price ≤ s.high
  high99 : s.high ≤ 99
  st1 : 1 ≤ s.stock
  st5 : s.stock ≤ 5
  up0 : 0 ≤ s.up
  up9 : s.up ≤ 9
  dn0 : 0 ≤ s.down
  dn9 : s.down ≤ 9
structure Bu.Ok (n : Nat) (b : Bu) : Prop where
  e1 : 1 ≤ b.every
  e4 : b.every ≤ 4
  f0 : 0 ≤ b.first
  fe : b.first < b.every
  len : b.worths.length = n
  w : ∀ x ∈ b.worths, 0 ≤ x ∧ x ≤ 99
structure Mk.Ok (m : Mk) : Prop where
  s4 : m.ss.length ≤ 4
  b6 : m.bs.length ≤ 6
  s : ∀ s ∈ m.ss, s.Ok
  b : ∀ b ∈ m.bs, b.Ok m.ss.length
theorem lfs_ints : ∀ l : List Int, D.lf.lfs (l.map D.int) = true
  | [] => rfl
  | _ :: l => by simp [D.lf.lfs, D.lf, lfs_ints l]
theorem lf_ints (l : List Int) : (dInts l).lf = true := by unfold dInts; show D.lf.lfs _ = true; exact lfs_ints l
theorem lf_se (s : Se) : (dSe s).lf = true := rfl
theorem lfs_se : ∀ l : List Se, D.lf.lfs (l.map dSe) = true
  | [] => rfl
  | s :: l => by simp [D.lf.lfs, lf_se s, lfs_se l]
theorem lf_bu (b : Bu) : D.lf (dBu b) = true := by
  have := lf_ints b.worths
  simp [dBu, D.lf, D.lf.lfs, this]
theorem lfs_bu : ∀ l : List Bu, D.lf.lfs (l.map dBu) = true
  | [] => rfl
  | b :: l => by simp [D.lf.lfs, lf_bu b, lfs_bu l]
theorem lf_mk (m : Mk) : (dMk m).lf = true := by
  have h1 := lfs_se m.ss
  have h2 := lfs_bu m.bs
  simp [dMk, D.lf, D.lf.lfs, h1, h2]
theorem sl_im {d : D} (h : d.lf = true) : mkSl d = .im d := by unfold mkSl; rw [if_pos h]
theorem within (a b c : Int) (g : G) : ph_is_within [.int a, .int b, .int c] g = some (.ok (.bl (decide (b ≤ a) && decide (a ≤ c))), g) := by
  refine phi_rt (mRet_ok (mAnd_t (mCB_ok (mCons_ok (mVarB_im rfl) (mCons_ok mret_ok mNil_ok)) rfl) (mAnd_t (mNot_ok (mCB_ok (mCons_ok (mVarB_im rfl) (mCons_ok mret_ok mNil_ok)) rfl)) ?_)))
  exact mChain_ok (mVarB_im rfl) (mVarB_im rfl) (mVarB_im rfl) rfl rfl
theorem within_t {a b c : Int} {g : G} (h1 : b ≤ a) (h2 : a ≤ c) : ph_is_within [.int a, .int b, .int c] g = some (.ok (.bl true), g) := by
  rw [within]; simp [h1, h2]
theorem can_sell_ok (s : Se) (h : s.Ok) (g : G) : ph_can_sell [dSe s] g = some (.ok (.bl true), g) := by
  obtain ⟨a1, a2, a3, a4, a5, a6, a7, a8, a9, a10⟩ := h
  apply phi_rt
  refine mSeq_nx (mIfS_f (mTOr_ok (mTNot_ok (mB_ok (mCB_ok (mCons_ok (mVarB_im rfl) (mCons_ok mret_ok mNil_ok)) rfl))) (mB_ok (mOp_ok (mCB_ok (mCons_ok (mVarB_im rfl) mNil_ok) rfl) mret_ok rfl))) rfl) ?_
  refine mSeq_nx (mAsg_ok (mVar_ok rfl) rfl) ?_
  have c3 : ∀ {a b c : D} {ma mb mc : MV D} {ρ : List Sl} {g : G}, ma ρ g = some (.ok a, g) → mb ρ g = some (.ok b, g) → mc ρ g = some (.ok c, g) → (mCons ma (mCons mb (mCons mc mNil))) ρ g = some (.ok [a, b, c], g) := fun h1 h2 h3 => mCons_ok h1 (mCons_ok h2 (mCons_ok h3 mNil_ok))
  refine mRet_ok (mAnd_t (mCall0_ok (c3 (mVarB_im rfl) mret_ok mret_ok) rfl (within_t a1 (by omega))) (mAnd_t (mCall0_ok (c3 (mVarB_im rfl) (mVarB_im rfl) mret_ok) rfl (within_t (by omega) a4)) (mAnd_t (mCall0_ok (c3 (mVarB_im rfl) (mVarB_im rfl) (mVarB_im rfl)) rfl (within_t a2 a3)) (mAnd_t (mCall0_ok (c3 (mVarB_im rfl) mret_ok mret_ok) rfl (within_t a5 a6))
    (mAnd_t (mCall0_ok (c3 (mVarB_im rfl) mret_ok mret_ok) rfl (within_t a7 a8)) (mCall0_ok (c3 (mVarB_im rfl) mret_ok mret_ok) rfl (within_t a9 a10)))))))
theorem unB_true : ∀ l : List Int, unB (l.map fun _ => D.bl true) = some (l.map fun _ => true)
  | [] => rfl
  | x :: l => by
    have := unB_true l
    simp [unB, this]
theorem can_buy_ok (n : Nat) (b : Bu) (h : b.Ok n) (hn : n ≤ 4) (g : G) : ph_can_buy [dBu b, .int n] g = some (.ok (.bl true), g) := by
  obtain ⟨a1, a2, a3, a4, a5, a6⟩ := h
  have e0 : start0 6 [dBu b, .int n] = [.im (dBu b), .im (.int n), .no, .no, .no, .no] := by
    unfold start0
    rw [List.map_cons, sl_im (lf_bu b)]
    rfl
  unfold ph_can_buy
  apply phi_rt
  · rw [e0]
    refine mSeq_nx (mIfS_f (mTOr_ok (mTNot_ok (mB_ok (mCB_ok (mCons_ok (mVarB_im rfl) (mCons_ok mret_ok mNil_ok)) rfl))) (mB_ok (mOp_ok (mCB_ok (mCons_ok (mVarB_im rfl) mNil_ok) rfl) mret_ok rfl))) rfl) ?_
    refine mSeq_nx (mAsg_ok (mVar_ok rfl) rfl) ?_
    have e5 : dNe (.int ((b.worths.map D.int).length : Nat)) (.int n) = some (.bl false) := by simp [dNe, scD, a5]
    refine mSeq_nx (mIfS_f (mTOr_f (mTNot_ok (mB_ok (mCB_ok (mCons_ok (mVarB_im rfl) (mCons_ok mret_ok mNil_ok)) rfl))) (mB_ok (mOp_ok (mCB_ok (mCons_ok (mVarB_im rfl) mNil_ok) rfl) (mVarB_im rfl) e5))) rfl) ?_
    · have c3 : ∀ {a b c : D} {ma mb mc : MV D} {ρ : List Sl} {g : G}, ma ρ g = some (.ok a, g) → mb ρ g = some (.ok b, g) → mc ρ g = some (.ok c, g) → (mCons ma (mCons mb (mCons mc mNil))) ρ g = some (.ok [a, b, c], g) := fun h1 h2 h3 => mCons_ok h1 (mCons_ok h2 (mCons_ok h3 mNil_ok))
      refine mRet_ok (mAnd_t (mCall0_ok (c3 (mVarB_im rfl) mret_ok mret_ok) rfl (within_t a1 a2)) (mAnd_t (mCall0_ok (c3 (mVarB_im rfl) mret_ok (mOp_ok (mVarB_im rfl) mret_ok rfl)) rfl (within_t a3 (by omega))) ?_))
      refine mCB_ok (mCons_ok (mFr_ok (mLc_ok (l' := b.worths.map fun _ => .bl true) (mItT_ok (mVar_ok rfl)) (small_of (by rw [List.length_map]; omega)) (lcGo_map _ _ b.worths g fun x hx => ⟨_, rfl, rfl, mCall0_ok (c3 (mVarB_im rfl) mret_ok mret_ok) rfl (within_t (a6 x hx).1 (a6 x hx).2)⟩))) mNil_ok) ?_
      simp [fAll, unB_true]
end Pr

set_option Elab.async false
set_option linter.all false
set_option maxRecDepth 100000
set_option maxHeartbeats 400000
/-! M2: a market that can be is let through; its first prices -/
namespace Pr
open PySem PySem.Spec PyProof.Rows L2 Fw
theorem start_mk (m : Mk) (n : Nat) : start0 n [dMk m] = .im (dMk m) :: List.replicate (n - 1) .no := by
  unfold start0
  rw [List.map_cons, sl_im (lf_mk m)]
  rfl
theorem check_market_ok (m : Mk) (h : m.Ok) (g : G) : ph_check_market [dMk m] g = some (.ok .non, g) := by
  unfold ph_check_market
  apply phi_nx
  · rw [start_mk]
    refine mSeq_nx (mAsg_ok (mVar_ok rfl) rfl) ?_
    refine mSeq_nx (mFor_ok (mEnum_t (mCons_ok (mVar_ok rfl) mNil_ok)) (forGo_nx (S := fun _ => ([.im (dMk m), .im (.tup (m.ss.map dSe)), .im (.tup (m.bs.map dBu)), .no, .no, .no], g)) _ 0 fun j d hd => ?_)) ?_
    · obtain ⟨d', hd', rfl⟩ := enumD_get _ _ _ _ hd
      rw [List.getElem?_map] at hd'
      obtain ⟨s, hs, rfl⟩ := Option.map_eq_some_iff.mp hd'
      have hj : j < m.ss.length := (List.getElem?_eq_some_iff.mp hs).1
      have h4 := h.s4
      have ok := h.s s (List.mem_of_getElem? hs)
      refine ⟨_, rfl, .inl (mFgE_nx (mIfS_f (mTOr_f (mB_ok (mOp_ok (mVarB_im rfl) mret_ok ?_)) (mTNot_ok (mB_ok (mCall0_ok (mCons_ok (mVarB_im rfl) mNil_ok) rfl (can_sell_ok s ok g))))) rfl))⟩
      simp [dGe, dII]; omega
    · refine mFor_ok (mEnum_t (mCons_ok (mVar_ok rfl) mNil_ok)) (forGo_nx (S := fun _ => ([.im (dMk m), .im (.tup (m.ss.map dSe)), .im (.tup (m.bs.map dBu)), .no, .no, .no], g)) _ 0 fun j d hd => ?_)
      obtain ⟨d', hd', rfl⟩ := enumD_get _ _ _ _ hd
      rw [List.getElem?_map] at hd'
      obtain ⟨s, hs, rfl⟩ := Option.map_eq_some_iff.mp hd'
      have hj : j < m.bs.length := (List.getElem?_eq_some_iff.mp hs).1
      have h4 := h.b6
      have ok := h.b s (List.mem_of_getElem? hs)
      have e : fLen [.tup (m.ss.map dSe)] = some (.int (m.ss.length : Nat)) := by simp [fLen]
      refine ⟨_, rfl, .inl (mFgE_nx (mIfS_f (mTOr_f (mB_ok (mOp_ok (mVarB_im rfl) mret_ok ?_)) (mTNot_ok (mB_ok (mCall0_ok (mCons_ok (mVarB_im rfl) (mCons_ok (mCB_ok (mCons_ok (mVarB_im rfl) mNil_ok) e) mNil_ok)) rfl (can_buy_ok _ s ok h.s4 g))))) rfl))⟩
      simp [dGe, dII]; omega
theorem check_count_ok {c most : Int} (h0 : 0 ≤ c) (h1 : c ≤ most) (g : G) : ph_check_count [.int c, .int most] g = some (.ok .non, g) := by
  apply phi_nx
  · exact mIfS_f (mTNot_ok (mB_ok (mCall0_ok (mCons_ok (mVarB_im rfl) (mCons_ok mret_ok (mCons_ok (mVarB_im rfl) mNil_ok))) rfl (within_t h0 h1)))) rfl
def prices0 (m : Mk) : List Int := m.ss.map Se.price
theorem first_prices_ok (m : Mk) (hs : m.ss.length ≤ 4) (g : G) : ph_first_prices [dMk m] g = some (.ok (dInts (prices0 m)), g) := by
  unfold ph_first_prices
  apply phi_rt
  · rw [start_mk]
    refine mSeq_nx (mAsg_ok (mVar_ok rfl) rfl) ?_
    refine mRet_ok (mTupOf_l (mCons_ok (mFr_ok (mLc_ok (mItT_ok (mVar_ok rfl)) (small_of (by rw [List.length_map]; omega)) ((lcGo_map (fun s : Se => D.int s.price) dSe m.ss g fun s _ => ⟨_, rfl, rfl, mOp_ok (mVar_ok rfl) mret_ok rfl⟩).trans ?_))) mNil_ok))
    unfold prices0; rw [List.map_map]; rfl
theorem law_first_ok (m : Mk) (hs : m.ss.length ≤ 4) (g : G) : ph__law_first [dMk m] g = some (.ok (dInts (prices0 m)), g) := by
  unfold ph__law_first
  apply phi_rt
  · rw [start_mk]
    refine mRet_ok (mTupOf_l (mCons_ok (mFr_ok (mLc_ok (mItT_ok (mOp_ok (mVar_ok rfl) mret_ok rfl)) (small_of (by rw [List.length_map]; omega)) ((lcGo_map (fun s : Se => D.int s.price) dSe m.ss g fun s _ => ⟨_, rfl, rfl, mOp_ok (mVar_ok rfl) mret_ok rfl⟩).trans ?_))) mNil_ok))
    unfold prices0; rw [List.map_map]; rfl
def behind (s : Se) (p left : Int) : Int := if left = 0 then min s.high (p + s.up) else if left = s.stock then max s.low (p - s.down) else p
theorem price_behind_ok (s : Se) (p left : Int) (g : G) : ph_price_behind [dSe s, .int p, .int left] g = some (.ok (.int (behind s p left)), g) := by
  unfold behind
  by_cases h0 : left = 0
  · subst h0
    rw [if_pos rfl]
    apply phi_rt
    · refine mSeq_nx (mAsg_ok (mVar_ok rfl) rfl) ?_
      refine mSeq_rt (mIfS_t (mB_ok (mOp_ok (mVarB_im rfl) mret_ok (by simp [dEq, scD]))) (mRet_ok (mCB_ok (mCons_ok (mVarB_im rfl) (mCons_ok (mOp_ok (mVarB_im rfl) (mVarB_im rfl) rfl) mNil_ok)) ?_)))
      simp [fMin2]; omega
  · rw [if_neg h0]
    by_cases h1 : left = s.stock
    · rw [if_pos h1]
      apply phi_rt
      · refine mSeq_nx (mAsg_ok (mVar_ok rfl) rfl) ?_
        refine mSeq_nx (mIfS_f (mB_ok (mOp_ok (mVarB_im rfl) mret_ok (by simp [dEq, scD, h0]))) rfl) ?_
        refine mSeq_rt (mIfS_t (mB_ok (mOp_ok (mVarB_im rfl) (mVarB_im rfl) (by simp [dEq, scD, h1]))) (mRet_ok (mCB_ok (mCons_ok (mVarB_im rfl) (mCons_ok (mOp_ok (mVarB_im rfl) (mVarB_im rfl) rfl) mNil_ok)) ?_)))
        simp [fMax2]; omega
    · rw [if_neg h1]
      apply phi_rt
      · refine mSeq_nx (mAsg_ok (mVar_ok rfl) rfl) ?_
        refine mSeq_nx (mIfS_f (mB_ok (mOp_ok (mVarB_im rfl) mret_ok (by simp [dEq, scD, h0]))) rfl) ?_
        refine mSeq_nx (mIfS_f (mB_ok (mOp_ok (mVarB_im rfl) (mVarB_im rfl) (by simp [dEq, scD, h1]))) rfl) ?_
        exact mRet_ok (mVar_ok rfl)
end Pr

set_option Elab.async false
set_option linter.all false
set_option maxRecDepth 100000
set_option maxHeartbeats 400000
/-! M3: the good that a buyer takes -/
namespace Pr
open PySem PySem.Spec PyProof.Rows L2 Fw
section
variable (ws ps left : List Int)
/-- may be taken -/
def may (i : Nat) : Bool := decide (0 < left.getD i 0) && decide (ps.getD i 0 ≤ ws.getD i 0)
/-- j is better than b, of those ahead of it -/
def better (j b : Nat) : Bool := decide (ws.getD b 0 - ps.getD b 0 < ws.getD j 0 - ps.getD j 0) || (decide (ws.getD j 0 - ps.getD j 0 = ws.getD b 0 - ps.getD b 0) && decide (ps.getD j 0 < ps.getD b 0))
/-- of the first k goods -/
def pickK : Nat → Option Nat
  | 0 => none
  | k + 1 => if may ws ps left k = true then (match pickK k with
    | none => some k
    | some b => if better ws ps k b = true then some k else some b) else pickK k
def pick : Option Nat := pickK ws ps left ws.length
theorem pickK_lt : ∀ k i, pickK ws ps left k = some i → i < k ∧ may ws ps left i = true
  | 0, _, h => by cases h
  | k + 1, i, h => by
    unfold pickK at h
    split at h
    · rename_i hm
      split at h
      · cases h; exact ⟨by omega, hm⟩
      · rename_i b hb
        split at h
        · cases h; exact ⟨by omega, hm⟩
        · cases h
          have := pickK_lt k i hb
          exact ⟨by omega, this.2⟩
    · have := pickK_lt k i h
      exact ⟨by omega, this.2⟩
def rowK (i : Nat) : List Int := [ps.getD i 0 - ws.getD i 0, ps.getD i 0, (i : Int)]
theorem lex_row {j b : Nat} (h : b < j) : lexL (rowK ws ps j) (rowK ws ps b) = better ws ps j b := by
  unfold lexL rowK better
  simp only [HT.lexLt_cons, HT.lexLt_nil_nil]
  by_cases h1 : ps.getD j 0 - ws.getD j 0 = ps.getD b 0 - ws.getD b 0
  · rw [if_pos h1]
    by_cases h2 : ps.getD j 0 = ps.getD b 0
    · rw [if_pos h2]
      have h3 : ¬ ((j : Int) = b) := by omega
      rw [if_neg h3]
      have e1 : ¬ ((j : Int) < b) := by omega
      have e2 : ¬ (ws.getD b 0 - ps.getD b 0 < ws.getD j 0 - ps.getD j 0) := by omega
      have e3 : ¬ (ps.getD j 0 < ps.getD b 0) := by omega
      simp only [decide_eq_false e1, decide_eq_false e2, decide_eq_false e3, Bool.and_false, Bool.or_false]
    · rw [if_neg h2]
      have e2 : ¬ (ws.getD b 0 - ps.getD b 0 < ws.getD j 0 - ps.getD j 0) := by omega
      have e3 : ws.getD j 0 - ps.getD j 0 = ws.getD b 0 - ps.getD b 0 := by omega
      simp only [decide_eq_false e2, decide_eq_true e3, Bool.true_and, Bool.false_or]
  · rw [if_neg h1]
    have e3 : ¬ (ws.getD j 0 - ps.getD j 0 = ws.getD b 0 - ps.getD b 0) := by omega
    simp only [decide_eq_false e3, Bool.false_and, Bool.or_false]
    by_cases h2 : ps.getD j 0 - ws.getD j 0 < ps.getD b 0 - ws.getD b 0
    · rw [decide_eq_true h2, decide_eq_true (by omega)]
    · rw [decide_eq_false h2, decide_eq_false (by omega)]
theorem argBest_congr {bt bt' : Nat → Nat → Bool} : ∀ k, (∀ i j, i ≤ k → j ≤ k → bt i j = bt' i j) → argBest bt k = argBest bt' k ∧ argBest bt k ≤ k
  | 0, _ => ⟨rfl, Nat.le_refl _⟩
  | k + 1, h => by
    obtain ⟨e, l⟩ := argBest_congr k fun i j a b => h i j (by omega) (by omega)
    unfold argBest
    rw [← e, h (k + 1) (argBest bt k) (by omega) (by omega)]
    refine ⟨rfl, ?_⟩
    split <;> omega
theorem minRow_one (r : List Int) : minRow [r] = some r := rfl
theorem minRow_snoc (rows : List (List Int)) (r q : List Int) (h : minRow rows = some q) : minRow (rows ++ [r]) = some (if lexL r q = true then r else q) := by
  cases rows with
  | nil => cases h
  | cons x xs =>
    unfold minRow at h ⊢
    have e : (x :: xs ++ [r]).length - 1 = xs.length + 1 := by simp
    have e' : (x :: xs).length - 1 = xs.length := by simp
    rw [e'] at h
    rw [e]
    have gd : ∀ i, i ≤ xs.length → (x :: xs ++ [r]).getD i [] = (x :: xs).getD i [] := fun i hi => by
      rw [List.getD_eq_getElem?_getD, List.getD_eq_getElem?_getD, List.getElem?_append_left (by simp; omega)]
    obtain ⟨c1, c2⟩ := argBest_congr (bt := fun i j => lexL ((x :: xs ++ [r]).getD i []) ((x :: xs ++ [r]).getD j [])) (bt' := fun i j => lexL ((x :: xs).getD i []) ((x :: xs).getD j [])) xs.length fun i j a b => by
      show lexL _ _ = lexL _ _
      rw [gd i a, gd j b]
    unfold argBest
    have l1 : (x :: xs ++ [r]).getD (xs.length + 1) [] = r := by
      rw [List.getD_eq_getElem?_getD, List.getElem?_append_right (by simp)]
      simp
    have l2 : (x :: xs ++ [r]).getD (argBest (fun i j => lexL ((x :: xs ++ [r]).getD i []) ((x :: xs ++ [r]).getD j [])) xs.length) [] = q := by
      rw [gd _ c2, c1, List.getD_eq_getElem?_getD, h]
      rfl
    rw [l1, l2]
    by_cases hb : lexL r q = true
    · rw [if_pos hb, if_pos hb, List.getElem?_append_right (by simp)]
      simp
    · rw [if_neg hb, if_neg hb, List.getElem?_append_left (Nat.lt_succ_of_le c2), c1, h]
/-- the rows of the first k goods, the least of them -/
theorem rows_pick : ∀ k, minRow (((List.range k).filter (may ws ps left)).map (rowK ws ps)) = (pickK ws ps left k).map (rowK ws ps)
  | 0 => rfl
  | k + 1 => by
    have ih := rows_pick k
    rw [List.range_succ, List.filter_append, List.map_append]
    unfold pickK
    by_cases hm : may ws ps left k = true
    · rw [if_pos hm]
      have e : List.filter (may ws ps left) [k] = [k] := by rw [List.filter_cons, if_pos hm]; rfl
      rw [e]
      cases hp : pickK ws ps left k with
      | none =>
        rw [hp] at ih
        have e0 : ((List.range k).filter (may ws ps left)).map (rowK ws ps) = [] := by
          cases q : ((List.range k).filter (may ws ps left)).map (rowK ws ps) with
          | nil => rfl
          | cons x xs =>
            rw [q] at ih
            have l := (argBest_congr (bt := fun i j => lexL ((x :: xs).getD i []) ((x :: xs).getD j [])) (bt' := fun i j => lexL ((x :: xs).getD i []) ((x :: xs).getD j [])) xs.length fun _ _ _ _ => rfl).2
            unfold minRow at ih
            have e' : (x :: xs).length - 1 = xs.length := by simp
            rw [e', List.getElem?_eq_getElem (Nat.lt_succ_of_le l)] at ih
            cases ih
        rw [e0]
        rfl
      | some b =>
        rw [hp] at ih
        have hb := (pickK_lt ws ps left k b hp).1
        rw [List.map_cons, List.map_nil, minRow_snoc _ _ _ ih, lex_row ws ps hb]
        dsimp only
        by_cases hq : better ws ps k b = true
        · rw [if_pos hq, if_pos hq]; rfl
        · rw [if_neg hq, if_neg hq]; rfl
    · rw [if_neg hm]
      have e : List.filter (may ws ps left) [k] = [] := by rw [List.filter_cons, if_neg hm]; rfl
      rw [e, List.map_nil, List.append_nil, ih]
end
end Pr

set_option Elab.async false
set_option linter.all false
set_option maxRecDepth 100000
set_option maxHeartbeats 400000
/-! M4: what good_for answers -/
namespace Pr
open PySem PySem.Spec PyProof.Rows L2 Fw
theorem at_ints {l : List Int} {i : Nat} (h : i < l.length) : atI (l.map D.int) (i : Int) = some (.int (l.getD i 0)) := by
  unfold atI ixN
  rw [if_pos (by omega), if_pos (by simpa using h)]
  simp [List.getElem?_eq_getElem h, List.getD_eq_getElem?_getD]
theorem ix_lst {l : List Int} {i : Nat} (h : i < l.length) : dIx (.lst (l.map .int)) (.int (i : Int)) = some (.int (l.getD i 0)) := at_ints h
theorem ix_tup {l : List Int} {i : Nat} (h : i < l.length) : dIx (dInts l) (.int (i : Int)) = some (.int (l.getD i 0)) := at_ints h
theorem enum_ints (ws : List Int) : enumD 0 (ws.map D.int) = (List.range ws.length).map fun i => D.tup [.int (i : Nat), .int (ws.getD i 0)] := by
  apply List.ext_getElem?
  intro i
  by_cases hi : i < ws.length
  · have h1 : i < (enumD 0 (ws.map D.int)).length := by rw [enumD_length, List.length_map]; exact hi
    obtain ⟨d', hd, e⟩ := enumD_get 0 (ws.map D.int) i _ (List.getElem?_eq_getElem h1)
    rw [List.getElem?_eq_getElem h1, e]
    rw [List.getElem?_map, List.getElem?_eq_getElem hi] at hd
    cases hd
    rw [List.getElem?_map, List.getElem?_range hi]
    simp [List.getD_eq_getElem?_getD, List.getElem?_eq_getElem hi]
  · rw [List.getElem?_eq_none (by rw [enumD_length, List.length_map]; omega), List.getElem?_eq_none (by rw [List.length_map, List.length_range]; omega)]
def dOpt : Option Nat → D
  | none => .non
  | some i => .int (i : Int)
theorem good_for_ok (ws ps left : List Int) (hp : ps.length = ws.length) (hl : left.length = ws.length) (hn : ws.length ≤ 4) (g : G) :
    ph_good_for [dInts ws, dInts ps, .lst (left.map .int)] g = some (.ok (dOpt (pick ws ps left)), g) := by
  have e0 : start0 6 [dInts ws, dInts ps, .lst (left.map .int)] = [.im (dInts ws), .im (dInts ps), .bo (.lst (left.map .int)), .no, .no, .no] := by
    unfold start0
    rw [List.map_cons, List.map_cons, sl_im (lf_ints ws), sl_im (lf_ints ps)]
    rfl
  have hrows : mLc (mEnum (mCons (mVar 0) mNil)) (bTup 2 (bCons (bName 4) (bCons (bName 5) bNil))) [4, 5] (mTAnd (mB (mOp dGt (mOp dIx (mVarB 2) (mVarB 4)) (mret (.int 0)))) (mB (mOp dLe (mOp dIx (mVarB 1) (mVarB 4)) (mVarB 5)))) (mTup (mCons (mOp dSub (mOp dIx (mVarB 1) (mVarB 4)) (mVarB 5)) (mCons (mOp dIx (mVar 1) (mVarB 4)) (mCons (mVar 4) mNil))))
      [.im (dInts ws), .im (dInts ps), .bo (.lst (left.map .int)), .no, .no, .no] g = some (.ok (((List.range ws.length).filter (may ws ps left)).map fun i => D.tup ((rowK ws ps i).map .int)), g) := by
    refine mLc_ok (mEnum_t (mCons_ok (mVar_ok rfl) mNil_ok)) (small_of (by rw [enumD_length, List.length_map]; omega)) ?_
    rw [enum_ints]
    have hidx : ∀ i ∈ List.range ws.length, i < ws.length := fun i hi => List.mem_range.mp hi
    refine lcGo_filter (may ws ps left) _ _ _ _ fun i hi => ?_
    have h1 := hidx i hi
    refine ⟨_, rfl, mTAnd_ok (mB_ok (mOp_ok (mOp_ok (mVarB_bo rfl) (mVarB_im rfl) (ix_lst (by omega))) mret_ok rfl)) (mB_ok (mOp_ok (mOp_ok (mVarB_im rfl) (mVarB_im rfl) (ix_tup (by omega))) (mVarB_im rfl) rfl)) rfl, fun _ => ?_⟩
    exact mTup_ok (mCons_ok (mOp_ok (mOp_ok (mVarB_im rfl) (mVarB_im rfl) (ix_tup (by omega))) (mVarB_im rfl) rfl) (mCons_ok (mOp_ok (mVar_ok rfl) (mVarB_im rfl) (ix_tup (by omega))) (mCons_ok (mVar_ok rfl) mNil_ok))) rfl
  have hmin := rows_pick ws ps left ws.length
  have er : (((List.range ws.length).filter (may ws ps left)).map fun i => D.tup ((rowK ws ps i).map .int)) = (((List.range ws.length).filter (may ws ps left)).map (rowK ws ps)).map fun r => D.tup (r.map D.int) := by
    rw [List.map_map]; rfl
  rw [er] at hrows
  unfold ph_good_for pick
  generalize ((List.range ws.length).filter (may ws ps left)).map (rowK ws ps) = rows at hrows hmin
  cases hk : pickK ws ps left ws.length with
  | none =>
    rw [hk] at hmin
    have e : rows = [] := by
      cases rows with
      | nil => rfl
      | cons x xs =>
        have l := (argBest_congr (bt := fun i j => lexL ((x :: xs).getD i []) ((x :: xs).getD j [])) (bt' := fun i j => lexL ((x :: xs).getD i []) ((x :: xs).getD j [])) xs.length fun _ _ _ _ => rfl).2
        unfold minRow at hmin
        have e' : (x :: xs).length - 1 = xs.length := by simp
        rw [e', List.getElem?_eq_getElem (Nat.lt_succ_of_le l)] at hmin
        cases hmin
    subst e
    apply phi_rt
    · rw [e0]
      refine mSeq_nx (mAsg_ok (mFr_ok hrows) rfl) ?_
      exact mSeq_rt (mIfS_t (mTNot_ok (mbind_ok (mVarB_im rfl) (mlift_ok rfl))) (mRet_ok mret_ok))
  | some b =>
    rw [hk] at hmin
    have e : ∃ x xs, rows = x :: xs := by
      cases rows with
      | nil => cases hmin
      | cons x xs => exact ⟨x, xs, rfl⟩
    obtain ⟨x, xs, rfl⟩ := e
    apply phi_rt
    · rw [e0]
      refine mSeq_nx (mAsg_ok (mFr_ok hrows) rfl) ?_
      refine mSeq_nx (mIfS_f (mTNot_ok (mbind_ok (mVarB_im rfl) (mlift_ok rfl))) rfl) ?_
      refine mRet_ok (mOp_ok (x := .tup ((rowK ws ps b).map .int)) (mbind_ok (mCons_ok (mVar_ok rfl) mNil_ok) (mlift_ok ?_)) mret_ok rfl)
      dsimp only
      rw [unR_map, Option.bind_some, hmin]
      rfl
end Pr

set_option Elab.async false
set_option linter.all false
set_option maxRecDepth 100000
set_option maxHeartbeats 400000
/-! M5: a day -/
namespace Pr
open PySem PySem.Spec PyProof.Rows L2 Fw
def take1 (left : List Int) : Option Nat → List Int
  | some i => left.set i (left.getD i 0 - 1)
  | none => left
/-- what one that comes on the day takes of what is left -/
def choice (ps : List Int) (d : Int) (b : Bu) (left : List Int) : Option Nat := if d % b.every = b.first then pick b.worths ps left else none
def b0 : Bu := ⟨1, 0, []⟩
section
variable (m : Mk) (ps : List Int) (d : Int)
/-- what is left behind the first k buyers -/
def leftK : Nat → List Int
  | 0 => m.ss.map Se.stock
  | k + 1 => take1 (leftK k) (choice ps d (m.bs.getD k b0) (leftK k))
def goodK (k : Nat) : Option Nat := choice ps d (m.bs.getD k b0) (leftK m ps d k)
def bought : List (Option Nat) := (List.range m.bs.length).map (goodK m ps d)
def leftE : List Int := leftK m ps d m.bs.length
def se0 : Se := ⟨0, 1, 0, 0, 0, 0⟩
def behindL : List Int := (List.range m.ss.length).map fun i => behind (m.ss.getD i se0) (ps.getD i 0) ((leftE m ps d).getD i 0)
theorem leftK_len : ∀ k, (leftK m ps d k).length = m.ss.length
  | 0 => by simp [leftK]
  | k + 1 => by
    unfold leftK take1
    split
    · rw [List.length_set]; exact leftK_len k
    · exact leftK_len k
theorem behindL_len : (behindL m ps d).length = m.ss.length := by simp [behindL]
/-- the day's answer -/
def dDay : D := .tup [.lst ((bought m ps d).map dOpt), dInts (behindL m ps d)]
end
theorem enum_map {α : Type} (l : List α) (a0 : α) (f : α → D) : enumD 0 (l.map f) = (List.range l.length).map fun i => D.tup [.int (i : Nat), f (l.getD i a0)] := by
  apply List.ext_getElem?
  intro i
  by_cases hi : i < l.length
  · have h1 : i < (enumD 0 (l.map f)).length := by rw [enumD_length, List.length_map]; exact hi
    obtain ⟨d', hd, e⟩ := enumD_get 0 (l.map f) i _ (List.getElem?_eq_getElem h1)
    rw [List.getElem?_eq_getElem h1, e]
    rw [List.getElem?_map, List.getElem?_eq_getElem hi] at hd
    cases hd
    rw [List.getElem?_map, List.getElem?_range hi]
    simp [List.getD_eq_getElem?_getD, List.getElem?_eq_getElem hi]
  · rw [List.getElem?_eq_none (by rw [enumD_length, List.length_map]; omega), List.getElem?_eq_none (by rw [List.length_map, List.length_range]; omega)]
theorem dEq_int (a b : Int) : dEq (.int a) (.int b) = some (.bl (decide (a = b))) := by simp [dEq, scD]
theorem mod_ok {a b : Int} (h : 0 < b) : dMod (.int a) (.int b) = some (.int (a % b)) := by simp [dMod, dIIc, h]
theorem getD_get {α : Type} {l : List α} {i : Nat} {x a0 : α} (h : l[i]? = some x) : l.getD i a0 = x := by rw [List.getD_eq_getElem?_getD, h]; rfl
/-- xs[k] -= 1 -/
theorem aug_sub {ρ : List Sl} {g : G} {i j k : Nat} {l : List Int} (hl : ρ[i]? = some (.ow (.lst (l.map .int)))) (hj : ρ[j]? = some (.im (.int (k : Int)))) (hk : k < l.length) :
    mAugI (fun i j => i - j) i (mVarB j) (mret (.int 1)) ρ g = some (.nx, ρ.set i (.ow (.lst ((l.set k (l.getD k 0 - 1)).map .int))), g) := by
  have e : (l.map D.int)[k]? = some (.int (l.getD k 0)) := by simp [List.getElem?_eq_getElem hk, List.getD_eq_getElem?_getD]
  unfold mAugI
  rw [hl]
  unfold getOw
  dsimp only
  rw [mVarB_im hj]
  dsimp only
  have e2 : (asI (D.int (k : Int))).bind (fun k => if 0 ≤ k then ((l.map D.int)[k.toNat]?.bind asI).map fun o => (k.toNat, o) else none) = some (k, l.getD k 0) := by
    simp only [asI, Option.bind_some]
    rw [if_pos (by omega), Int.toNat_natCast, e]
    rfl
  rw [e2]
  dsimp only
  unfold mret
  dsimp only
  simp only [asI]
  rw [List.map_set]
section
variable (m : Mk) (ps : List Int) (d : Int)
def slotG (k : Nat) : Sl := if k = 0 then .no else .im (dOpt (goodK m ps d (k - 1)))
def stD (g : G) (k : Nat) : List Sl × G := ([.im (dMk m), .im (dInts ps), .im (.int d), .ow (.lst ((leftK m ps d k).map .int)), .ow (.lst (((List.range k).map (goodK m ps d)).map dOpt)), .no, .no, .im (.tup (m.ss.map dSe)), .im (.tup (m.bs.map dBu)), slotG m ps d k, .no], g)
theorem comes_ok (b : Bu) (h : 1 ≤ b.every) (g : G) : ph_comes [dBu b, .int d] g = some (.ok (.bl (decide (d % b.every = b.first))), g) := by
  have e0 : start0 5 [dBu b, .int d] = [.im (dBu b), .im (.int d), .no, .no, .no] := by
    unfold start0
    rw [List.map_cons, sl_im (by have := lf_ints b.worths; simp only [dInts, D.lf] at this; simp [dBu, dInts, D.lf, D.lf.lfs, this])]
    rfl
  unfold ph_comes
  apply phi_rt
  · rw [e0]
    refine mSeq_nx (mAsg_ok (mVar_ok rfl) rfl) ?_
    exact mRet_ok (mOp_ok (mOp_ok (mVarB_im rfl) (mVarB_im rfl) (mod_ok (by omega))) (mVarB_im rfl) (dEq_int _ _))
theorem day_done_ok (h : m.Ok) (hp : ps.length = m.ss.length) (g : G) : ph_day_done [dMk m, dInts ps, .int d] g = some (.ok (dDay m ps d), g) := by
  have h4 := h.s4
  have h6 := h.b6
  have e0 : start0 11 [dMk m, dInts ps, .int d] = [.im (dMk m), .im (dInts ps), .im (.int d), .no, .no, .no, .no, .no, .no, .no, .no] := by
    unfold start0
    rw [List.map_cons, List.map_cons, sl_im (lf_mk m), sl_im (lf_ints ps)]
    rfl
  unfold ph_day_done
  apply phi_rt
  · rw [e0]
    refine mSeq_nx (mAsg_ok (mVar_ok rfl) rfl) ?_
    refine mSeq_nx (mOwn_ok (l := (m.ss.map Se.stock).map D.int) (mLc_ok (mItT_ok (mVar_ok rfl)) (small_of (by rw [List.length_map]; omega)) ((lcGo_map (fun s : Se => D.int s.stock) dSe m.ss g fun s _ => ⟨_, rfl, rfl, mOp_ok (mVar_ok rfl) mret_ok rfl⟩).trans (by rw [List.map_map]; rfl))) (by show 3 < 11; decide)) ?_
    refine mSeq_nx (mOwn_ok (mLst_ok mNil_ok rfl) (by show 4 < 11; decide)) ?_
    refine mSeq_nx (mFor_ok (mItT_ok (mVar_ok rfl)) (forGo_nx (S := stD m ps d g) _ 0 fun j e he => ?_)) ?_
    · rw [Nat.zero_add]
      rw [List.getElem?_map] at he
      obtain ⟨b, hb, rfl⟩ := Option.map_eq_some_iff.mp he
      have hj : j < m.bs.length := (List.getElem?_eq_some_iff.mp hb).1
      have ok := h.b b (List.mem_of_getElem? hb)
      have eb : m.bs.getD j b0 = b := getD_get hb
      have hll := leftK_len m ps d j
      refine ⟨_, rfl, .inl ?_⟩
      -- good = None, then what it takes
      have body : ∀ (ρ : List Sl), ρ = [.im (dMk m), .im (dInts ps), .im (.int d), .ow (.lst ((leftK m ps d j).map .int)), .ow (.lst (((List.range j).map (goodK m ps d)).map dOpt)), .im (dBu b), .no, .im (.tup (m.ss.map dSe)), .im (.tup (m.bs.map dBu)), .im .non, .no] →
          mIfS (mB (mCall0 2 ph_comes (mCons (mVarB 5) (mCons (mVarB 2) mNil)))) (mAsg (mCall0 3 ph_good_for (mCons (mOp dIx (mVarB 5) (mret (.int 2))) (mCons (mVarB 1) (mCons (mVarB 3) mNil)))) (bName 9)) mNx ρ g = some (.nx, ρ.set 9 (.im (dOpt (goodK m ps d j))), g) := fun ρ hρ => by
        subst hρ
        unfold goodK choice
        rw [eb]
        by_cases hd : d % b.every = b.first
        · rw [if_pos hd]
          refine mIfS_t (mB_ok (mCall0_ok (mCons_ok (mVarB_im rfl) (mCons_ok (mVarB_im rfl) mNil_ok)) rfl ((comes_ok d b ok.e1 g).trans (by rw [decide_eq_true hd])))) ?_
          exact mAsg_ok (mCall0_ok (mCons_ok (mOp_ok (mVarB_im rfl) mret_ok rfl) (mCons_ok (mVarB_im rfl) (mCons_ok (mVarB_ow rfl) mNil_ok))) rfl (good_for_ok b.worths ps (leftK m ps d j) (by rw [hp, ok.len]) (by rw [hll, ok.len]) (by rw [ok.len]; exact h4) g)) rfl
        · rw [if_neg hd]
          exact mIfS_f (mB_ok (mCall0_ok (mCons_ok (mVarB_im rfl) (mCons_ok (mVarB_im rfl) mNil_ok)) rfl ((comes_ok d b ok.e1 g).trans (by rw [decide_eq_false hd])))) rfl
      have sg : slotG m ps d (j + 1) = .im (dOpt (goodK m ps d j)) := by unfold slotG; rw [if_neg (by omega)]; rfl
      have er : ((List.range (j + 1)).map (goodK m ps d)).map dOpt = ((List.range j).map (goodK m ps d)).map dOpt ++ [dOpt (goodK m ps d j)] := by rw [List.range_succ]; simp
      have e1 : leftK m ps d (j + 1) = take1 (leftK m ps d j) (goodK m ps d j) := rfl
      have hfin : stD m ps d g (j + 1) = ([.im (dMk m), .im (dInts ps), .im (.int d), .ow (.lst ((take1 (leftK m ps d j) (goodK m ps d j)).map .int)), .ow (.lst (((List.range j).map (goodK m ps d)).map dOpt ++ [dOpt (goodK m ps d j)])), .no, .no, .im (.tup (m.ss.map dSe)), .im (.tup (m.bs.map dBu)), .im (dOpt (goodK m ps d j)), .no], g) := by
        unfold stD; rw [sg, er, e1]
      rw [hfin]
      refine mFgE_nx (ρ1 := [.im (dMk m), .im (dInts ps), .im (.int d), .ow (.lst ((take1 (leftK m ps d j) (goodK m ps d j)).map .int)), .ow (.lst (((List.range j).map (goodK m ps d)).map dOpt ++ [dOpt (goodK m ps d j)])), .im (dBu b), .no, .im (.tup (m.ss.map dSe)), .im (.tup (m.bs.map dBu)), .im (dOpt (goodK m ps d j)), .no]) ?_
      refine mSeq_nx (mAsg_ok mret_ok rfl) ?_
      refine mSeq_nx (body _ rfl) ?_
      cases hg : goodK m ps d j with
      | none =>
        refine mSeq_nx (mIfS_f (mB_ok (mOp_ok (mVarB_im rfl) mret_ok rfl)) rfl) ?_
        exact mApp_ok rfl (mVar_ok rfl) (small_of (by simp; omega))
      | some i =>
        have hi : i < (leftK m ps d j).length := by
          rw [hll]
          unfold goodK choice at hg
          rw [eb] at hg
          split at hg
          · have := (pickK_lt _ _ _ _ _ hg).1
            rw [ok.len] at this; exact this
          · cases hg
        refine mSeq_nx (mIfS_t (mB_ok (mOp_ok (mVarB_im rfl) mret_ok rfl)) (aug_sub rfl rfl hi)) ?_
        exact mApp_ok rfl (mVar_ok rfl) (small_of (by simp; omega))
    · rw [Nat.zero_add, List.length_map]
      have hL := leftK_len m ps d m.bs.length
      refine mFree_ok rfl (mFree_ok rfl ?_)
      refine mSeq_nx (g1 := g) (mAsg_ok (mFr_ok (l := (behindL m ps d).map .int) (mLc_ok (mEnum_t (mCons_ok (mVar_ok rfl) mNil_ok)) (small_of (by rw [enumD_length, List.length_map]; omega)) ?_)) rfl) ?_
      · rw [enum_map m.ss se0 dSe]
        refine (lcGo_map (fun i : Nat => D.int (behind (m.ss.getD i se0) (ps.getD i 0) ((leftE m ps d).getD i 0))) _ (List.range m.ss.length) g fun i hi => ?_).trans ?_
        · have hi := List.mem_range.mp hi
          exact ⟨_, rfl, rfl, mCall0_ok (mCons_ok (mVarB_im rfl) (mCons_ok (mOp_ok (mVarB_im rfl) (mVarB_im rfl) (ix_tup (by omega))) (mCons_ok (mOp_ok (mVarB_im rfl) (mVarB_im rfl) (ix_lst (by omega))) mNil_ok))) rfl (price_behind_ok _ _ _ g)⟩
        · unfold behindL; rw [List.map_map]; rfl
      · exact mRet_ok (mTup_ok (mCons_ok (mVar_ok rfl) (mCons_ok (mTupOf_l (mCons_ok (mVar_ok rfl) mNil_ok)) mNil_ok)) rfl)
end
end Pr

set_option Elab.async false
set_option linter.all false
set_option maxRecDepth 100000
set_option maxHeartbeats 400000
/-! M6: the other day: the same answer -/
namespace Pr
open PySem PySem.Spec PyProof.Rows L2 Fw
theorem par2_ow {m1 m2 : MV (List D)} {ρ : List Sl} {g g1 g2 : G} {l1 l2 : List D} {i j : Nat} (h1 : m1 ρ g = some (.ok l1, g1)) (h2 : m2 ρ g1 = some (.ok l2, g2)) (hi : i < ρ.length) (hj : j < ρ.length) :
    mPar [.ow m1, .ow m2] [i, j] ρ g = some (.nx, (ρ.set i (.ow (.lst l1))).set j (.ow (.lst l2)), g2) := by
  show parGo ρ [.ow m1, .ow m2] [i, j] ρ g = _
  unfold parGo
  rw [h1]; dsimp only
  rw [if_pos hi]
  unfold parGo
  rw [h2]; dsimp only
  rw [if_pos (by rw [List.length_set]; exact hj)]
  rfl
theorem at_map {α : Type} {l : List α} {f : α → D} {i : Nat} {a0 : α} (h : i < l.length) : dIx (.tup (l.map f)) (.int (i : Int)) = some (f (l.getD i a0)) := by
  show atI (l.map f) (i : Int) = _
  unfold atI ixN
  rw [if_pos (by omega), if_pos (by simpa using h)]
  simp [List.getElem?_eq_getElem h, List.getD_eq_getElem?_getD]
theorem set_sub {ρ : List Sl} {g : G} {i j k : Nat} {l : List Int} (hl : ρ[i]? = some (.ow (.lst (l.map .int)))) (hj : ρ[j]? = some (.im (.int (k : Int)))) (hk : k < l.length) :
    mSetI i (mVarB j) (mOp dSub (mOp dIx (mVarB i) (mVarB j)) (mret (.int 1))) ρ g = some (.nx, ρ.set i (.ow (.lst ((l.set k (l.getD k 0 - 1)).map .int))), g) := by
  have e : mOp dSub (mOp dIx (mVarB i) (mVarB j)) (mret (.int 1)) ρ g = some (.ok (.int (l.getD k 0 - 1)), g) := mOp_ok (mOp_ok (mVarB_ow hl) (mVarB_im hj) (ix_lst hk)) mret_ok rfl
  have e2 : (asI (D.int (k : Int))).bind (ixN (l.map D.int).length) = some k := by
    show ixN _ _ = _
    unfold ixN
    rw [if_pos (by omega), if_pos (by simpa using hk)]
    simp
  unfold mSetI
  rw [e]; dsimp only
  rw [hl]
  unfold getOw
  dsimp only
  rw [mVarB_im hj]; dsimp only
  rw [e2]; dsimp only
  rw [List.map_set]
theorem rngD_nat {n i : Nat} {d : D} (h : (rngD 0 n)[i]? = some d) : d = .int (i : Int) ∧ i < n := by
  unfold rngD at h
  rw [List.getElem?_map] at h
  obtain ⟨j, hj, rfl⟩ := Option.map_eq_some_iff.mp h
  have hi : i < n := by
    have := (List.getElem?_eq_some_iff.mp hj).1
    simpa using this
  rw [List.getElem?_range hi] at hj
  cases hj
  exact ⟨by simp, hi⟩
theorem len_rng {l : List D} {ms : MV (List D)} {ρ : List Sl} {g : G} (h : ms ρ g = some (.ok [.int (l.length : Nat)], g)) (hl : l.length ≤ 1000000) : mRng1 ms ρ g = some (.ok (rngD 0 l.length), g) := by
  have := mRng1_ok h (by unfold bigI; exact decide_eq_true (by constructor <;> omega))
  rw [Int.toNat_natCast] at this
  exact this
section
variable (ws ps left : List Int)
/-- one good looked at -/
theorem scan_one (hp : ps.length = ws.length) (hl : left.length = ws.length) {k : Nat} (hk : k < ws.length) (g : G) (a0 a2 a3 a6 a7 a8 x11 x12 x13 x14 x15 x16 x17 : Sl) :
    mFgE [4, 18, 19] (mSeq (mAsg (mOp dSub (mOp dIx (mVarB 9) (mVarB 4)) (mOp dIx (mVarB 1) (mVarB 4))) (bName 18))
    (mIfS (mTAnd (mB (mOp dGt (mOp dIx (mVarB 5) (mVarB 4)) (mret (.int 0)))) (mB (mOp dGe (mVarB 18) (mret (.int 0))))) (mSeq (mAsg (mIf (mB (mOp dIsN2 (mVarB 10) (mret .non))) (mret .non) (mOp dSub (mOp dIx (mVarB 9) (mVarB 10)) (mOp dIx (mVarB 1) (mVarB 10)))) (bName 19))
    (mIfS (mTOr (mB (mOp dIsN2 (mVarB 10) (mret .non))) (mTOr (mB (mOp dGt (mVarB 18) (mVarB 19))) (mTAnd (mB (mOp dEq (mVarB 18) (mVarB 19))) (mB (mOp dLt (mOp dIx (mVarB 1) (mVarB 4)) (mOp dIx (mVarB 1) (mVarB 10))))))) (mAsg (mVar 4) (bName 10)) mNx)) mNx))
    [a0, .im (dInts ps), a2, a3, .im (.int (k : Int)), .ow (.lst (left.map .int)), a6, a7, a8, .im (dInts ws), .im (dOpt (pickK ws ps left k)), x11, x12, x13, x14, x15, x16, x17, .no, .no] g
    = some (.nx, [a0, .im (dInts ps), a2, a3, .no, .ow (.lst (left.map .int)), a6, a7, a8, .im (dInts ws), .im (dOpt (pickK ws ps left (k + 1))), x11, x12, x13, x14, x15, x16, x17, .no, .no], g) := by
  have e18 : (ws.getD k 0 - ps.getD k 0 ≥ 0) ↔ ps.getD k 0 ≤ ws.getD k 0 := by constructor <;> intro h <;> omega
  have hm : may ws ps left k = (decide (0 < left.getD k 0) && decide (0 ≤ ws.getD k 0 - ps.getD k 0)) := by
    unfold may
    congr 1
    exact decide_eq_decide.mpr e18.symm
  have tst : ∀ {ρ : List Sl}, ρ[5]? = some (.ow (.lst (left.map .int))) → ρ[4]? = some (.im (.int (k : Int))) → ρ[18]? = some (.im (.int (ws.getD k 0 - ps.getD k 0))) → mTAnd (mB (mOp dGt (mOp dIx (mVarB 5) (mVarB 4)) (mret (.int 0)))) (mB (mOp dGe (mVarB 18) (mret (.int 0)))) ρ g = some (.ok (may ws ps left k), g) := fun h5 h4 h18 => by
    rw [hm]
    exact mTAnd_ok (mB_ok (mOp_ok (mOp_ok (mVarB_ow h5) (mVarB_im h4) (ix_lst (by omega))) mret_ok rfl)) (mB_ok (mOp_ok (mVarB_im h18) mret_ok rfl)) rfl
  have eK : pickK ws ps left (k + 1) = if may ws ps left k = true then (match pickK ws ps left k with
    | none => some k
    | some b => if better ws ps k b = true then some k else some b) else pickK ws ps left k := rfl
  rw [eK]
  by_cases hmay : may ws ps left k = true
  · rw [if_pos hmay]
    cases hp0 : pickK ws ps left k with
    | none =>
      exact mFgE_nx (mSeq_nx (mAsg_ok (mOp_ok (mOp_ok (mVarB_im rfl) (mVarB_im rfl) (ix_tup hk)) (mOp_ok (mVarB_im rfl) (mVarB_im rfl) (ix_tup (by omega))) rfl) rfl) (mIfS_t ((tst rfl rfl rfl).trans (by rw [hmay])) (mSeq_nx (mAsg_ok (mIf_t (mB_ok (mOp_ok (mVarB_im rfl) mret_ok rfl)) mret_ok) rfl) (mIfS_t (mTOr_t (mB_ok (mOp_ok (mVarB_im rfl) mret_ok rfl))) (mAsg_ok (mVar_ok rfl) rfl))))) rfl
    | some b =>
      have hb := (pickK_lt ws ps left k b hp0).1
      dsimp only
      have e19 : ∀ {ρ : List Sl}, ρ[18]? = some (.im (.int (ws.getD k 0 - ps.getD k 0))) → ρ[19]? = some (.im (.int (ws.getD b 0 - ps.getD b 0))) → ρ[10]? = some (.im (.int (b : Int))) → ρ[4]? = some (.im (.int (k : Int))) → ρ[1]? = some (.im (dInts ps)) →
          mTOr (mB (mOp dIsN2 (mVarB 10) (mret .non))) (mTOr (mB (mOp dGt (mVarB 18) (mVarB 19))) (mTAnd (mB (mOp dEq (mVarB 18) (mVarB 19))) (mB (mOp dLt (mOp dIx (mVarB 1) (mVarB 4)) (mOp dIx (mVarB 1) (mVarB 10)))))) ρ g = some (.ok (better ws ps k b), g) := fun h18 h19 h10 h4 h1 => by
        refine mTOr_f (mB_ok (mOp_ok (mVarB_im h10) mret_ok rfl)) ?_
        exact mTOr_ok (mB_ok (mOp_ok (mVarB_im h18) (mVarB_im h19) rfl)) (mTAnd_ok (mB_ok (mOp_ok (mVarB_im h18) (mVarB_im h19) (dEq_int _ _))) (mB_ok (mOp_ok (mOp_ok (mVarB_im h1) (mVarB_im h4) (ix_tup (by omega))) (mOp_ok (mVarB_im h1) (mVarB_im h10) (ix_tup (by omega))) rfl)) rfl) rfl
      by_cases hbt : better ws ps k b = true
      · rw [if_pos hbt]
        exact mFgE_nx (mSeq_nx (mAsg_ok (mOp_ok (mOp_ok (mVarB_im rfl) (mVarB_im rfl) (ix_tup hk)) (mOp_ok (mVarB_im rfl) (mVarB_im rfl) (ix_tup (by omega))) rfl) rfl) (mIfS_t ((tst rfl rfl rfl).trans (by rw [hmay])) (mSeq_nx (mAsg_ok (mIf_f (mB_ok (mOp_ok (mVarB_im rfl) mret_ok rfl)) (mOp_ok (mOp_ok (mVarB_im rfl) (mVarB_im rfl) (ix_tup (by omega))) (mOp_ok (mVarB_im rfl) (mVarB_im rfl) (ix_tup (by omega))) rfl)) rfl) (mIfS_t ((e19 rfl rfl rfl rfl rfl).trans (by rw [hbt])) (mAsg_ok (mVar_ok rfl) rfl))))) rfl
      · rw [if_neg hbt]
        exact mFgE_nx (mSeq_nx (mAsg_ok (mOp_ok (mOp_ok (mVarB_im rfl) (mVarB_im rfl) (ix_tup hk)) (mOp_ok (mVarB_im rfl) (mVarB_im rfl) (ix_tup (by omega))) rfl) rfl) (mIfS_t ((tst rfl rfl rfl).trans (by rw [hmay])) (mSeq_nx (mAsg_ok (mIf_f (mB_ok (mOp_ok (mVarB_im rfl) mret_ok rfl)) (mOp_ok (mOp_ok (mVarB_im rfl) (mVarB_im rfl) (ix_tup (by omega))) (mOp_ok (mVarB_im rfl) (mVarB_im rfl) (ix_tup (by omega))) rfl)) rfl) (mIfS_f ((e19 rfl rfl rfl rfl rfl).trans (by rw [Bool.eq_false_iff.mpr hbt])) rfl)))) rfl
  · rw [if_neg hmay]
    exact mFgE_nx (mSeq_nx (mAsg_ok (mOp_ok (mOp_ok (mVarB_im rfl) (mVarB_im rfl) (ix_tup hk)) (mOp_ok (mVarB_im rfl) (mVarB_im rfl) (ix_tup (by omega))) rfl) rfl) (mIfS_f ((tst rfl rfl rfl).trans (by rw [Bool.eq_false_iff.mpr hmay])) rfl)) rfl
end
end Pr

set_option Elab.async false
set_option linter.all false
set_option maxRecDepth 100000
set_option maxHeartbeats 400000
/-! M7: the other day, whole -/
namespace Pr
open PySem PySem.Spec PyProof.Rows L2 Fw
section
variable (m : Mk) (ps : List Int) (d : Int)
def stL (g : G) (k : Nat) : List Sl × G := ([.im (dMk m), .im (dInts ps), .im (.int d), .no, .no, .ow (.lst ((leftK m ps d k).map .int)), .ow (.lst (((List.range k).map (goodK m ps d)).map dOpt)), .no, .no, .no, .no, .no, .no, .no, .no, .no, .no, .no, .no, .no], g)
def stN (g : G) (k : Nat) : List Sl × G := ([.im (dMk m), .im (dInts ps), .im (.int d), .ow (.lst (((List.range k).map fun i => behind (m.ss.getD i se0) (ps.getD i 0) ((leftE m ps d).getD i 0)).map .int)), .no, .im (.lst ((leftE m ps d).map .int)), .im (.lst ((bought m ps d).map dOpt)), .no, .no, .no, .no, .no, .no, .no, .no, .no, .no, .no, .no, .no], g)
theorem law_day_ok (h : m.Ok) (hp : ps.length = m.ss.length) (g : G) : ph__law_day [dMk m, dInts ps, .int d] g = some (.ok (dDay m ps d), g) := by
  have h4 := h.s4
  have h6 := h.b6
  have e0 : start0 20 [dMk m, dInts ps, .int d] = [.im (dMk m), .im (dInts ps), .im (.int d), .no, .no, .no, .no, .no, .no, .no, .no, .no, .no, .no, .no, .no, .no, .no, .no, .no] := by
    unfold start0
    rw [List.map_cons, List.map_cons, sl_im (lf_mk m), sl_im (lf_ints ps)]
    rfl
  unfold ph__law_day
  apply phi_rt
  · rw [e0]
    refine mSeq_nx (par2_ow (l1 := (m.ss.map Se.stock).map D.int) (mLc_ok (mItT_ok (mOp_ok (mVar_ok rfl) mret_ok rfl)) (small_of (by rw [List.length_map]; omega)) ((lcGo_map (fun s : Se => D.int s.stock) dSe m.ss g fun s _ => ⟨_, rfl, rfl, mOp_ok (mVar_ok rfl) mret_ok rfl⟩).trans (by rw [List.map_map]; rfl))) (mLst_ok mNil_ok rfl) (by show 5 < 20; decide) (by show 6 < 20; decide)) ?_
    refine mSeq_nx (mFor_ok (mItT_ok (mOp_ok (mVar_ok rfl) mret_ok rfl)) (forGo_nx (S := stL m ps d g) _ 0 fun j e he => ?_)) ?_
    · rw [Nat.zero_add]
      rw [List.getElem?_map] at he
      obtain ⟨b, hb, rfl⟩ := Option.map_eq_some_iff.mp he
      have hj : j < m.bs.length := (List.getElem?_eq_some_iff.mp hb).1
      have ok := h.b b (List.mem_of_getElem? hb)
      have eb : m.bs.getD j b0 = b := getD_get hb
      have hll := leftK_len m ps d j
      refine ⟨_, rfl, .inl ?_⟩
      have body : mIfS (mB (mOp dEq (mOp dMod (mVarB 2) (mVarB 7)) (mVarB 8))) (mFor (mRng1 (mCons (mCB fLen (mCons (mVarB 9) mNil)) mNil)) (bName 4) (mFgE [4, 18, 19] (mSeq (mAsg (mOp dSub (mOp dIx (mVarB 9) (mVarB 4)) (mOp dIx (mVarB 1) (mVarB 4))) (bName 18))
    (mIfS (mTAnd (mB (mOp dGt (mOp dIx (mVarB 5) (mVarB 4)) (mret (.int 0)))) (mB (mOp dGe (mVarB 18) (mret (.int 0))))) (mSeq (mAsg (mIf (mB (mOp dIsN2 (mVarB 10) (mret .non))) (mret .non) (mOp dSub (mOp dIx (mVarB 9) (mVarB 10)) (mOp dIx (mVarB 1) (mVarB 10)))) (bName 19))
    (mIfS (mTOr (mB (mOp dIsN2 (mVarB 10) (mret .non))) (mTOr (mB (mOp dGt (mVarB 18) (mVarB 19))) (mTAnd (mB (mOp dEq (mVarB 18) (mVarB 19))) (mB (mOp dLt (mOp dIx (mVarB 1) (mVarB 4)) (mOp dIx (mVarB 1) (mVarB 10))))))) (mAsg (mVar 4) (bName 10)) mNx)) mNx)))) mNx
          [.im (dMk m), .im (dInts ps), .im (.int d), .no, .no, .ow (.lst ((leftK m ps d j).map .int)), .ow (.lst (((List.range j).map (goodK m ps d)).map dOpt)), .im (.int b.every), .im (.int b.first), .im (dInts b.worths), .im .non, .no, .no, .no, .no, .no, .no, .no, .no, .no] g
          = some (.nx, [.im (dMk m), .im (dInts ps), .im (.int d), .no, .no, .ow (.lst ((leftK m ps d j).map .int)), .ow (.lst (((List.range j).map (goodK m ps d)).map dOpt)), .im (.int b.every), .im (.int b.first), .im (dInts b.worths), .im (dOpt (goodK m ps d j)), .no, .no, .no, .no, .no, .no, .no, .no, .no], g) := by
        unfold goodK choice
        rw [eb]
        by_cases hd : d % b.every = b.first
        · rw [if_pos hd]
          refine mIfS_t (mB_ok (mOp_ok (mOp_ok (mVarB_im rfl) (mVarB_im rfl) (mod_ok (by have := ok.e1; omega))) (mVarB_im rfl) (by rw [dEq_int, decide_eq_true hd]))) ?_
          have el : fLen [dInts b.worths] = some (.int (b.worths.length : Nat)) := by simp [fLen, dInts]
          refine mFor_ok ((mRng1_ok (mCons_ok (mCB_ok (mCons_ok (mVarB_im rfl) mNil_ok) el) mNil_ok) (by unfold bigI; have := ok.len; exact decide_eq_true (by constructor <;> omega))).trans (by rw [Int.toNat_natCast])) ?_
          refine (forGo_nx (S := fun k => ([.im (dMk m), .im (dInts ps), .im (.int d), .no, .no, .ow (.lst ((leftK m ps d j).map .int)), .ow (.lst (((List.range j).map (goodK m ps d)).map dOpt)), .im (.int b.every), .im (.int b.first), .im (dInts b.worths), .im (dOpt (pickK b.worths ps (leftK m ps d j) k)), .no, .no, .no, .no, .no, .no, .no, .no, .no], g)) (rngD 0 b.worths.length) 0 fun k e he => ?_).trans ?_
          · obtain ⟨rfl, hk⟩ := rngD_nat he
            rw [Nat.zero_add]
            exact ⟨_, rfl, .inl (scan_one b.worths ps (leftK m ps d j) (by rw [hp, ok.len]) (by rw [hll, ok.len]) hk g _ _ _ _ _ _ _ _ _ _ _ _ _)⟩
          · rw [Nat.zero_add, rngD, List.length_map, List.length_range]; rfl
        · rw [if_neg hd]
          exact mIfS_f (mB_ok (mOp_ok (mOp_ok (mVarB_im rfl) (mVarB_im rfl) (mod_ok (by have := ok.e1; omega))) (mVarB_im rfl) (by rw [dEq_int, decide_eq_false hd]))) rfl
      have er : ((List.range (j + 1)).map (goodK m ps d)).map dOpt = ((List.range j).map (goodK m ps d)).map dOpt ++ [dOpt (goodK m ps d j)] := by rw [List.range_succ]; simp
      have e1 : leftK m ps d (j + 1) = take1 (leftK m ps d j) (goodK m ps d j) := rfl
      have hfin : stL m ps d g (j + 1) = ([.im (dMk m), .im (dInts ps), .im (.int d), .no, .no, .ow (.lst ((take1 (leftK m ps d j) (goodK m ps d j)).map .int)), .ow (.lst (((List.range j).map (goodK m ps d)).map dOpt ++ [dOpt (goodK m ps d j)])), .no, .no, .no, .no, .no, .no, .no, .no, .no, .no, .no, .no, .no], g) := by
        unfold stL; rw [er, e1]
      rw [hfin]
      refine mFgE_nx (ρ1 := [.im (dMk m), .im (dInts ps), .im (.int d), .no, .no, .ow (.lst ((take1 (leftK m ps d j) (goodK m ps d j)).map .int)), .ow (.lst (((List.range j).map (goodK m ps d)).map dOpt ++ [dOpt (goodK m ps d j)])), .im (.int b.every), .im (.int b.first), .im (dInts b.worths), .im (dOpt (goodK m ps d j)), .no, .no, .no, .no, .no, .no, .no, .no, .no]) ?_
      refine mSeq_nx (mAsg_ok mret_ok rfl) ?_
      refine mSeq_nx body ?_
      cases hg : goodK m ps d j with
      | none =>
        refine mSeq_nx (mIfS_f (mB_ok (mOp_ok (mVarB_im rfl) mret_ok rfl)) rfl) ?_
        exact mApp_ok rfl (mVar_ok rfl) (small_of (by simp; omega))
      | some i =>
        have hi : i < (leftK m ps d j).length := by
          rw [hll]
          unfold goodK choice at hg
          rw [eb] at hg
          split at hg
          · have := (pickK_lt _ _ _ _ _ hg).1
            rw [ok.len] at this; exact this
          · cases hg
        refine mSeq_nx (mIfS_t (mB_ok (mOp_ok (mVarB_im rfl) mret_ok rfl)) (set_sub rfl rfl hi)) ?_
        exact mApp_ok rfl (mVar_ok rfl) (small_of (by simp; omega))
    · rw [Nat.zero_add, List.length_map]
      have hL := leftK_len m ps d m.bs.length
      have hL' : (leftE m ps d).length = m.ss.length := hL
      refine mFree_ok rfl (mFree_ok rfl ?_)
      refine mSeq_nx (mOwn_ok (mLst_ok mNil_ok rfl) (by show 3 < 20; decide)) ?_
      have el : fLen [dInts ps] = some (.int (m.ss.length : Nat)) := by simp [fLen, dInts, hp]
      refine mSeq_nx (mFor_ok ((mRng1_ok (mCons_ok (mCB_ok (mCons_ok (mVarB_im rfl) mNil_ok) el) mNil_ok) (by unfold bigI; exact decide_eq_true (by constructor <;> omega))).trans (by rw [Int.toNat_natCast]; rfl)) (forGo_nx (S := stN m ps d g) (rngD 0 m.ss.length) 0 fun k e he => ?_)) ?_
      · obtain ⟨rfl, hk⟩ := rngD_nat he
        rw [Nat.zero_add]
        refine ⟨_, rfl, .inl ?_⟩
        have er : ((List.range (k + 1)).map fun i => behind (m.ss.getD i se0) (ps.getD i 0) ((leftE m ps d).getD i 0)).map D.int = ((List.range k).map fun i => behind (m.ss.getD i se0) (ps.getD i 0) ((leftE m ps d).getD i 0)).map D.int ++ [.int (behind (m.ss.getD k se0) (ps.getD k 0) ((leftE m ps d).getD k 0))] := by rw [List.range_succ]; simp
        have hfin : stN m ps d g (k + 1) = ([.im (dMk m), .im (dInts ps), .im (.int d), .ow (.lst (((List.range k).map fun i => behind (m.ss.getD i se0) (ps.getD i 0) ((leftE m ps d).getD i 0)).map D.int ++ [.int (behind (m.ss.getD k se0) (ps.getD k 0) ((leftE m ps d).getD k 0))])), .no, .im (.lst ((leftE m ps d).map .int)), .im (.lst ((bought m ps d).map dOpt)), .no, .no, .no, .no, .no, .no, .no, .no, .no, .no, .no, .no, .no], g) := by
          unfold stN; rw [er]
        rw [hfin]
        generalize hs : m.ss.getD k se0 = s
        have ess : dIx (.tup (m.ss.map dSe)) (.int (k : Int)) = some (dSe s) := by rw [← hs]; exact at_map hk
        refine mFgE_nx (ρ1 := [.im (dMk m), .im (dInts ps), .im (.int d), .ow (.lst (((List.range k).map fun i => behind (m.ss.getD i se0) (ps.getD i 0) ((leftE m ps d).getD i 0)).map D.int ++ [.int (behind s (ps.getD k 0) ((leftE m ps d).getD k 0))])), .im (.int (k : Int)), .im (.lst ((leftE m ps d).map .int)), .im (.lst ((bought m ps d).map dOpt)), .no, .no, .no, .no, .im (.int (behind s (ps.getD k 0) ((leftE m ps d).getD k 0))), .im (.int s.stock), .im (.int s.up), .im (.int s.down), .im (.int s.low), .im (.int s.high), .no, .no, .no]) ?_
        refine mSeq_nx (mAsg_ok (mOp_ok (mOp_ok (mVar_ok rfl) mret_ok rfl) (mVarB_im rfl) ess) rfl) ?_
        refine mSeq_nx (mAsg_ok (mOp_ok (mVar_ok rfl) (mVarB_im rfl) (ix_tup (by omega))) rfl) ?_
        have ixl := ix_lst (l := leftE m ps d) (i := k) (by omega)
        unfold behind
        by_cases c0 : (leftE m ps d).getD k 0 = 0
        · rw [if_pos c0]
          refine mSeq_nx (mIfS_t (mB_ok (mOp_ok (mOp_ok (mVarB_im rfl) (mVarB_im rfl) ixl) mret_ok (by rw [dEq_int, decide_eq_true c0]))) (mAsg_ok (d := .int (min s.high (ps.getD k 0 + s.up))) (mCB_ok (mCons_ok (mVarB_im rfl) (mCons_ok (mOp_ok (mVarB_im rfl) (mVarB_im rfl) rfl) mNil_ok)) (by simp [fMin2]; omega)) rfl)) ?_
          exact mApp_ok rfl (mVar_ok rfl) (small_of (by simp; omega))
        · rw [if_neg c0]
          by_cases c1 : (leftE m ps d).getD k 0 = s.stock
          · rw [if_pos c1]
            refine mSeq_nx (mIfS_f (mB_ok (mOp_ok (mOp_ok (mVarB_im rfl) (mVarB_im rfl) ixl) mret_ok (by rw [dEq_int, decide_eq_false c0]))) (mIfS_t (mB_ok (mOp_ok (mOp_ok (mVarB_im rfl) (mVarB_im rfl) ixl) (mVarB_im rfl) (by rw [dEq_int, decide_eq_true c1]))) (mAsg_ok (d := .int (max s.low (ps.getD k 0 - s.down))) (mCB_ok (mCons_ok (mVarB_im rfl) (mCons_ok (mOp_ok (mVarB_im rfl) (mVarB_im rfl) rfl) mNil_ok)) (by simp [fMax2]; omega)) rfl))) ?_
            exact mApp_ok rfl (mVar_ok rfl) (small_of (by simp; omega))
          · rw [if_neg c1]
            refine mSeq_nx (mIfS_f (mB_ok (mOp_ok (mOp_ok (mVarB_im rfl) (mVarB_im rfl) ixl) mret_ok (by rw [dEq_int, decide_eq_false c0]))) (mIfS_f (mB_ok (mOp_ok (mOp_ok (mVarB_im rfl) (mVarB_im rfl) ixl) (mVarB_im rfl) (by rw [dEq_int, decide_eq_false c1]))) rfl)) ?_
            exact mApp_ok rfl (mVar_ok rfl) (small_of (by simp; omega))
      · rw [Nat.zero_add, rngD, List.length_map, List.length_range]
        refine mFree_ok rfl ?_
        exact mRet_ok (mTup_ok (mCons_ok (mVar_ok rfl) (mCons_ok (mTupOf_l (mCons_ok (mVar_ok rfl) mNil_ok)) mNil_ok)) rfl)
end
end Pr

set_option Elab.async false
set_option linter.all false
set_option maxRecDepth 100000
set_option maxHeartbeats 400000
/-! M8: day after day; the walk to where it comes round -/
namespace Pr
open PySem PySem.Spec PyProof.Rows L2 Fw
/-- a while whose rounds lead on -/
theorem whileGo_ok {mt : MV Bool} {body : MSt} {S : Nat → List Sl × G} {n : Nat} (h1 : ∀ k, k < n → mt (S k).1 (S k).2 = some (.ok true, (S k).2) ∧ body (S k).1 (S k).2 = some (.nx, S (k + 1))) (h2 : mt (S n).1 (S n).2 = some (.ok false, (S n).2)) :
    ∀ (j k fu : Nat), k + j = n → j < fu → whileGo mt body fu (S k).1 (S k).2 = some (.nx, S n)
  | 0, k, fu, e, hf => by
    obtain ⟨f, rfl⟩ : ∃ f, fu = f + 1 := ⟨fu - 1, by omega⟩
    have : k = n := by omega
    subst this
    unfold whileGo
    rw [h2]
  | j + 1, k, fu, e, hf => by
    obtain ⟨f, rfl⟩ : ∃ f, fu = f + 1 := ⟨fu - 1, by omega⟩
    obtain ⟨a, b⟩ := h1 k (by omega)
    unfold whileGo
    rw [a]; dsimp only
    rw [b]
    exact whileGo_ok h1 h2 j (k + 1) f (by omega) (by omega)
section
variable (m : Mk)
/-- the prices ahead of day k -/
def prK : Nat → List Int
  | 0 => prices0 m
  | k + 1 => behindL m (prK k) (k : Int)
theorem prK_len : ∀ k, (prK m k).length = m.ss.length
  | 0 => by simp [prK, prices0]
  | k + 1 => by unfold prK; exact behindL_len m _ _
def bgK (k : Nat) : List (Option Nat) := bought m (prK m k) (k : Int)
def keyK (k : Nat) : List KI := [.inr (prK m k), .inl ((k : Int) % 12)]
def keyD (k : Nat) : D := .tup [dInts (prK m k), .int ((k : Int) % 12)]
theorem intsOf_map : ∀ l : List Int, intsOf (l.map D.int) = some l
  | [] => rfl
  | i :: l => by
    show (match D.int i, intsOf (l.map D.int) with
      | .int i, some r => some (i :: r)
      | _, _ => none) = _
    rw [intsOf_map l]
theorem keyOf_K (k : Nat) : Fw.keyOf (keyD m k) = some (keyK m k) := by
  simp [Fw.keyOf, keyD, keyK, kisOf, kiOf, dInts, intsOf_map]
def tellD (k : Nat) : D := .tup [dInts (prK m k), .lst ((bgK m k).map dOpt)]
def toldD (n : Nat) : List D := (List.range n).map (tellD m)
def seenD (v : Nat → D) (n : Nat) : List (List KI × D) := (List.range n).map fun i => (keyK m i, v i)
/-- the n-th state is the first that was there ahead of it: as the f-th -/
structure Rep (n f : Nat) : Prop where
  lt : f < n
  eq : keyK m f = keyK m n
  new : ∀ j, j < n → ∀ i, i < j → keyK m i ≠ keyK m j
theorem dlook_app (a b : List (List KI × D)) (k : List KI) : dlook (a ++ b) k = (match dlook a k with
    | some d => some d
    | none => dlook b k) := by
  induction a with
  | nil => rfl
  | cons x a ih =>
    show (if x.1 = k then some x.2 else dlook (a ++ b) k) = (match (if x.1 = k then some x.2 else dlook a k) with
      | some d => some d
      | none => dlook b k)
    by_cases h : x.1 = k
    · rw [if_pos h, if_pos h]
    · rw [if_neg h, if_neg h]; exact ih
theorem dlook_none {v : Nat → D} {k : List KI} : ∀ n, (∀ i, i < n → keyK m i ≠ k) → dlook (seenD m v n) k = none
  | 0, _ => rfl
  | n + 1, h => by
    unfold seenD
    rw [List.range_succ, List.map_append, dlook_app]
    have := dlook_none (v := v) n fun i hi => h i (by omega)
    unfold seenD at this
    rw [this]
    simp [dlook, h n (by omega)]
theorem dlook_some {v : Nat → D} {k : List KI} {f : Nat} (hf : keyK m f = k) : ∀ n, f < n → (∀ i, i < f → keyK m i ≠ k) → dlook (seenD m v n) k = some (v f)
  | 0, h, _ => by omega
  | n + 1, h, h0 => by
    unfold seenD
    rw [List.range_succ, List.map_append, dlook_app]
    by_cases e : f < n
    · have := dlook_some (v := v) hf n e h0
      unfold seenD at this
      rw [this]
    · have e' : f = n := by omega
      subst e'
      have := dlook_none m (v := v) f h0
      unfold seenD at this
      rw [this]
      simp [dlook, hf]
theorem Rep.find {v : Nat → D} {n f : Nat} (r : Rep m n f) : dlook (seenD m v n) (keyK m n) = some (v f) :=
  dlook_some m r.eq n r.lt fun i hi => by rw [← r.eq]; exact r.new f r.lt i hi
theorem dput_new {v : Nat → D} {n : Nat} (h : ∀ i, i < n → keyK m i ≠ keyK m n) : dput (seenD m v n) (keyK m n) (v n) = seenD m v (n + 1) := by
  unfold dput
  rw [dlook_none m n h]
  unfold seenD
  rw [List.range_succ, List.map_append]
  rfl
theorem mNIn_ok {neg : Bool} {i : Nat} {my : MV D} {ρ : List Sl} {g : G} {d : D} {kvs : List (List KI × D)} {ks : List KI} (h : my ρ g = some (.ok d, g)) (hd : ρ[i]? = some (.ow (.dic kvs))) (hk : Fw.keyOf d = some ks) {c : Bool} (e : (neg != (dlook kvs ks).isSome) = c) : mNIn neg i my ρ g = some (.ok (.bl c), g) := by
  subst e
  unfold mNIn
  rw [h]; dsimp only
  rw [hd, hk]
  rfl
theorem mNGet_ok {i : Nat} {my : MV D} {ρ : List Sl} {g : G} {d z : D} {kvs : List (List KI × D)} {ks : List KI} (h : my ρ g = some (.ok d, g)) (hd : ρ[i]? = some (.ow (.dic kvs))) (hk : Fw.keyOf d = some ks) (e : dlook kvs ks = some z) : mNGet i my ρ g = some (.ok z, g) := by
  unfold mNGet
  rw [hd]
  unfold getDc
  dsimp only
  rw [h]; dsimp only
  rw [hk, Option.bind_some, e]
theorem mNPut_ok {i : Nat} {mk mv : MV D} {ρ : List Sl} {g : G} {d z : D} {kvs kvs' : List (List KI × D)} {ks : List KI} (h : mv ρ g = some (.ok d, g)) (hd : ρ[i]? = some (.ow (.dic kvs))) (h2 : mk ρ g = some (.ok z, g)) (hk : Fw.keyOf z = some ks) (hs : kvs.length ≤ 1000000) (e : dput kvs ks d = kvs') :
    mNPut i mk mv ρ g = some (.nx, ρ.set i (.ow (.dic kvs')), g) := by
  subst e
  unfold mNPut
  rw [h]; dsimp only
  rw [hd]
  unfold getDc
  dsimp only
  rw [h2]; dsimp only
  rw [hk]; dsimp only
  rw [if_pos (small_of hs)]
theorem mDnew_ok {i : Nat} {ρ : List Sl} {g : G} (h : i < ρ.length) : mDnew i ρ g = some (.nx, ρ.set i (.ow (.dic [])), g) := by unfold mDnew; rw [if_pos h]
theorem seenD_len (v : Nat → D) (n : Nat) : (seenD m v n).length = n := by simp [seenD]
theorem toldD_len (n : Nat) : (toldD m n).length = n := by simp [toldD]
theorem toldD_succ (n : Nat) : toldD m (n + 1) = toldD m n ++ [tellD m n] := by simp [toldD, List.range_succ]
def stW (g : G) (k : Nat) : List Sl × G := ([.im (dMk m), .ow (.lst (toldD m k)), .ow (.dic (seenD m (fun i => .int (i : Int)) k)), .im (dInts (prK m k)), .no, .no], g)
theorem walk_ok (h : m.Ok) {n f : Nat} (r : Rep m n f) (hn : n ≤ 5000) (g : G) : ph_walk [dMk m] g = some (.ok (.tup [.lst (toldD m n), .int (f : Int)]), g) := by
  have lenE : ∀ {k : Nat} {ρ : List Sl}, ρ[1]? = some (.ow (.lst (toldD m k))) → mCB fLen (mCons (mVarB 1) mNil) ρ g = some (.ok (.int (k : Int)), g) := fun {k ρ} h1 => mCB_ok (mCons_ok (mVarB_ow h1) mNil_ok) (by simp [fLen, toldD_len])
  have keyE : ∀ {k : Nat} {ρ : List Sl}, ρ[1]? = some (.ow (.lst (toldD m k))) → ρ[3]? = some (.im (dInts (prK m k))) → mTup (mCons (mVarB 3) (mCons (mOp dMod (mCB fLen (mCons (mVarB 1) mNil)) (mret (.int 12))) mNil)) ρ g = some (.ok (keyD m k), g) := fun {k ρ} h1 h3 =>
    mTup_ok (mCons_ok (mVarB_im h3) (mCons_ok (mOp_ok (lenE h1) mret_ok (mod_ok (by decide))) mNil_ok)) rfl
  unfold ph_walk
  apply phi_rt
  · rw [start_mk]
    refine mSeq_nx (mOwn_ok (mLst_ok mNil_ok rfl) (by show 1 < 6; decide)) ?_
    refine mSeq_nx (mDnew_ok (by show 2 < 6; decide)) ?_
    refine mSeq_nx (mAsg_ok (mCall0_ok (mCons_ok (mVarB_im rfl) mNil_ok) rfl (first_prices_ok m h.s4 g)) rfl) ?_
    refine mSeq_nx (whileGo_ok (S := stW m g) (n := n) (fun k hk => ⟨?_, ?_⟩) ?_ n 0 fuel (by omega) (by show n < 1000000; omega)) ?_
    · exact mB_ok (mNIn_ok (keyE rfl rfl) rfl (keyOf_K m k) (by rw [dlook_none m k (r.new k hk)]; rfl))
    · refine mFgE_nx (ρ1 := [.im (dMk m), .ow (.lst (toldD m (k + 1))), .ow (.dic (seenD m (fun i => .int (i : Int)) (k + 1))), .im (dInts (prK m (k + 1))), .im (.lst ((bgK m k).map dOpt)), .im (dInts (prK m (k + 1)))]) ?_
      refine mSeq_nx (mIfS_f (mB_ok (mOp_ok (lenE rfl) mret_ok (by rw [dEq_int, decide_eq_false (by omega)]))) rfl) ?_
      refine mSeq_nx (mNPut_ok (lenE rfl) rfl (keyE rfl rfl) (keyOf_K m k) (by rw [seenD_len]; omega) (dput_new m (v := fun i => .int (i : Int)) (r.new k hk))) ?_
      refine mSeq_nx (mAsg_ok (mCall0_ok (mCons_ok (mVarB_im rfl) (mCons_ok (mVarB_im rfl) (mCons_ok (lenE rfl) mNil_ok))) rfl (day_done_ok m (prK m k) (k : Int) h (prK_len m k) g)) rfl) ?_
      refine mSeq_nx (mApp_ok rfl (mTup_ok (mCons_ok (mVar_ok rfl) (mCons_ok (mVar_ok rfl) mNil_ok)) rfl) (small_of (by rw [toldD_len]; omega))) ?_
      refine (mAsg_ok (mVar_ok rfl) rfl).trans ?_
      rw [toldD_succ]
      rfl
    · exact mB_ok (mNIn_ok (keyE rfl rfl) rfl (keyOf_K m n) (by rw [r.find]; rfl))
    · refine mFree_ok rfl ?_
      have lenE' : ∀ {k : Nat} {ρ : List Sl}, ρ[1]? = some (.im (.lst (toldD m k))) → mCB fLen (mCons (mVarB 1) mNil) ρ g = some (.ok (.int (k : Int)), g) := fun {k ρ} h1 => mCB_ok (mCons_ok (mVarB_im h1) mNil_ok) (by simp [fLen, toldD_len])
      refine mRet_ok (mTup_ok (mCons_ok (mVar_ok rfl) (mCons_ok (mNGet_ok (mTup_ok (mCons_ok (mVarB_im rfl) (mCons_ok (mOp_ok (lenE' rfl) mret_ok (mod_ok (by decide))) mNil_ok)) rfl) rfl (keyOf_K m n) r.find) mNil_ok)) rfl)
end
end Pr

set_option Elab.async false
set_option linter.all false
set_option maxRecDepth 100000
set_option maxHeartbeats 400000
/-! M9: whether it comes round soon; so many days; how often a day is done -/
namespace Pr
open PySem PySem.Spec PyProof.Rows L2 Fw
section
variable (m : Mk)
theorem rep_or : ∀ N, (∃ n f, n < N ∧ Rep m n f) ∨ (∀ j, j < N → ∀ i, i < j → keyK m i ≠ keyK m j)
  | 0 => .inr fun j h => by omega
  | N + 1 => by
    rcases rep_or N with ⟨n, f, h, r⟩ | h
    · exact .inl ⟨n, f, by omega, r⟩
    · by_cases e : ∃ i, i < N ∧ keyK m i = keyK m N
      · obtain ⟨i, hi, e⟩ := e
        exact .inl ⟨N, i, by omega, hi, e, h⟩
      · refine .inr fun j hj i hij => ?_
        by_cases q : j < N
        · exact h j q i hij
        · have : j = N := by omega
          subst this
          exact fun z => e ⟨i, hij, z⟩
theorem par3_ioi {m1 m3 : MV D} {m2 : MV Con} {ρ : List Sl} {g g1 g2 g3 : G} {d1 d3 : D} {c : Con} {i j l : Nat} (h1 : m1 ρ g = some (.ok d1, g1)) (h2 : m2 ρ g1 = some (.ok c, g2)) (h3 : m3 ρ g2 = some (.ok d3, g3)) (hj : j < ρ.length) :
    mPar [.im m1, .od m2, .im m3] [i, j, l] ρ g = some (.nx, ((ρ.set i (.im d1)).set j (.ow c)).set l (.im d3), g3) := by
  show parGo ρ [.im m1, .od m2, .im m3] [i, j, l] ρ g = _
  unfold parGo
  rw [h1]; dsimp only
  unfold parGo
  rw [h2]; dsimp only
  rw [if_pos (by rw [List.length_set]; exact hj)]
  unfold parGo
  rw [h3]
  rfl
def stS (g : G) (k : Nat) : List Sl × G := ([.im (dMk m), .im (dInts (prK m k)), .ow (.dic (seenD m (fun _ => .bl true) k)), .im (.int (k : Int))], g)
/-- the loop, up to n -/
theorem short_run (h : m.Ok) {n : Nat} (hn : n ≤ 3000) (hnew : ∀ j, j < n → ∀ i, i < j → keyK m i ≠ keyK m j) (hend : n = 3000 ∨ ∃ f, Rep m n f) (g : G) : ph__law_is_short [dMk m] g = some (.ok (.bl (decide (n < 3000))), g) := by
  have keyE : ∀ {k : Nat} {ρ : List Sl}, ρ[3]? = some (.im (.int (k : Int))) → ρ[1]? = some (.im (dInts (prK m k))) → mTup (mCons (mVarB 1) (mCons (mOp dMod (mVarB 3) (mret (.int 12))) mNil)) ρ g = some (.ok (keyD m k), g) := fun {k ρ} h1 h3 =>
    mTup_ok (mCons_ok (mVarB_im h3) (mCons_ok (mOp_ok (mVarB_im h1) mret_ok (mod_ok (by decide))) mNil_ok)) rfl
  unfold ph__law_is_short
  apply phi_rt
  · rw [start_mk]
    refine mSeq_nx (par3_ioi (mCall0_ok (mCons_ok (mVarB_im rfl) mNil_ok) rfl (law_first_ok m h.s4 g)) mret_ok mret_ok (by show 2 < 4; decide)) ?_
    refine mSeq_nx (whileGo_ok (S := stS m g) (n := n) (fun k hk => ⟨?_, ?_⟩) ?_ n 0 fuel (by omega) (by show n < 1000000; omega)) ?_
    · refine mTAnd_ok (mB_ok (mNIn_ok (keyE rfl rfl) rfl (keyOf_K m k) (by rw [dlook_none m k (hnew k hk)]))) (mB_ok (mOp_ok (mVarB_im rfl) mret_ok rfl)) ?_
      show (true && decide ((k : Int) < 3000)) = true
      rw [decide_eq_true (by omega)]; rfl
    · refine mSeq_nx (mNPut_ok mret_ok rfl (keyE rfl rfl) (keyOf_K m k) (by rw [seenD_len]; omega) (dput_new m (v := fun _ => .bl true) (hnew k hk))) ?_
      refine mSeq_nx (mAsg_ok (mOp_ok (mCall0_ok (mCons_ok (mVarB_im rfl) (mCons_ok (mVarB_im rfl) (mCons_ok (mVarB_im rfl) mNil_ok))) rfl (law_day_ok m (prK m k) (k : Int) h (prK_len m k) g)) mret_ok rfl) rfl) ?_
      exact mAsg_ok (mOp_ok (mVarB_im rfl) mret_ok rfl) rfl
    · rcases hend with e | ⟨f, r⟩
      · subst e
        exact mTAnd_ok (mB_ok (mNIn_ok (keyE rfl rfl) rfl (keyOf_K m _) rfl)) (mB_ok (mOp_ok (mVarB_im rfl) mret_ok rfl)) (Bool.and_false _)
      · refine mTAnd_ok (mB_ok (mNIn_ok (keyE rfl rfl) rfl (keyOf_K m n) (by rw [r.find]))) (mB_ok (mOp_ok (mVarB_im rfl) mret_ok rfl)) rfl
    · refine mRet_ok (mOp_ok (mVarB_im rfl) mret_ok ?_)
      show some (D.bl (decide ((n : Int) < 3000))) = _
      have : decide ((n : Int) < 3000) = decide (n < 3000) := decide_eq_decide.mpr (by constructor <;> intro h <;> omega)
      rw [this]
theorem short_ok (h : m.Ok) (g : G) : (∃ n f, n < 3000 ∧ Rep m n f ∧ ph__law_is_short [dMk m] g = some (.ok (.bl true), g)) ∨ ph__law_is_short [dMk m] g = some (.ok (.bl false), g) := by
  rcases rep_or m 3000 with ⟨n, f, hn, r⟩ | hnew
  · refine .inl ⟨n, f, hn, r, ?_⟩
    rw [short_run m h (by omega) r.new (.inr ⟨f, r⟩) g, decide_eq_true hn]
  · exact .inr (short_run m h (Nat.le_refl _) hnew (.inl rfl) g)
def stT (g : G) (k : Nat) : List Sl × G := ([.im (dMk m), .im (.int 40), .ow (.lst (toldD m k)), .im (dInts (prK m k)), .no, .no, .no], g)
theorem days_ok (h : m.Ok) (g : G) : ph_days [dMk m, .int 40] g = some (.ok (.lst (toldD m 40)), g) := by
  have e0 : start0 7 [dMk m, .int 40] = [.im (dMk m), .im (.int 40), .no, .no, .no, .no, .no] := by
    unfold start0
    rw [List.map_cons, sl_im (lf_mk m)]
    rfl
  unfold ph_days
  apply phi_rt
  · rw [e0]
    refine mSeq_nx (mDrop_ok (mCall0_ok (mCons_ok (mVarB_im rfl) mNil_ok) rfl (check_market_ok m h g))) ?_
    refine mSeq_nx (mDrop_ok (mCall0_ok (mCons_ok (mVarB_im rfl) (mCons_ok mret_ok mNil_ok)) rfl (check_count_ok (by decide) (by decide) g))) ?_
    refine mSeq_nx (mOwn_ok (mLst_ok mNil_ok rfl) (by show 2 < 7; decide)) ?_
    refine mSeq_nx (mAsg_ok (mCall0_ok (mCons_ok (mVarB_im rfl) mNil_ok) rfl (first_prices_ok m h.s4 g)) rfl) ?_
    refine mSeq_nx (mFor_ok (mRng1_ok (mCons_ok (mVarB_im rfl) mNil_ok) (by decide)) (forGo_nx (S := stT m g) (rngD 0 40) 0 fun k e he => ?_)) ?_
    · obtain ⟨rfl, hk⟩ := rngD_nat he
      rw [Nat.zero_add]
      refine ⟨_, rfl, .inl ?_⟩
      refine mFgE_nx (ρ1 := [.im (dMk m), .im (.int 40), .ow (.lst (toldD m (k + 1))), .im (dInts (prK m (k + 1))), .im (.int (k : Int)), .im (.lst ((bgK m k).map dOpt)), .im (dInts (prK m (k + 1)))]) ?_
      refine mSeq_nx (mAsg_ok (mCall0_ok (mCons_ok (mVarB_im rfl) (mCons_ok (mVarB_im rfl) (mCons_ok (mVarB_im rfl) mNil_ok))) rfl (day_done_ok m (prK m k) (k : Int) h (prK_len m k) g)) rfl) ?_
      refine mSeq_nx (mApp_ok rfl (mTup_ok (mCons_ok (mVar_ok rfl) (mCons_ok (mVar_ok rfl) mNil_ok)) rfl) (small_of (by rw [toldD_len]; omega))) ?_
      refine (mAsg_ok (mVar_ok rfl) rfl).trans ?_
      rw [toldD_succ]
      rfl
    · exact mFree_ok rfl (mRet_ok (mVar_ok rfl))
end
/-- how often day is done within the first so many -/
def tms (day many first long : Int) : Int := if many ≤ day then 0 else if day < first then 1 else (many - 1 - day) / long + 1
theorem times_ok {day many first long : Int} (h0 : 0 < long) (h1 : long < 1000000000) (g : G) : ph_times [.int day, .int many, .int first, .int long] g = some (.ok (.int (tms day many first long)), g) := by
  unfold tms
  by_cases c1 : many ≤ day
  · rw [if_pos c1]
    apply phi_rt
    · exact mSeq_rt (mIfS_t (mB_ok (mOp_ok (mVarB_im rfl) (mVarB_im rfl) (by simp [dGe, dII, c1]))) (mRet_ok mret_ok))
  · rw [if_neg c1]
    by_cases c2 : day < first
    · rw [if_pos c2]
      apply phi_rt
      · refine mSeq_nx (mIfS_f (mB_ok (mOp_ok (mVarB_im rfl) (mVarB_im rfl) (by simp [dGe, dII, c1]))) rfl) ?_
        exact mSeq_rt (mIfS_t (mB_ok (mOp_ok (mVarB_im rfl) (mVarB_im rfl) (by simp [dLt, dII, c2]))) (mRet_ok mret_ok))
    · rw [if_neg c2]
      apply phi_rt
      · refine mSeq_nx (mIfS_f (mB_ok (mOp_ok (mVarB_im rfl) (mVarB_im rfl) (by simp [dGe, dII, c1]))) rfl) ?_
        refine mSeq_nx (mIfS_f (mB_ok (mOp_ok (mVarB_im rfl) (mVarB_im rfl) (by simp [dLt, dII, c2]))) rfl) ?_
        exact mRet_ok (mOp_ok (mOp_ok (z := .int ((many - 1 - day) / long)) (mOp_ok (mOp_ok (mVarB_im rfl) mret_ok rfl) (mVarB_im rfl) rfl) (mVarB_im rfl) (by simp [dDiv, dIIc, h0, h1])) mret_ok rfl)
end Pr

set_option Elab.async false
set_option linter.all false
set_option maxRecDepth 100000
set_option maxHeartbeats 400000
/-! M10: what after answers -/
namespace Pr
open PySem PySem.Spec PyProof.Rows L2 Fw
theorem nFor_nx {bd : BndT} {body : MMt} {S : Nat → List Sl × G × List (List Int)} : ∀ (ds : List D) (k : Nat), (∀ j d, ds[j]? = some d → ∃ ρ1, bd d (S (k + j)).1 = some ρ1 ∧ body ρ1 (S (k + j)).2.1 (S (k + j)).2.2 = some (.nx, (S (k + j + 1)).1, (S (k + j + 1)).2.1, (S (k + j + 1)).2.2)) →
    nFor' bd body ds (S k).1 (S k).2.1 (S k).2.2 = some (.nx, (S (k + ds.length)).1, (S (k + ds.length)).2.1, (S (k + ds.length)).2.2)
  | [], k, _ => rfl
  | d :: ds, k, H => by
    obtain ⟨ρ1, h1, h2⟩ := H 0 d rfl
    rw [Nat.add_zero] at h1 h2
    have ih := nFor_nx (bd := bd) (body := body) (S := S) ds (k + 1) fun j d hd => by
      have := H (j + 1) d (by simpa using hd)
      have e : k + (j + 1) = k + 1 + j := by omega
      rw [e] at this
      exact this
    unfold nFor'
    rw [h1]; dsimp only
    have e : k + (d :: ds).length = k + 1 + ds.length := by simp; omega
    rw [e, h2]
    exact ih
theorem nFor_ok {mi : MV (List D)} {bd : BndT} {body : MMt} {ρ : List Sl} {g g1 : G} {rows : List (List Int)} {l : List D} {r} (h : mi ρ g = some (.ok l, g1)) (k : nFor' bd body l ρ g1 rows = r) : nFor mi bd body ρ g rows = r := by unfold nFor; rw [h]; exact k
theorem nSeq_nx {m1 m2 : MMt} {ρ ρ1 : List Sl} {g g1 : G} {rows r1 : List (List Int)} {r} (h : m1 ρ g rows = some (.nx, ρ1, g1, r1)) (k : m2 ρ1 g1 r1 = r) : nSeq m1 m2 ρ g rows = r := by unfold nSeq; rw [h]; exact k
theorem nFgE_nx {is : List Nat} {mm : MMt} {ρ ρ1 ρ2 : List Sl} {g g1 : G} {rows r1 : List (List Int)} (h : mm ρ g rows = some (.nx, ρ1, g1, r1)) (e : vForget is ρ1 = ρ2 := by rfl) : nFgE is mm ρ g rows = some (.nx, ρ2, g1, r1) := by subst e; unfold nFgE; rw [h]
theorem nIf_t {mt : MV Bool} {m1 m2 : MMt} {ρ : List Sl} {g g1 : G} {rows : List (List Int)} {r} (h : mt ρ g = some (.ok true, g1)) (k : m1 ρ g1 rows = r) : nIf mt m1 m2 ρ g rows = r := by unfold nIf; rw [h]; exact k
theorem nIf_f {mt : MV Bool} {m1 m2 : MMt} {ρ : List Sl} {g g1 : G} {rows : List (List Int)} {r} (h : mt ρ g = some (.ok false, g1)) (k : m2 ρ g1 rows = r) : nIf mt m1 m2 ρ g rows = r := by unfold nIf; rw [h]; exact k
theorem nAsg_ok {ma : MV D} {bd : BndT} {ρ ρ1 : List Sl} {g g1 : G} {rows : List (List Int)} {d : D} (h : ma ρ g = some (.ok d, g1)) (hb : bd d ρ = some ρ1) : nAsg ma bd ρ g rows = some (.nx, ρ1, g1, rows) := by unfold nAsg; rw [h]; dsimp only; rw [hb]
/-- two numbers for each of G goods -/
def rowsF (n : Nat) (a b : Nat → Int) : List (List Int) := (List.range n).map fun i => [a i, b i]
def updF (a : Nat → Int) (i : Nat) (x : Int) : Nat → Int := fun j => if j = i then x else a j
theorem rowsF_get {n : Nat} {a b : Nat → Int} {i : Nat} (h : i < n) : (rowsF n a b)[i]? = some [a i, b i] := by unfold rowsF; rw [List.getElem?_map, List.getElem?_range h]; rfl
theorem rowsF_set {n : Nat} {a b : Nat → Int} {i : Nat} (h : i < n) (x y : Int) : (rowsF n a b).set i [x, y] = rowsF n (updF a i x) (updF b i y) := by
  apply List.ext_getElem?
  intro j
  by_cases hj : j < n
  · rw [rowsF_get hj]
    by_cases e : i = j
    · subst e
      rw [List.getElem?_set]
      simp [rowsF, h, updF]
    · rw [List.getElem?_set_ne e, rowsF_get hj]
      simp [updF, Ne.symm e]
  · rw [List.getElem?_eq_none (by simp [rowsF]; omega), List.getElem?_eq_none (by simp [rowsF]; omega)]
theorem nAug_ok {f : Int → Int → Int} {mk mv : MV D} {c i : Nat} {ρ : List Sl} {g : G} {rows rows' : List (List Int)} {r : List Int} {o y : Int} (h1 : mk ρ g = some (.ok (.int (i : Int)), g)) (h2 : rows[i]? = some r) (h3 : r[c]? = some o) (h4 : mv ρ g = some (.ok (.int y), g)) (e : rows.set i (r.set c (f o y)) = rows') :
    nAug f mk c mv ρ g rows = some (.nx, ρ, g, rows') := by
  subst e
  unfold nAug
  rw [h1]; dsimp only
  have e2 : (asI (D.int (i : Int))).bind (fun k => if 0 ≤ k then (rows[k.toNat]?.bind fun r => (r[c]?).map fun o => (k.toNat, r, o)) else none) = some (i, r, o) := by
    simp only [asI, Option.bind_some]
    rw [if_pos (by omega), Int.toNat_natCast, h2, Option.bind_some, h3]
    rfl
  rw [e2]; dsimp only
  rw [h4]
  rfl
def cnt (l : List (Option Nat)) (i : Nat) : Int := (l.countP fun x => decide (x = some i) : Nat)
theorem cnt_snoc (l : List (Option Nat)) (x : Option Nat) (i : Nat) : cnt (l ++ [x]) i = cnt l i + (if x = some i then 1 else 0) := by
  unfold cnt
  rw [List.countP_append, List.countP_cons, List.countP_nil]
  by_cases h : x = some i <;> simp [h]
section
variable (m : Mk)
/-- sold, and taken, of good i on the first k days, day j counted w j times -/
def sumA (w : Nat → Int) (i : Nat) : Nat → Int
  | 0 => 0
  | k + 1 => sumA w i k + w k * cnt (bgK m k) i
def sumB (w : Nat → Int) (i : Nat) : Nat → Int
  | 0 => 0
  | k + 1 => sumB w i k + w k * (cnt (bgK m k) i * (prK m k).getD i 0)
theorem bought_lt {ps : List Int} {d : Int} (h : m.Ok) (hp : ps.length = m.ss.length) : ∀ x ∈ bought m ps d, ∀ i, x = some i → i < m.ss.length := fun x hx i e => by
  unfold bought at hx
  obtain ⟨k, hk, rfl⟩ := List.mem_map.mp hx
  have hk := List.mem_range.mp hk
  have hb : m.bs[k]? = some m.bs[k] := List.getElem?_eq_getElem hk
  have ok := h.b m.bs[k] (List.getElem_mem hk)
  unfold goodK choice at e
  rw [getD_get hb] at e
  split at e
  · have := (pickK_lt _ _ _ _ _ e).1
    rw [ok.len] at this; exact this
  · cases e
def dAfter (many alike : Nat) (w : Nat → Int) (n : Nat) : D := .tup [dInts (prK m alike), .lst ((List.range m.ss.length).map fun i => .tup [.int (sumA m w i n), .int (sumB m w i n)])]
end
end Pr

set_option Elab.async false
set_option linter.all false
set_option maxRecDepth 100000
set_option maxHeartbeats 400000
/-! M11: what after answers, whole -/
namespace Pr
open PySem PySem.Spec PyProof.Rows L2 Fw
theorem tms_small {day many first long : Int} (h0 : 0 < long) (hd : 0 ≤ day) (hm : many ≤ 1000000000000) : smallI (tms day many first long) = true := by
  unfold smallI tms
  refine decide_eq_true ?_
  split
  · omega
  · split
    · omega
    · have h1 : (many - 1 - day) / long ≤ many - 1 - day := Int.ediv_le_self _ (by omega)
      have h2 : 0 ≤ (many - 1 - day) / long := Int.ediv_nonneg (by omega) (by omega)
      omega
section
variable (m : Mk)
/-- one thing bought -/
theorem one_bought {n : Nat} {ps : List Int} (hp : ps.length = n) {o : Int} (ho : smallI o = true) {x : Option Nat} (hx : ∀ i, x = some i → i < n) {a b : Nat → Int} {g : G} {ρ ρ' : List Sl} (h8 : (ρ.set 9 (.im (dOpt x)))[8]? = some (.im (.int o))) (h9 : (ρ.set 9 (.im (dOpt x)))[9]? = some (.im (dOpt x))) (h11 : (ρ.set 9 (.im (dOpt x)))[11]? = some (.im (dInts ps))) (he : vForget [9] (ρ.set 9 (.im (dOpt x))) = ρ') :
    nFgE [9] (nIf (mB (mOp dNotN2 (mVarB 9) (mret .non))) (nSeq (nAug (fun i j => i + j) (mVarB 9) 0 (mVarB 8)) (nAug (fun i j => i + j) (mVarB 9) 1 (mOp dMul (mVarB 8) (mOp dIx (mVarB 11) (mVarB 9))))) nNx) (ρ.set 9 (.im (dOpt x))) g (rowsF n a b)
      = some (.nx, ρ', g, rowsF n (fun i => a i + o * (if x = some i then 1 else 0)) (fun i => b i + o * ((if x = some i then 1 else 0) * ps.getD i 0))) := by
  cases x with
  | none =>
    have e1 : (fun i => a i + o * (if (none : Option Nat) = some i then 1 else 0)) = a := by funext i; simp
    have e2 : (fun i => b i + o * ((if (none : Option Nat) = some i then 1 else 0) * ps.getD i 0)) = b := by funext i; simp
    rw [e1, e2]
    exact nFgE_nx (nIf_f (mB_ok (mOp_ok (mVarB_im h9) mret_ok rfl)) rfl) he
  | some i0 =>
    have hi := hx i0 rfl
    have e1 : (fun i => a i + o * (if (some i0 : Option Nat) = some i then 1 else 0)) = updF a i0 (a i0 + o) := by
      funext i
      unfold updF
      by_cases q : i = i0
      · subst q; simp
      · simp [q, Ne.symm q]
    have e2 : (fun i => b i + o * ((if (some i0 : Option Nat) = some i then 1 else 0) * ps.getD i 0)) = updF b i0 (b i0 + o * ps.getD i0 0) := by
      funext i
      unfold updF
      by_cases q : i = i0
      · subst q; simp
      · simp [q, Ne.symm q]
    rw [e1, e2]
    refine nFgE_nx (nIf_t (mB_ok (mOp_ok (mVarB_im h9) mret_ok rfl)) (nSeq_nx (nAug_ok (mVarB_im h9) (rowsF_get hi) rfl (mVarB_im h8) (rowsF_set hi _ _)) (nAug_ok (c := 1) (i := i0) (r := [a i0 + o, b i0]) (o := b i0) (y := o * ps.getD i0 0) (mVarB_im h9) ?_ rfl (mOp_ok (mVarB_im h8) (mOp_ok (mVarB_im h11) (mVarB_im h9) (ix_tup (by omega))) ?_) ?_))) he
    · rw [rowsF_get hi]; simp [updF]
    · simp [dMul, dIIc, ho]
    · show (rowsF n (updF a i0 (a i0 + o)) (updF b i0 (b i0))).set i0 [a i0 + o, b i0 + o * ps.getD i0 0] = _
      rw [rowsF_set hi]
      congr 1
      · funext i; unfold updF; split <;> rfl
      · funext i; unfold updF; split <;> simp_all
end
end Pr

set_option Elab.async false
set_option linter.all false
set_option maxRecDepth 100000
set_option maxHeartbeats 400000
/-! M12: what after answers, whole -/
namespace Pr
open PySem PySem.Spec PyProof.Rows L2 Fw
section
variable (m : Mk)
/-- all that a day's buyers bought -/
theorem all_bought {n : Nat} {ps : List Int} (hp : ps.length = n) {o : Int} (ho : smallI o = true) {l : List (Option Nat)} (hl : ∀ x ∈ l, ∀ i, x = some i → i < n) {a b : Nat → Int} {g : G} {x0 x1 x2 x3 x4 x5 x6 x7 x10 x12 x13 x14 : Sl} :
    nFor' (bName 9) (nFgE [9] (nIf (mB (mOp dNotN2 (mVarB 9) (mret .non))) (nSeq (nAug (fun i j => i + j) (mVarB 9) 0 (mVarB 8)) (nAug (fun i j => i + j) (mVarB 9) 1 (mOp dMul (mVarB 8) (mOp dIx (mVarB 11) (mVarB 9))))) nNx)) (l.map dOpt)
      [x0, x1, x2, x3, x4, x5, x6, x7, .im (.int o), .no, x10, .im (dInts ps), x12, x13, x14] g (rowsF n a b)
      = some (.nx, [x0, x1, x2, x3, x4, x5, x6, x7, .im (.int o), .no, x10, .im (dInts ps), x12, x13, x14], g, rowsF n (fun i => a i + o * cnt l i) (fun i => b i + o * (cnt l i * ps.getD i 0))) := by
  have z : rowsF n a b = rowsF n (fun i => a i + o * cnt (l.take 0) i) (fun i => b i + o * (cnt (l.take 0) i * ps.getD i 0)) := by simp [cnt]
  rw [z]
  have e := nFor_nx (bd := bName 9) (body := nFgE [9] (nIf (mB (mOp dNotN2 (mVarB 9) (mret .non))) (nSeq (nAug (fun i j => i + j) (mVarB 9) 0 (mVarB 8)) (nAug (fun i j => i + j) (mVarB 9) 1 (mOp dMul (mVarB 8) (mOp dIx (mVarB 11) (mVarB 9))))) nNx))
    (S := fun k => ([x0, x1, x2, x3, x4, x5, x6, x7, .im (.int o), .no, x10, .im (dInts ps), x12, x13, x14], g, rowsF n (fun i => a i + o * cnt (l.take k) i) (fun i => b i + o * (cnt (l.take k) i * ps.getD i 0)))) (l.map dOpt) 0 fun j d hd => ?_
  · rw [List.length_map, Nat.zero_add, List.take_length] at e
    exact e
  · rw [Nat.zero_add]
    rw [List.getElem?_map] at hd
    obtain ⟨x, hx, rfl⟩ := Option.map_eq_some_iff.mp hd
    refine ⟨_, rfl, ?_⟩
    have h := one_bought (g := g) (a := fun i => a i + o * cnt (l.take j) i) (b := fun i => b i + o * (cnt (l.take j) i * ps.getD i 0)) (ρ := [x0, x1, x2, x3, x4, x5, x6, x7, .im (.int o), .no, x10, .im (dInts ps), x12, x13, x14]) hp ho (hl x (List.mem_of_getElem? hx)) rfl rfl rfl rfl
    refine h.trans ?_
    have et : l.take (j + 1) = l.take j ++ [x] := by rw [List.take_add_one, hx]; rfl
    have e1 : (fun i => a i + o * cnt (l.take j) i + o * (if x = some i then 1 else 0)) = fun i => a i + o * cnt (l.take (j + 1)) i := by
      funext i; rw [et, cnt_snoc, Int.mul_add]; omega
    have e2 : (fun i => b i + o * (cnt (l.take j) i * ps.getD i 0) + o * ((if x = some i then 1 else 0) * ps.getD i 0)) = fun i => b i + o * (cnt (l.take (j + 1)) i * ps.getD i 0) := by
      funext i; rw [et, cnt_snoc, Int.add_mul, Int.mul_add]; omega
    dsimp only
    rw [e1, e2]
    rfl
def wOf (many n f : Nat) (j : Nat) : Int := tms (j : Int) (many : Int) (f : Int) ((n : Int) - (f : Int))
def alikeOf (many n f : Nat) : Nat := if many < f then many else f + (many - f) % (n - f)
theorem nEnd_rt {i : Nat} {ms : MSt} {ρ ρ1 : List Sl} {g g1 : G} {rows : List (List Int)} {d : D} (h : ms (ρ.set i (.ow (.lst (rows.map rowD)))) g = some (.rt d, ρ1, g1)) : nEnd i ms ρ g rows = some (.rt d, ρ1, g1, rows) := by unfold nEnd; rw [h]
theorem nNew_rt {i : Nat} {mi : MV (List D)} {row : List Int} {mr : MMt} {ρ ρ1 : List Sl} {g g1 g2 : G} {ds : List D} {r1 : List (List Int)} {d : D} (h : mi ρ g = some (.ok ds, g1)) (hs : ds.length ≤ 1000000) (hi : i < ρ.length) (k : mr (ρ.set i .no) g1 (List.replicate ds.length row) = some (.rt d, ρ1, g2, r1)) :
    nNew i mi row mr ρ g = some (.rt d, ρ1, g2) := by
  unfold nNew
  rw [h]; dsimp only
  rw [if_pos ⟨small_of hs, hi⟩, k]
theorem after_ok (h : m.Ok) {n f : Nat} (r : Rep m n f) (hn : n ≤ 5000) {many : Nat} (hm : many ≤ 1000000000000) (g : G) :
    ph_after [dMk m, .int (many : Int)] g = some (.ok (dAfter m many (alikeOf many n f) (wOf many n f) n), g) := by
  have hlt := r.lt
  have e0 : start0 15 [dMk m, .int (many : Int)] = [.im (dMk m), .im (.int (many : Int)), .no, .no, .no, .no, .no, .no, .no, .no, .no, .no, .no, .no, .no] := by
    unfold start0
    rw [List.map_cons, sl_im (lf_mk m)]
    rfl
  unfold ph_after
  apply phi_rt
  · rw [e0]
    refine mSeq_nx (mDrop_ok (mCall0_ok (mCons_ok (mVarB_im rfl) mNil_ok) rfl (check_market_ok m h g))) ?_
    refine mSeq_nx (mDrop_ok (mCall0_ok (mCons_ok (mVarB_im rfl) (mCons_ok mret_ok mNil_ok)) rfl (check_count_ok (by omega) (by omega) g))) ?_
    refine mSeq_nx (mAsg_ok (mCall0_ok (mCons_ok (mVarB_im rfl) mNil_ok) rfl (walk_ok m h r hn g)) rfl) ?_
    refine mSeq_nx (mAsg_ok (mOp_ok (x := .int (n : Int)) (mCB_ok (mCons_ok (mVarB_im rfl) mNil_ok) (by simp [fLen, toldD_len])) (mVarB_im rfl) rfl) rfl) ?_
    have erow : List.replicate ((prices0 m).map D.int).length [(0 : Int), 0] = rowsF m.ss.length (fun i => sumA m (wOf many n f) i 0) (fun i => sumB m (wOf many n f) i 0) := by
      apply List.ext_getElem?
      intro i
      by_cases hi : i < m.ss.length
      · rw [rowsF_get hi, List.getElem?_replicate, if_pos (by simpa [prices0] using hi)]; rfl
      · rw [List.getElem?_eq_none (by simp [prices0]; omega), List.getElem?_eq_none (by simp [rowsF]; omega)]
    apply nNew_rt (ds := (prices0 m).map .int) (g1 := g)
    · exact mItT_ok (mCall0_ok (mCons_ok (mVarB_im rfl) mNil_ok) rfl (first_prices_ok m h.s4 g))
    · simp [prices0]; have := h.s4; omega
    · show 3 < 15; decide
    rw [erow]
    refine nSeq_nx (nFor_ok (mEnum_l (mCons_ok (mVar_ok rfl) mNil_ok)) (nFor_nx (S := fun k => ([.im (dMk m), .im (.int (many : Int)), .im (.int ((n : Int) - (f : Int))), .no, .no, .im (.lst (toldD m n)), .im (.int (f : Int)), .no, .no, .no, .no, .no, .no, .no, .no], g, rowsF m.ss.length (fun i => sumA m (wOf many n f) i k) (fun i => sumB m (wOf many n f) i k))) (enumD 0 (toldD m n)) 0 fun j d hd => ?_)) ?_
    · rw [Nat.zero_add]
      obtain ⟨d', hd', rfl⟩ := enumD_get _ _ _ _ hd
      unfold toldD at hd'
      rw [List.getElem?_map] at hd'
      obtain ⟨j', hj, rfl⟩ := Option.map_eq_some_iff.mp hd'
      have hjn : j < n := by
        have := (List.getElem?_eq_some_iff.mp hj).1
        simpa using this
      rw [List.getElem?_range hjn] at hj
      cases hj
      refine ⟨_, rfl, ?_⟩
      refine nFgE_nx (ρ1 := [.im (dMk m), .im (.int (many : Int)), .im (.int ((n : Int) - (f : Int))), .no, .no, .im (.lst (toldD m n)), .im (.int (f : Int)), .im (.int ((0 + j : Nat) : Int)), .im (.int (wOf many n f j)), .no, .no, .im (dInts (prK m j)), .im (.lst ((bgK m j).map dOpt)), .no, .no]) ?_
      refine nSeq_nx (nAsg_ok (d := .int (wOf many n f j)) (mCall0_ok (mCons_ok (mVarB_im rfl) (mCons_ok (mVarB_im rfl) (mCons_ok (mVarB_im rfl) (mCons_ok (mVarB_im rfl) mNil_ok)))) rfl ((times_ok (by omega) (by omega) g).trans (by rw [Nat.zero_add]; rfl))) rfl) ?_
      exact nFor_ok (mItL_ok (mVar_ok rfl)) (all_bought (prK_len m j) (tms_small (by omega) (by omega) (by omega)) (bought_lt m h (prK_len m j)))
    · have el : (enumD 0 (toldD m n)).length = n := by rw [enumD_length, toldD_len]
      rw [Nat.zero_add, el]
      apply nEnd_rt
      refine mFree_ok rfl ?_
      refine mSeq_nx (g1 := g) (mAsg_ok (d := .int (alikeOf many n f : Nat)) ?_ rfl) ?_
      · unfold alikeOf
        by_cases c : many < f
        · rw [if_pos c]
          exact mIf_t (mB_ok (mOp_ok (mVarB_im rfl) (mVarB_im rfl) (by simp [dLt, dII, c]))) (mVar_ok rfl)
        · rw [if_neg c]
          refine mIf_f (mB_ok (mOp_ok (mVarB_im rfl) (mVarB_im rfl) (by simp [dLt, dII, c]))) ?_
          refine mOp_ok (mVarB_im rfl) (mOp_ok (mOp_ok (mVarB_im rfl) (mVarB_im rfl) rfl) (mVarB_im rfl) (mod_ok (by omega))) ?_
          have e1 : ((many : Int) - (f : Int)) % ((n : Int) - (f : Int)) = (((many - f) % (n - f) : Nat) : Int) := by
            rw [← Int.ofNat_sub (by omega), ← Int.ofNat_sub (by omega)]; rfl
          show some (D.int ((f : Int) + ((many : Int) - (f : Int)) % ((n : Int) - (f : Int)))) = _
          rw [e1]
          simp
      · have hal : alikeOf many n f < n := by
          unfold alikeOf
          split
          · omega
          · have := Nat.mod_lt (many - f) (show 0 < n - f by omega); omega
        have ei : dIx (.lst (toldD m n)) (.int (alikeOf many n f : Nat)) = some (tellD m (alikeOf many n f)) := by
          show atI (toldD m n) _ = _
          unfold atI ixN
          rw [if_pos (by omega), if_pos (by rw [toldD_len]; omega)]
          simp [toldD, List.getElem?_range hal]
        refine mRet_ok (mTup_ok (mCons_ok (mOp_ok (mOp_ok (mVar_ok rfl) (mVarB_im rfl) ei) mret_ok rfl) (mCons_ok (mFr_ok (mLc_ok (l' := (List.range m.ss.length).map fun i => D.tup [.int (sumA m (wOf many n f) i n), .int (sumB m (wOf many n f) i n)]) (mItL_ok (mVar_ok rfl)) (small_of (by simp [rowsF]; have := h.s4; omega)) ?_)) mNil_ok)) rfl)
        unfold rowsF
        rw [List.map_map]
        exact lcGo_map _ _ (List.range m.ss.length) g fun i hi => ⟨_, rfl, rfl, mTup_ok (mCons_ok (mVar_ok rfl) (mCons_ok (mVar_ok rfl) mNil_ok)) rfl⟩
end
end Pr

set_option Elab.async false
set_option linter.all false
set_option maxRecDepth 100000
set_option maxHeartbeats 400000
/-! M13: it comes round; how often a day is done comes to all days -/
namespace Pr
open PySem PySem.Spec PyProof.Rows L2 Fw
theorem mod12 {d d' e : Int} (h : d % 12 = d' % 12) (he : e ∣ 12) : d % e = d' % e := by
  rw [← Int.emod_emod_of_dvd d he, ← Int.emod_emod_of_dvd d' he, h]
theorem dvd12 {b : Bu} {n : Nat} (h : b.Ok n) : b.every ∣ 12 := by
  have h1 := h.e1
  have h4 := h.e4
  have : b.every = 1 ∨ b.every = 2 ∨ b.every = 3 ∨ b.every = 4 := by omega
  rcases this with e | e | e | e <;> rw [e] <;> decide
section
variable (m : Mk)
theorem every_getD (h : m.Ok) (k : Nat) : (m.bs.getD k b0).every ∣ 12 := by
  by_cases hk : k < m.bs.length
  · rw [getD_get (List.getElem?_eq_getElem hk)]
    exact dvd12 (h.b _ (List.getElem_mem hk))
  · rw [List.getD_eq_getElem?_getD, List.getElem?_eq_none (by omega)]
    show (1 : Int) ∣ 12
    decide
/-- a day as another one, if buyers come alike -/
theorem leftK_congr {m' : Mk} {ps : List Int} {d d' : Int} (hs : m'.ss.map Se.stock = m.ss.map Se.stock) (hc : ∀ k left, choice ps d' (m'.bs.getD k b0) left = choice ps d (m.bs.getD k b0) left) : ∀ k, leftK m' ps d' k = leftK m ps d k
  | 0 => hs
  | k + 1 => by
    unfold leftK
    rw [leftK_congr hs hc k, hc]
theorem choice_mod (h : m.Ok) {ps : List Int} {d d' : Int} (e : d' % 12 = d % 12) (k : Nat) (left : List Int) : choice ps d' (m.bs.getD k b0) left = choice ps d (m.bs.getD k b0) left := by
  unfold choice
  rw [mod12 e (every_getD m h k)]
theorem bought_mod (h : m.Ok) {ps : List Int} {d d' : Int} (e : d' % 12 = d % 12) : bought m ps d' = bought m ps d := by
  unfold bought
  refine List.map_congr_left fun k _ => ?_
  unfold goodK
  rw [leftK_congr m rfl (choice_mod m h e) k, choice_mod m h e]
theorem behindL_mod (h : m.Ok) {ps : List Int} {d d' : Int} (e : d' % 12 = d % 12) : behindL m ps d' = behindL m ps d := by
  unfold behindL leftE
  rw [leftK_congr m rfl (choice_mod m h e)]
theorem Rep.keys {n f : Nat} (r : Rep m n f) : prK m f = prK m n ∧ (f : Int) % 12 = (n : Int) % 12 := by
  have := r.eq
  unfold keyK at this
  simp only [List.cons.injEq, Sum.inr.injEq, Sum.inl.injEq, and_true] at this
  exact this
theorem round_pr (h : m.Ok) {n f : Nat} (e1 : prK m f = prK m n) (e2 : (f : Int) % 12 = (n : Int) % 12) : ∀ t, prK m (f + t) = prK m (n + t)
  | 0 => e1
  | t + 1 => by
    show behindL m (prK m (f + t)) ((f + t : Nat) : Int) = behindL m (prK m (n + t)) ((n + t : Nat) : Int)
    rw [round_pr h e1 e2 t]
    exact behindL_mod m h (by omega)
theorem round_bg (h : m.Ok) {n f : Nat} (e1 : prK m f = prK m n) (e2 : (f : Int) % 12 = (n : Int) % 12) (t : Nat) : bgK m (f + t) = bgK m (n + t) := by
  unfold bgK
  rw [round_pr m h e1 e2 t]
  exact bought_mod m h (by omega)
/-- what comes again each L days from f on is the same at the day that stands for it -/
theorem again_at {α : Type} {c : Nat → α} {f L : Nat} (hc : ∀ t, c (f + t) = c (f + L + t)) : ∀ q r, c (f + (r + L * q)) = c (f + r)
  | 0, r => by simp
  | q + 1, r => by
    have e : f + (r + L * (q + 1)) = f + L + (r + L * q) := by rw [Nat.mul_succ]; omega
    rw [e, ← hc, again_at hc q r]
theorem alike_at {α : Type} {c : Nat → α} {n f : Nat} (hf : f < n) (hc : ∀ t, c (f + t) = c (n + t)) (many : Nat) : c (alikeOf many n f) = c many := by
  unfold alikeOf
  split
  · rfl
  · have e : n = f + (n - f) := by omega
    have hc' : ∀ t, c (f + t) = c (f + (n - f) + t) := fun t => by rw [← e]; exact hc t
    have := again_at hc' ((many - f) / (n - f)) ((many - f) % (n - f))
    rw [Nat.mod_add_div] at this
    rw [← this]
    congr 1
    omega
def tmsN (j many f L : Nat) : Nat := if many ≤ j then 0 else if j < f then 1 else (many - 1 - j) / L + 1
theorem wOf_nat {many n f : Nat} (hf : f < n) (j : Nat) : wOf many n f j = (tmsN j many f (n - f) : Nat) := by
  unfold wOf tms tmsN
  by_cases c1 : many ≤ j
  · rw [if_pos c1, if_pos (by omega)]; rfl
  · rw [if_neg c1, if_neg (by omega)]
    by_cases c2 : j < f
    · rw [if_pos c2, if_pos (by omega)]; rfl
    · rw [if_neg c2, if_neg (by omega)]
      have e1 : (many : Int) - 1 - (j : Int) = ((many - 1 - j : Nat) : Int) := by omega
      have e2 : (n : Int) - (f : Int) = ((n - f : Nat) : Int) := by omega
      rw [e1, e2, ← Int.natCast_ediv]
      omega
theorem tmsN_succ {many n f j : Nat} (hf : f < n) (hj : j < n) : tmsN j (many + 1) f (n - f) = tmsN j many f (n - f) + (if j = alikeOf many n f then 1 else 0) := by
  have hL : 0 < n - f := by omega
  unfold tmsN alikeOf
  by_cases c0 : many < f
  · rw [if_pos c0]
    by_cases c1 : many ≤ j
    · rw [if_pos c1]
      by_cases c2 : many + 1 ≤ j
      · rw [if_pos c2, if_neg (by omega)]
      · rw [if_neg c2, if_pos (by omega), if_pos (by omega)]
    · rw [if_neg c1, if_neg (by omega), if_pos (by omega), if_pos (by omega), if_neg (by omega)]
  · rw [if_neg c0]
    have hm := Nat.mod_lt (many - f) hL
    by_cases c2 : j < f
    · rw [if_neg (by omega), if_pos c2, if_neg (by omega), if_pos c2, if_neg (by omega)]
    · by_cases c1 : many < j
      · have e : (many - f) % (n - f) = many - f := Nat.mod_eq_of_lt (by omega)
        rw [if_pos (by omega), if_pos (by omega), e, if_neg (by omega)]
      · by_cases c3 : many = j
        · subst c3
          have e : (many - f) % (n - f) = many - f := Nat.mod_eq_of_lt (by omega)
          rw [if_neg (by omega), if_neg c2, if_pos (by omega), e, if_pos (by omega)]
          have : many + 1 - 1 - many = 0 := by omega
          rw [this, Nat.zero_div]
        · rw [if_neg (by omega), if_neg c2, if_neg (by omega), if_neg c2]
          have e1 : many + 1 - 1 - j = (many - 1 - j) + 1 := by omega
          rw [e1, Nat.succ_div]
          have iff : (n - f ∣ many - 1 - j + 1) ↔ j = f + (many - f) % (n - f) := by
            have e2 : many - 1 - j + 1 = (many - f) - (j - f) := by omega
            rw [e2]
            have hjf : (j - f) % (n - f) = j - f := Nat.mod_eq_of_lt (by omega)
            have hx : j - f ≤ many - f := by omega
            generalize hX : many - f = X at *
            generalize hR : j - f = R at *
            constructor
            · intro hd
              obtain ⟨q, hq⟩ := hd
              have e3 : X = R + (n - f) * q := by omega
              have e4 : X % (n - f) = R := by rw [e3, Nat.add_mul_mod_self_left]; exact hjf
              omega
            · intro he
              have e4 : X % (n - f) = R := by omega
              have := Nat.dvd_sub_mod (n := n - f) X
              rw [e4] at this
              exact this
          by_cases c4 : n - f ∣ many - 1 - j + 1
          · rw [if_pos c4, if_pos (iff.mp c4)]
          · rw [if_neg c4, if_neg (fun z => c4 (iff.mpr z))]
end
end Pr

set_option Elab.async false
set_option linter.all false
set_option maxRecDepth 100000
set_option maxHeartbeats 400000
/-! M14: what after answers is what all days come to; days shifted -/
namespace Pr
open PySem PySem.Spec PyProof.Rows L2 Fw
def sumW (w : Nat → Int) (c : Nat → Int) : Nat → Int
  | 0 => 0
  | k + 1 => sumW w c k + w k * c k
theorem sumW_zero (c : Nat → Int) : ∀ k, sumW (fun _ => 0) c k = 0
  | 0 => rfl
  | k + 1 => by unfold sumW; rw [sumW_zero c k]; simp
theorem sumW_add (w v : Nat → Int) (c : Nat → Int) : ∀ k, sumW (fun j => w j + v j) c k = sumW w c k + sumW v c k
  | 0 => rfl
  | k + 1 => by unfold sumW; rw [sumW_add w v c k, Int.add_mul]; omega
theorem sumW_one (c : Nat → Int) (a : Nat) : ∀ k, sumW (fun j => if j = a then 1 else 0) c k = if a < k then c a else 0
  | 0 => rfl
  | k + 1 => by
    unfold sumW
    rw [sumW_one c a k]
    by_cases h : k = a
    · subst h; simp
    · by_cases h2 : a < k
      · rw [if_pos h2, if_neg h, if_pos (by omega)]; simp
      · rw [if_neg h2, if_neg h, if_neg (by omega)]; simp
theorem sumW_congr {w v c d : Nat → Int} : ∀ k, (∀ j, j < k → w j = v j ∧ c j = d j) → sumW w c k = sumW v d k
  | 0, _ => rfl
  | k + 1, h => by
    unfold sumW
    rw [sumW_congr k fun j hj => h j (by omega), (h k (by omega)).1, (h k (by omega)).2]
def tot (c : Nat → Int) : Nat → Int := sumW (fun _ => 1) c
theorem tot_succ (c : Nat → Int) (k : Nat) : tot c (k + 1) = tot c k + c k := by
  show sumW (fun _ => 1) c k + 1 * c k = _
  rw [Int.one_mul]; rfl
theorem tot_add (c : Nat → Int) (a : Nat) : ∀ b, tot c (a + b) = tot c a + tot (fun k => c (a + k)) b
  | 0 => by simp [tot, sumW]
  | b + 1 => by
    rw [← Nat.add_assoc, tot_succ, tot_add c a b, tot_succ]; omega
/-- days counted as often as they are done -/
theorem sum_round {c : Nat → Int} {n f : Nat} (hf : f < n) (hc : ∀ t, c (f + t) = c (n + t)) : ∀ many, sumW (wOf many n f) c n = tot c many
  | 0 => by
    have : ∀ j, j < n → wOf 0 n f j = 0 ∧ c j = c j := fun j _ => ⟨by rw [wOf_nat hf]; simp [tmsN], rfl⟩
    rw [sumW_congr (v := fun _ => 0) (d := c) n this, sumW_zero]
    rfl
  | many + 1 => by
    have h : ∀ j, j < n → wOf (many + 1) n f j = wOf many n f j + (if j = alikeOf many n f then 1 else 0) ∧ c j = c j := fun j hj => ⟨by
      rw [wOf_nat hf, wOf_nat hf, tmsN_succ hf hj]
      split <;> simp, rfl⟩
    rw [sumW_congr n h, sumW_add, sum_round hf hc many, sumW_one, tot_succ]
    have hal : alikeOf many n f < n := by
      unfold alikeOf
      split
      · omega
      · have := Nat.mod_lt (many - f) (show 0 < n - f by omega); omega
    rw [if_pos hal, alike_at hf hc many]
section
variable (m : Mk)
theorem sumA_W (w : Nat → Int) (i : Nat) : ∀ k, sumA m w i k = sumW w (fun j => cnt (bgK m j) i) k
  | 0 => rfl
  | k + 1 => by unfold sumA sumW; rw [sumA_W w i k]
theorem sumB_W (w : Nat → Int) (i : Nat) : ∀ k, sumB m w i k = sumW w (fun j => cnt (bgK m j) i * (prK m j).getD i 0) k
  | 0 => rfl
  | k + 1 => by unfold sumB sumW; rw [sumB_W w i k]
def soldT (many i : Nat) : Int := tot (fun j => cnt (bgK m j) i) many
def takenT (many i : Nat) : Int := tot (fun j => cnt (bgK m j) i * (prK m j).getD i 0) many
def dTot (many : Nat) : D := .tup [dInts (prK m many), .lst ((List.range m.ss.length).map fun i => .tup [.int (soldT m many i), .int (takenT m many i)])]
theorem after_tot (h : m.Ok) {n f : Nat} (r : Rep m n f) (hn : n ≤ 5000) {many : Nat} (hm : many ≤ 1000000000000) (g : G) : ph_after [dMk m, .int (many : Int)] g = some (.ok (dTot m many), g) := by
  rw [after_ok m h r hn hm g]
  obtain ⟨e1, e2⟩ := r.keys
  have hp := round_pr m h e1 e2
  have hb := round_bg m h e1 e2
  have ea : prK m (alikeOf many n f) = prK m many := alike_at r.lt hp many
  have es : ∀ i, sumA m (wOf many n f) i n = soldT m many i := fun i => by
    rw [sumA_W]
    exact sum_round r.lt (fun t => by rw [hb t]) many
  have et : ∀ i, sumB m (wOf many n f) i n = takenT m many i := fun i => by
    rw [sumB_W]
    exact sum_round r.lt (fun t => by rw [hb t, hp t]) many
  unfold dAfter dTot
  rw [ea]
  simp only [es, et]
end
end Pr

set_option Elab.async false
set_option linter.all false
set_option maxRecDepth 100000
set_option maxHeartbeats 400000
/-! M15: a market that begins on a later day -/
namespace Pr
open PySem PySem.Spec PyProof.Rows L2 Fw
section
variable (m : Mk) (one : Nat)
/-- the market as it is on day one -/
def laterS (i : Nat) (s : Se) : Se := { s with price := (prK m one).getD i 0 }
def laterB (b : Bu) : Bu := { b with first := (b.first - (one : Int)) % b.every }
def later : Mk := ⟨(List.range m.ss.length).map fun i => laterS m one i (m.ss.getD i se0), m.bs.map (laterB one)⟩
theorem later_len : (later m one).ss.length = m.ss.length := by simp [later]
theorem later_getD {i : Nat} (h : i < m.ss.length) : (later m one).ss.getD i se0 = laterS m one i (m.ss.getD i se0) := by
  unfold later
  rw [List.getD_eq_getElem?_getD, List.getElem?_map, List.getElem?_range h]
  rfl
theorem later_stock : (later m one).ss.map Se.stock = m.ss.map Se.stock := by
  apply List.ext_getElem?
  intro i
  by_cases h : i < m.ss.length
  · unfold later
    rw [List.map_map, List.getElem?_map, List.getElem?_range h, List.getElem?_map, List.getElem?_eq_getElem h]
    simp [laterS, List.getD_eq_getElem?_getD, List.getElem?_eq_getElem h]
  · rw [List.getElem?_eq_none (by rw [List.length_map, later_len]; omega), List.getElem?_eq_none (by rw [List.length_map]; omega)]
theorem shift_mod {d o f e : Int} (h0 : 0 ≤ f) (h1 : f < e) : d % e = (f - o) % e ↔ (o + d) % e = f := by
  have e1 : (o + d) % e = f ↔ (o + d) % e = f % e := by rw [Int.emod_eq_of_lt h0 h1]
  rw [e1, Int.emod_eq_emod_iff_emod_sub_eq_zero, Int.emod_eq_emod_iff_emod_sub_eq_zero]
  have e2 : d - (f - o) = o + d - f := by omega
  rw [e2]
theorem later_choice (h : m.Ok) (ps : List Int) (d : Int) (k : Nat) (left : List Int) : choice ps d ((later m one).bs.getD k b0) left = choice ps ((one : Int) + d) (m.bs.getD k b0) left := by
  by_cases hk : k < m.bs.length
  · have hb := List.getElem?_eq_getElem hk
    have ok := h.b _ (List.getElem_mem hk)
    have e1 : (later m one).bs.getD k b0 = laterB one m.bs[k] := by
      unfold later
      rw [List.getD_eq_getElem?_getD, List.getElem?_map, hb]; rfl
    rw [e1, getD_get hb]
    unfold choice laterB
    dsimp only
    by_cases q : d % m.bs[k].every = (m.bs[k].first - (one : Int)) % m.bs[k].every
    · rw [if_pos q, if_pos ((shift_mod ok.f0 ok.fe).mp q)]
    · rw [if_neg q, if_neg fun z => q ((shift_mod ok.f0 ok.fe).mpr z)]
  · have e1 : (later m one).bs.getD k b0 = b0 := by
      unfold later
      rw [List.getD_eq_getElem?_getD, List.getElem?_eq_none (by rw [List.length_map]; omega)]; rfl
    have e2 : m.bs.getD k b0 = b0 := by rw [List.getD_eq_getElem?_getD, List.getElem?_eq_none (by omega)]; rfl
    rw [e1, e2]
    unfold choice b0
    dsimp only
    rw [if_pos (by omega), if_pos (by omega)]
theorem later_left (h : m.Ok) (ps : List Int) (d : Int) (k : Nat) : leftK (later m one) ps d k = leftK m ps ((one : Int) + d) k :=
  leftK_congr m (later_stock m one) (fun k left => later_choice m one h ps d k left) k
theorem later_bl (h : m.Ok) (ps : List Int) (d : Int) : behindL (later m one) ps d = behindL m ps ((one : Int) + d) := by
  unfold behindL leftE
  rw [later_len]
  refine List.map_congr_left fun i hi => ?_
  rw [later_getD m one (List.mem_range.mp hi), later_left m one h]
  have : (later m one).bs.length = m.bs.length := by simp [later]
  rw [this]
  rfl
theorem later_bt (h : m.Ok) (ps : List Int) (d : Int) : bought (later m one) ps d = bought m ps ((one : Int) + d) := by
  unfold bought
  have : (later m one).bs.length = m.bs.length := by simp [later]
  rw [this]
  refine List.map_congr_left fun k _ => ?_
  unfold goodK
  rw [later_left m one h, later_choice m one h]
theorem later_pr (h : m.Ok) : ∀ k, prK (later m one) k = prK m (one + k)
  | 0 => by
    show prices0 (later m one) = prK m one
    unfold prices0
    apply List.ext_getElem?
    intro i
    by_cases hi : i < m.ss.length
    · have hp : i < (prK m one).length := by rw [prK_len]; exact hi
      unfold later
      rw [List.map_map, List.getElem?_map, List.getElem?_range hi]
      simp [laterS, List.getD_eq_getElem?_getD, List.getElem?_eq_getElem hp]
    · rw [List.getElem?_eq_none (by rw [List.length_map, later_len]; omega), List.getElem?_eq_none (by rw [prK_len]; omega)]
  | k + 1 => by
    show behindL (later m one) (prK (later m one) k) (k : Int) = behindL m (prK m (one + k)) ((one + k : Nat) : Int)
    rw [later_pr h k, later_bl m one h]
    rw [show ((one : Int) + (k : Int)) = ((one + k : Nat) : Int) from by omega]
theorem later_bg (h : m.Ok) (k : Nat) : bgK (later m one) k = bgK m (one + k) := by
  unfold bgK
  rw [later_pr m one h, later_bt m one h]
  rw [show ((one : Int) + (k : Int)) = ((one + k : Nat) : Int) from by omega]
theorem behind_in {s : Se} (h : s.Ok) {p left : Int} (h0 : s.low ≤ p) (h1 : p ≤ s.high) : s.low ≤ behind s p left ∧ behind s p left ≤ s.high := by
  have a := h.up0
  have b := h.dn0
  unfold behind
  split
  · omega
  · split <;> omega
theorem pr_in (h : m.Ok) {i : Nat} (hi : i < m.ss.length) : ∀ k, (m.ss.getD i se0).low ≤ (prK m k).getD i 0 ∧ (prK m k).getD i 0 ≤ (m.ss.getD i se0).high
  | 0 => by
    have hs := List.getElem?_eq_getElem hi
    have ok := h.s _ (List.getElem_mem hi)
    have e : (prK m 0).getD i 0 = m.ss[i].price := by
      show (m.ss.map Se.price).getD i 0 = _
      rw [List.getD_eq_getElem?_getD, List.getElem?_map, hs]; rfl
    rw [e, getD_get hs]
    exact ⟨ok.lowP, ok.pHigh⟩
  | k + 1 => by
    have ih := pr_in h hi k
    have ok : (m.ss.getD i se0).Ok := by rw [getD_get (List.getElem?_eq_getElem hi)]; exact h.s _ (List.getElem_mem hi)
    have e : (prK m (k + 1)).getD i 0 = behind (m.ss.getD i se0) ((prK m k).getD i 0) ((leftE m (prK m k) (k : Int)).getD i 0) := by
      show (behindL m (prK m k) (k : Int)).getD i 0 = _
      unfold behindL
      rw [List.getD_eq_getElem?_getD, List.getElem?_map, List.getElem?_range hi]; rfl
    rw [e]
    exact behind_in ok ih.1 ih.2
theorem later_ok (h : m.Ok) : (later m one).Ok where
  s4 := by rw [later_len]; exact h.s4
  b6 := by simp [later]; exact h.b6
  s := fun s hs => by
    unfold later at hs
    obtain ⟨i, hi, rfl⟩ := List.mem_map.mp hs
    have hi := List.mem_range.mp hi
    have p := pr_in m h hi one
    have ok : (m.ss.getD i se0).Ok := by rw [getD_get (List.getElem?_eq_getElem hi)]; exact h.s _ (List.getElem_mem hi)
    exact ⟨ok.low0, p.1, p.2, ok.high99, ok.st1, ok.st5, ok.up0, ok.up9, ok.dn0, ok.dn9⟩
  b := fun b hb => by
    unfold later at hb
    obtain ⟨b', hb', rfl⟩ := List.mem_map.mp hb
    have ok := h.b b' hb'
    have e1 := ok.e1
    exact ⟨ok.e1, ok.e4, Int.emod_nonneg _ (by omega), Int.emod_lt_of_pos _ (by omega), by rw [later_len]; exact ok.len, ok.w⟩
theorem later_rep (h : m.Ok) {n f : Nat} (r : Rep m n f) : ∃ n2 f2, n2 ≤ n ∧ Rep (later m one) n2 f2 := by
  rcases rep_or (later m one) (n + 1) with ⟨n2, f2, hn, r2⟩ | hnew
  · exact ⟨n2, f2, by omega, r2⟩
  · exfalso
    obtain ⟨e1, e2⟩ := r.keys
    refine hnew n (by omega) f r.lt ?_
    unfold keyK
    rw [later_pr m one h, later_pr m one h]
    have : prK m (one + f) = prK m (one + n) := by
      have := round_pr m h e1 e2 one
      rw [Nat.add_comm one f, Nat.add_comm one n]; exact this
    rw [this, e2]
end
end Pr

set_option Elab.async false
set_option linter.all false
set_option maxRecDepth 100000
set_option maxHeartbeats 400000
/-! M16: a drawn market can be -/
namespace Pr
open PySem PySem.Spec PyProof.Rows L2 Fw
theorem draw {n : Int} (g : G) (h0 : 0 < n) (h1 : n < 1000000000000000000) : ∃ x g', 0 ≤ x ∧ x < n ∧ ph__law_next [.rng, .int n] g = some (.ok (.int x), g') := by
  refine ⟨(nextG n g).1, (nextG n g).2, ?_, ?_, ?_⟩
  · unfold nextG; dsimp only
    generalize (g.cs ++ [0]).getD (g.k % (if (g.cs.length : Int) > 1 then (g.cs.length : Int) else 1)).toNat 0 = c
    split
    · exact Int.emod_nonneg _ (by omega)
    · exact Int.emod_nonneg _ (by omega)
  · unfold nextG; dsimp only
    generalize (g.cs ++ [0]).getD (g.k % (if (g.cs.length : Int) > 1 then (g.cs.length : Int) else 1)).toNat 0 = c
    split
    · exact Int.emod_lt_of_pos _ h0
    · exact Int.emod_lt_of_pos _ h0
  · unfold ph__law_next; dsimp only; rw [if_pos ⟨h0, h1⟩]
theorem dr {ρ : List Sl} {g g1 g' : G} {mn : MV D} {n x : Int} (h : ρ[0]? = some (.im .rng)) (hn : mn ρ g = some (.ok (.int n), g1)) (hd : ph__law_next [.rng, .int n] g1 = some (.ok (.int x), g')) : mCall0 2 ph__law_next (mCons (mVarB 0) (mCons mn mNil)) ρ g = some (.ok (.int x), g') :=
  mCall0_ok (mCons_ok (mVarB_im h) (mCons_ok hn mNil_ok)) rfl hd
/-- a walk by what holds between its rounds -/
theorem forGo_inv {bd : BndT} {m : MSt} {P : Nat → List Sl → G → Prop} : ∀ (ds : List D) (k : Nat) (ρ : List Sl) (g : G), P k ρ g → (∀ j d ρ g, ds[j]? = some d → P (k + j) ρ g → ∃ ρ1 ρ2 g2, bd d ρ = some ρ1 ∧ m ρ1 g = some (.nx, ρ2, g2) ∧ P (k + j + 1) ρ2 g2) →
    ∃ ρ' g', forGo bd m ds ρ g = some (.nx, ρ', g') ∧ P (k + ds.length) ρ' g'
  | [], k, ρ, g, p, _ => ⟨ρ, g, rfl, p⟩
  | d :: ds, k, ρ, g, p, H => by
    obtain ⟨ρ1, ρ2, g2, h1, h2, p2⟩ := H 0 d ρ g rfl p
    obtain ⟨ρ', g', h3, p3⟩ := forGo_inv ds (k + 1) ρ2 g2 p2 fun j d ρ g hd hp => by
      have e : k + 1 + j = k + (j + 1) := by omega
      rw [e] at hp
      have := H (j + 1) d ρ g (by simpa using hd) hp
      rw [show k + (j + 1) + 1 = k + 1 + j + 1 from by omega] at this
      exact this
    refine ⟨ρ', g', ?_, ?_⟩
    · unfold forGo
      rw [h1]; dsimp only
      rw [h2]; exact h3
    · rw [show k + (d :: ds).length = k + 1 + ds.length from by simp; omega]
      exact p3
theorem dDiv_ok {a b : Int} (h : 0 < b ∧ b < 1000000000) : dDiv (.int a) (.int b) = some (.int (a / b)) := by simp [dDiv, dIIc, h]
theorem ix_two {a b i : Int} (h : i = 0 ∨ i = 1) : dIx (.lst [.int a, .int b]) (.int i) = some (.int (if i = 0 then a else b)) := by
  rcases h with e | e <;> subst e <;> rfl
def rest6 (h : List Sl) : List Sl := h
section
variable {most : Int} (hm0 : 0 ≤ most) (hm1 : most ≤ 99)
include hm0 hm1
theorem lc_draw : ∀ (ds : List D) (ρ : List Sl) (g : G), ρ[0]? = some (.im .rng) → ρ[3]? = some (.im (.int most)) → ∃ (ns : List Int) (g' : G), ns.length = ds.length ∧ (∀ x ∈ ns, 0 ≤ x ∧ x ≤ most) ∧
    lcGo (bName 12) (mret true) (mCall0 2 ph__law_next (mCons (mVarB 0) (mCons (mOp dAdd (mVarB 3) (mret (.int 1))) mNil))) ρ ds g = some (ns.map D.int, g')
  | [], ρ, g, _, _ => ⟨[], g, rfl, (fun x hx => by cases hx), rfl⟩
  | d :: ds, ρ, g, h0, h3 => by
    obtain ⟨x, g1, x0, x1, e⟩ := draw (n := most + 1) g (by omega) (by omega)
    obtain ⟨ns, g', hl, hb, e2⟩ := lc_draw ds ρ g1 h0 h3
    have a0 : (ρ.set 12 (.im d))[0]? = some (.im .rng) := by rw [List.getElem?_set_ne (by decide)]; exact h0
    have a3 : (ρ.set 12 (.im d))[3]? = some (.im (.int most)) := by rw [List.getElem?_set_ne (by decide)]; exact h3
    have e1 := dr (mn := mOp dAdd (mVarB 3) (mret (.int 1))) a0 (mOp_ok (mVarB_im a3) mret_ok rfl) e
    refine ⟨x :: ns, g', by simp [hl], fun y hy => ?_, ?_⟩
    · rcases List.mem_cons.mp hy with q | q
      · rw [q]; omega
      · exact hb y q
    · unfold lcGo
      show (match mCall0 2 ph__law_next (mCons (mVarB 0) (mCons (mOp dAdd (mVarB 3) (mret (.int 1))) mNil)) (ρ.set 12 (.im d)) g with
        | some (.ok y, g2) => (match lcGo (bName 12) (mret true) (mCall0 2 ph__law_next (mCons (mVarB 0) (mCons (mOp dAdd (mVarB 3) (mret (.int 1))) mNil))) ρ ds g2 with
          | some (ys, g3) => some (y :: ys, g3)
          | none => none)
        | _ => none) = _
      rw [e1]; dsimp only
      rw [e2]; rfl
theorem law_market_ok {goods buyers : Int} (g0 : 0 ≤ goods) (g4 : goods ≤ 4) (b0 : 0 ≤ buyers) (b6 : buyers ≤ 6) (g : G) :
    ∃ m g', ph__law_market [.rng, .int goods, .int buyers, .int most] g = some (.ok (dMk m), g') ∧ m.Ok ∧ (m.ss.length : Int) ≤ goods ∧ (m.bs.length : Int) ≤ buyers := by
  obtain ⟨ns, ga, ns0, ns1, ens⟩ := draw (n := goods + 1) g (by omega) (by omega)
  -- sellers
  obtain ⟨ρs, gs, es, ss, hsl, hsok, rfl⟩ := forGo_inv (bd := bName 4) (m := mFgE [4, 7, 8, 9, 10] (mSeq (mAsg (mOp dIx (mFr (mLst (mCons (mret (.int 0)) (mCons (mCall0 2 ph__law_next (mCons (mVarB 0) (mCons (mOp dAdd (mVarB 3) (mret (.int 1))) mNil))) mNil)))) (mOp dDiv (mCall0 2 ph__law_next (mCons (mVarB 0) (mCons (mret (.int 4)) mNil))) (mret (.int 3)))) (bName 7))
    (mSeq (mAsg (mOp dAdd (mVarB 7) (mCall0 2 ph__law_next (mCons (mVarB 0) (mCons (mOp dAdd (mOp dSub (mVarB 3) (mVarB 7)) (mret (.int 1))) mNil)))) (bName 8))
    (mSeq (mAsg (mOp dAdd (mVarB 7) (mCall0 2 ph__law_next (mCons (mVarB 0) (mCons (mOp dAdd (mOp dSub (mVarB 8) (mVarB 7)) (mret (.int 1))) mNil)))) (bName 9))
    (mSeq (mAsg (mOp dAdd (mret (.int 1)) (mCall0 2 ph__law_next (mCons (mVarB 0) (mCons (mOp dIx (mFr (mLst (mCons (mret (.int 2)) (mCons (mret (.int 5)) mNil)))) (mOp dDiv (mCall0 2 ph__law_next (mCons (mVarB 0) (mCons (mret (.int 3)) mNil))) (mret (.int 2)))) mNil)))) (bName 10))
    (mApp 5 (mTup (mCons (mVar 9) (mCons (mVar 10) (mCons (mCall0 2 ph__law_next (mCons (mVarB 0) (mCons (mret (.int 10)) mNil))) (mCons (mCall0 2 ph__law_next (mCons (mVarB 0) (mCons (mret (.int 10)) mNil))) (mCons (mVar 7) (mCons (mVar 8) mNil)))))))))))))
    (P := fun k ρ g => ∃ ss : List Se, ss.length = k ∧ (∀ s ∈ ss, s.Ok) ∧ ρ = [.im .rng, .im (.int goods), .im (.int buyers), .im (.int most), .no, .ow (.lst (ss.map dSe)), .ow (.lst []), .no, .no, .no, .no, .no, .no])
    (rngD 0 ns.toNat) 0 [.im .rng, .im (.int goods), .im (.int buyers), .im (.int most), .no, .ow (.lst []), .ow (.lst []), .no, .no, .no, .no, .no, .no] ga ⟨[], rfl, (fun s hs => by cases hs), rfl⟩ (by
      rintro j d ρ g hd ⟨ss, hl, hok, rfl⟩
      obtain ⟨rfl, hj⟩ := rngD_nat hd
      rw [Nat.zero_add] at hl
      obtain ⟨x1, g1, p1, q1, e1⟩ := draw (n := most + 1) g (by omega) (by omega)
      obtain ⟨x2, g2, p2, q2, e2⟩ := draw (n := 4) g1 (by omega) (by omega)
      have hix : x2 / 3 = 0 ∨ x2 / 3 = 1 := by omega
      generalize hlow : (if x2 / 3 = 0 then 0 else x1) = low
      have l0 : 0 ≤ low := by rw [← hlow]; split <;> omega
      have l1 : low ≤ most := by rw [← hlow]; split <;> omega
      obtain ⟨x3, g3, p3, q3, e3⟩ := draw (n := most - low + 1) g2 (by omega) (by omega)
      obtain ⟨x4, g4', p4, q4, e4⟩ := draw (n := low + x3 - low + 1) g3 (by omega) (by omega)
      obtain ⟨x5, g5, p5, q5, e5⟩ := draw (n := 3) g4' (by omega) (by omega)
      have hix5 : x5 / 2 = 0 ∨ x5 / 2 = 1 := by omega
      generalize hst : (if x5 / 2 = 0 then (2 : Int) else 5) = st
      have s0 : 2 ≤ st ∧ st ≤ 5 := by rw [← hst]; split <;> omega
      obtain ⟨x6, g6, p6, q6, e6⟩ := draw (n := st) g5 (by omega) (by omega)
      obtain ⟨x7, g7, p7, q7, e7⟩ := draw (n := 10) g6 (by omega) (by omega)
      obtain ⟨x8, g8, p8, q8, e8⟩ := draw (n := 10) g7 (by omega) (by omega)
      have ilow : dIx (.lst [.int 0, .int x1]) (.int (x2 / 3)) = some (.int low) := by rw [ix_two hix, hlow]
      have ist : dIx (.lst [.int 2, .int 5]) (.int (x5 / 2)) = some (.int st) := by rw [ix_two hix5, hst]
      refine ⟨_, [.im .rng, .im (.int goods), .im (.int buyers), .im (.int most), .no, .ow (.lst ((ss ++ [Se.mk (low + x4) (1 + x6) x7 x8 low (low + x3)]).map dSe)), .ow (.lst []), .no, .no, .no, .no, .no, .no], g8, rfl, ?_, ss ++ [Se.mk (low + x4) (1 + x6) x7 x8 low (low + x3)], by simp [hl], fun s hs => ?_, rfl⟩
      · refine mFgE_nx (ρ1 := [.im .rng, .im (.int goods), .im (.int buyers), .im (.int most), .im (.int (j : Int)), .ow (.lst (ss.map dSe ++ [dSe (Se.mk (low + x4) (1 + x6) x7 x8 low (low + x3))])), .ow (.lst []), .im (.int low), .im (.int (low + x3)), .im (.int (low + x4)), .im (.int (1 + x6)), .no, .no]) ?_ (by rw [List.map_append]; rfl)
        refine mSeq_nx (mAsg_ok (mOp_ok (mFr_ok (mLst_ok (mCons_ok mret_ok (mCons_ok (dr rfl (mOp_ok (mVarB_im rfl) mret_ok rfl) e1) mNil_ok)) rfl)) (mOp_ok (dr rfl mret_ok e2) mret_ok (dDiv_ok (by omega))) ilow) rfl) ?_
        refine mSeq_nx (mAsg_ok (mOp_ok (mVarB_im rfl) (dr rfl (mOp_ok (mOp_ok (mVarB_im rfl) (mVarB_im rfl) rfl) mret_ok rfl) e3) rfl) rfl) ?_
        refine mSeq_nx (mAsg_ok (mOp_ok (mVarB_im rfl) (dr rfl (mOp_ok (mOp_ok (mVarB_im rfl) (mVarB_im rfl) rfl) mret_ok rfl) e4) rfl) rfl) ?_
        refine mSeq_nx (mAsg_ok (mOp_ok mret_ok (dr rfl (mOp_ok (mFr_ok (mLst_ok (mCons_ok mret_ok (mCons_ok mret_ok mNil_ok)) rfl)) (mOp_ok (dr rfl mret_ok e5) mret_ok (dDiv_ok (by omega))) ist) e6) rfl) rfl) ?_
        exact mApp_ok rfl (mTup_ok (mCons_ok (mVar_ok rfl) (mCons_ok (mVar_ok rfl) (mCons_ok (dr rfl mret_ok e7) (mCons_ok (dr rfl mret_ok e8) (mCons_ok (mVar_ok rfl) (mCons_ok (mVar_ok rfl) mNil_ok)))))) rfl) (small_of (by rw [List.length_map]; omega))
      · rcases List.mem_append.mp hs with hs | hs
        · exact hok s hs
        · rw [List.mem_singleton] at hs
          subst hs
          exact ⟨l0, by show low ≤ low + x4; omega, by show low + x4 ≤ low + x3; omega, by show low + x3 ≤ 99; omega, by show 1 ≤ 1 + x6; omega, by show 1 + x6 ≤ 5; omega, p7, by show x7 ≤ 9; omega, p8, by show x8 ≤ 9; omega⟩)
  obtain ⟨nb, gb, nb0, nb1, enb⟩ := draw (n := buyers + 1) gs (by omega) (by omega)
  have hls : ss.length ≤ 4 := by
    rw [Nat.zero_add, rngD, List.length_map, List.length_range] at hsl
    omega
  obtain ⟨ρb, gc, eb, bs, hbl, hbok, rfl⟩ := forGo_inv (bd := bName 4) (m := mFgE [4, 11] (mSeq (mAsg (mOp dAdd (mret (.int 1)) (mOp dMul (mCall0 2 ph__law_next (mCons (mVarB 0) (mCons (mret (.int 4)) mNil))) (mCall0 2 ph__law_next (mCons (mVarB 0) (mCons (mret (.int 2)) mNil))))) (bName 11))
    (mApp 6 (mTup (mCons (mVar 11) (mCons (mCall0 2 ph__law_next (mCons (mVarB 0) (mCons (mVarB 11) mNil))) (mCons (mTupOf (mCons (mFr (mLc (mItL (mVar 5)) (bName 12) [12] (mret true) (mCall0 2 ph__law_next (mCons (mVarB 0) (mCons (mOp dAdd (mVarB 3) (mret (.int 1))) mNil))))) mNil)) mNil)))))))
    (P := fun k ρ g => ∃ bs : List Bu, bs.length = k ∧ (∀ b ∈ bs, b.Ok ss.length) ∧ ρ = [.im .rng, .im (.int goods), .im (.int buyers), .im (.int most), .no, .im (.lst (ss.map dSe)), .ow (.lst (bs.map dBu)), .no, .no, .no, .no, .no, .no])
    (rngD 0 nb.toNat) 0 [.im .rng, .im (.int goods), .im (.int buyers), .im (.int most), .no, .im (.lst (ss.map dSe)), .ow (.lst []), .no, .no, .no, .no, .no, .no] gb ⟨[], rfl, (fun s hs => by cases hs), rfl⟩ (by
      rintro j d ρ g hd ⟨bs, hl, hok, rfl⟩
      obtain ⟨rfl, hj⟩ := rngD_nat hd
      rw [Nat.zero_add] at hl
      obtain ⟨y1, g1, p1, q1, e1⟩ := draw (n := 4) g (by omega) (by omega)
      obtain ⟨y2, g2, p2, q2, e2⟩ := draw (n := 2) g1 (by omega) (by omega)
      have hy : y1 * y2 = 0 ∨ y1 * y2 = y1 := by
        have : y2 = 0 ∨ y2 = 1 := by omega
        rcases this with e | e
        · rw [e]; left; simp
        · rw [e]; right; simp
      generalize hev : 1 + y1 * y2 = ev
      have ev0 : 1 ≤ ev ∧ ev ≤ 4 := by omega
      obtain ⟨y3, g3, p3, q3, e3⟩ := draw (n := ev) g2 (by omega) (by omega)
      obtain ⟨ws, g4', hwl, hwb, ew⟩ := lc_draw hm0 hm1 (ss.map dSe) ([.im .rng, .im (.int goods), .im (.int buyers), .im (.int most), .im (.int (j : Int)), .im (.lst (ss.map dSe)), .ow (.lst (bs.map dBu)), .no, .no, .no, .no, .im (.int ev), .no]) g3 rfl rfl
      have em : dMul (.int y1) (.int y2) = some (.int (y1 * y2)) := by
        have : smallI y1 = true := by unfold smallI; exact decide_eq_true (by constructor <;> omega)
        simp [dMul, dIIc, this]
      refine ⟨_, [.im .rng, .im (.int goods), .im (.int buyers), .im (.int most), .no, .im (.lst (ss.map dSe)), .ow (.lst ((bs ++ [Bu.mk ev y3 ws]).map dBu)), .no, .no, .no, .no, .no, .no], g4', rfl, ?_, bs ++ [Bu.mk ev y3 ws], by simp [hl], fun s hs => ?_, rfl⟩
      · refine mFgE_nx (ρ1 := [.im .rng, .im (.int goods), .im (.int buyers), .im (.int most), .im (.int (j : Int)), .im (.lst (ss.map dSe)), .ow (.lst (bs.map dBu ++ [dBu (Bu.mk ev y3 ws)])), .no, .no, .no, .no, .im (.int ev), .no]) ?_ (by rw [List.map_append]; rfl)
        refine mSeq_nx (mAsg_ok (d := .int ev) (mOp_ok mret_ok (mOp_ok (dr rfl mret_ok e1) (dr rfl mret_ok e2) em) (by rw [← hev]; rfl)) rfl) ?_
        exact mApp_ok rfl (mTup_ok (mCons_ok (mVar_ok rfl) (mCons_ok (dr rfl (mVarB_im rfl) e3) (mCons_ok (mTupOf_l (mCons_ok (mFr_ok (mLc_ok (mItL_ok (mVar_ok rfl)) (small_of (by rw [List.length_map]; omega)) ew)) mNil_ok)) mNil_ok))) rfl) (small_of (by rw [List.length_map]; omega))
      · rcases List.mem_append.mp hs with hs | hs
        · exact hok s hs
        · rw [List.mem_singleton] at hs
          subst hs
          exact ⟨ev0.1, ev0.2, p3, q3, by rw [List.length_map] at hwl; exact hwl, fun x hx => ⟨(hwb x hx).1, by have := (hwb x hx).2; omega⟩⟩)
  have hlb : bs.length ≤ 6 ∧ (bs.length : Int) ≤ buyers := by
    rw [Nat.zero_add, rngD, List.length_map, List.length_range] at hbl
    omega
  have hls' : (ss.length : Int) ≤ goods := by
    rw [Nat.zero_add, rngD, List.length_map, List.length_range] at hsl
    omega
  refine ⟨⟨ss, bs⟩, gc, ?_, ⟨hls, hlb.1, hsok, hbok⟩, hls', hlb.2⟩
  unfold ph__law_market
  apply phi_rt
  · show m__law_market [.im .rng, .im (.int goods), .im (.int buyers), .im (.int most), .no, .no, .no, .no, .no, .no, .no, .no, .no] g = _
    refine mSeq_nx (par2_ow (mLst_ok mNil_ok rfl) (mLst_ok mNil_ok rfl) (by show 5 < 13; decide) (by show 6 < 13; decide)) ?_
    refine mSeq_nx (mFor_ok (mRng1_ok (mCons_ok (dr rfl (mOp_ok (mVarB_im rfl) mret_ok rfl) ens) mNil_ok) (by unfold bigI; exact decide_eq_true (by constructor <;> omega))) es) ?_
    refine mFree_ok rfl ?_
    refine mSeq_nx (mFor_ok (mRng1_ok (mCons_ok (dr rfl (mOp_ok (mVarB_im rfl) mret_ok rfl) enb) mNil_ok) (by unfold bigI; exact decide_eq_true (by constructor <;> omega))) eb) ?_
    refine mFree_ok rfl ?_
    exact mRet_ok (mTup_ok (mCons_ok (mTupOf_l (mCons_ok (mVar_ok rfl) mNil_ok)) (mCons_ok (mTupOf_l (mCons_ok (mVar_ok rfl) mNil_ok)) mNil_ok)) rfl)
end
end Pr

set_option Elab.async false
set_option linter.all false
set_option maxRecDepth 100000
set_option maxHeartbeats 400000
/-! M17: what holds of a day -/
namespace Pr
open PySem PySem.Spec PyProof.Rows L2 Fw
section
variable (m : Mk) (ps : List Int) (d : Int)
theorem choice_may {ps : List Int} {d : Int} {b : Bu} {left : List Int} {i : Nat} (h : choice ps d b left = some i) : d % b.every = b.first ∧ i < b.worths.length ∧ 0 < left.getD i 0 ∧ ps.getD i 0 ≤ b.worths.getD i 0 := by
  unfold choice at h
  split at h
  · rename_i hd
    obtain ⟨a, c⟩ := pickK_lt _ _ _ _ _ h
    unfold may at c
    rw [Bool.and_eq_true, decide_eq_true_eq, decide_eq_true_eq] at c
    exact ⟨hd, a, c.1, c.2⟩
  · cases h
theorem getD_set (l : List Int) (i j : Nat) (x : Int) (h : i < l.length) : (l.set i x).getD j 0 = if i = j then x else l.getD j 0 := by
  rw [List.getD_eq_getElem?_getD, List.getElem?_set, List.getD_eq_getElem?_getD]
  split <;> simp [h]
theorem left_cnt (h : m.Ok) {i : Nat} (hi : i < m.ss.length) : ∀ k, (leftK m ps d k).getD i 0 + cnt ((List.range k).map (goodK m ps d)) i = (m.ss.getD i se0).stock ∧ 0 ≤ (leftK m ps d k).getD i 0
  | 0 => by
    have hs := List.getElem?_eq_getElem hi
    have ok := h.s _ (List.getElem_mem hi)
    have e : (leftK m ps d 0).getD i 0 = m.ss[i].stock := by
      show (m.ss.map Se.stock).getD i 0 = _
      rw [List.getD_eq_getElem?_getD, List.getElem?_map, hs]; rfl
    rw [e, getD_get hs]
    have := ok.st1
    refine ⟨?_, by omega⟩
    show m.ss[i].stock + 0 = _
    omega
  | k + 1 => by
    obtain ⟨a, c⟩ := left_cnt h hi k
    have er : (List.range (k + 1)).map (goodK m ps d) = (List.range k).map (goodK m ps d) ++ [goodK m ps d k] := by rw [List.range_succ]; simp
    rw [er, cnt_snoc]
    have el : leftK m ps d (k + 1) = take1 (leftK m ps d k) (goodK m ps d k) := rfl
    rw [el]
    cases hg : goodK m ps d k with
    | none =>
      unfold take1
      dsimp only
      rw [if_neg (by intro z; cases z)]
      exact ⟨by omega, c⟩
    | some j =>
      obtain ⟨_, _, hp, _⟩ := choice_may (show choice ps d (m.bs.getD k b0) (leftK m ps d k) = some j from hg)
      have hj : j < (leftK m ps d k).length := by
        rcases Nat.lt_or_ge j (leftK m ps d k).length with q | q
        · exact q
        · rw [List.getD_eq_getElem?_getD, List.getElem?_eq_none q] at hp
          exact absurd hp (by decide)
      unfold take1
      dsimp only
      rw [getD_set _ _ _ _ hj]
      by_cases e : j = i
      · subst e
        rw [if_pos rfl, if_pos rfl]
        exact ⟨by omega, by omega⟩
      · rw [if_neg e, if_neg (by intro z; cases z; exact e rfl)]
        exact ⟨by omega, c⟩
/-- what a day does to a price -/
structure Kept (s : Se) (p q c : Int) : Prop where
  lo : s.low ≤ q
  hi : q ≤ s.high
  dn : p - s.down ≤ q
  up : q ≤ p + s.up
  le : c ≤ s.stock
  out : c = s.stock → p ≤ q
  non : c = 0 → q ≤ p
  some' : 0 < c → c < s.stock → q = p
theorem kept_day (h : m.Ok) (t : Nat) {i : Nat} (hi : i < m.ss.length) : Kept (m.ss.getD i se0) ((prK m t).getD i 0) ((prK m (t + 1)).getD i 0) (cnt (bgK m t) i) := by
  have ok : (m.ss.getD i se0).Ok := by rw [getD_get (List.getElem?_eq_getElem hi)]; exact h.s _ (List.getElem_mem hi)
  obtain ⟨p1, p2⟩ := pr_in m h hi t
  obtain ⟨q1, q2⟩ := pr_in m h hi (t + 1)
  obtain ⟨c1, c2⟩ := left_cnt m (prK m t) (t : Int) h hi m.bs.length
  have e : (prK m (t + 1)).getD i 0 = behind (m.ss.getD i se0) ((prK m t).getD i 0) ((leftE m (prK m t) (t : Int)).getD i 0) := by
    show (behindL m (prK m t) (t : Int)).getD i 0 = _
    unfold behindL
    rw [List.getD_eq_getElem?_getD, List.getElem?_map, List.getElem?_range hi]; rfl
  have ec : cnt (bgK m t) i = cnt ((List.range m.bs.length).map (goodK m (prK m t) (t : Int))) i := rfl
  have hc0 : 0 ≤ cnt (bgK m t) i := by unfold cnt; omega
  rw [← ec] at c1
  change (leftE m (prK m t) (t : Int)).getD i 0 + cnt (bgK m t) i = _ at c1
  change 0 ≤ (leftE m (prK m t) (t : Int)).getD i 0 at c2
  generalize (leftE m (prK m t) (t : Int)).getD i 0 = left at *
  generalize cnt (bgK m t) i = c at *
  generalize (prK m (t + 1)).getD i 0 = q at *
  generalize (prK m t).getD i 0 = p at *
  generalize m.ss.getD i se0 = s at *
  have a1 := ok.st1
  have a2 := ok.up0
  have a3 := ok.dn0
  unfold behind at e
  by_cases l0 : left = 0
  · rw [if_pos l0] at e
    refine ⟨q1, q2, by omega, by omega, by omega, fun _ => by omega, fun _ => by omega, fun _ _ => by omega⟩
  · rw [if_neg l0] at e
    by_cases l1 : left = s.stock
    · rw [if_pos l1] at e
      refine ⟨q1, q2, by omega, by omega, by omega, fun _ => by omega, fun _ => by omega, fun _ _ => by omega⟩
    · rw [if_neg l1] at e
      refine ⟨q1, q2, by omega, by omega, by omega, fun _ => by omega, fun _ => by omega, fun _ _ => by omega⟩
theorem cnt_opt (l : List (Option Nat)) (i : Nat) : dCnt (.lst (l.map dOpt)) (.int (i : Int)) = some (.int (cnt l i)) := by
  have h1 : (l.map dOpt).all dNoI = true := by
    induction l with
    | nil => rfl
    | cons x l ih => rw [List.map_cons, List.all_cons, ih]; cases x <;> rfl
  have h2 : (l.map dOpt).countP (dIsK (i : Int)) = l.countP fun x => decide (x = some i) := by
    rw [List.countP_map]
    refine List.countP_congr fun x _ => ?_
    cases x with
    | none => simp [dOpt, dIsK]
    | some j =>
      show (decide ((j : Int) = (i : Int)) = true) ↔ _
      rw [decide_eq_true_eq, decide_eq_true_eq]
      constructor
      · intro z; rw [show j = i from by omega]
      · intro z; cases z; rfl
  unfold dCnt cnt
  dsimp only
  rw [if_pos h1, h2]
theorem mCnt_ok {ma my : MV D} {ρ : List Sl} {g : G} {l : List (Option Nat)} {i : Nat} (h1 : ma ρ g = some (.ok (.lst (l.map dOpt)), g)) (h2 : my ρ g = some (.ok (.int (i : Int)), g)) : mCnt ma my ρ g = some (.ok (.int (cnt l i)), g) :=
  mbind_ok h1 (mbind_ok h2 (mlift_ok (cnt_opt l i)))
end
end Pr

set_option Elab.async false
set_option linter.all false
set_option maxRecDepth 100000
set_option maxHeartbeats 400000
/-! M18: prices keep to their bounds and steps: what the law's own look answers -/
namespace Pr
open PySem PySem.Spec PyProof.Rows L2 Fw
theorem ix_list {α : Type} {l : List α} {f : α → D} {i : Nat} {a0 : α} (h : i < l.length) : dIx (.lst (l.map f)) (.int (i : Int)) = some (f (l.getD i a0)) := by
  show atI (l.map f) (i : Int) = _
  unfold atI ixN
  rw [if_pos (by omega), if_pos (by simpa using h)]
  simp [List.getElem?_eq_getElem h, List.getD_eq_getElem?_getD]
section
variable (m : Mk)
theorem ix_told {n t : Nat} (h : t < n) : dIx (.lst (toldD m n)) (.int (t : Int)) = some (tellD m t) := by
  show atI (toldD m n) _ = _
  unfold atI ixN
  rw [if_pos (by omega), if_pos (by rw [toldD_len]; omega)]
  simp [toldD, List.getElem?_range h]
theorem dNe_int (a b : Int) : dNe (.int a) (.int b) = some (.bl (!decide (a = b))) := by simp [dNe, scD]
def stK (g : G) : List Sl × G := ([.im (dMk m), .im (.lst (toldD m 40)), .no, .no, .no, .no, .no, .no, .no, .no, .no, .no, .no, .no, .no, .no], g)
theorem kept_ok (h : m.Ok) {n f : Nat} (r : Rep m n f) (hn : n ≤ 5000) (g : G) : ph__law_is_kept [dMk m] g = some (.ok (.bl true), g) := by
  have h4 := h.s4
  have h6 := h.b6
  unfold ph__law_is_kept
  apply phi_rt
  · rw [start_mk]
    refine mSeq_nx (mAsg_ok (mCall0_ok (mCons_ok (mVarB_im rfl) (mCons_ok mret_ok mNil_ok)) rfl (days_ok m h g)) rfl) ?_
    refine mSeq_nx (mFor_ok (mRng1_ok (mCons_ok mret_ok mNil_ok) (by decide)) (forGo_nx (S := fun _ => stK m g) (rngD 0 40) 0 fun t e he => ?_)) (mRet_ok mret_ok)
    obtain ⟨rfl, ht⟩ := rngD_nat he
    have ht : t < 40 := ht
    refine ⟨_, rfl, .inl ?_⟩
    have hpl := prK_len m t
    have hpl' := prK_len m (t + 1)
    have hbl : (bgK m t).length = m.bs.length := by simp [bgK, bought]
    refine mFgE_nx (ρ1 := [.im (dMk m), .im (.lst (toldD m 40)), .im (.int (t : Int)), .im (dInts (prK m (t + 1))), .no, .im (dInts (prK m t)), .im (.lst ((bgK m t).map dOpt)), .no, .no, .no, .no, .no, .no, .no, .no, .no]) ?_
    refine mSeq_nx (mAsg_ok (mOp_ok (mVar_ok rfl) (mVarB_im rfl) (ix_told m ht)) rfl) ?_
    refine mSeq_nx (g1 := g) (mAsg_ok (d := dInts (prK m (t + 1))) ?_ rfl) ?_
    · by_cases c : t < 39
      · refine mIf_t (mB_ok (mOp_ok (mVarB_im rfl) mret_ok (by simp [dLt, dII]; omega))) ?_
        have ei := ix_told m (n := 40) (t := t + 1) (by omega)
        exact mOp_ok (mOp_ok (mVar_ok rfl) (mOp_ok (mVarB_im rfl) mret_ok rfl) ei) mret_ok rfl
      · have : t = 39 := by omega
        subst this
        refine mIf_f (mB_ok (mOp_ok (mVarB_im rfl) mret_ok rfl)) ?_
        exact mOp_ok (mCall0_ok (mCons_ok (mVarB_im rfl) (mCons_ok mret_ok mNil_ok)) rfl (after_tot m h r hn (many := 40) (by decide) g)) mret_ok rfl
    have el : fLen [dInts (prK m t)] = some (.int (m.ss.length : Nat)) := by simp [fLen, dInts, hpl]
    refine mSeq_nx (mFor_ok ((mRng1_ok (mCons_ok (mCB_ok (mCons_ok (mVarB_im rfl) mNil_ok) el) mNil_ok) (by unfold bigI; exact decide_eq_true (by constructor <;> omega))).trans (by rw [Int.toNat_natCast]))
      (forGo_nx (S := fun _ => ([.im (dMk m), .im (.lst (toldD m 40)), .im (.int (t : Int)), .im (dInts (prK m (t + 1))), .no, .im (dInts (prK m t)), .im (.lst ((bgK m t).map dOpt)), .no, .no, .no, .no, .no, .no, .no, .no, .no], g)) (rngD 0 m.ss.length) 0 fun i e he => ?_)) ?_
    · obtain ⟨rfl, hi⟩ := rngD_nat he
      have K := kept_day m h t hi
      have ess := at_map (l := m.ss) (f := dSe) (a0 := se0) hi
      have in' := ix_tup (l := prK m (t + 1)) (i := i) (by omega)
      have io := ix_tup (l := prK m t) (i := i) (by omega)
      generalize m.ss.getD i se0 = s at *
      generalize hq : (prK m (t + 1)).getD i 0 = q at *
      generalize hp : (prK m t).getD i 0 = p at *
      refine ⟨_, rfl, .inl ?_⟩
      refine mFgE_nx (ρ1 := [.im (dMk m), .im (.lst (toldD m 40)), .im (.int (t : Int)), .im (dInts (prK m (t + 1))), .im (.int (i : Int)), .im (dInts (prK m t)), .im (.lst ((bgK m t).map dOpt)), .im (.int s.price), .im (.int s.stock), .im (.int s.up), .im (.int s.down), .im (.int s.low), .im (.int s.high), .no, .no, .no]) ?_
      refine mSeq_nx (mAsg_ok (mOp_ok (mOp_ok (mVar_ok rfl) mret_ok rfl) (mVarB_im rfl) ess) rfl) ?_
      obtain ⟨k1, k2, k3, k4, k5, k6, k7, k8⟩ := K
      generalize hc : cnt (bgK m t) i = c at *
      have ec : ∀ {ρ : List Sl}, ρ[6]? = some (.im (.lst ((bgK m t).map dOpt))) → ρ[4]? = some (.im (.int (i : Int))) → mCnt (mVarB 6) (mVarB 4) ρ g = some (.ok (.int c), g) := fun a b => by rw [← hc]; exact mCnt_ok (mVarB_im a) (mVarB_im b)
      have eN : ∀ {ρ : List Sl}, ρ[3]? = some (.im (dInts (prK m (t + 1)))) → ρ[4]? = some (.im (.int (i : Int))) → mOp dIx (mVarB 3) (mVarB 4) ρ g = some (.ok (.int q), g) := fun a b => mOp_ok (mVarB_im a) (mVarB_im b) in'
      have eO : ∀ {ρ : List Sl}, ρ[5]? = some (.im (dInts (prK m t))) → ρ[4]? = some (.im (.int (i : Int))) → mOp dIx (mVarB 5) (mVarB 4) ρ g = some (.ok (.int p), g) := fun a b => mOp_ok (mVarB_im a) (mVarB_im b) io
      refine mSeq_nx (mIfS_f (mTOr_f (mTNot_ok (b := true) (mB_ok (mChain_ok (mVarB_im rfl) (eN rfl rfl) (mVarB_im rfl) rfl rfl (by rw [decide_eq_true k1, decide_eq_true k2]; rfl)))) (mTOr_f (mTNot_ok (b := true) (mB_ok (mChain_ok (mOp_ok (eO rfl rfl) (mVarB_im rfl) rfl) (eN rfl rfl) (mOp_ok (eO rfl rfl) (mVarB_im rfl) rfl) rfl rfl (by rw [decide_eq_true k3, decide_eq_true k4]; rfl)))) (mB_ok (mOp_ok (ec rfl rfl) (mVarB_im rfl) (by simp [dGt, dII]; exact k5))))) rfl) ?_
      refine mSeq_nx (mIfS_f (mTOr_ok (b := false) (b' := false) (mTAnd_ok (mB_ok (mOp_ok (ec rfl rfl) (mVarB_im rfl) (dEq_int _ _))) (mB_ok (mOp_ok (eN rfl rfl) (eO rfl rfl) rfl)) ?_) (mTAnd_ok (mB_ok (mOp_ok (ec rfl rfl) mret_ok (dEq_int _ _))) (mB_ok (mOp_ok (eN rfl rfl) (eO rfl rfl) rfl)) ?_)) rfl) ?_
      · by_cases z : c = s.stock
        · have := k6 z
          rw [decide_eq_false (show ¬ q < p by omega), Bool.and_false]
        · rw [decide_eq_false z, Bool.false_and]
      · by_cases z : c = 0
        · have := k7 z
          rw [decide_eq_false (show ¬ p < q by omega), Bool.and_false]
        · rw [decide_eq_false z, Bool.false_and]
      · refine mIfS_f (mTAnd_ok (mB_ok (mChain_ok mret_ok (ec rfl rfl) (mVarB_im rfl) rfl rfl rfl)) (mB_ok (mOp_ok (eN rfl rfl) (eO rfl rfl) (dNe_int _ _))) ?_) rfl
        by_cases z : 0 < c ∧ c < s.stock
        · have := k8 z.1 z.2
          rw [decide_eq_true this]; simp
        · have : (decide (0 < c) && decide (c < s.stock)) = false := by
            rw [Bool.and_eq_false_iff, decide_eq_false_iff_not, decide_eq_false_iff_not]; omega
          rw [this, Bool.false_and]
    · have el2 : fLen [.lst ((bgK m t).map dOpt)] = some (.int (m.bs.length : Nat)) := by simp [fLen, hbl]
      refine mFor_ok ((mRng1_ok (mCons_ok (mCB_ok (mCons_ok (mVarB_im rfl) mNil_ok) el2) mNil_ok) (by unfold bigI; exact decide_eq_true (by constructor <;> omega))).trans (by rw [Int.toNat_natCast])) ?_
      refine (forGo_nx (S := fun _ => ([.im (dMk m), .im (.lst (toldD m 40)), .im (.int (t : Int)), .im (dInts (prK m (t + 1))), .no, .im (dInts (prK m t)), .im (.lst ((bgK m t).map dOpt)), .no, .no, .no, .no, .no, .no, .no, .no, .no], g)) (rngD 0 m.bs.length) 0 fun k e he => ?_).trans rfl
      obtain ⟨rfl, hk⟩ := rngD_nat he
      have hb := List.getElem?_eq_getElem hk
      have ok := h.b _ (List.getElem_mem hk)
      have ebs := at_map (l := m.bs) (f := dBu) (a0 := b0) hk
      have ig := ix_list (l := bgK m t) (f := dOpt) (a0 := none) (i := k) (by omega)
      have eg : (bgK m t).getD k none = goodK m (prK m t) (t : Int) k := by
        unfold bgK bought
        rw [List.getD_eq_getElem?_getD, List.getElem?_map, List.getElem?_range hk]; rfl
      rw [eg] at ig
      have hch : goodK m (prK m t) (t : Int) k = choice (prK m t) (t : Int) (m.bs.getD k b0) (leftK m (prK m t) (t : Int) k) := rfl
      have okb : (m.bs.getD k b0).Ok m.ss.length := by rw [getD_get hb]; exact ok
      generalize m.bs.getD k b0 = b at *
      refine ⟨_, rfl, .inl ?_⟩
      refine mFgE_nx (ρ1 := [.im (dMk m), .im (.lst (toldD m 40)), .im (.int (t : Int)), .im (dInts (prK m (t + 1))), .im (.int (k : Int)), .im (dInts (prK m t)), .im (.lst ((bgK m t).map dOpt)), .no, .no, .no, .no, .no, .no, .im (.int b.every), .im (.int b.first), .im (dInts b.worths)]) ?_
      refine mSeq_nx (mAsg_ok (mOp_ok (mOp_ok (mVar_ok rfl) mret_ok rfl) (mVarB_im rfl) ebs) rfl) ?_
      cases hg : goodK m (prK m t) (t : Int) k with
      | none =>
        rw [hg] at ig
        refine mSeq_nx (mIfS_f (mTAnd_f (mB_ok (mOp_ok (mOp_ok (mVarB_im rfl) (mVarB_im rfl) ig) mret_ok rfl))) rfl) ?_
        exact mIfS_f (mTAnd_f (mB_ok (mOp_ok (mOp_ok (mVarB_im rfl) (mVarB_im rfl) ig) mret_ok rfl))) rfl
      | some j =>
        rw [hg] at ig hch
        obtain ⟨c1, c2, c3, c4⟩ := choice_may hch.symm
        have hw : j < b.worths.length := c2
        have hj : j < m.ss.length := by rw [okb.len] at hw; exact hw
        refine mSeq_nx (mIfS_f (mTAnd_t (mB_ok (mOp_ok (mOp_ok (mVarB_im rfl) (mVarB_im rfl) ig) mret_ok rfl)) (mB_ok (mOp_ok (mOp_ok (mVarB_im rfl) (mVarB_im rfl) (mod_ok (by have := okb.e1; omega))) (mVarB_im rfl) (by rw [dNe_int, decide_eq_true c1]; rfl)))) rfl) ?_
        exact mIfS_f (mTAnd_t (mB_ok (mOp_ok (mOp_ok (mVarB_im rfl) (mVarB_im rfl) ig) mret_ok rfl)) (mB_ok (mOp_ok (mOp_ok (mVarB_im rfl) (mOp_ok (mVarB_im rfl) (mVarB_im rfl) ig) (ix_tup hw)) (mOp_ok (mVarB_im rfl) (mOp_ok (mVarB_im rfl) (mVarB_im rfl) ig) (ix_tup (by omega))) (by simp [dLt, dII]; exact c4)))) rfl
end
end Pr

set_option Elab.async false
set_option linter.all false
set_option maxRecDepth 100000
set_option maxHeartbeats 400000
/-! M19: tuples of numbers compared -/
namespace Pr
open PySem PySem.Spec PyProof.Rows L2 Fw
theorem toPs_ints : ∀ l : List Int, toPs (l.map D.int) = some (l.map PyData.int)
  | [] => rfl
  | x :: l => by
    have := toPs_ints l
    simp [toPs, toP, this]
theorem lay_ints : ∀ l : List Int, PyData.canLayAll0 (l.map PyData.int) = true
  | [] => by simp [PyData.canLayAll0]
  | x :: l => by simp [PyData.canLayAll0, PyData.canLay0, lay_ints l]
theorem depth_ints : ∀ l : List Int, PyData.depthAll (l.map PyData.int) ≤ 1
  | [] => by simp [PyData.depthAll]
  | x :: l => by
    have := depth_ints l
    simp [PyData.depthAll, PyData.depth]; omega
theorem shaped_ints (l : List Int) (h : l.length ≤ 1000000) : SeqAt.shaped (.tuple (l.map PyData.int)) = true := by
  have h1 := lay_ints l
  have h2 := depth_ints l
  have h3 : (PyData.tuple (l.map PyData.int)).canLay0 = true := by simp [PyData.canLay0, h1]
  have h4 : (PyData.tuple (l.map PyData.int)).depth ≤ 64 := by simp [PyData.depth]; omega
  unfold SeqAt.shaped
  rw [h3, decide_eq_true h4]; rfl
theorem ne_same (l : List Int) (h : l.length ≤ 1000000) : dNeD (dInts l) (dInts l) = some (.bl false) := by
  have e : toP (dInts l) = some (.tuple (l.map PyData.int)) := by simp [toP, dInts, toPs_ints]
  have s := shaped_ints l h
  have hc : (PyData.tuple (l.map PyData.int)).canLay0 = true := SeqAt.canLay_of_shaped s
  unfold dNeD eqD
  rw [e]
  dsimp only
  rw [s]
  have hr : PyData.eqv (.tuple (l.map PyData.int)) (.tuple (l.map PyData.int)) = true := SeqAt.eqv_refl _ hc
  simp [hr]
end Pr

set_option Elab.async false
set_option linter.all false
set_option maxRecDepth 100000
set_option maxHeartbeats 1000000
/-! N1: what is alike; the round, rest -/
namespace Pr
open PySem PySem.Spec PyProof.Rows L2 Fw
theorem ix_at {l : List D} {i : Nat} {d : D} (h : l[i]? = some d) : atI l (i : Int) = some d := by
  have hi : i < l.length := (List.getElem?_eq_some_iff.mp h).1
  unfold atI ixN
  rw [if_pos (by omega), if_pos (by simpa using hi)]
  simpa using h
theorem none_of {α : Type} (l : List α) (f : α → D) : (l.filter fun _ => false).map f = [] := by
  have : l.filter (fun _ => false) = [] := List.filter_eq_nil_iff.mpr (by simp)
  rw [this]; rfl
theorem rngD_map (n : Nat) : rngD 0 n = (List.range n).map fun i : Nat => D.int (i : Int) := by unfold rngD; simp
theorem eq_nil : dEqD (.lst []) (.lst []) = some (.bl true) := dEqD_same (n := 1) (by decide) (by decide)
theorem alike_rows {n : Nat} {d : D} {l : List D} (hd : d = .tup l ∨ d = .lst l) (hl : l.length ≤ 1000000) (hall : ∀ x ∈ l, ∀ g, ph__law_alike n [x, x] g = some (.ok (.bl true), g)) (g : G) : ph__law_alike (n + 1) [d, d] g = some (.ok (.bl true), g) := by
  have hty : ∃ t, tyD d = some t ∧ isTyAny t ["tuple", "list"] = some true ∧ ∃ b, isTy t "list" = some b := by
    rcases hd with rfl | rfl
    · exact ⟨"tuple", rfl, by decide, _, rfl⟩
    · exact ⟨"list", rfl, by decide, _, rfl⟩
  obtain ⟨t, h1, h2, b, h3⟩ := hty
  have hlen : fLen [d] = some (.int (l.length : Nat)) := by rcases hd with rfl | rfl <;> rfl
  have hix : ∀ i : Nat, ∀ x, l[i]? = some x → dIx d (.int (i : Int)) = some x := fun i x hx => by
    rcases hd with rfl | rfl
    · exact ix_at hx
    · exact ix_at hx
  have hisi : fIsi [d, .ty "list"] = some (.bl b) := by simp [fIsi, h1, h3]
  show phi 3 (m__law_alike (ph__law_alike n)) [d, d] g = _
  have e0 : start0 3 [d, d] = [mkSl d, mkSl d, .no] := rfl
  apply phi_rt
  · rw [e0]
    apply mSeq_rt
    refine mIfS_t (mB_ok (mIsiT_ok (mVarB_mk rfl) h1 h2)) ?_
    refine mSeq_nx (mIfS_f (mTOr_f (mTNot_ok (mB_ok (mIsiT_ok (mVarB_mk rfl) h1 h2))) (mB_ok (mOp_ok (mCB_ok (mCons_ok (mVarB_mk rfl) (mCons_ok mret_ok mNil_ok)) hisi) (mCB_ok (mCons_ok (mVarB_mk rfl) (mCons_ok mret_ok mNil_ok)) hisi) (by simp [dNe, scD])))) rfl) ?_
    refine mSeq_nx (mIfS_f (mB_ok (mOp_ok (mCB_ok (mCons_ok (mVarB_mk rfl) mNil_ok) hlen) (mCB_ok (mCons_ok (mVarB_mk rfl) mNil_ok) hlen) (by simp [dNe, scD]))) rfl) ?_
    refine mRet_ok (mOp_ok (mFr_ok (l := []) (mLc_ok (mRng1_ok (mCons_ok (mCB_ok (mCons_ok (mVarB_mk rfl) mNil_ok) hlen) mNil_ok) (by unfold bigI; exact decide_eq_true (by omega))) (small_of (by rw [rngD_map]; simp; omega)) ?_)) (mFr_ok (mLst_ok mNil_ok rfl)) eq_nil)
    rw [rngD_map]
    refine (lcGo_filter (fun _ => false) (fun i : Nat => D.int (i : Int)) _ _ g fun i hi => ?_).trans (by rw [none_of])
    have hi : i < l.length := by have := List.mem_range.mp hi; simpa using this
    have hx : l[i]? = some l[i] := List.getElem?_eq_getElem hi
    refine ⟨_, rfl, ?_, fun z => by cases z⟩
    exact mTNot_ok (mB_ok (mCall0_ok (mCons_ok (mOp_ok (mVarB_mk (d := d) rfl) (mVarB_im rfl) (hix i _ hx)) (mCons_ok (mOp_ok (mVarB_mk (d := d) rfl) (mVarB_im rfl) (hix i _ hx)) mNil_ok)) rfl (hall _ (List.getElem_mem hi) g)))
theorem alike_same : ∀ (n : Nat) (d : D), plainD n d = true → ∀ g, ph__law_alike n [d, d] g = some (.ok (.bl true), g)
  | 0, _, h, _ => by cases h
  | n + 1, d, h, g => by
    have sc : ∀ (t : String), tyD d = some t → isTyAny t ["tuple", "list"] = some false → dEq d d = some (.bl true) → (∀ ty ∈ ["int", "str", "bool"], ∃ b, isTy t ty = some b) → (dIsN2 d .non = some (.bl false) → isTy t "int" = some true) → (dIsN2 d .non = some (.bl false) ∨ dIsN2 d .non = some (.bl true)) → isTy t "str" = some false →
        ph__law_alike (n + 1) [d, d] g = some (.ok (.bl true), g) := fun t h1 h2 he hb hi hn hs => by
      have is : ∀ {ty : String} {b : Bool}, isTy t ty = some b → fIsi [d, .ty ty] = some (.bl b) := fun {ty b} hh => by simp [fIsi, h1, hh]
      have e0 : start0 3 [d, d] = [mkSl d, mkSl d, .no] := rfl
      show phi 3 (m__law_alike (ph__law_alike n)) [d, d] g = _
      apply phi_rt
      · rw [e0]
        refine mSeq_nx (mIfS_f (mB_ok (mIsiT_ok (mVarB_mk rfl) h1 h2)) rfl) ?_
        rcases hn with hn | hn
        · obtain ⟨b, hb⟩ := hb "bool" (by simp)
          refine mSeq_nx (mIfS_f (mTOr_f (mB_ok (mOp_ok (mVarB_mk rfl) mret_ok hn)) (mB_ok (mCB_ok (mCons_ok (mVarB_mk rfl) (mCons_ok mret_ok mNil_ok)) (is hs)))) rfl) ?_
          exact mRet_ok (mAnd_t (mCB_ok (mCons_ok (mVarB_mk rfl) (mCons_ok mret_ok mNil_ok)) (is (hi hn))) (mAnd_t (mOp_ok (mCB_ok (mCons_ok (mVarB_mk rfl) (mCons_ok mret_ok mNil_ok)) (is hb)) (mCB_ok (mCons_ok (mVarB_mk rfl) (mCons_ok mret_ok mNil_ok)) (is hb)) (by simp [dEq, scD])) (mOp_ok (mVarB_mk rfl) (mVarB_mk rfl) he)))
        · apply mSeq_rt
          refine mIfS_t (mTOr_t (mB_ok (mOp_ok (mVarB_mk rfl) mret_ok hn))) ?_
          exact mRet_ok (mAnd_t (mOp_ok (mVarB_mk rfl) (mVarB_mk rfl) he) (mOp_ok (mCB_ok (mCons_ok (mVarB_mk rfl) (mCons_ok mret_ok mNil_ok)) (is hs)) (mCB_ok (mCons_ok (mVarB_mk rfl) (mCons_ok mret_ok mNil_ok)) (is hs)) (by simp [dEq, scD])))
    cases d with
    | non => exact sc "NoneType" rfl (by decide) (by simp [dEq, scD]) (by intro ty hty; simp at hty; rcases hty with rfl | rfl | rfl <;> exact ⟨_, rfl⟩) (fun z => by simp [dIsN2, dIsN] at z) (.inr rfl) (by decide)
    | bl c => exact sc "bool" rfl (by decide) (by simp [dEq, scD]) (by intro ty hty; simp at hty; rcases hty with rfl | rfl | rfl <;> exact ⟨_, rfl⟩) (fun _ => by decide) (.inl rfl) (by decide)
    | int c => exact sc "int" rfl (by decide) (by simp [dEq, scD]) (by intro ty hty; simp at hty; rcases hty with rfl | rfl | rfl <;> exact ⟨_, rfl⟩) (fun _ => by decide) (.inl rfl) (by decide)
    | tup l =>
      simp only [plainD, Bool.and_eq_true, decide_eq_true_eq, List.all_eq_true] at h
      exact alike_rows (.inl rfl) h.1 (fun x hx => alike_same n x (h.2 x hx)) g
    | lst l =>
      simp only [plainD, Bool.and_eq_true, decide_eq_true_eq, List.all_eq_true] at h
      exact alike_rows (.inr rfl) h.1 (fun x hx => alike_same n x (h.2 x hx)) g
    | str _ => cases h
    | rng => cases h
    | ty _ => cases h
    | dic _ _ => cases h
end Pr

set_option Elab.async false
set_option linter.all false
set_option maxRecDepth 100000
set_option maxHeartbeats 1000000
/-! N2: == of data without truth values tells whether they are one -/
namespace Fw
open PySem PySem.Spec PyProof.Rows L2
def plainI : Nat → D → Bool
  | 0, _ => false
  | _ + 1, .non => true
  | _ + 1, .int _ => true
  | n + 1, .tup l => decide (l.length ≤ 1000000) && l.all (plainI n)
  | n + 1, .lst l => decide (l.length ≤ 1000000) && l.all (plainI n)
  | _, _ => false
theorem plainI_D : ∀ {n : Nat} {d : D}, plainI n d = true → plainD n d = true
  | 0, _, h => by cases h
  | n + 1, d, h => by
    cases d with
    | non => rfl
    | int _ => rfl
    | tup l =>
      simp only [plainI, plainD, Bool.and_eq_true, List.all_eq_true] at h ⊢
      exact ⟨h.1, fun x hx => plainI_D (h.2 x hx)⟩
    | lst l =>
      simp only [plainI, plainD, Bool.and_eq_true, List.all_eq_true] at h ⊢
      exact ⟨h.1, fun x hx => plainI_D (h.2 x hx)⟩
    | bl _ => cases h
    | str _ => cases h
    | rng => cases h
    | ty _ => cases h
    | dic _ _ => cases h
theorem eqvs_iff {n : Nat} (ih : ∀ d e p q, plainI n d = true → (∃ k, plainI k e = true) → toP d = some p → toP e = some q → (PyData.eqv p q = true ↔ d = e)) :
    ∀ (l k : List D) (ps qs : List PyData), l.all (plainI n) = true → (∀ x ∈ k, ∃ j, plainI j x = true) → toPs l = some ps → toPs k = some qs → (PyData.eqvAll ps qs = true ↔ l = k)
  | [], [], ps, qs, _, _, h1, h2 => by simp [toPs] at h1 h2; subst h1 h2; simp [PyData.eqvAll]
  | [], y :: k, ps, qs, _, _, h1, h2 => by
    simp [toPs] at h1; subst h1
    simp only [toPs] at h2
    split at h2
    · cases h2; simp [PyData.eqvAll]
    · cases h2
  | x :: l, [], ps, qs, _, _, h1, h2 => by
    simp [toPs] at h2; subst h2
    simp only [toPs] at h1
    split at h1
    · cases h1; simp [PyData.eqvAll]
    · cases h1
  | x :: l, y :: k, ps, qs, ha, hk, h1, h2 => by
    simp only [List.all_cons, Bool.and_eq_true] at ha
    simp only [toPs] at h1 h2
    split at h1
    · rename_i p ps' e1 e2
      cases h1
      split at h2
      · rename_i q qs' e3 e4
        cases h2
        have i1 := ih x y p q ha.1 (hk y List.mem_cons_self) e1 e3
        have i2 := eqvs_iff ih l k ps' qs' ha.2 (fun z hz => hk z (List.mem_cons_of_mem _ hz)) e2 e4
        simp only [PyData.eqvAll, Bool.and_eq_true, i1, i2, List.cons.injEq]
      · cases h2
    · cases h1
theorem eqv_iff : ∀ (n : Nat) (d e : D) (p q : PyData), plainI n d = true → (∃ k, plainI k e = true) → toP d = some p → toP e = some q → (PyData.eqv p q = true ↔ d = e)
  | 0, _, _, _, _, h, _, _, _ => by cases h
  | n + 1, d, e, p, q, hd, ⟨k, he⟩, h1, h2 => by
    cases k with
    | zero => cases he
    | succ k =>
      cases d with
      | bl _ => cases hd
      | str _ => cases hd
      | rng => cases hd
      | ty _ => cases hd
      | dic _ _ => cases hd
      | non =>
        simp [toP] at h1; subst h1
        cases e with
        | non => simp [toP] at h2; subst h2; simp [PyData.eqv]
        | int _ => simp [toP] at h2; subst h2; simp [PyData.eqv]
        | tup l => simp only [toP, Option.map_eq_some_iff] at h2; obtain ⟨_, _, rfl⟩ := h2; simp [PyData.eqv]
        | lst l => simp only [toP, Option.map_eq_some_iff] at h2; obtain ⟨_, _, rfl⟩ := h2; simp [PyData.eqv]
        | bl _ => cases he
        | str _ => cases he
        | rng => cases he
        | ty _ => cases he
        | dic _ _ => cases he
      | int i =>
        simp [toP] at h1; subst h1
        cases e with
        | non => simp [toP] at h2; subst h2; simp [PyData.eqv]
        | int _ => simp [toP] at h2; subst h2; simp [PyData.eqv]
        | tup l => simp only [toP, Option.map_eq_some_iff] at h2; obtain ⟨_, _, rfl⟩ := h2; simp [PyData.eqv]
        | lst l => simp only [toP, Option.map_eq_some_iff] at h2; obtain ⟨_, _, rfl⟩ := h2; simp [PyData.eqv]
        | bl _ => cases he
        | str _ => cases he
        | rng => cases he
        | ty _ => cases he
        | dic _ _ => cases he
      | tup l =>
        simp only [toP, Option.map_eq_some_iff] at h1; obtain ⟨ps, e1, rfl⟩ := h1
        simp only [plainI, Bool.and_eq_true] at hd
        cases e with
        | non => simp [toP] at h2; subst h2; simp [PyData.eqv]
        | int _ => simp [toP] at h2; subst h2; simp [PyData.eqv]
        | tup m =>
          simp only [toP, Option.map_eq_some_iff] at h2; obtain ⟨qs, e2, rfl⟩ := h2
          simp only [plainI, Bool.and_eq_true, List.all_eq_true] at he
          have := eqvs_iff (fun d e p q a b c f => eqv_iff n d e p q a b c f) l m ps qs hd.2 (fun x hx => ⟨k, he.2 x hx⟩) e1 e2
          simp only [PyData.eqv, this, D.tup.injEq]
        | lst l => simp only [toP, Option.map_eq_some_iff] at h2; obtain ⟨_, _, rfl⟩ := h2; simp [PyData.eqv]
        | bl _ => cases he
        | str _ => cases he
        | rng => cases he
        | ty _ => cases he
        | dic _ _ => cases he
      | lst l =>
        simp only [toP, Option.map_eq_some_iff] at h1; obtain ⟨ps, e1, rfl⟩ := h1
        simp only [plainI, Bool.and_eq_true] at hd
        cases e with
        | non => simp [toP] at h2; subst h2; simp [PyData.eqv]
        | int _ => simp [toP] at h2; subst h2; simp [PyData.eqv]
        | tup l => simp only [toP, Option.map_eq_some_iff] at h2; obtain ⟨_, _, rfl⟩ := h2; simp [PyData.eqv]
        | lst m =>
          simp only [toP, Option.map_eq_some_iff] at h2; obtain ⟨qs, e2, rfl⟩ := h2
          simp only [plainI, Bool.and_eq_true, List.all_eq_true] at he
          have := eqvs_iff (fun d e p q a b c f => eqv_iff n d e p q a b c f) l m ps qs hd.2 (fun x hx => ⟨k, he.2 x hx⟩) e1 e2
          simp only [PyData.eqv, this, D.lst.injEq]
        | bl _ => cases he
        | str _ => cases he
        | rng => cases he
        | ty _ => cases he
        | dic _ _ => cases he
theorem plain_shaped {n : Nat} {d : D} (h : plainD n d = true) (hn : n ≤ 60) : ∃ p, toP d = some p ∧ SeqAt.shaped p = true := by
  obtain ⟨p, h1, h2, h3⟩ := plain_toP h
  refine ⟨p, h1, ?_⟩
  unfold SeqAt.shaped
  rw [h2, decide_eq_true (by omega)]; rfl
theorem eqD_iff {n k : Nat} {d e : D} (hd : plainI n d = true) (he : plainI k e = true) (hn : n ≤ 60) (hk : k ≤ 60) : ∃ b, eqD d e = some b ∧ (b = true ↔ d = e) := by
  obtain ⟨p, h1, h2⟩ := plain_shaped (plainI_D hd) hn
  obtain ⟨q, h3, h4⟩ := plain_shaped (plainI_D he) hk
  refine ⟨PyData.eqv p q, ?_, eqv_iff n d e p q hd ⟨k, he⟩ h1 h3⟩
  unfold eqD
  rw [h1, h3]
  simp [h2, h4]
theorem dEqD_dec {n k : Nat} {d e : D} {P : Prop} [Decidable P] (hd : plainI n d = true) (he : plainI k e = true) (hP : d = e ↔ P) (hn : n ≤ 60 := by decide) (hk : k ≤ 60 := by decide) : dEqD d e = some (.bl (decide P)) := by
  obtain ⟨b, h1, h2⟩ := eqD_iff hd he hn hk
  unfold dEqD; rw [h1]
  have : b = decide P := by
    cases b with
    | true => rw [decide_eq_true (hP.mp (h2.mp rfl))]
    | false => rw [decide_eq_false fun z => by have := h2.mpr (hP.mpr z); cases this]
  rw [this]; rfl
theorem dNeD_dec {n k : Nat} {d e : D} {P : Prop} [Decidable P] (hd : plainI n d = true) (he : plainI k e = true) (hP : d = e ↔ P) (hn : n ≤ 60 := by decide) (hk : k ≤ 60 := by decide) : dNeD d e = some (.bl (!decide P)) := by
  obtain ⟨b, h1, h2⟩ := eqD_iff hd he hn hk
  unfold dNeD; rw [h1]
  have : b = decide P := by
    cases b with
    | true => rw [decide_eq_true (hP.mp (h2.mp rfl))]
    | false => rw [decide_eq_false fun z => by have := h2.mpr (hP.mpr z); cases this]
  rw [this]; rfl
end Fw
namespace Pr
open PySem PySem.Spec PyProof.Rows L2 Fw
theorem dInts_inj {l k : List Int} : dInts l = dInts k ↔ l = k := by
  unfold dInts
  rw [D.tup.injEq]
  exact List.map_inj_right (fun x y h => by injection h)
theorem plain_ints {l : List Int} (h : l.length ≤ 1000000) : plainI 2 (dInts l) = true := by
  unfold dInts
  simp only [plainI, List.length_map, Bool.and_eq_true, decide_eq_true_eq, List.all_eq_true]
  refine ⟨h, fun x hx => ?_⟩
  obtain ⟨i, _, rfl⟩ := List.mem_map.mp hx
  rfl
theorem eq_ints {l k : List Int} (hl : l.length ≤ 1000000) (hk : k.length ≤ 1000000) : dEqD (dInts l) (dInts k) = some (.bl (decide (l = k))) := dEqD_dec (plain_ints hl) (plain_ints hk) dInts_inj
theorem ne_ints {l k : List Int} (hl : l.length ≤ 1000000) (hk : k.length ≤ 1000000) : dNeD (dInts l) (dInts k) = some (.bl (!decide (l = k))) := dNeD_dec (plain_ints hl) (plain_ints hk) dInts_inj
end Pr

set_option Elab.async false
set_option linter.all false
set_option maxRecDepth 100000
set_option maxHeartbeats 1000000
/-! N3: the round's length, rest -/
namespace Pr
open PySem PySem.Spec PyProof.Rows L2 Fw
/-- a walk with a round that ends the def -/
theorem forGo_rt {bd : BndT} {m : MSt} {S : Nat → List Sl × G} {d : D} {ρ' : List Sl} {g' : G} : ∀ (ds : List D) (j0 k : Nat) (e : D), ds[j0]? = some e → (∀ j d, j < j0 → ds[j]? = some d → ∃ ρ1, bd d (S (k + j)).1 = some ρ1 ∧ m ρ1 (S (k + j)).2 = some (.nx, S (k + j + 1))) →
    (∃ ρ1, bd e (S (k + j0)).1 = some ρ1 ∧ m ρ1 (S (k + j0)).2 = some (.rt d, ρ', g')) → forGo bd m ds (S k).1 (S k).2 = some (.rt d, ρ', g')
  | [], _, _, _, h, _, _ => by simp at h
  | x :: ds, 0, k, e, he, _, h => by
    simp at he; subst he
    obtain ⟨ρ1, h1, h2⟩ := h
    rw [Nat.add_zero] at h1 h2
    unfold forGo
    rw [h1]; dsimp only
    rw [h2]
  | x :: ds, j0 + 1, k, e, he, H, h => by
    obtain ⟨ρ1, h1, h2⟩ := H 0 x (by omega) rfl
    rw [Nat.add_zero] at h1 h2
    have ih := forGo_rt (S := S) ds j0 (k + 1) e (by simpa using he) (fun j d hj hd => by
      have := H (j + 1) d (by omega) (by simpa using hd)
      have e : k + (j + 1) = k + 1 + j := by omega
      rw [e] at this
      exact this) (by
      have e : k + (j0 + 1) = k + 1 + j0 := by omega
      rw [e] at h
      exact h)
    unfold forGo
    rw [h1]; dsimp only
    rw [h2]; exact ih
theorem ix_range {f : Nat → D} {n i : Nat} (h : i < n) : dIx (.lst ((List.range n).map f)) (.int (i : Int)) = some (f i) := ix_at (by rw [List.getElem?_map, List.getElem?_range h]; rfl)
section
variable (m : Mk)
/-- the buyers' turn -/
def turnK : Nat → Nat
  | 0 => 1
  | k + 1 => Nat.lcm (turnK k) (m.bs.getD k b0).every.toNat
def turnN : Nat := turnK m m.bs.length
theorem lcm_twelve {a b : Nat} (ha : a ∣ 12) (hb : b ∣ 12) : Nat.lcm a b ∣ 12 := Nat.lcm_dvd ha hb
theorem every_pos (h : m.Ok) {b : Bu} (hb : b ∈ m.bs) : 1 ≤ b.every.toNat ∧ b.every.toNat ≤ 4 ∧ (b.every.toNat : Int) = b.every := by
  have ok := h.b b hb
  have := ok.e1; have := ok.e4
  omega
theorem every_dvd (h : m.Ok) {b : Bu} (hb : b ∈ m.bs) : b.every.toNat ∣ 12 := by
  obtain ⟨h1, h2, _⟩ := every_pos m h hb
  have : b.every.toNat = 1 ∨ b.every.toNat = 2 ∨ b.every.toNat = 3 ∨ b.every.toNat = 4 := by omega
  rcases this with e | e | e | e <;> rw [e] <;> decide
theorem turnK_dvd (h : m.Ok) : ∀ k, k ≤ m.bs.length → turnK m k ∣ 12
  | 0, _ => by unfold turnK; decide
  | k + 1, hk => by
    unfold turnK
    have e : m.bs.getD k b0 = m.bs[k] := by rw [List.getD_eq_getElem?_getD, List.getElem?_eq_getElem (by omega)]; rfl
    rw [e]
    exact Nat.lcm_dvd (turnK_dvd h k (by omega)) (every_dvd m h (List.getElem_mem _))
theorem turnK_le (h : m.Ok) {k : Nat} (hk : k ≤ m.bs.length) : 1 ≤ turnK m k ∧ turnK m k ≤ 12 := by
  have := turnK_dvd m h k hk
  exact ⟨Nat.pos_of_dvd_of_pos this (by decide), Nat.le_of_dvd (by decide) this⟩
theorem turnK_all (h : m.Ok) (t : Nat) : ∀ k, k ≤ m.bs.length → (turnK m k ∣ t ↔ ∀ i, i < k → (m.bs.getD i b0).every.toNat ∣ t)
  | 0, _ => by simp [turnK]
  | k + 1, hk => by
    have ih := turnK_all h t k (by omega)
    unfold turnK
    constructor
    · intro hd i hi
      by_cases q : i < k
      · exact ih.mp (Nat.dvd_trans (Nat.dvd_lcm_left _ _) hd) i q
      · have : i = k := by omega
        subst this
        exact Nat.dvd_trans (Nat.dvd_lcm_right _ _) hd
    · intro hh
      exact Nat.lcm_dvd (ih.mpr fun i hi => hh i (by omega)) (hh k (by omega))
theorem turn_dvd (h : m.Ok) (t : Nat) : turnN m ∣ t ↔ ∀ b ∈ m.bs, b.every.toNat ∣ t := by
  rw [turnN, turnK_all m h t _ (Nat.le_refl _)]
  constructor
  · intro hh b hb
    obtain ⟨i, hi, e⟩ := List.getElem_of_mem hb
    have := hh i hi
    rw [List.getD_eq_getElem?_getD, List.getElem?_eq_getElem hi] at this
    rw [← e]; exact this
  · intro hh i hi
    rw [List.getD_eq_getElem?_getD, List.getElem?_eq_getElem hi]
    exact hh _ (List.getElem_mem hi)
theorem turn_of_ok (h : m.Ok) (g : G) : ph_turn_of [dMk m] g = some (.ok (.int (turnN m : Int)), g) := by
  have h6 := h.b6
  unfold ph_turn_of
  apply phi_rt
  · rw [start_mk]
    refine mSeq_nx (mAsg_ok (mVar_ok rfl) rfl) ?_
    refine mSeq_nx (mAsg_ok mret_ok rfl) ?_
    refine mSeq_nx (mFor_ok (mItT_ok (mVar_ok rfl)) (forGo_nx (S := fun k => ([.im (dMk m), .im (.int (turnK m k : Int)), .no, .im (.tup (m.ss.map dSe)), .im (.tup (m.bs.map dBu))], g)) _ 0 fun j d hd => ?_)) ?_
    · rw [Nat.zero_add]
      rw [List.getElem?_map] at hd
      obtain ⟨b, hb, rfl⟩ := Option.map_eq_some_iff.mp hd
      have hj : j < m.bs.length := (List.getElem?_eq_some_iff.mp hb).1
      have eb : m.bs.getD j b0 = b := getD_get hb
      obtain ⟨e1, e2, e3⟩ := every_pos m h (List.mem_of_getElem? hb)
      obtain ⟨t1, t2⟩ := turnK_le m h (k := j) (by omega)
      have hl : fLcm [.int (turnK m j : Int), .int b.every] = some (.int (turnK m (j + 1) : Int)) := by
        unfold fLcm
        dsimp only
        rw [if_pos (by omega)]
        show some (D.int (Nat.lcm (turnK m j : Int).natAbs b.every.natAbs : Nat)) = some (D.int (Nat.lcm (turnK m j) (m.bs.getD j b0).every.toNat : Nat))
        rw [eb]
        have : b.every.natAbs = b.every.toNat := by omega
        rw [this, Int.natAbs_natCast]
      exact ⟨_, rfl, .inl (mFgE_nx (mAsg_ok (mCB_ok (mCons_ok (mVarB_im rfl) (mCons_ok (mOp_ok (mVarB_im rfl) mret_ok rfl) mNil_ok)) hl) rfl))⟩
    · rw [Nat.zero_add, List.length_map]
      exact mRet_ok (mVar_ok rfl)
/-- long: the round's length -/
structure Long (n f L : Nat) : Prop where
  pos : 1 ≤ L
  le : L ≤ n - f
  turn : turnN m ∣ L
  eq : prK m (f + L) = prK m f
  least : ∀ L', 1 ≤ L' → L' < L → turnN m ∣ L' → prK m (f + L') ≠ prK m f
theorem Long.unique {n f L L' : Nat} (a : Long m n f L) (b : Long m n f L') : L = L' := by
  rcases Nat.lt_trichotomy L L' with h | h | h
  · exact absurd a.eq (b.least L a.pos h a.turn)
  · exact h
  · exact absurd b.eq (a.least L' b.pos h b.turn)
/-- so many days later the same, if buyers' turns divide them -/
theorem on_and_on (h : m.Ok) {a L : Nat} (ht : turnN m ∣ L) (e : prK m (a + L) = prK m a) : ∀ t, prK m (a + L + t) = prK m (a + t)
  | 0 => e
  | t + 1 => by
    have ih := on_and_on h ht e t
    show behindL m (prK m (a + L + t)) ((a + L + t : Nat) : Int) = behindL m (prK m (a + t)) ((a + t : Nat) : Int)
    rw [ih]
    unfold behindL leftE
    have hc : ∀ k left, choice (prK m (a + t)) ((a + L + t : Nat) : Int) (m.bs.getD k b0) left = choice (prK m (a + t)) ((a + t : Nat) : Int) (m.bs.getD k b0) left := fun k left => by
      unfold choice
      by_cases hk : k < m.bs.length
      · have eb : m.bs.getD k b0 = m.bs[k] := by rw [List.getD_eq_getElem?_getD, List.getElem?_eq_getElem hk]; rfl
        rw [eb]
        obtain ⟨e1, e2, e3⟩ := every_pos m h (List.getElem_mem hk)
        obtain ⟨c, hc⟩ := (turn_dvd m h L).mp ht _ (List.getElem_mem hk)
        have : ((a + L + t : Nat) : Int) % (m.bs[k]).every = ((a + t : Nat) : Int) % (m.bs[k]).every := by
          rw [← e3, show ((a + L + t : Nat) : Int) = ((a + t : Nat) : Int) + ((m.bs[k]).every.toNat : Int) * (c : Int) from by rw [hc]; simp only [Int.natCast_add, Int.natCast_mul]; omega]
          exact Int.add_mul_emod_self_left ..
        rw [this]
      · have eb : m.bs.getD k b0 = b0 := by rw [List.getD_eq_getElem?_getD, List.getElem?_eq_none (by omega)]; rfl
        rw [eb]
        have a1 : ((a + L + t : Nat) : Int) % b0.every = 0 := by simp [b0]
        have a2 : ((a + t : Nat) : Int) % b0.every = 0 := by simp [b0]
        rw [a1, a2]
    have hl : ∀ k, leftK m (prK m (a + t)) ((a + L + t : Nat) : Int) k = leftK m (prK m (a + t)) ((a + t : Nat) : Int) k := leftK_congr m rfl hc
    rw [hl]
theorem Rep.size12 {n f : Nat} (r : Rep m n f) : 12 ∣ n - f := by
  have := r.keys.2
  have := r.lt
  omega
theorem least_of {P : Nat → Prop} (h : ∃ n, P n) : ∃ n, P n ∧ ∀ k, k < n → ¬ P k := by
  obtain ⟨n, hn⟩ := h
  induction n using Nat.strongRecOn with
  | _ n ih =>
    by_cases q : ∃ k, k < n ∧ P k
    · obtain ⟨k, h1, h2⟩ := q
      exact ih k h1 h2
    · exact ⟨n, hn, fun k hk z => q ⟨k, hk, z⟩⟩
theorem period_ok (h : m.Ok) {n f : Nat} (r : Rep m n f) (hn : n ≤ 5000) (g : G) : ∃ L, Long m n f L ∧ ph_period [dMk m] g = some (.ok (.tup [.int (f : Int), .int (L : Int)]), g) := by
  have hlt := r.lt
  have t12 : turnN m ∣ n - f := Nat.dvd_trans (turnK_dvd m h _ (Nat.le_refl _)) (r.size12 m)
  have tle := turnK_le m h (Nat.le_refl m.bs.length)
  have tle' : 1 ≤ turnN m ∧ turnN m ≤ 12 := tle
  obtain ⟨L, hL⟩ : ∃ L, Long m n f L := by
    have ex : ∃ L, 1 ≤ L ∧ turnN m ∣ L ∧ prK m (f + L) = prK m f := ⟨n - f, by omega, t12, by rw [show f + (n - f) = n from by omega]; exact r.keys.1.symm⟩
    obtain ⟨L, a, b⟩ : ∃ L, (1 ≤ L ∧ turnN m ∣ L ∧ prK m (f + L) = prK m f) ∧ ∀ L', L' < L → ¬ (1 ≤ L' ∧ turnN m ∣ L' ∧ prK m (f + L') = prK m f) := by
      exact least_of ex
    refine ⟨L, a.1, ?_, a.2.1, a.2.2, fun L' h1 h2 h3 h4 => b L' h2 ⟨h1, h3, h4⟩⟩
    refine Nat.le_of_not_lt fun hgt => b (n - f) hgt ⟨by omega, t12, by rw [show f + (n - f) = n from by omega]; exact r.keys.1.symm⟩
  refine ⟨L, hL, ?_⟩
  have hle := hL.le
  have hp := hL.pos
  have pl : ∀ k, (prK m k).length ≤ 1000000 := fun k => by rw [prK_len]; have := h.s4; omega
  obtain ⟨c, hc⟩ := hL.turn
  have c1 : 1 ≤ c := by
    rcases Nat.eq_zero_or_pos c with z | z
    · rw [z] at hc; omega
    · exact z
  -- the k-th length that is looked at: (k + 1) turns
  have look : ∀ k : Nat, (turnN m : Int) + (k : Int) * (turnN m : Int) = ((turnN m * (k + 1) : Nat) : Int) := fun k => by
    rw [Nat.mul_add, Nat.mul_one]
    simp only [Int.natCast_add, Int.natCast_mul]
    rw [Int.mul_comm]; omega
  have test : ∀ (k : Nat) (ρ : List Sl), turnN m * (k + 1) < n - f → ρ[3]? = some (.im (.lst (toldD m n))) → ρ[4]? = some (.im (.int (f : Int))) → ρ[2]? = some (.im (.int ((turnN m : Int) + (k : Int) * (turnN m : Int)))) →
      mB (mOp dEqD (mOp dIx (mOp dIx (mVarB 3) (mOp dAdd (mVarB 4) (mVarB 2))) (mret (.int 0))) (mOp dIx (mOp dIx (mVarB 3) (mVarB 4)) (mret (.int 0)))) ρ g = some (.ok (decide (prK m (f + turnN m * (k + 1)) = prK m f)), g) := fun k ρ hk h3 h4 h2 => by
    have a1 : dAdd (.int (f : Int)) (.int ((turnN m : Int) + (k : Int) * (turnN m : Int))) = some (.int ((f + turnN m * (k + 1) : Nat) : Int)) := by rw [look]; rfl
    exact mB_ok (mOp_ok (mOp_ok (mOp_ok (mVarB_im h3) (mOp_ok (mVarB_im h4) (mVarB_im h2) a1) (ix_range (f := tellD m) (by omega))) mret_ok rfl) (mOp_ok (mOp_ok (mVarB_im h3) (mVarB_im h4) (ix_range (f := tellD m) (by omega))) mret_ok rfl) (eq_ints (pl _) (pl _)))
  have es : dSub (.int (n : Int)) (.int (f : Int)) = some (.int ((n - f : Nat) : Int)) := by show some (D.int _) = _; rw [show (n : Int) - (f : Int) = ((n - f : Nat) : Int) from by omega]
  have el : fLen [.lst (toldD m n)] = some (.int (n : Int)) := by simp [fLen, toldD_len]
  have hz : ∀ k : Nat, k < rngSz (turnN m : Int) ((n - f : Nat) : Int) (turnN m : Int) ↔ turnN m * (k + 1) < n - f := fun k => by
    rw [rngSz_lt (by omega), look]
    omega
  have hds : ∀ {j : Nat} {d : D}, (rngC (turnN m : Int) (turnN m : Int) (rngSz (turnN m : Int) ((n - f : Nat) : Int) (turnN m : Int)))[j]? = some d → turnN m * (j + 1) < n - f ∧ d = .int ((turnN m : Int) + (j : Int) * (turnN m : Int)) := fun {j d} hd => by
    have hj : j < rngSz (turnN m : Int) ((n - f : Nat) : Int) (turnN m : Int) := by
      have := (List.getElem?_eq_some_iff.mp hd).1
      simpa [rngC] using this
    refine ⟨(hz j).mp hj, ?_⟩
    simp only [rngC, List.getElem?_map, List.getElem?_range hj, Option.map_some, Option.some.injEq] at hd
    exact hd.symm
  unfold ph_period
  by_cases hend : L = n - f
  · -- none is found
    apply phi_rt
    · rw [start_mk]
      refine mSeq_nx (mDrop_ok (mCall0_ok (mCons_ok (mVarB_im rfl) mNil_ok) rfl (check_market_ok m h g))) ?_
      refine mSeq_nx (mAsg_ok (mCall0_ok (mCons_ok (mVarB_im rfl) mNil_ok) rfl (walk_ok m h r hn g)) rfl) ?_
      refine mSeq_nx (mAsg_ok (mCall0_ok (mCons_ok (mVarB_im rfl) mNil_ok) rfl (turn_of_ok m h g)) rfl) ?_
      refine mSeq_nx (mFor_ok (mRng3_ok (mCons_ok (mVarB_im rfl) (mCons_ok (mOp_ok (mCB_ok (mCons_ok (mVarB_im rfl) mNil_ok) el) (mVarB_im rfl) es) (mCons_ok (mVarB_im rfl) mNil_ok))) (by omega) (by omega) (by omega) (by omega) (by omega) (by omega)) (forGo_nx (S := fun _ => ([.im (dMk m), .im (.int (turnN m : Int)), .no, .im (.lst (toldD m n)), .im (.int (f : Int))], g)) _ 0 fun j d hd => ?_)) ?_
      · obtain ⟨hj, rfl⟩ := hds hd
        refine ⟨_, rfl, .inl (mFgE_nx (mIfS_f ((test j _ hj rfl rfl rfl).trans ?_) rfl))⟩
        rw [decide_eq_false (hL.least _ (Nat.mul_pos (by omega) (by omega)) (by omega) ⟨_, rfl⟩)]
      · rw [hend]
        exact mRet_ok (mTup_ok (mCons_ok (mVar_ok rfl) (mCons_ok (mOp_ok (mCB_ok (mCons_ok (mVarB_im rfl) mNil_ok) el) (mVarB_im rfl) es) mNil_ok)) rfl)
  · have hlt2 : turnN m * ((c - 1) + 1) < n - f := by rw [show c - 1 + 1 = c from by omega, ← hc]; omega
    have hj0 : (rngC (turnN m : Int) (turnN m : Int) (rngSz (turnN m : Int) ((n - f : Nat) : Int) (turnN m : Int)))[c - 1]? = some (.int ((turnN m : Int) + ((c - 1 : Nat) : Int) * (turnN m : Int))) := by
      simp only [rngC, List.getElem?_map, List.getElem?_range ((hz (c - 1)).mpr hlt2), Option.map_some]
    have eL : (turnN m : Int) + ((c - 1 : Nat) : Int) * (turnN m : Int) = (L : Int) := by rw [look, show c - 1 + 1 = c from by omega, ← hc]
    apply phi_rt
    · rw [start_mk]
      refine mSeq_nx (mDrop_ok (mCall0_ok (mCons_ok (mVarB_im rfl) mNil_ok) rfl (check_market_ok m h g))) ?_
      refine mSeq_nx (mAsg_ok (mCall0_ok (mCons_ok (mVarB_im rfl) mNil_ok) rfl (walk_ok m h r hn g)) rfl) ?_
      refine mSeq_nx (mAsg_ok (mCall0_ok (mCons_ok (mVarB_im rfl) mNil_ok) rfl (turn_of_ok m h g)) rfl) ?_
      apply mSeq_rt
      refine mFor_ok (mRng3_ok (mCons_ok (mVarB_im rfl) (mCons_ok (mOp_ok (mCB_ok (mCons_ok (mVarB_im rfl) mNil_ok) el) (mVarB_im rfl) es) (mCons_ok (mVarB_im rfl) mNil_ok))) (by omega) (by omega) (by omega) (by omega) (by omega) (by omega)) ?_
      refine forGo_rt (S := fun _ => ([.im (dMk m), .im (.int (turnN m : Int)), .no, .im (.lst (toldD m n)), .im (.int (f : Int))], g)) _ (c - 1) 0 _ hj0 (fun j d hj hd => ?_) ⟨_, rfl, mFgE_rt (mIfS_t ((test (c - 1) _ hlt2 rfl rfl rfl).trans ?_) (mRet_ok (mTup_ok (mCons_ok (mVar_ok rfl) (mCons_ok (mVar_ok (by rw [← eL]; rfl)) mNil_ok)) rfl)))⟩
      · obtain ⟨hj', rfl⟩ := hds hd
        refine ⟨_, rfl, mFgE_nx (mIfS_f ((test j _ hj' rfl rfl rfl).trans ?_) rfl)⟩
        have : turnN m * (j + 1) < L := by rw [hc]; exact Nat.mul_lt_mul_of_pos_left (by omega) (by omega)
        rw [decide_eq_false (hL.least _ (Nat.mul_pos (by omega) (by omega)) this ⟨_, rfl⟩)]
      · rw [show c - 1 + 1 = c from by omega, ← hc, decide_eq_true hL.eq]
end
end Pr

set_option Elab.async false
set_option linter.all false
set_option maxRecDepth 100000
set_option maxHeartbeats 1000000
/-! N4: settles -/
namespace Pr
open PySem PySem.Spec PyProof.Rows L2 Fw
theorem cut_drop {l : List D} {i : Nat} (h : i ≤ l.length) : Fw.cutD l (some (i : Int)) none = l.drop i := by
  unfold Fw.cutD HT.sIx
  dsimp only
  rw [if_neg (by omega), Int.toNat_natCast, Nat.min_eq_left h]
  rw [List.take_of_length_le (by rw [List.length_drop]; omega)]
theorem cut_mid {l : List D} {i j : Nat} (h : i ≤ j) (hj : j ≤ l.length) : Fw.cutD l (some (i : Int)) (some (j : Int)) = (l.drop i).take (j - i) := by
  unfold Fw.cutD HT.sIx
  dsimp only
  rw [if_neg (by omega), if_neg (by omega), Int.toNat_natCast, Int.toNat_natCast, Nat.min_eq_left hj, Nat.min_eq_left (show i ≤ l.length by omega)]
theorem cut_to {l : List D} {j : Nat} (hj : j ≤ l.length) : Fw.cutD l none (some (j : Int)) = l.take j := by
  unfold Fw.cutD HT.sIx
  dsimp only
  rw [if_neg (by omega), Int.toNat_natCast, Nat.min_eq_left hj, Nat.sub_zero, List.drop_zero]
theorem drop_map_range {α : Type} (f : Nat → α) (n i : Nat) (h : i ≤ n) : ((List.range n).map f).drop i = (List.range (n - i)).map fun k => f (i + k) := by
  apply List.ext_getElem?
  intro k
  rw [List.getElem?_drop, List.getElem?_map, List.getElem?_map]
  by_cases hk : k < n - i
  · rw [List.getElem?_range (by omega), List.getElem?_range hk]; rfl
  · rw [List.getElem?_eq_none (by simp; omega), List.getElem?_eq_none (by simp; omega)]; rfl
theorem take_map_range {α : Type} (f : Nat → α) (n i : Nat) (h : i ≤ n) : ((List.range n).map f).take i = (List.range i).map f := by
  rw [← List.map_take, List.take_range, Nat.min_eq_left h]
theorem mSlL_ok {mm : MV D} {ml mh : MV (Option Int)} {ρ : List Sl} {g : G} {l : List D} {lo hi : Option Int} (h : mm ρ g = some (.ok (.lst l), g)) (h1 : ml ρ g = some (.ok lo, g)) (h2 : mh ρ g = some (.ok hi, g)) : mSlL mm ml mh ρ g = some (.ok (Fw.cutD l lo hi), g) :=
  mbind_ok h (mbind_ok h1 (mbind_ok h2 (mlift_ok rfl)))
theorem mPart_ok {mm : MV D} {ρ : List Sl} {g : G} {i : Int} (h : mm ρ g = some (.ok (.int i), g)) : mPart mm ρ g = some (.ok (some i), g) := mbind_ok h (mbind_ok (mlift_ok rfl) rfl)
theorem unB_map {α : Type} (p : α → Bool) : ∀ l : List α, unB (l.map fun x => D.bl (p x)) = some (l.map p)
  | [] => rfl
  | x :: l => by simp [unB, unB_map p l]
theorem any_ok {α : Type} (p : α → Bool) (l : List α) : fAny [.lst (l.map fun x => D.bl (p x))] = some (.bl (l.any p)) := by
  simp [fAny, unB_map, List.any_map]
theorem all_ok {α : Type} (p : α → Bool) (l : List α) : fAll [.lst (l.map fun x => D.bl (p x))] = some (.bl (l.all p)) := by
  simp [fAll, unB_map, List.all_map]
section
variable (m : Mk)
/-- from day f on, up to n, the prices don't change -/
def Rests (n f : Nat) : Prop := ∀ k, k < n - f → prK m (f + k) = prK m f
theorem pr_small (h : m.Ok) (k : Nat) : (prK m k).length ≤ 1000000 := by rw [prK_len]; have := h.s4; omega
theorem settles_ok (h : m.Ok) {n f : Nat} (r : Rep m n f) (hn : n ≤ 5000) (g : G) :
    (Rests m n f ∧ ph_settles [dMk m] g = some (.ok (.tup [.int (f : Int), dInts (prK m f)]), g)) ∨ (¬ Rests m n f ∧ ph_settles [dMk m] g = some (.ok .non, g)) := by
  have hlt := r.lt
  have rows : mFr (mLc (mItL (mFr (mSlL (mVar 1) (mPart (mVarB 2)) (mret none)))) (bName 5) [5] (mret true) (mOp dNeD (mOp dIx (mVarB 5) (mret (.int 0))) (mVarB 3))) [.im (dMk m), .im (.lst (toldD m n)), .im (.int (f : Int)), .im (dInts (prK m f)), .im (.lst ((bgK m f).map dOpt)), .no] g
      = some (.ok (.lst ((List.range (n - f)).map fun k => D.bl (!decide (prK m (f + k) = prK m f)))), g) := by
    refine mFr_ok (mLc_ok (mItL_ok (mFr_ok (mSlL_ok (mVar_ok rfl) (mPart_ok (mVarB_im rfl)) rfl))) (small_of (by rw [cut_drop (by rw [toldD_len]; omega), List.length_drop, toldD_len]; omega)) ?_)
    rw [cut_drop (by rw [toldD_len]; omega)]
    unfold toldD
    rw [drop_map_range _ _ _ (by omega)]
    exact lcGo_map (fun k => D.bl (!decide (prK m (f + k) = prK m f))) _ (List.range (n - f)) g fun k hk => ⟨_, rfl, rfl, mOp_ok (mOp_ok (mVarB_im rfl) mret_ok rfl) (mVarB_im rfl) (ne_ints (pr_small m h _) (pr_small m h _))⟩
  unfold ph_settles
  by_cases hr : Rests m n f
  · refine .inl ⟨hr, ?_⟩
    have ef : (List.range (n - f)).any (fun k => !decide (prK m (f + k) = prK m f)) = false := by
      rw [List.any_eq_false]
      intro k hk
      have := hr k (List.mem_range.mp hk)
      simp [this]
    apply phi_rt
    · rw [start_mk]
      refine mSeq_nx (mDrop_ok (mCall0_ok (mCons_ok (mVarB_im rfl) mNil_ok) rfl (check_market_ok m h g))) ?_
      refine mSeq_nx (mAsg_ok (mCall0_ok (mCons_ok (mVarB_im rfl) mNil_ok) rfl (walk_ok m h r hn g)) rfl) ?_
      refine mSeq_nx (mAsg_ok (mOp_ok (mVar_ok rfl) (mVarB_im rfl) (ix_range (f := tellD m) hlt)) rfl) ?_
      refine mSeq_nx (mIfS_f (mB_ok (mCB_ok (mCons_ok rows mNil_ok) ((any_ok _ _).trans (by rw [ef])))) rfl) ?_
      exact mRet_ok (mTup_ok (mCons_ok (mVar_ok rfl) (mCons_ok (mVar_ok rfl) mNil_ok)) rfl)
  · refine .inr ⟨hr, ?_⟩
    have ef : (List.range (n - f)).any (fun k => !decide (prK m (f + k) = prK m f)) = true := by
      by_cases q : (List.range (n - f)).any (fun k => !decide (prK m (f + k) = prK m f)) = true
      · exact q
      · exfalso
        apply hr
        intro k hk
        have q' : (List.range (n - f)).any (fun k => !decide (prK m (f + k) = prK m f)) = false := by simpa using q
        rw [List.any_eq_false] at q'
        have := q' k (List.mem_range.mpr hk)
        simpa using this
    apply phi_rt
    · rw [start_mk]
      refine mSeq_nx (mDrop_ok (mCall0_ok (mCons_ok (mVarB_im rfl) mNil_ok) rfl (check_market_ok m h g))) ?_
      refine mSeq_nx (mAsg_ok (mCall0_ok (mCons_ok (mVarB_im rfl) mNil_ok) rfl (walk_ok m h r hn g)) rfl) ?_
      refine mSeq_nx (mAsg_ok (mOp_ok (mVar_ok rfl) (mVarB_im rfl) (ix_range (f := tellD m) hlt)) rfl) ?_
      apply mSeq_rt
      exact mIfS_t (mB_ok (mCB_ok (mCons_ok rows mNil_ok) ((any_ok _ _).trans (by rw [ef])))) (mRet_ok mret_ok)
/-- ahead of the round's first day all is otherwise -/
theorem before (h : m.Ok) {n f L : Nat} (r : Rep m n f) (hL : Long m n f L) (h0 : 0 < f) : prK m (f - 1) ≠ prK m (f - 1 + L) := fun z => by
  have hlt := r.lt
  have e : ∀ q : Nat, prK m (f - 1 + L * q) = prK m (f - 1) := by
    intro q
    induction q with
    | zero => rfl
    | succ q ih =>
      have := on_and_on m h hL.turn z.symm (L * q)
      rw [show f - 1 + L * (q + 1) = f - 1 + L + L * q from by rw [Nat.mul_succ]; omega, this, ih]
  have k12 : keyK m (f - 1 + L * 12) = keyK m (f - 1) := by
    unfold keyK
    rw [e 12]
    congr 2
    have : ((f - 1 + L * 12 : Nat) : Int) % 12 = ((f - 1 : Nat) : Int) % 12 := by omega
    rw [this]
  -- the state 12 L days on is one of the round's
  have hc : ∀ t, keyK m (f + t) = keyK m (n + t) := fun t => by
    have e1 := round_pr m h r.keys.1 r.keys.2 t
    have e2 := r.keys.2
    unfold keyK
    rw [e1]
    congr 2
    have : ((f + t : Nat) : Int) % 12 = ((n + t : Nat) : Int) % 12 := by omega
    rw [this]
  have hp := hL.pos
  have al := alike_at (c := keyK m) (n := n) (f := f) hlt hc (f - 1 + L * 12)
  unfold alikeOf at al
  rw [if_neg (by omega)] at al
  have hb : f + (f - 1 + L * 12 - f) % (n - f) < n := by
    have := Nat.mod_lt (f - 1 + L * 12 - f) (show 0 < n - f by omega)
    omega
  exact r.new _ hb (f - 1) (by omega) (by rw [al, k12])
/-- resting, ahead of it other prices -/
theorem rest_before (h : m.Ok) {n f : Nat} (r : Rep m n f) (hr : Rests m n f) (h0 : 0 < f) : prK m (f - 1) ≠ prK m f := fun z => by
  have hlt := r.lt
  have h12 := r.size12 m
  have h11 : f + 11 < n := by
    obtain ⟨c, hc⟩ := h12
    rcases Nat.eq_zero_or_pos c with q | q
    · rw [q] at hc; omega
    · have : 12 * 1 ≤ 12 * c := Nat.mul_le_mul_left 12 q
      omega
  refine r.new (f + 11) h11 (f - 1) (by omega) ?_
  unfold keyK
  rw [z, hr 11 (by omega)]
  congr 2
  have : ((f - 1 : Nat) : Int) % 12 = ((f + 11 : Nat) : Int) % 12 := by omega
  rw [this]
end
end Pr

set_option Elab.async false
set_option linter.all false
set_option maxRecDepth 100000
set_option maxHeartbeats 1000000
/-! N5: rows of prices, compared -/
namespace Pr
open PySem PySem.Spec PyProof.Rows L2 Fw
def rowsD (m : Mk) (n : Nat) : List D := (List.range n).map fun k => dInts (prK m k)
theorem rowsD_len (m : Mk) (n : Nat) : (rowsD m n).length = n := by simp [rowsD]
theorem rowsD_succ (m : Mk) (n : Nat) : rowsD m (n + 1) = rowsD m n ++ [dInts (prK m n)] := by simp [rowsD, List.range_succ]
theorem map_range_eq {α : Type} (f g : Nat → α) : ∀ n, (List.range n).map f = (List.range n).map g ↔ ∀ i, i < n → f i = g i := fun n => by
  constructor
  · intro h i hi
    have := congrArg (fun l => l[i]?) h
    simp only [List.getElem?_map, List.getElem?_range hi, Option.map_some, Option.some.injEq] at this
    exact this
  · intro h
    exact List.map_congr_left fun i hi => h i (List.mem_range.mp hi)
section
variable (m : Mk)
theorem every_eq (h : m.Ok) {n f : Nat} (r : Rep m n f) (k : Nat) : rowsD m n ++ (List.range k).map (fun i => dInts (prK m (f + i % (n - f)))) = rowsD m (n + k) := by
  have hlt := r.lt
  unfold rowsD
  rw [List.range_add, List.map_append, List.map_map]
  congr 1
  refine List.map_congr_left fun i _ => ?_
  have e1 := round_pr m h r.keys.1 r.keys.2
  have e2 := again_at (c := prK m) (f := f) (L := n - f) (fun t => by rw [e1 t, show f + (n - f) + t = n + t from by omega]) (i / (n - f)) (i % (n - f))
  rw [Nat.mod_add_div] at e2
  show dInts (prK m (f + i % (n - f))) = dInts (prK m (n + i))
  rw [← e1 i, e2]
theorem rowsD_cut {n a b : Nat} (h : a ≤ b) (hb : b ≤ n) : Fw.cutD (rowsD m n) (some (a : Int)) (some (b : Int)) = (List.range (b - a)).map fun i => dInts (prK m (a + i)) := by
  rw [cut_mid h (by rw [rowsD_len]; exact hb)]
  unfold rowsD
  rw [drop_map_range _ _ _ (by omega), take_map_range _ _ _ (by omega)]
theorem plain_rows (h : m.Ok) (a n : Nat) (hn : n ≤ 1000000) : plainI 3 (.lst ((List.range n).map fun i => dInts (prK m (a + i)))) = true := by
  simp only [plainI, List.length_map, List.length_range, Bool.and_eq_true, decide_eq_true_eq, List.all_eq_true]
  refine ⟨hn, fun x hx => ?_⟩
  obtain ⟨i, _, rfl⟩ := List.mem_map.mp hx
  exact plain_ints (pr_small m h _)
theorem eq_rows (h : m.Ok) (a b n : Nat) (hn : n ≤ 1000000) : dEqD (.lst ((List.range n).map fun i => dInts (prK m (a + i)))) (.lst ((List.range n).map fun i => dInts (prK m (b + i)))) = some (.bl (decide (∀ i, i < n → prK m (a + i) = prK m (b + i)))) :=
  dEqD_dec (plain_rows m h a n hn) (plain_rows m h b n hn) (by
    rw [D.lst.injEq, map_range_eq]
    exact ⟨fun z i hi => dInts_inj.mp (z i hi), fun z i hi => dInts_inj.mpr (z i hi)⟩)
theorem plain_up' {n k : Nat} {d : D} (h : plainI n d = true) (hk : n ≤ k) : plainI k d = true := by
  induction n generalizing k d with
  | zero => cases h
  | succ n ih =>
    cases k with
    | zero => omega
    | succ k =>
      cases d with
      | non => rfl
      | int _ => rfl
      | tup l =>
        simp only [plainI, Bool.and_eq_true, List.all_eq_true] at h ⊢
        exact ⟨h.1, fun x hx => ih (h.2 x hx) (by omega)⟩
      | lst l =>
        simp only [plainI, Bool.and_eq_true, List.all_eq_true] at h ⊢
        exact ⟨h.1, fun x hx => ih (h.2 x hx) (by omega)⟩
      | bl _ => cases h
      | str _ => cases h
      | rng => cases h
      | ty _ => cases h
      | dic _ _ => cases h
theorem plain_bu {b : Bu} (h : b.worths.length ≤ 4) : plainI 3 (dBu b) = true := by
  have h1 : plainI 2 (dInts b.worths) = true := plain_ints (by omega)
  simp only [dBu, plainI, List.length_cons, List.length_nil, List.all_cons, List.all_nil, Bool.and_eq_true, decide_eq_true_eq]
  refine ⟨by omega, trivial, trivial, ?_, trivial⟩
  exact h1
theorem eq_none {l : List Bu} (hl : l.length ≤ 6) (h : ∀ b ∈ l, b.worths.length ≤ 4) {P : Prop} [Decidable P] (hP : l = [] ↔ P) : dEqD (.lst (l.map dBu)) (.lst []) = some (.bl (decide P)) :=
  dEqD_dec (n := 4) (k := 1) (by
    simp only [plainI, List.length_map, Bool.and_eq_true, decide_eq_true_eq, List.all_eq_true]
    refine ⟨by omega, fun x hx => ?_⟩
    obtain ⟨b, hb, rfl⟩ := List.mem_map.mp hx
    exact plain_bu (h b hb)) (by decide) (by rw [D.lst.injEq, List.map_eq_nil_iff]; exact hP)
end
theorem maxL_eq {a : Int} : ∀ {l : List Int}, (∀ x ∈ l, x ≤ a) → a ∈ l → maxL l = a
  | [], _, h => by cases h
  | [x], _, h => by simp at h; unfold maxL; exact h.symm
  | x :: y :: r, h, hm => by
    have up : ∀ (l : List Int), l ≠ [] → (∀ x ∈ l, x ≤ a) → maxL l ≤ a := by
      intro l
      induction l with
      | nil => intro z; exact absurd rfl z
      | cons x r ih =>
        intro _ hl
        cases r with
        | nil => unfold maxL; exact hl x (by simp)
        | cons y r =>
          unfold maxL
          split
          · exact ih (by simp) fun z hz => hl z (List.mem_cons_of_mem _ hz)
          · exact hl x (by simp)
    unfold maxL
    rcases List.mem_cons.mp hm with e | hm'
    · subst e
      have := up (y :: r) (by simp) fun z hz => h z (List.mem_cons_of_mem _ hz)
      rw [if_neg (by omega)]
    · have ih := maxL_eq (l := y :: r) (fun z hz => h z (List.mem_cons_of_mem _ hz)) hm'
      rw [ih]
      have := h x (by simp)
      split <;> omega
end Pr
namespace Pr
section
variable (m : Mk)
theorem others_nil (h : m.Ok) (p : Nat) : (m.bs.filter fun b => !decide ((p : Int) % b.every = 0)) = [] ↔ turnN m ∣ p := by
  rw [turn_dvd m h, List.filter_eq_nil_iff]
  constructor
  · intro hh b hb
    have := hh b hb
    obtain ⟨e1, e2, e3⟩ := every_pos m h hb
    simp only [Bool.not_eq_true', decide_eq_false_iff_not, Decidable.not_not] at this
    rw [← e3] at this
    exact Int.natCast_dvd_natCast.mp (Int.dvd_of_emod_eq_zero this)
  · intro hh b hb
    obtain ⟨e1, e2, e3⟩ := every_pos m h hb
    have := Int.emod_eq_zero_of_dvd (Int.natCast_dvd_natCast.mpr (hh b hb))
    rw [e3] at this
    simp [this]
theorem good_part (h : m.Ok) {f p n : Nat} (hp : 0 < n - f) (ht : turnN m ∣ p) : (∀ i, i < n - f → prK m (f + i) = prK m (f + p + i)) ↔ prK m (f + p) = prK m f := by
  constructor
  · intro hh
    have := hh 0 hp
    exact this.symm
  · intro e i hi
    exact (on_and_on m h ht e i).symm
end
end Pr

set_option Elab.async false
set_option linter.all false
set_option maxRecDepth 100000
set_option maxHeartbeats 400000
/-! P1: k03: so many days; sums day by day; the round far off -/
namespace Pr
open PySem PySem.Spec PyProof.Rows L2 Fw
theorem plain_two {n : Nat} {a b : D} (ha : plainI n a = true) (hb : plainI n b = true) : plainI (n + 1) (.tup [a, b]) = true := by
  show (decide (2 ≤ 1000000) && (plainI n a && (plainI n b && true))) = true
  rw [ha, hb]; rfl
section
variable (m : Mk)
def stTn (N : Nat) (g : G) (k : Nat) : List Sl × G := ([.im (dMk m), .im (.int (N : Int)), .ow (.lst (toldD m k)), .im (dInts (prK m k)), .no, .no, .no], g)
theorem days_many (h : m.Ok) {N : Nat} (hN : N ≤ 500) (g : G) : ph_days [dMk m, .int (N : Int)] g = some (.ok (.lst (toldD m N)), g) := by
  have e0 : start0 7 [dMk m, .int (N : Int)] = [.im (dMk m), .im (.int (N : Int)), .no, .no, .no, .no, .no] := by
    unfold start0
    rw [List.map_cons, sl_im (lf_mk m)]
    rfl
  have eN : (N : Int).toNat = N := by omega
  have eL : 0 + (rngD 0 (N : Int).toNat).length = N := by rw [eN]; simp [rngD]
  unfold ph_days
  apply phi_rt
  · rw [e0]
    refine mSeq_nx (mDrop_ok (mCall0_ok (mCons_ok (mVarB_im rfl) mNil_ok) rfl (check_market_ok m h g))) ?_
    refine mSeq_nx (mDrop_ok (mCall0_ok (mCons_ok (mVarB_im rfl) (mCons_ok mret_ok mNil_ok)) rfl (check_count_ok (by omega) (by omega) g))) ?_
    refine mSeq_nx (mOwn_ok (mLst_ok mNil_ok rfl) (by show 2 < 7; decide)) ?_
    refine mSeq_nx (mAsg_ok (mCall0_ok (mCons_ok (mVarB_im rfl) mNil_ok) rfl (first_prices_ok m h.s4 g)) rfl) ?_
    refine mSeq_nx (mFor_ok (mRng1_ok (mCons_ok (mVarB_im rfl) mNil_ok) (Big.of (by omega)).h) (forGo_nx (S := stTn m N g) (rngD 0 (N : Int).toNat) 0 fun k e he => ?_)) ?_
    · obtain ⟨rfl, hk⟩ := rngD_nat he
      rw [Nat.zero_add]
      refine ⟨_, rfl, .inl ?_⟩
      refine mFgE_nx (ρ1 := [.im (dMk m), .im (.int (N : Int)), .ow (.lst (toldD m (k + 1))), .im (dInts (prK m (k + 1))), .im (.int (k : Int)), .im (.lst ((bgK m k).map dOpt)), .im (dInts (prK m (k + 1)))]) ?_
      refine mSeq_nx (mAsg_ok (mCall0_ok (mCons_ok (mVarB_im rfl) (mCons_ok (mVarB_im rfl) (mCons_ok (mVarB_im rfl) mNil_ok))) rfl (day_done_ok m (prK m k) (k : Int) h (prK_len m k) g)) rfl) ?_
      refine mSeq_nx (mApp_ok rfl (mTup_ok (mCons_ok (mVar_ok rfl) (mCons_ok (mVar_ok rfl) mNil_ok)) rfl) (small_of (by rw [toldD_len]; omega))) ?_
      refine (mAsg_ok (mVar_ok rfl) rfl).trans ?_
      rw [toldD_succ]
      rfl
    · rw [eL]
      exact mFree_ok rfl (mRet_ok (mVar_ok rfl))
/-- what was sold and taken of each good ahead of day k -/
def pairD (k i : Nat) : D := .tup [.int (soldT m k i), .int (takenT m k i)]
def sumD (k : Nat) : D := .tup ((List.range m.ss.length).map (pairD m k))
def sumsD (n : Nat) : List D := (List.range n).map (sumD m)
theorem sumsD_len (n : Nat) : (sumsD m n).length = n := by simp [sumsD]
theorem sumsD_succ (n : Nat) : sumsD m (n + 1) = sumsD m n ++ [sumD m n] := by simp [sumsD, List.range_succ]
theorem sums_at {n k : Nat} (h : k < n) : dIx (.lst (sumsD m n)) (.int (k : Int)) = some (sumD m k) := ix_range (f := sumD m) h
theorem sums_last (n : Nat) : dIx (.lst (sumsD m (n + 1))) (.int (-1)) = some (sumD m n) := by
  show atI (sumsD m (n + 1)) (-1) = _
  unfold atI
  rw [sumsD_len]
  have : L2.ixN (n + 1) (-1) = some n := by unfold L2.ixN; split <;> simp <;> omega
  rw [this]
  show (sumsD m (n + 1))[n]? = _
  unfold sumsD
  rw [List.getElem?_map, List.getElem?_range (by omega)]; rfl
theorem sum_at {k i : Nat} (h : i < m.ss.length) : dIx (sumD m k) (.int (i : Int)) = some (pairD m k i) := ix_at (by rw [List.getElem?_map, List.getElem?_range h]; rfl)
theorem pair_0 (k i : Nat) : dIx (pairD m k i) (.int 0) = some (.int (soldT m k i)) := rfl
theorem pair_1 (k i : Nat) : dIx (pairD m k i) (.int 1) = some (.int (takenT m k i)) := rfl
theorem sold_succ (k i : Nat) : soldT m (k + 1) i = soldT m k i + cnt (bgK m k) i := tot_succ _ _
theorem taken_succ (k i : Nat) : takenT m (k + 1) i = takenT m k i + cnt (bgK m k) i * (prK m k).getD i 0 := tot_succ _ _
theorem sum_zero : sumD m 0 = .tup (m.ss.map fun _ => .tup [.int 0, .int 0]) := by
  unfold sumD
  congr 1
  refine List.ext_getElem (by simp) fun i h1 h2 => ?_
  simp [pairD, soldT, takenT, tot, sumW]
theorem ix_pr {k i : Nat} (h : i < m.ss.length) : dIx (dInts (prK m k)) (.int (i : Int)) = some (.int ((prK m k).getD i 0)) := by
  have hl : i < (prK m k).length := by rw [prK_len]; exact h
  refine ix_at ?_
  rw [List.getElem?_map, List.getElem?_eq_getElem hl, List.getD_eq_getElem?_getD, List.getElem?_eq_getElem hl]
  rfl
theorem told_at {n k : Nat} (h : k < n) : dIx (.lst (toldD m n)) (.int (k : Int)) = some (tellD m k) := ix_range (f := tellD m) h
/-- totals of what comes again -/
theorem tot_round {c : Nat → Int} {f L : Nat} (hc : ∀ t, c (f + t) = c (f + L + t)) (a : Nat) (ha : f ≤ a) : ∀ q, tot c (a + L * q) = tot c a + q * (tot c (f + L) - tot c f)
  | 0 => by simp
  | q + 1 => by
    have one : ∀ a, f ≤ a → tot c (a + L) = tot c a + (tot c (f + L) - tot c f) := fun a ha => by
      obtain ⟨t, rfl⟩ : ∃ t, a = f + t := ⟨a - f, by omega⟩
      clear ha
      induction t with
      | zero => simp; omega
      | succ t ih =>
        have e1 : f + (t + 1) + L = (f + t + L) + 1 := by omega
        have e2 : f + (t + 1) = (f + t) + 1 := by omega
        rw [e1, e2, tot_succ, tot_succ, ih, hc t, show f + L + t = f + t + L from by omega]
        omega
    have e : a + L * (q + 1) = (a + L * q) + L := by rw [Nat.mul_add]; omega
    rw [e, one _ (by omega), tot_round hc a ha q]
    have : ((q + 1 : Nat) : Int) = (q : Int) + 1 := by omega
    rw [this, Int.add_mul]; omega
theorem sold_far (h : m.Ok) {n f : Nat} (r : Rep m n f) {a q : Nat} (ha : f ≤ a) (i : Nat) : soldT m (a + (n - f) * q) i = soldT m a i + q * (soldT m n i - soldT m f i) := by
  have e1 := (r.keys).1
  have e2 := (r.keys).2
  have hlt := r.lt
  have en : f + (n - f) = n := by omega
  have := tot_round (c := fun j => cnt (bgK m j) i) (f := f) (L := n - f) (fun t => by rw [en]; exact congrArg (fun b => cnt b i) (round_bg m h e1 e2 t)) a ha q
  rw [en] at this
  exact this
theorem taken_far (h : m.Ok) {n f : Nat} (r : Rep m n f) {a q : Nat} (ha : f ≤ a) (i : Nat) : takenT m (a + (n - f) * q) i = takenT m a i + q * (takenT m n i - takenT m f i) := by
  have e1 := (r.keys).1
  have e2 := (r.keys).2
  have hlt := r.lt
  have en : f + (n - f) = n := by omega
  have := tot_round (c := fun j => cnt (bgK m j) i * (prK m j).getD i 0) (f := f) (L := n - f) (fun t => by rw [en]; show cnt (bgK m (f + t)) i * (prK m (f + t)).getD i 0 = cnt (bgK m (n + t)) i * (prK m (n + t)).getD i 0; rw [round_bg m h e1 e2 t, round_pr m h e1 e2 t]) a ha q
  rw [en] at this
  exact this
theorem pr_far (h : m.Ok) {n f : Nat} (r : Rep m n f) {a q : Nat} (ha : f ≤ a) : prK m (a + (n - f) * q) = prK m a := by
  have e1 := (r.keys).1
  have e2 := (r.keys).2
  have hlt := r.lt
  have en : f + (n - f) = n := by omega
  obtain ⟨t, rfl⟩ : ∃ t, a = f + t := ⟨a - f, by omega⟩
  rw [Nat.add_assoc]
  exact again_at (c := prK m) (f := f) (L := n - f) (fun t => by rw [en]; exact round_pr m h e1 e2 t) q t
theorem plain_tell (h : m.Ok) (k : Nat) : plainI 3 (tellD m k) = true := by
  have h1 : plainI 2 (dInts (prK m k)) = true := plain_ints (pr_small m h _)
  have h2 : plainI 2 (.lst ((bgK m k).map dOpt)) = true := by
    simp only [plainI, List.length_map, Bool.and_eq_true, decide_eq_true_eq, List.all_eq_true]
    refine ⟨?_, fun x hx => ?_⟩
    · have : (bgK m k).length ≤ 6 := by unfold bgK bought; rw [List.length_map, List.length_range]; exact h.b6
      omega
    · obtain ⟨o, _, rfl⟩ := List.mem_map.mp hx
      cases o <;> rfl
  exact plain_two h1 h2
theorem plain_told (h : m.Ok) {n : Nat} (hn : n ≤ 1000000) : plainI 4 (.lst (toldD m n)) = true := by
  simp only [plainI, toldD_len, Bool.and_eq_true, decide_eq_true_eq, List.all_eq_true]
  refine ⟨hn, fun x hx => ?_⟩
  obtain ⟨k, _, rfl⟩ := List.mem_map.mp hx
  exact plain_tell m h k
theorem plain_tot (h : m.Ok) (k : Nat) : plainI 4 (dTot m k) = true := by
  have h1 : plainI 3 (dInts (prK m k)) = true := plain_up' (plain_ints (pr_small m h _)) (by decide)
  have h2 : plainI 3 (.lst ((List.range m.ss.length).map fun i => .tup [.int (soldT m k i), .int (takenT m k i)])) = true := by
    simp only [plainI, List.length_map, List.length_range, Bool.and_eq_true, decide_eq_true_eq, List.all_eq_true]
    refine ⟨by have := h.s4; omega, fun x hx => ?_⟩
    obtain ⟨i, _, rfl⟩ := List.mem_map.mp hx
    rfl
  exact plain_two h1 h2
end
end Pr

set_option Elab.async false
set_option linter.all false
set_option maxRecDepth 100000
set_option maxHeartbeats 1000000
/-! R1: what is refused: a market's, prices', a count's refusals, as they are raised -/
namespace Pr
open PySem PySem.Spec PyProof.Rows L2 Fw
theorem s_raiseF {ok : Int → Bool} {c : Nat} {m : MV D} {ρ : List Sl} {g : G} {QS : Fl → List Sl → G → Prop} (h : W m ρ g fun d g1 => ∃ i, d = .int i ∧ ok i = true ∧ QS (.ex ⟨c, .int i⟩) ρ g1) : WS (mRaiseF ok c m) ρ g QS := by
  obtain ⟨d, g1, e, i, rfl, hk, q⟩ := h
  exact ⟨_, ρ, g1, by unfold mRaiseF; rw [e]; dsimp only; rw [if_pos hk], q⟩
theorem w_catA {ma mb : MV D} {ρ : List Sl} {g : G} {Q : D → G → Prop} (h : W ma ρ g fun x g1 => W mb ρ g1 fun y g2 => ∃ l k, x = .tup l ∧ y = .tup k ∧ l.length + k.length ≤ 1000000 ∧ Q (.tup (l ++ k)) g2) : W (mCatA ma mb) ρ g Q := w_bind (h.mono fun x g1 h => w_bind (h.mono fun y g2 h => by
  obtain ⟨l, k, rfl, rfl, e, q⟩ := h
  exact w_lift ⟨_, by dsimp only; rw [if_pos (small_of e)], q⟩))
theorem w_repT {ma mb : MV D} {ρ : List Sl} {g : G} {Q : D → G → Prop} (h : W ma ρ g fun x g1 => W mb ρ g1 fun y g2 => ∃ l k, x = .tup l ∧ y = .int k ∧ (!l.isEmpty && (decide (2 ≤ k) && (decide (k ≤ 1000) && decide (l.length ≤ 1000)))) = true ∧ Q (.tup (List.replicate k.toNat l).flatten) g2) : W (mRepT ma mb) ρ g Q := w_bind (h.mono fun x g1 h => w_bind (h.mono fun y g2 h => by
  obtain ⟨l, k, rfl, rfl, e, q⟩ := h
  exact w_lift ⟨_, by dsimp only; rw [if_pos e], q⟩))
theorem w_drop {n : Nat} {φ : PhiT} {ms : MV (List D)} {ρ : List Sl} {g : G} {QS : Fl → List Sl → G → Prop} {ex : Exn} {g2 : G} (h : W ms ρ g fun l g1 => l.length = n ∧ φ l g1 = some (.ex ex, g2)) (q : QS (.ex ex) ρ g2) : WS (mDrop (mCall n φ ms)) ρ g QS := by
  obtain ⟨l, g1, e, h1, h2⟩ := h
  exact ⟨_, ρ, g2, by unfold mDrop mCall mbind; rw [e]; dsimp only; rw [if_pos h1, h2], q⟩
theorem w_call {n : Nat} {φ : PhiT} {ms : MV (List D)} {ρ : List Sl} {g : G} {Q : D → G → Prop} (h : W ms ρ g fun l g1 => l.length = n ∧ ∃ d g2, φ l g1 = some (.ok d, g2) ∧ Q d g2) : W (mCall n φ ms) ρ g Q := by
  obtain ⟨l, g1, e, h1, d, g2, h2, q⟩ := h
  exact ⟨d, g2, by unfold mCall mbind; rw [e]; dsimp only; rw [if_pos h1, h2], q⟩
local macro_rules | `(tactic| walk_at "w1") => `(tactic| first
  | with_reducible refine s_seq ?_ | with_reducible refine s_asg ?_ | with_reducible refine s_if ?_ | with_reducible refine s_ret ?_ | with_reducible refine s_fgE ?_ | with_reducible refine s_free ?_ | with_reducible refine s_drop ?_ | with_reducible refine s_own ?_
  | with_reducible refine s_nx ?_ | with_reducible refine s_retN ?_ | with_reducible refine s_bk ?_ | with_reducible refine s_par ?_ | with_reducible refine s_parI ?_ | with_reducible refine s_parO ?_ | with_reducible refine s_parD ?_ | with_reducible refine s_parN ?_
  | with_reducible refine w_ret ?_ | with_reducible refine w_varB ?_ | with_reducible refine w_var ?_ | with_reducible refine s_app ?_ | with_reducible refine w_op ?_ | with_reducible refine w_cb ?_ | with_reducible refine w_nil ?_ | with_reducible refine w_cons ?_
  | with_reducible refine w_tup ?_ | with_reducible refine w_lst ?_ | with_reducible refine w_fr ?_ | with_reducible refine w_lf ?_ | with_reducible refine w_b ?_ | with_reducible refine w_not ?_ | with_reducible refine w_and ?_ | with_reducible refine w_or ?_
  | with_reducible refine w_tand ?_ | with_reducible refine w_tor ?_ | with_reducible refine w_tnot ?_ | with_reducible refine w_if ?_ | with_reducible refine w_chain ?_ | with_reducible refine w_isiT ?_ | with_reducible refine w_part ?_ | with_reducible refine w_slT ?_ | with_reducible refine w_slL ?_
  | with_reducible refine w_tupOf ?_ | with_reducible refine w_listOf ?_ | with_reducible refine w_cat ?_ | with_reducible refine w_catT ?_ | with_reducible refine w_rep ?_ | with_reducible refine w_call0 ?_ | with_reducible refine w_itT ?_ | with_reducible refine w_itL ?_ | with_reducible refine w_rng1 ?_ | with_reducible refine w_rng2 ?_
  | with_reducible refine w_enum ?_ | with_reducible refine w_lc ?_ | with_reducible refine w_tru ?_ | with_reducible refine w_un ?_
  | with_reducible refine w_nin ?_ | with_reducible refine w_nget ?_ | with_reducible refine w_nget2 ?_ | with_reducible refine s_nput ?_ | with_reducible refine s_dnew ?_ | with_reducible refine w_join ?_ | with_reducible refine w_split ?_ | with_reducible refine w_truS ?_ | with_reducible refine w_slA ?_ | with_reducible refine s_asgS ?_ | with_reducible refine w_lift ?_ | with_reducible refine s_raiseF ?_ | with_reducible refine w_catA ?_ | with_reducible refine w_repT ?_ | with_reducible refine w_call ?_
  | (refine ⟨_, rfl, ?_⟩) | (refine ⟨rfl, ?_⟩) | (refine ⟨Nat.le_of_ble_eq_true rfl, ?_⟩) | (refine ⟨_, _, by with_reducible assumption, ?_⟩) | (refine ⟨fun _ => ?_, fun h => Bool.noConfusion h⟩) | (refine ⟨fun h => Bool.noConfusion h, fun _ => ?_⟩) | (refine ⟨Big.of (by omega), ?_⟩) | (refine ⟨_, Or.inl rfl, ?_⟩) | (refine ⟨_, Or.inr rfl, ?_⟩) | (refine ⟨_, _, rfl, rfl, ?_⟩) | (refine ⟨_, _, rfl, ?_⟩))
local macro_rules | `(tactic| walk_at "ww") => `(tactic| repeat (walk_at "w1"))
local macro_rules | `(tactic| walk_at "v1") => `(tactic| first
  | with_reducible refine s_asg ?_ | with_reducible refine s_if ?_ | with_reducible refine s_ret ?_ | with_reducible refine s_fgE ?_ | with_reducible refine s_free ?_ | with_reducible refine s_drop ?_ | with_reducible refine s_own ?_
  | with_reducible refine s_nx ?_ | with_reducible refine s_retN ?_ | with_reducible refine s_bk ?_ | with_reducible refine s_par ?_ | with_reducible refine s_parI ?_ | with_reducible refine s_parO ?_ | with_reducible refine s_parD ?_ | with_reducible refine s_parN ?_
  | with_reducible refine w_ret ?_ | with_reducible refine w_varB ?_ | with_reducible refine w_var ?_ | with_reducible refine s_app ?_ | with_reducible refine w_op ?_ | with_reducible refine w_cb ?_ | with_reducible refine w_nil ?_ | with_reducible refine w_cons ?_
  | with_reducible refine w_tup ?_ | with_reducible refine w_lst ?_ | with_reducible refine w_fr ?_ | with_reducible refine w_lf ?_ | with_reducible refine w_b ?_ | with_reducible refine w_not ?_ | with_reducible refine w_and ?_ | with_reducible refine w_or ?_
  | with_reducible refine w_tand ?_ | with_reducible refine w_tor ?_ | with_reducible refine w_tnot ?_ | with_reducible refine w_if ?_ | with_reducible refine w_chain ?_ | with_reducible refine w_isiT ?_ | with_reducible refine w_part ?_ | with_reducible refine w_slT ?_ | with_reducible refine w_slL ?_
  | with_reducible refine w_tupOf ?_ | with_reducible refine w_listOf ?_ | with_reducible refine w_cat ?_ | with_reducible refine w_catT ?_ | with_reducible refine w_rep ?_ | with_reducible refine w_call0 ?_ | with_reducible refine w_itT ?_ | with_reducible refine w_itL ?_ | with_reducible refine w_rng1 ?_ | with_reducible refine w_rng2 ?_
  | with_reducible refine w_enum ?_ | with_reducible refine w_lc ?_ | with_reducible refine w_tru ?_ | with_reducible refine w_un ?_
  | with_reducible refine w_nin ?_ | with_reducible refine w_nget ?_ | with_reducible refine w_nget2 ?_ | with_reducible refine s_nput ?_ | with_reducible refine s_dnew ?_ | with_reducible refine w_join ?_ | with_reducible refine w_split ?_ | with_reducible refine w_truS ?_ | with_reducible refine w_slA ?_ | with_reducible refine s_asgS ?_ | with_reducible refine w_lift ?_ | with_reducible refine s_raiseF ?_ | with_reducible refine w_catA ?_ | with_reducible refine w_repT ?_ | with_reducible refine w_call ?_
  | (refine ⟨_, rfl, ?_⟩) | (refine ⟨rfl, ?_⟩) | (refine ⟨Nat.le_of_ble_eq_true rfl, ?_⟩) | (refine ⟨_, _, by with_reducible assumption, ?_⟩) | (refine ⟨fun _ => ?_, fun h => Bool.noConfusion h⟩) | (refine ⟨fun h => Bool.noConfusion h, fun _ => ?_⟩) | (refine ⟨Big.of (by omega), ?_⟩) | (refine ⟨_, Or.inl rfl, ?_⟩) | (refine ⟨_, Or.inr rfl, ?_⟩) | (refine ⟨_, _, rfl, rfl, ?_⟩) | (refine ⟨_, _, rfl, ?_⟩))
local macro_rules | `(tactic| walk_at "vv") => `(tactic| repeat (walk_at "v1"))
theorem phi_exR {n : Nat} {m : MSt} {ds : List D} {g g1 : G} {ρ1 : List Sl} {x : Exn} (h : m (start0 n ds) g = some (.ex x, ρ1, g1)) : phi n m ds g = some (.ex x, g1) := by unfold phi; rw [h]
/-- the first price that can't be, of those from k on -/
def badAt : List Se → List Int → Nat → Option Nat
  | [], [], _ => none
  | _ :: _, [], k => some k
  | [], _ :: _, k => some k
  | s :: ss, p :: ps, k => if s.low ≤ p ∧ p ≤ s.high then badAt ss ps (k + 1) else some k
theorem badAt_ge : ∀ {ss : List Se} {ps : List Int} {k j : Nat}, badAt ss ps k = some j → k ≤ j ∧ j ≤ k + ps.length
  | [], [], _, _, h => by cases h
  | _ :: _, [], _, _, h => by cases h; simp
  | [], _ :: _, _, _, h => by cases h; simp
  | s :: ss, p :: ps, k, j, h => by
    unfold badAt at h
    split at h
    · have := badAt_ge h
      simp; omega
    · cases h; simp
theorem badAt_cons (s : Se) (ss : List Se) (p : Int) (ps : List Int) (k : Nat) : badAt (s :: ss) (p :: ps) k = if s.low ≤ p ∧ p ≤ s.high then badAt ss ps (k + 1) else some k := rfl
theorem fLen_t (l : List D) : fLen [.tup l] = some (.int (l.length : Nat)) := rfl
theorem okC_nat {k : Nat} (h : k ≤ 1000000) : okC (k : Int) = true := by
  unfold okC smallI
  exact decide_eq_true (by constructor <;> omega)
def stP (ss : List Se) (ps : List Int) : List Sl := [.im (.tup (ss.map dSe)), .im (dInts ps), .no, .no, .no, .no]
theorem whole_se (s : Se) : wholeD [D.int s.price, .int s.stock, .int s.up, .int s.down, .int s.low, .int s.high] (some 4) none = false := rfl
theorem cut_se (s : Se) : Fw.cutD [D.int s.price, .int s.stock, .int s.up, .int s.down, .int s.low, .int s.high] (some 4) none = [.int s.low, .int s.high] := rfl
theorem pricesX (ss : List Se) (ps : List Int) (hs : ss.length ≤ 1000) (hp : ps.length ≤ 1000) (g : G) : φx_check_prices [.tup (ss.map dSe), dInts ps] g = match badAt ss ps 0 with
    | none => some (.ok .non, g)
    | some k => some (.ex ⟨4, .int (k : Int)⟩, g) := by
  have es : start0 6 [.tup (ss.map dSe), dInts ps] = stP ss ps := by
    show mkSl (.tup (ss.map dSe)) :: mkSl (dInts ps) :: _ = _
    rw [sl_im (lf_ints ps), sl_im (by show D.lf.lfs _ = true; exact lfs_se ss)]
    rfl
  suffices h : WS mx_check_prices (stP ss ps) g (fun fl _ g1 => g1 = g ∧ match badAt ss ps 0 with
      | none => fl = .nx
      | some k => fl = .ex ⟨4, .int (k : Int)⟩) by
    obtain ⟨fl, ρ1, g1, e, rfl, h⟩ := h
    unfold φx_check_prices phi
    rw [es, e]
    cases hb : badAt ss ps 0 with
    | none => rw [hb] at h; subst h; rfl
    | some k => rw [hb] at h; subst h; rfl
  unfold mx_check_prices
  refine s_seq (s_for (fun j ρ g' => g' = g ∧ ρ = stP ss ps ∧ badAt ss ps 0 = badAt (ss.drop j) (ps.drop j) j ∧ (j ≤ ss.length ∨ False)) ?_)
  walk_at "ww"
  refine ⟨⟨rfl, rfl, rfl, .inl (by omega)⟩, ?_, ?_⟩
  · rintro j d ρ g' hd ⟨rfl, rfl, hb, hj⟩
    obtain ⟨d', hd', rfl⟩ := enumD_get _ _ _ _ hd
    rw [List.getElem?_map] at hd'
    obtain ⟨p, hps, rfl⟩ := Option.map_eq_some_iff.mp hd'
    have hlt : j < ps.length := (List.getElem?_eq_some_iff.mp hps).1
    have ep : ps.drop j = p :: ps.drop (j + 1) := by
      rw [List.drop_eq_getElem_cons hlt]; congr 1; exact (List.getElem?_eq_some_iff.mp hps).2
    refine ⟨_, rfl, ?_⟩
    rw [Nat.zero_add]
    walk_at "ww"
    refine ⟨fun z => ?_, fun z => ?_⟩
    · have z := of_decide_eq_true z
      rw [List.length_map] at z
      have e0 : ss.drop j = [] := List.drop_eq_nil_of_le (by omega)
      rw [e0, ep] at hb
      walk_at "ww"
      refine ⟨okC_nat (by omega), rfl, ?_⟩
      rw [hb]
      rfl
    · have z := of_decide_eq_false z
      rw [List.length_map] at z
      have hjs : j < ss.length := by omega
      have e0 : ss.drop j = ss[j] :: ss.drop (j + 1) := List.drop_eq_getElem_cons hjs
      have ix : dIx (.tup (ss.map dSe)) (.int (j : Int)) = some (dSe ss[j]) := by
        refine ix_at ?_
        rw [List.getElem?_map, List.getElem?_eq_getElem hjs]; rfl
      have hw := within p (ss[j]).low (ss[j]).high g'
      rw [e0, ep] at hb
      walk_at "ww"
      refine ⟨_, ix, ?_⟩
      walk_at "ww"
      refine ⟨fun z => ?_, fun z => ?_⟩
      · have hn : ¬ ((ss[j]).low ≤ p ∧ p ≤ (ss[j]).high) := fun ⟨a, b⟩ => by simp [a, b] at z
        rw [badAt_cons, if_neg hn] at hb
        walk_at "ww"
        refine ⟨okC_nat (by omega), rfl, ?_⟩
        rw [hb]
      · have hn : (ss[j]).low ≤ p ∧ p ≤ (ss[j]).high := by simpa using z
        rw [badAt_cons, if_pos hn] at hb
        walk_at "ww"
        exact ⟨hb, .inl (by omega)⟩
  · rintro ρ g' ⟨rfl, rfl, hb, hj⟩
    have el : (enumD 0 (ps.map D.int)).length = ps.length := by rw [enumD_length, List.length_map]
    rw [el] at hb hj
    rw [List.drop_length] at hb
    walk_at "ww"
    refine ⟨fun z => ?_, fun z => ?_⟩
    · have z := of_decide_eq_true z
      rw [List.length_map, List.length_map] at z
      have e0 : ss.drop ps.length = ss[ps.length] :: ss.drop (ps.length + 1) := List.drop_eq_getElem_cons (by omega)
      rw [e0] at hb
      walk_at "ww"
      refine ⟨by rw [List.length_map]; exact okC_nat (by omega), rfl, ?_⟩
      rw [hb]
      show _ = Fl.ex ⟨4, .int ((ps.length : Nat) : Int)⟩
      rw [List.length_map]
    · have z := of_decide_eq_false z
      rw [List.length_map, List.length_map] at z
      have e0 : ss.drop ps.length = [] := List.drop_eq_nil_of_le (by omega)
      rw [e0] at hb
      walk_at "ww"
      rw [hb]
      rfl
theorem badAt_none : ∀ {ss : List Se} {ps : List Int} {k : Nat}, badAt ss ps k = none ↔ (ps.length = ss.length ∧ ∀ (i : Nat) (s : Se) (p : Int), ss[i]? = some s → ps[i]? = some p → s.low ≤ p ∧ p ≤ s.high)
  | [], [], k => by simp [badAt]
  | _ :: _, [], k => by simp [badAt]
  | [], _ :: _, k => by simp [badAt]
  | s :: ss, p :: ps, k => by
    rw [badAt_cons]
    constructor
    · intro h
      split at h
      · rename_i h1
        obtain ⟨h2, h3⟩ := badAt_none.mp h
        refine ⟨by simp [h2], fun i s' p' hs hp => ?_⟩
        cases i with
        | zero => simp at hs hp; subst hs hp; exact h1
        | succ i => exact h3 i s' p' (by simpa using hs) (by simpa using hp)
      · cases h
    · intro ⟨h2, h3⟩
      rw [if_pos (h3 0 s p rfl rfl)]
      exact badAt_none.mpr ⟨by simpa using h2, fun i s' p' hs hp => h3 (i + 1) s' p' (by simpa using hs) (by simpa using hp)⟩
/-- where the prices can be, both readings go through -/
theorem prices_ok (ss : List Se) (ps : List Int) (hs : ss.length ≤ 1000) (hp : ps.length ≤ 1000) (hb : badAt ss ps 0 = none) (g : G) : ph_check_prices [.tup (ss.map dSe), dInts ps] g = some (.ok .non, g) := by
  obtain ⟨hl, hin⟩ := badAt_none.mp hb
  have es : start0 6 [.tup (ss.map dSe), dInts ps] = stP ss ps := by
    show mkSl (.tup (ss.map dSe)) :: mkSl (dInts ps) :: _ = _
    rw [sl_im (lf_ints ps), sl_im (by show D.lf.lfs _ = true; exact lfs_se ss)]
    rfl
  refine w_phiOk ?_
  rw [es]
  unfold m_check_prices
  refine s_seq (s_for (fun j ρ g' => g' = g ∧ ρ = stP ss ps) ?_)
  walk_at "ww"
  refine ⟨⟨rfl, rfl⟩, ?_, ?_⟩
  · rintro j d ρ g' hd ⟨rfl, rfl⟩
    obtain ⟨d', hd', rfl⟩ := enumD_get _ _ _ _ hd
    rw [List.getElem?_map] at hd'
    obtain ⟨p, hps, rfl⟩ := Option.map_eq_some_iff.mp hd'
    have hlt : j < ps.length := (List.getElem?_eq_some_iff.mp hps).1
    have hjs : j < ss.length := by omega
    have ix : dIx (.tup (ss.map dSe)) (.int (j : Int)) = some (dSe ss[j]) := by
      refine ix_at ?_
      rw [List.getElem?_map, List.getElem?_eq_getElem hjs]; rfl
    have hw := within p (ss[j]).low (ss[j]).high g'
    have hin := hin j _ p (List.getElem?_eq_getElem hjs) hps
    refine ⟨_, rfl, ?_⟩
    rw [Nat.zero_add]
    walk_at "ww"
    refine ⟨fun z => ?_, fun z => ?_⟩
    · have z := of_decide_eq_true z
      rw [List.length_map] at z
      omega
    · walk_at "ww"
      refine ⟨_, ix, ?_⟩
      walk_at "ww"
      refine ⟨fun z => ?_, fun z => ?_⟩
      · simp [hin.1, hin.2] at z
      · walk_at "ww"
        rfl
  · rintro ρ g' ⟨rfl, rfl⟩
    walk_at "ww"
    refine ⟨fun z => ?_, fun z => ?_⟩
    · have z := of_decide_eq_true z
      rw [List.length_map, List.length_map] at z
      omega
    · walk_at "ww"
      rfl
theorem marketX (m : Mk) (h : m.Ok) (g : G) : φx_check_market [dMk m] g = some (.ok .non, g) := by
  unfold φx_check_market
  apply phi_nx
  · rw [start_mk]
    refine mSeq_nx (mAsg_ok (mVar_ok rfl) rfl) ?_
    refine mSeq_nx (mFor_ok (mEnum_t (mCons_ok (mVar_ok rfl) mNil_ok)) (forGo_nx (S := fun _ => ([.im (dMk m), .im (.tup (m.ss.map dSe)), .im (.tup (m.bs.map dBu)), .no, .no, .no], g)) _ 0 fun j d hd => ?_)) ?_
    · obtain ⟨d', hd', rfl⟩ := enumD_get _ _ _ _ hd
      rw [List.getElem?_map] at hd'
      obtain ⟨s, hs, rfl⟩ := Option.map_eq_some_iff.mp hd'
      have hj : j < m.ss.length := (List.getElem?_eq_some_iff.mp hs).1
      have h4 := h.s4
      have ok := h.s s (List.mem_of_getElem? hs)
      refine ⟨_, rfl, .inl (mFgE_nx (mIfS_f (mTOr_f (mB_ok (mOp_ok (mVarB_im rfl) mret_ok ?_)) (mTNot_ok (mB_ok (mCall0_ok (mCons_ok (mVarB_im rfl) mNil_ok) rfl (can_sell_ok s ok g))))) rfl))⟩
      simp [dGe, dII]; omega
    · refine mFor_ok (mEnum_t (mCons_ok (mVar_ok rfl) mNil_ok)) (forGo_nx (S := fun _ => ([.im (dMk m), .im (.tup (m.ss.map dSe)), .im (.tup (m.bs.map dBu)), .no, .no, .no], g)) _ 0 fun j d hd => ?_)
      obtain ⟨d', hd', rfl⟩ := enumD_get _ _ _ _ hd
      rw [List.getElem?_map] at hd'
      obtain ⟨s, hs, rfl⟩ := Option.map_eq_some_iff.mp hd'
      have hj : j < m.bs.length := (List.getElem?_eq_some_iff.mp hs).1
      have h4 := h.b6
      have ok := h.b s (List.mem_of_getElem? hs)
      have e : fLen [.tup (m.ss.map dSe)] = some (.int (m.ss.length : Nat)) := by simp [fLen]
      refine ⟨_, rfl, .inl (mFgE_nx (mIfS_f (mTOr_f (mB_ok (mOp_ok (mVarB_im rfl) mret_ok ?_)) (mTNot_ok (mB_ok (mCall0_ok (mCons_ok (mVarB_im rfl) (mCons_ok (mCB_ok (mCons_ok (mVarB_im rfl) mNil_ok) e) mNil_ok)) rfl (can_buy_ok _ s ok h.s4 g))))) rfl))⟩
      simp [dGe, dII]; omega
theorem countX {c most : Int} (g : G) (hm : most = 500 ∨ most = 1000000000000) : φx_check_count [.int c, .int most] g = if 0 ≤ c ∧ c ≤ most then some (.ok .non, g) else some (.ex ⟨7, .non⟩, g) := by
  have hw := within c 0 most g
  have hj : ∃ d, fJs "not a number from 0 to " (.int most) = some d := by
    have hs : ∀ i : Int, (decide (i.natAbs.log2 < 1920) && (small (Str.empty ++ ("not a number from 0 to " : Str)).length && small ((Str.empty ++ ("not a number from 0 to " : Str)) ++ Str.ofString (toString i)).length)) = true → ∃ d, fJs "not a number from 0 to " (.int i) = some d := fun i h => by
      unfold fJs
      dsimp only
      rw [if_pos h]
      exact ⟨_, rfl⟩
    rcases hm with rfl | rfl
    · exact hs _ (by decide +kernel)
    · exact hs _ (by decide +kernel)
  obtain ⟨d, hd⟩ := hj
  have hc : mTNot (mB (mCall0 3 ph_is_within (mCons (mVarB 0) (mCons (mret (.int 0)) (mCons (mVarB 1) mNil))))) (start0 2 [.int c, .int most]) g = some (.ok (!(decide (0 ≤ c) && decide (c ≤ most))), g) := mTNot_ok (mB_ok (mCall0_ok (mCons_ok (mVarB_im rfl) (mCons_ok mret_ok (mCons_ok (mVarB_im rfl) mNil_ok))) rfl hw))
  by_cases h : 0 ≤ c ∧ c ≤ most
  · rw [if_pos h]
    apply phi_nx
    · refine mIfS_f (g1 := g) ?_ rfl
      rw [hc]; simp [h.1, h.2]
  · rw [if_neg h]
    have hb : (!(decide (0 ≤ c) && decide (c ≤ most))) = true := by
      simp only [Bool.not_eq_true', Bool.and_eq_false_iff, decide_eq_false_iff_not]
      omega
    unfold φx_check_count phi
    have : mx_check_count (start0 2 [.int c, .int most]) g = some (.ex ⟨7, .non⟩, start0 2 [.int c, .int most], g) := by
      refine mIfS_t (g1 := g) (by rw [hc, hb]) ?_
      have : mJs "not a number from 0 to " (mVarB 1) (start0 2 [.int c, .int most]) g = some (.ok d, g) := mbind_ok (mVarB_im rfl) (mlift_ok hd)
      unfold mRaise0
      rw [this]
    rw [this]
/-! ### a day asked for -/
theorem start_day (m : Mk) (ps : List Int) (c : Int) : start0 5 [dMk m, dInts ps, .int c] = [.im (dMk m), .im (dInts ps), .im (.int c), .no, .no] := by
  show mkSl (dMk m) :: mkSl (dInts ps) :: _ = _
  rw [sl_im (lf_mk m), sl_im (lf_ints ps)]; rfl
theorem day_of_ok (m : Mk) (h : m.Ok) {ps : List Int} (hp : ps.length ≤ 1000) (hb : badAt m.ss ps 0 = none) {c : Int} (c0 : 0 ≤ c) (c1 : c ≤ 1000000000000) (g : G) : ph_day_of [dMk m, dInts ps, .int c] g = some (.ok (dDay m ps c), g) := by
  have hl := (badAt_none.mp hb).1
  have hs : m.ss.length ≤ 1000 := by have := h.s4; omega
  have e1 := check_market_ok m h g
  have e2 := prices_ok m.ss ps hs hp hb g
  have e3 := check_count_ok c0 c1 g
  have e4 := day_done_ok m ps c h hl g
  refine w_phiOk ?_
  rw [start_day]
  unfold m_day_of
  walk_at "ww"
  rfl
theorem day_ofP (m : Mk) (h : m.Ok) {ps : List Int} (hp : ps.length ≤ 1000) {k : Nat} (hb : badAt m.ss ps 0 = some k) (c : Int) (g : G) : φx_day_of [dMk m, dInts ps, .int c] g = some (.ex ⟨4, .int (k : Int)⟩, g) := by
  have hs : m.ss.length ≤ 1000 := by have := h.s4; omega
  have e1 := marketX m h g
  have e2 := pricesX m.ss ps hs hp g
  rw [hb] at e2
  dsimp only at e2
  suffices hw : WS mx_day_of (start0 5 [dMk m, dInts ps, .int c]) g (fun fl _ g1 => fl = .ex ⟨4, .int (k : Int)⟩ ∧ g1 = g) by
    obtain ⟨fl, ρ1, g1, e, rfl, rfl⟩ := hw
    exact phi_exR e
  rw [start_day]
  unfold mx_day_of
  refine s_seq (s_drop ?_)
  walk_at "vv"
  refine s_seq (s_asg ?_)
  walk_at "vv"
  refine s_seq (w_drop (ex := ⟨4, .int (k : Int)⟩) (g2 := g) ?_ ?_)
  · walk_at "vv"
    exact e2
  · exact ⟨rfl, rfl⟩
theorem day_ofC (m : Mk) (h : m.Ok) {ps : List Int} (hp : ps.length ≤ 1000) (hb : badAt m.ss ps 0 = none) {c : Int} (hc : c < 0 ∨ 1000000000000 < c) (g : G) : φx_day_of [dMk m, dInts ps, .int c] g = some (.ex ⟨7, .non⟩, g) := by
  have hs : m.ss.length ≤ 1000 := by have := h.s4; omega
  have e1 := marketX m h g
  have e2 := pricesX m.ss ps hs hp g
  rw [hb] at e2
  dsimp only at e2
  have e3 := countX (c := c) (most := 1000000000000) g (.inr rfl)
  rw [if_neg (by omega)] at e3
  suffices hw : WS mx_day_of (start0 5 [dMk m, dInts ps, .int c]) g (fun fl _ g1 => fl = .ex ⟨7, .non⟩ ∧ g1 = g) by
    obtain ⟨fl, ρ1, g1, e, rfl, rfl⟩ := hw
    exact phi_exR e
  rw [start_day]
  unfold mx_day_of
  refine s_seq (s_drop ?_)
  walk_at "vv"
  refine s_seq (s_asg ?_)
  walk_at "vv"
  refine s_seq (s_drop ?_)
  walk_at "vv"
  refine s_seq (w_drop (ex := ⟨7, .non⟩) (g2 := g) ?_ ?_)
  · walk_at "vv"
    exact e3
  · exact ⟨rfl, rfl⟩
theorem lcGo_c {bd : BndT} {mt : MV Bool} {me : MV D} {ρ ρ1 : List Sl} {d y : D} {ds ys : List D} {g g1 g2 g3 : G} (hb : bd d ρ = some ρ1) (ht : mt ρ1 g = some (.ok true, g1)) (he : me ρ1 g1 = some (.ok y, g2)) (hr : lcGo bd mt me ρ ds g2 = some (ys, g3)) : lcGo bd mt me ρ (d :: ds) g = some (y :: ys, g3) := by
  show (match bd d ρ with
    | none => none
    | some ρ1 => match mt ρ1 g with
      | some (.ok true, g1) => (match me ρ1 g1 with
        | some (.ok y, g2) => (match lcGo bd mt me ρ ds g2 with
          | some (ys, g3) => some (y :: ys, g3)
          | none => none)
        | _ => none)
      | some (.ok false, g1) => lcGo bd mt me ρ ds g1
      | _ => none) = _
  rw [hb]; dsimp only
  rw [ht]; dsimp only
  rw [he]; dsimp only
  rw [hr]
/-- prices drawn within their bounds -/
theorem law_prices_ok (m : Mk) (h : m.Ok) (g : G) : ∃ (ps : List Int) (g' : G), ph__law_prices [.rng, dMk m] g = some (.ok (dInts ps), g') ∧ badAt m.ss ps 0 = none := by
  have hs4 := h.s4
  suffices hg : ∀ (ss : List Se) (ρ : List Sl) (g : G), (∀ s ∈ ss, s.Ok) → ρ[0]? = some (.im .rng) → 2 < ρ.length → ∃ (ps : List Int) (g' : G), lcGo (bName 2) (mret true) (mOp dAdd (mOp dIx (mVarB 2) (mret (.int 4))) (mCall0 2 ph__law_next (mCons (mVarB 0) (mCons (mOp dAdd (mOp dSub (mOp dIx (mVarB 2) (mret (.int 5))) (mOp dIx (mVarB 2) (mret (.int 4)))) (mret (.int 1))) mNil)))) ρ (ss.map dSe) g = some (ps.map D.int, g') ∧ ps.length = ss.length ∧ ∀ (i : Nat) (s : Se) (p : Int), ss[i]? = some s → ps[i]? = some p → s.low ≤ p ∧ p ≤ s.high by
    obtain ⟨ps, g', e, hl, hin⟩ := hg m.ss [.im .rng, .im (dMk m), .no] g h.s rfl (by show 2 < 3; omega)
    refine ⟨ps, g', ?_, badAt_none.mpr ⟨hl, hin⟩⟩
    refine w_phiOk ?_
    have es : start0 3 [.rng, dMk m] = [.im .rng, .im (dMk m), .no] := by
      show mkSl _ :: mkSl (dMk m) :: _ = _
      rw [sl_im (lf_mk m)]; rfl
    rw [es]
    unfold m__law_prices
    walk_at "ww"
    refine ⟨by rw [List.length_map]; omega, _, _, e, ?_⟩
    walk_at "ww"
    rfl
  intro ss
  induction ss with
  | nil => intro ρ g _ _ _; exact ⟨[], g, rfl, rfl, fun i s p hs => by simp at hs⟩
  | cons s ss ih =>
    intro ρ g hs h0 h2
    have ok := hs s List.mem_cons_self
    have q1 := ok.low0
    have q2 := ok.lowP
    have q3 := ok.pHigh
    have q4 := ok.high99
    obtain ⟨x, g1, x0, x1, e⟩ := draw (n := s.high - s.low + 1) g (by omega) (by omega)
    have h0' : (ρ.set 2 (.im (dSe s)))[0]? = some (.im .rng) := by rw [List.getElem?_set_ne (by decide)]; exact h0
    have h2' : (ρ.set 2 (.im (dSe s)))[2]? = some (.im (dSe s)) := by rw [List.getElem?_set]; simp [h2]
    obtain ⟨ps, g', e2, hl, hin⟩ := ih ρ g1 (fun s' hs' => hs s' (List.mem_cons_of_mem _ hs')) h0 h2
    have e1 : mOp dAdd (mOp dIx (mVarB 2) (mret (.int 4))) (mCall0 2 ph__law_next (mCons (mVarB 0) (mCons (mOp dAdd (mOp dSub (mOp dIx (mVarB 2) (mret (.int 5))) (mOp dIx (mVarB 2) (mret (.int 4)))) (mret (.int 1))) mNil))) (ρ.set 2 (.im (dSe s))) g = some (.ok (.int (s.low + x)), g1) :=
      mOp_ok (mOp_ok (mVarB_im h2') mret_ok rfl) (mCall0_ok (mCons_ok (mVarB_im h0') (mCons_ok (mOp_ok (mOp_ok (mOp_ok (mVarB_im h2') mret_ok rfl) (mOp_ok (mVarB_im h2') mret_ok rfl) rfl) mret_ok rfl) mNil_ok)) rfl e) rfl
    refine ⟨(s.low + x) :: ps, g', ?_, by simp [hl], fun i s' p hs' hp => ?_⟩
    · rw [List.map_cons]
      exact lcGo_c rfl rfl e1 e2
    · cases i with
      | zero => simp at hs' hp; subst hs' hp; omega
      | succ i => exact hin i s' p (by simpa using hs') (by simpa using hp)
theorem badAt_pre : ∀ {ss : List Se} {ps : List Int} {k : Nat}, badAt ss ps k = none → ∀ (a : Nat) (q : List Int), a ≤ ps.length → badAt ss (ps.take a ++ q) k = badAt (ss.drop a) q (k + a)
  | ss, ps, k, _, 0, q, _ => by simp
  | [], [], k, _, a + 1, q, ha => by simp at ha
  | [], _ :: _, k, h, _ + 1, _, _ => by cases h
  | _ :: _, [], k, h, _ + 1, _, _ => by cases h
  | s :: ss, p :: ps, k, h, a + 1, q, ha => by
    rw [badAt_cons] at h
    split at h
    · rename_i hin
      rw [List.take_succ_cons, List.cons_append, badAt_cons, if_pos hin, badAt_pre h a q (by simpa using ha), List.drop_succ_cons]
      congr 1; omega
    · cases h
theorem mCall_is {n : Nat} {φ : PhiT} {ms : MV (List D)} {ρ : List Sl} {g g1 : G} {l : List D} {r : Option (Out D × G)} (h : ms ρ g = some (.ok l, g1)) (hl : l.length = n) (hφ : φ l g1 = r) : mCall n φ ms ρ g = r := by
  unfold mCall mbind
  rw [h]
  dsimp only
  rw [if_pos hl]
  exact hφ
theorem mCatA_ok {ma mb : MV D} {ρ : List Sl} {g g1 g2 : G} {l k : List D} (h1 : ma ρ g = some (.ok (.tup l), g1)) (h2 : mb ρ g1 = some (.ok (.tup k), g2)) (hs : l.length + k.length ≤ 1000000) : mCatA ma mb ρ g = some (.ok (.tup (l ++ k)), g2) :=
  mbind_ok h1 (mbind_ok h2 (mlift_ok (by dsimp only; rw [if_pos (small_of hs)])))
theorem mSlA_ok {mm : MV D} {ml mh : MV (Option Int)} {ρ : List Sl} {g : G} {l : List D} {lo hi : Option Int} (h : mm ρ g = some (.ok (.tup l), g)) (h1 : ml ρ g = some (.ok lo, g)) (h2 : mh ρ g = some (.ok hi, g)) : mSlA mm ml mh ρ g = some (.ok (.tup (Fw.cutD l lo hi)), g) :=
  mbind_ok h (mbind_ok h1 (mbind_ok h2 (mlift_ok rfl)))
theorem kind_ex {m : MV D} {ρ : List Sl} {g g1 : G} {x : Exn} {d : D} (h : m ρ g = some (.ex x, g1)) (hk : kOfX x = some d) : mKind m ρ g = some (.ok d, g1) := by
  unfold mKind; rw [h]; dsimp only; rw [hk]
theorem kinds_two {m1 m2 : MV D} {ρ : List Sl} {g : G} {d1 d2 : D} {j : Nat} (hj : j < ρ.length) (h1 : mKind m1 ρ g = some (.ok d1, g)) (h2 : mKind m2 ρ g = some (.ok d2, g)) : mFr (mKindsAt j [m1, m2]) ρ g = some (.ok (.lst [d1, d2]), g) := by
  refine mFr_ok ?_
  unfold mKindsAt
  rw [if_pos hj]
  exact mbind_ok h1 (mbind_ok (mbind_ok h2 (mbind_ok rfl rfl)) rfl)
theorem s_lam {i n : Nat} {m : MSt} {ρ : List Sl} {g : G} {QS : Fl → List Sl → G → Prop} (h0 : isNo ρ[i]? = true) (hn : n ≤ 100) (h : WS m ρ g QS) : WS (mLamNew i n m) ρ g QS := by
  obtain ⟨fl, ρ1, g1, e, q⟩ := h
  exact ⟨fl, ρ1, g1, by unfold mLamNew; rw [if_pos ⟨h0, hn⟩]; exact e, q⟩
def kdD (w : Str) (i : Int) : D := .tup [.str w, .int i]
theorem kd_toP (w : Str) (i : Int) : toP (kdD w i) = some (.tuple [.str w, .int i]) := rfl
theorem kd_eqv (w : Str) (i : Int) : PyData.eqv (.tuple [.str w, .int i]) (.tuple [.str w, .int i]) = true := by simp [PyData.eqv, PyData.eqvAll]
theorem same_ne {d : D} {p : PyData} (hp : toP d = some p) (hs : SeqAt.shaped p = true) : dNeD d d = some (.bl false) := by
  unfold dNeD eqD
  rw [hp]
  dsimp only
  rw [hs, SeqAt.eqv_refl _ (SeqAt.canLay_of_shaped hs)]
  rfl
theorem kd_ne (w : Str) (i : Int) (hw : PyData.strOk w = true) : dNeD (kdD w i) (kdD w i) = some (.bl false) := same_ne (kd_toP w i) (by simp [SeqAt.shaped, PyData.canLay0, PyData.canLayAll0, PyData.depth, PyData.depthAll, hw])
theorem kd_ne2 (w : Str) (i : Int) (hw : PyData.strOk w = true) : dNeD (.lst [kdD w i, kdD w i]) (.lst [kdD w i, kdD w i]) = some (.bl false) := same_ne (p := .list [.tuple [.str w, .int i], .tuple [.str w, .int i]]) rfl (by simp [SeqAt.shaped, PyData.canLay0, PyData.canLayAll0, PyData.depth, PyData.depthAll, hw])
theorem plain_day (m : Mk) (h : m.Ok) (ps : List Int) (d : Int) : plainI 3 (dDay m ps d) = true := by
  have h1 : plainI 2 (dInts (behindL m ps d)) = true := plain_ints (by rw [behindL_len]; have := h.s4; omega)
  have h2 : plainI 2 (.lst ((bought m ps d).map dOpt)) = true := by
    simp only [plainI, List.length_map, Bool.and_eq_true, decide_eq_true_eq, List.all_eq_true]
    refine ⟨?_, fun x hx => ?_⟩
    · have : (bought m ps d).length ≤ 6 := by unfold bought; rw [List.length_map, List.length_range]; exact h.b6
      omega
    · obtain ⟨o, _, rfl⟩ := List.mem_map.mp hx
      cases o <;> rfl
  exact plain_two h2 h1
theorem alike_day (m : Mk) (h : m.Ok) (ps : List Int) (d : Int) (g : G) : ph__law_alike 7 [dDay m ps d, dDay m ps d] g = some (.ok (.bl true), g) := alike_same 7 _ (plain_up (plainI_D (plain_day m h ps d)) (by decide)) g
theorem first_good (m : Mk) (h : m.Ok) : badAt m.ss (prices0 m) 0 = none := badAt_none.mpr ⟨by simp [prices0], fun i s p hs hp => by
  have : p = s.price := by
    unfold prices0 at hp
    rw [List.getElem?_map, hs] at hp
    simpa using hp.symm
  subst this
  have ok := h.s s (List.mem_of_getElem? hs)
  exact ⟨ok.lowP, ok.pHigh⟩⟩
end Pr

set_option Elab.async false
set_option linter.all false
set_option maxRecDepth 100000
set_option maxHeartbeats 8000000
/-! Mk02: k02's law -/
namespace Pr
open PySem PySem.Spec PyProof.Rows L2 Fw
local macro_rules | `(tactic| walk_at "w1") => `(tactic| first
  | with_reducible refine s_seq ?_ | with_reducible refine s_asg ?_ | with_reducible refine s_if ?_ | with_reducible refine s_ret ?_ | with_reducible refine s_fgE ?_ | with_reducible refine s_free ?_ | with_reducible refine s_drop ?_ | with_reducible refine s_own ?_
  | with_reducible refine s_nx ?_ | with_reducible refine s_retN ?_ | with_reducible refine s_bk ?_ | with_reducible refine s_par ?_ | with_reducible refine s_parI ?_ | with_reducible refine s_parO ?_ | with_reducible refine s_parD ?_ | with_reducible refine s_parN ?_
  | with_reducible refine w_ret ?_ | with_reducible refine w_varB ?_ | with_reducible refine w_var ?_ | with_reducible refine s_app ?_ | with_reducible refine w_op ?_ | with_reducible refine w_cb ?_ | with_reducible refine w_nil ?_ | with_reducible refine w_cons ?_
  | with_reducible refine w_tup ?_ | with_reducible refine w_lst ?_ | with_reducible refine w_fr ?_ | with_reducible refine w_lf ?_ | with_reducible refine w_b ?_ | with_reducible refine w_not ?_ | with_reducible refine w_and ?_ | with_reducible refine w_or ?_
  | with_reducible refine w_tand ?_ | with_reducible refine w_tor ?_ | with_reducible refine w_tnot ?_ | with_reducible refine w_if ?_ | with_reducible refine w_chain ?_ | with_reducible refine w_isiT ?_ | with_reducible refine w_part ?_ | with_reducible refine w_slT ?_ | with_reducible refine w_slL ?_
  | with_reducible refine w_tupOf ?_ | with_reducible refine w_listOf ?_ | with_reducible refine w_cat ?_ | with_reducible refine w_catT ?_ | with_reducible refine w_rep ?_ | with_reducible refine w_call0 ?_ | with_reducible refine w_itT ?_ | with_reducible refine w_itL ?_ | with_reducible refine w_rng1 ?_ | with_reducible refine w_rng2 ?_
  | with_reducible refine w_enum ?_ | with_reducible refine w_lc ?_ | with_reducible refine w_tru ?_ | with_reducible refine w_un ?_
  | with_reducible refine w_nin ?_ | with_reducible refine w_nget ?_ | with_reducible refine w_nget2 ?_ | with_reducible refine s_nput ?_ | with_reducible refine s_dnew ?_ | with_reducible refine w_join ?_ | with_reducible refine w_split ?_ | with_reducible refine w_truS ?_ | with_reducible refine w_slA ?_ | with_reducible refine s_asgS ?_ | with_reducible refine w_lift ?_ | with_reducible refine s_raiseF ?_ | with_reducible refine w_catA ?_ | with_reducible refine w_repT ?_ | with_reducible refine w_call ?_
  | (refine ⟨_, rfl, ?_⟩) | (refine ⟨rfl, ?_⟩) | (refine ⟨Nat.le_of_ble_eq_true rfl, ?_⟩) | (refine ⟨_, _, by with_reducible assumption, ?_⟩) | (refine ⟨fun _ => ?_, fun h => Bool.noConfusion h⟩) | (refine ⟨fun h => Bool.noConfusion h, fun _ => ?_⟩) | (refine ⟨Big.of (by omega), ?_⟩) | (refine ⟨_, Or.inl rfl, ?_⟩) | (refine ⟨_, Or.inr rfl, ?_⟩) | (refine ⟨_, _, rfl, rfl, ?_⟩) | (refine ⟨_, _, rfl, ?_⟩))
local macro_rules | `(tactic| walk_at "ww") => `(tactic| repeat (walk_at "w1"))
local macro_rules | `(tactic| walk_at "v1") => `(tactic| first
  | with_reducible refine s_asg ?_ | with_reducible refine s_if ?_ | with_reducible refine s_ret ?_ | with_reducible refine s_fgE ?_ | with_reducible refine s_free ?_ | with_reducible refine s_drop ?_ | with_reducible refine s_own ?_
  | with_reducible refine s_nx ?_ | with_reducible refine s_retN ?_ | with_reducible refine s_bk ?_ | with_reducible refine s_par ?_ | with_reducible refine s_parI ?_ | with_reducible refine s_parO ?_ | with_reducible refine s_parD ?_ | with_reducible refine s_parN ?_
  | with_reducible refine w_ret ?_ | with_reducible refine w_varB ?_ | with_reducible refine w_var ?_ | with_reducible refine s_app ?_ | with_reducible refine w_op ?_ | with_reducible refine w_cb ?_ | with_reducible refine w_nil ?_ | with_reducible refine w_cons ?_
  | with_reducible refine w_tup ?_ | with_reducible refine w_lst ?_ | with_reducible refine w_fr ?_ | with_reducible refine w_lf ?_ | with_reducible refine w_b ?_ | with_reducible refine w_not ?_ | with_reducible refine w_and ?_ | with_reducible refine w_or ?_
  | with_reducible refine w_tand ?_ | with_reducible refine w_tor ?_ | with_reducible refine w_tnot ?_ | with_reducible refine w_if ?_ | with_reducible refine w_chain ?_ | with_reducible refine w_isiT ?_ | with_reducible refine w_part ?_ | with_reducible refine w_slT ?_ | with_reducible refine w_slL ?_
  | with_reducible refine w_tupOf ?_ | with_reducible refine w_listOf ?_ | with_reducible refine w_cat ?_ | with_reducible refine w_catT ?_ | with_reducible refine w_rep ?_ | with_reducible refine w_call0 ?_ | with_reducible refine w_itT ?_ | with_reducible refine w_itL ?_ | with_reducible refine w_rng1 ?_ | with_reducible refine w_rng2 ?_
  | with_reducible refine w_enum ?_ | with_reducible refine w_lc ?_ | with_reducible refine w_tru ?_ | with_reducible refine w_un ?_
  | with_reducible refine w_nin ?_ | with_reducible refine w_nget ?_ | with_reducible refine w_nget2 ?_ | with_reducible refine s_nput ?_ | with_reducible refine s_dnew ?_ | with_reducible refine w_join ?_ | with_reducible refine w_split ?_ | with_reducible refine w_truS ?_ | with_reducible refine w_slA ?_ | with_reducible refine s_asgS ?_ | with_reducible refine w_lift ?_ | with_reducible refine s_raiseF ?_ | with_reducible refine w_catA ?_ | with_reducible refine w_repT ?_ | with_reducible refine w_call ?_
  | (refine ⟨_, rfl, ?_⟩) | (refine ⟨rfl, ?_⟩) | (refine ⟨Nat.le_of_ble_eq_true rfl, ?_⟩) | (refine ⟨_, _, by with_reducible assumption, ?_⟩) | (refine ⟨fun _ => ?_, fun h => Bool.noConfusion h⟩) | (refine ⟨fun h => Bool.noConfusion h, fun _ => ?_⟩) | (refine ⟨Big.of (by omega), ?_⟩) | (refine ⟨_, Or.inl rfl, ?_⟩) | (refine ⟨_, Or.inr rfl, ?_⟩) | (refine ⟨_, _, rfl, rfl, ?_⟩) | (refine ⟨_, _, rfl, ?_⟩))
local macro_rules | `(tactic| walk_at "vv") => `(tactic| repeat (walk_at "v1"))
def crowd (pr st up dn : Int) : Mk := ⟨[⟨pr, 1 + st, up, dn, 0, 99⟩], List.replicate 6 ⟨1, 0, [90]⟩⟩
theorem crowd_ok {pr st up dn : Int} (h1 : 0 ≤ pr ∧ pr < 90) (h2 : 0 ≤ st ∧ st < 5) (h3 : 0 ≤ up ∧ up < 10) (h4 : 0 ≤ dn ∧ dn < 10) : (crowd pr st up dn).Ok where
  s4 := by show 1 ≤ 4; decide
  b6 := by show (List.replicate 6 _).length ≤ 6; simp
  s := fun s hs => by
    have : s = ⟨pr, 1 + st, up, dn, 0, 99⟩ := by simpa [crowd] using hs
    subst this
    constructor <;> simp only <;> omega
  b := fun b hb => by
    have : b = ⟨1, 0, [90]⟩ := List.eq_of_mem_replicate hb
    subst this
    constructor <;> simp [crowd]
def st2 (j : Int) (S : D) (cw m : Mk) (ps : List Int) (c far : Int) (x11 x12 x13 x14 x15 : Sl) : List Sl := [.no, .im .rng, .im (.int j), .im S, .im (dMk cw), .im (dMk m), .im (dInts ps), .im (.int c), .no, .im (.int far), .im (.int (ps.length : Int)), x11, x12, x13, x14, x15, .no]
theorem law_true (ns : List Int) (hns : ns.length ≤ 63) : ∃ ρ' g', m_law (lawS 17) (lawG 5 ns) = some (.rt (.bl true), ρ', g') := by
  suffices h : WS m_law (lawS 17) (lawG 5 ns) (fun fl _ _ => fl = .rt (.bl true)) by
    obtain ⟨fl, ρ', g', e, rfl⟩ := h
    exact ⟨ρ', g', e⟩
  unfold m_law
  refine s_seq (s_for (fun _ ρ _ => ρ = [.no, .im .rng, .no, .no, .no, .no, .no, .no, .no, .no, .no, .no, .no, .no, .no, .no, .no]) ?_)
  walk_at "ww"
  refine ⟨?_, ?_⟩
  · rintro j d ρ g hd rfl
    refine ⟨_, rfl, ?_⟩
    obtain ⟨rfl, hj⟩ := rngD_nat hd
    -- the crowd
    obtain ⟨pr, g1, pr0, pr1, e1⟩ := draw (n := 90) g (by omega) (by omega)
    obtain ⟨st, g2, st0, st1, e2⟩ := draw (n := 5) g1 (by omega) (by omega)
    obtain ⟨up, g3, up0, up1, e3⟩ := draw (n := 10) g2 (by omega) (by omega)
    obtain ⟨dn, g4, dn0, dn1, e4⟩ := draw (n := 10) g3 (by omega) (by omega)
    refine s_fgE (s_seq (s_asg ?_))
    walk_at "vv"
    have hC := crowd_ok ⟨pr0, pr1⟩ ⟨st0, st1⟩ ⟨up0, up1⟩ ⟨dn0, dn1⟩
    have eC : D.tup [.tup [.tup [.int pr, .int (1 + st), .int up, .int dn, .int 0, .int 99]], .tup (List.replicate (6 : Int).toNat [D.tup [.int 1, .int 0, .tup [.int 90]]]).flatten] = dMk (crowd pr st up dn) := rfl
    generalize hcw : crowd pr st up dn = cw at hC eC
    refine s_seq (s_asg ?_)
    walk_at "vv"
    rw [eC]
    have el := law_first_ok cw hC.s4 g4
    have hlen : (prices0 cw).length = cw.ss.length := by simp [prices0]
    have hp : (prices0 cw).length ≤ 1000 := by have := hC.s4; omega
    have ed := day_of_ok cw hC hp (first_good cw hC) (c := (j : Int)) (by omega) (by omega) g4
    have ew := law_day_ok cw (prices0 cw) (j : Int) hC hlen g4
    have ea := alike_day cw hC (prices0 cw) (j : Int) g4
    refine s_seq (s_if ?_)
    walk_at "vv"
    -- a market, prices, a day
    obtain ⟨y5, g5, p5, q5, e5⟩ := draw (n := 2) g4 (by omega) (by omega)
    have hy5 : y5 = 0 ∨ y5 = 1 := by omega
    generalize hmo : (if y5 = 0 then (9 : Int) else 99) = most
    have m0 : 0 ≤ most ∧ most ≤ 99 := by rw [← hmo]; split <;> omega
    have imo : dIx (.lst [.int 9, .int 99]) (.int y5) = some (.int most) := by rw [ix_two hy5, hmo]
    obtain ⟨m, g6, em, h, hs4, hb6⟩ := law_market_ok m0.1 m0.2 (goods := 4) (buyers := 6) (by omega) (by omega) (by omega) (by omega) g5
    obtain ⟨ps, g7, ep, hb⟩ := law_prices_ok m h g6
    have hl := (badAt_none.mp hb).1
    have h4 := h.s4
    have hp1 : ps.length ≤ 1000 := by omega
    refine s_seq (s_asg ?_)
    walk_at "vv"
    refine ⟨_, imo, ?_⟩
    walk_at "vv"
    refine s_seq (s_asg ?_)
    walk_at "vv"
    obtain ⟨a8, g8, p8, q8, e8⟩ := draw (n := 12) g7 (by omega) (by omega)
    have epw : ((10 : Int) ^ (12 : Int).toNat) = 1000000000000 := by decide +kernel
    obtain ⟨a9, g9, p9, q9, e9⟩ := draw (n := (10 : Int) ^ (12 : Int).toNat + 1) g8 (by omega) (by omega)
    obtain ⟨a10, g10, p10, q10, e10⟩ := draw (n := 3) g9 (by omega) (by omega)
    obtain ⟨c, c0, c1, ic⟩ : ∃ c : Int, 0 ≤ c ∧ c ≤ 1000000000000 ∧ dIx (.lst [.int a8, .int a9, .int ((10 : Int) ^ (12 : Int).toNat)]) (.int a10) = some (.int c) := by
      have : a10 = 0 ∨ a10 = 1 ∨ a10 = 2 := by omega
      rcases this with rfl | rfl | rfl
      · exact ⟨a8, by omega, by omega, rfl⟩
      · exact ⟨a9, by omega, by omega, rfl⟩
      · exact ⟨_, by omega, by omega, rfl⟩
    refine s_seq (s_asg ?_)
    walk_at "vv"
    refine ⟨_, ic, ?_⟩
    walk_at "vv"
    have ed2 := day_of_ok m h hp1 hb c0 c1 g10
    have ew2 := law_day_ok m ps c h hl g10
    have ea2 := alike_day m h ps c g10
    refine s_seq (s_if ?_)
    walk_at "vv"
    -- how far off
    obtain ⟨y11, g11, p11, q11, e11⟩ := draw (n := 2) g10 (by omega) (by omega)
    have hy11 : y11 = 0 ∨ y11 = 1 := by omega
    have epm : ((10 : Int) ^ (6 : Int).toNat) = 1000000 := by decide +kernel
    obtain ⟨w, hw0, hw1, iw⟩ : ∃ w : Int, 0 < w ∧ w ≤ 1000000 ∧ dIx (.lst [.int 1, .int ((10 : Int) ^ (6 : Int).toNat)]) (.int y11) = some (.int w) := by
      refine ⟨_, ?_, ?_, ix_two hy11⟩
      · split <;> omega
      · split <;> omega
    obtain ⟨far, g12, p12, q12, e12⟩ := draw (n := w) g11 hw0 (by omega)
    refine s_seq (s_par ?_)
    walk_at "vv"
    refine ⟨_, iw, ?_⟩
    walk_at "vv"
    have elen : ((ps.map D.int).length : Int) = (ps.length : Int) := by rw [List.length_map]
    rw [elen]
    show WS _ (st2 (j : Int) _ cw m ps c far .no .no .no .no .no) g12 _
    generalize D.tup [.int pr, .int (1 + st), .int up, .int dn, .int 0, .int 99] = S
    generalize hρ : st2 (j : Int) S cw m ps c far .no .no .no .no .no = ρ
    have r5 : ρ[5]? = some (.im (dMk m)) := by rw [← hρ]; rfl
    have r6 : ρ[6]? = some (.im (dInts ps)) := by rw [← hρ]; rfl
    have r9 : ρ[9]? = some (.im (.int far)) := by rw [← hρ]; rfl
    have k0 : mKind (ml_law 0) ρ g12 = some (.ok (kdD "count" 0), g12) := kind_ex (mCall_is (mCons_ok (mVarB_im r5) (mCons_ok (mVarB_im r6) (mCons_ok (mOp_ok (mUn_ok mret_ok rfl) (mVarB_im r9) rfl) mNil_ok))) rfl (day_ofC m h hp1 hb (c := -1 - far) (.inl (by omega)) g12)) rfl
    have k1 : mKind (ml_law 1) ρ g12 = some (.ok (kdD "count" 0), g12) := kind_ex (mCall_is (mCons_ok (mVarB_im r5) (mCons_ok (mVarB_im r6) (mCons_ok (mOp_ok (mOp_ok (mOp_ok mret_ok mret_ok rfl) mret_ok rfl) (mVarB_im r9) rfl) mNil_ok))) rfl (day_ofC m h hp1 hb (c := (10 : Int) ^ (12 : Int).toNat + 1 + far) (.inr (by rw [epw]; omega)) g12)) rfl
    have bad0 : badAt m.ss (ps ++ [0]) 0 = some ps.length := by
      have := badAt_pre hb ps.length [0] (Nat.le_refl _)
      rw [List.take_length, Nat.zero_add, hl, List.drop_length] at this
      rw [this, ← hl]; rfl
    have k2 : mKind (ml_law 2) ρ g12 = some (.ok (kdD "prices" (ps.length : Int)), g12) := by
      refine kind_ex (x := ⟨4, .int (ps.length : Int)⟩) (mCall_is (mCons_ok (mVarB_im r5) (mCons_ok (mCatA_ok (mVarB_im r6) (mTup_ok (mCons_ok mret_ok mNil_ok) rfl) (by rw [List.length_map]; show _ + 1 ≤ _; omega)) (mCons_ok (mUn_ok mret_ok rfl) mNil_ok))) rfl ?_) rfl
      have e : D.tup (ps.map D.int ++ [.int 0]) = dInts (ps ++ [0]) := by unfold dInts; rw [List.map_append]; rfl
      rw [e]
      exact day_ofP m h (by rw [List.length_append]; show _ + 1 ≤ _; omega) bad0 (-1) g12
    refine s_lam (by rw [← hρ]; rfl) (by decide) ?_
    have hj16 : 16 < ρ.length := by rw [← hρ]; show 16 < 17; decide
    refine s_seq (s_if (w_b (w_op (w_of (kinds_two hj16 k0 k1) ?_))))
    walk_at "vv"
    refine ⟨⟨rfl, rfl⟩, _, kd_ne2 "count" 0 (by decide +kernel), _, rfl, fun z => Bool.noConfusion z, fun _ => ?_⟩
    walk_at "vv"
    have r10 : ρ[10]? = some (.im (.int (ps.length : Int))) := by rw [← hρ]; rfl
    refine s_seq (s_if (w_b (w_op (w_of k2 (w_of (mTup_ok (mCons_ok mret_ok (mCons_ok (mVarB_im r10) mNil_ok)) rfl) ⟨_, kd_ne "prices" _ (by decide +kernel), _, rfl, fun z => Bool.noConfusion z, fun _ => ?_⟩)))))
    walk_at "vv"
    subst hρ
    walk_at "vv"
    refine ⟨fun z => ?_, fun z => ?_⟩
    · have z : 0 < ps.length := by have := of_decide_eq_true z; omega
      obtain ⟨a, g13, pa, qa, ea3⟩ := draw (n := (ps.length : Int)) g12 (by omega) (by omega)
      obtain ⟨n, rfl⟩ : ∃ n : Nat, a = (n : Int) := ⟨a.toNat, by omega⟩
      have hn : n < ps.length := by omega
      obtain ⟨s, hs⟩ : ∃ s, m.ss[n]? = some s := ⟨_, List.getElem?_eq_getElem (by omega)⟩
      have xm : dIx (.tup (m.ss.map dSe)) (.int (n : Int)) = some (dSe s) := ix_at (by rw [List.getElem?_map, hs]; rfl)
      refine s_seq (s_asg ?_)
      walk_at "vv"
      refine s_seq (s_asg ?_)
      walk_at "vv"
      refine ⟨_, xm, ?_⟩
      walk_at "vv"
      obtain ⟨y14, g14, p14, q14, e14⟩ := draw (n := 2) g13 (by omega) (by omega)
      obtain ⟨o, ho, io⟩ : ∃ o : Int, ¬(s.low ≤ o ∧ o ≤ s.high) ∧ dIx (.lst [.int (s.low - 1 - far), .int (s.high + 1 + far)]) (.int y14) = some (.int o) := by
        refine ⟨_, ?_, ix_two (by omega)⟩
        split <;> omega
      refine s_seq (s_asg ?_)
      walk_at "vv"
      refine ⟨_, io, ?_⟩
      walk_at "vv"
      show WS _ (st2 (j : Int) S cw m ps c far (.im (.int (n : Int))) (.im (.int o)) .no (.im (.int s.low)) (.im (.int s.high))) g14 _
      have ebad : (mCatA (mCatA (mSlA (mVar 6) (mret none) (mPart (mVarB 11))) (mTup (mCons (mVar 12) mNil))) (mSlA (mVar 6) (mPart (mOp dAdd (mVarB 11) (mret (D.int 1)))) (mret none))) (st2 (j : Int) S cw m ps c far (.im (.int (n : Int))) (.im (.int o)) .no (.im (.int s.low)) (.im (.int s.high))) g14 = some (.ok (dInts (ps.take n ++ o :: ps.drop (n + 1))), g14) := by
        have e : dInts (ps.take n ++ o :: ps.drop (n + 1)) = .tup ((Fw.cutD (ps.map D.int) none (some (n : Int)) ++ [.int o]) ++ Fw.cutD (ps.map D.int) (some ((n : Int) + 1)) none) := by
          unfold dInts
          rw [cut_to (by rw [List.length_map]; omega), show ((n : Int) + 1) = ((n + 1 : Nat) : Int) by omega, cut_drop (by rw [List.length_map]; omega), List.map_append, List.map_cons, List.append_assoc, List.map_take, List.map_drop]
          rfl
        rw [e]
        refine mCatA_ok (mCatA_ok (mSlA_ok (mVar_ok rfl) mret_ok (mbind_ok (mVarB_im rfl) rfl)) (mTup_ok (mCons_ok (mVar_ok rfl) mNil_ok) rfl) ?_) (mSlA_ok (mVar_ok rfl) (mbind_ok (mOp_ok (mVarB_im rfl) mret_ok rfl) rfl) mret_ok) ?_
        · rw [cut_to (by rw [List.length_map]; omega), List.length_take, List.length_map]; show _ + 1 ≤ _; omega
        · rw [cut_to (by rw [List.length_map]; omega), show ((n : Int) + 1) = ((n + 1 : Nat) : Int) by omega, cut_drop (by rw [List.length_map]; omega), List.length_append, List.length_take, List.length_drop, List.length_map]; show _ + 1 + _ ≤ _; omega
      refine s_seq (s_asg (w_of ebad ⟨_, rfl, ?_⟩))
      walk_at "vv"
      show WS _ (st2 (j : Int) S cw m ps c far (.im (.int (n : Int))) (.im (.int o)) (.im (dInts (ps.take n ++ o :: ps.drop (n + 1)))) (.im (.int s.low)) (.im (.int s.high))) g14 _
      generalize hρ : st2 (j : Int) S cw m ps c far (.im (.int (n : Int))) (.im (.int o)) (.im (dInts (ps.take n ++ o :: ps.drop (n + 1)))) (.im (.int s.low)) (.im (.int s.high)) = ρ
      have ed : m.ss.drop n = s :: m.ss.drop (n + 1) := by
        rw [List.drop_eq_getElem_cons (by omega)]
        rw [List.getElem?_eq_getElem (by omega)] at hs
        cases hs; rfl
      have b3 : badAt m.ss ((ps.take n ++ o :: ps.drop (n + 1)) ++ [0]) 0 = some n := by
        rw [List.append_assoc, badAt_pre hb n _ (by omega), ed, List.cons_append, badAt_cons, if_neg ho, Nat.zero_add]
      have b4 : badAt m.ss (ps.take n) 0 = some n := by
        have := badAt_pre hb n [] (by omega)
        rw [List.append_nil, ed, Nat.zero_add] at this
        rw [this]; rfl
      have r5 : ρ[5]? = some (.im (dMk m)) := by rw [← hρ]; rfl
      have r6 : ρ[6]? = some (.im (dInts ps)) := by rw [← hρ]; rfl
      have r11 : ρ[11]? = some (.im (.int (n : Int))) := by rw [← hρ]; rfl
      have r13 : ρ[13]? = some (.im (dInts (ps.take n ++ o :: ps.drop (n + 1)))) := by rw [← hρ]; rfl
      have k3 : mKind (ml_law 3) ρ g14 = some (.ok (kdD "prices" (n : Int)), g14) := by
        refine kind_ex (x := ⟨4, .int (n : Int)⟩) (mCall_is (mCons_ok (mVarB_im r5) (mCons_ok (mCatA_ok (mVarB_im r13) (mTup_ok (mCons_ok mret_ok mNil_ok) rfl) (by rw [List.length_map, List.length_append, List.length_cons, List.length_take, List.length_drop]; show _ + 1 ≤ _; omega)) (mCons_ok (mUn_ok mret_ok rfl) mNil_ok))) rfl ?_) rfl
        have e : D.tup ((ps.take n ++ o :: ps.drop (n + 1)).map D.int ++ [.int 0]) = dInts ((ps.take n ++ o :: ps.drop (n + 1)) ++ [0]) := congrArg D.tup (List.map_append (f := D.int) (l₁ := ps.take n ++ o :: ps.drop (n + 1)) (l₂ := [0])).symm
        rw [e]
        exact day_ofP m h (by rw [List.length_append, List.length_append, List.length_cons, List.length_take, List.length_drop]; show _ + 1 ≤ _; omega) b3 (-1) g14
      have k4 : mKind (ml_law 4) ρ g14 = some (.ok (kdD "prices" (n : Int)), g14) := by
        refine kind_ex (x := ⟨4, .int (n : Int)⟩) (mCall_is (mCons_ok (mVarB_im r5) (mCons_ok (mSlA_ok (mVarB_im r6) mret_ok (mbind_ok (mVarB_im r11) rfl)) (mCons_ok (mUn_ok mret_ok rfl) mNil_ok))) rfl ?_) rfl
        have e : D.tup (Fw.cutD (ps.map D.int) none (some (n : Int))) = dInts (ps.take n) := by unfold dInts; rw [cut_to (by rw [List.length_map]; omega), List.map_take]
        rw [e]
        exact day_ofP m h (by rw [List.length_take]; omega) b4 (-1) g14
      refine s_lam (by rw [← hρ]; rfl) (by decide) ?_
      have hj16 : 16 < ρ.length := by rw [← hρ]; show 16 < 17; decide
      refine s_if (w_b (w_op (w_of (kinds_two hj16 k3 k4) ?_)))
      subst hρ
      walk_at "vv"
      refine ⟨⟨rfl, rfl⟩, _, kd_ne2 "prices" (n : Int) (by decide +kernel), _, rfl, fun z => Bool.noConfusion z, fun _ => ?_⟩
      walk_at "vv"
      show vForget _ _ = _
      simp only [vForget, st2, List.set_cons_zero, List.set_cons_succ]
    · walk_at "vv"
      show vForget _ _ = _
      simp only [vForget, st2, List.set_cons_zero, List.set_cons_succ]
  · rintro ρ g rfl
    walk_at "ww"
    rfl
end Pr

set_option Elab.async false
set_option linter.all false
set_option maxRecDepth 100000
set_option maxHeartbeats 400000
namespace Pr
open PySem PySem.Spec PyProof.Rows L2 Fw
open LamX
abbrev xsL : List Str := ["law"]
theorem all_mk {l : PySem.W.OpenLaw} {w : World} {K : PySem.W.Frag} {h : Heap} {mg : Str → Option Value} {fa : Addr} (X : K.In h) (G : h.Ns mainGlobals mg) (hfa : mg "law" = some (.ref fa))
    {f_is_within : Addr} {od_is_within an_is_within : Option Addr} {sl_is_within : Array (Option Value)} {oc_is_within kV_is_within dc_is_within pm_is_within cd_is_within ct_is_within : Value}
    {f_can_sell : Addr} {od_can_sell an_can_sell : Option Addr} {sl_can_sell : Array (Option Value)} {oc_can_sell kV_can_sell dc_can_sell pm_can_sell cd_can_sell ct_can_sell : Value}
    {f_can_buy : Addr} {od_can_buy an_can_buy : Option Addr} {sl_can_buy : Array (Option Value)} {oc_can_buy kV_can_buy dc_can_buy pm_can_buy cd_can_buy ct_can_buy : Value}
    {f_check_market : Addr} {od_check_market an_check_market : Option Addr} {sl_check_market : Array (Option Value)} {oc_check_market kV_check_market dc_check_market pm_check_market cd_check_market ct_check_market : Value}
    {f_check_prices : Addr} {od_check_prices an_check_prices : Option Addr} {sl_check_prices : Array (Option Value)} {oc_check_prices kV_check_prices dc_check_prices pm_check_prices cd_check_prices ct_check_prices : Value}
    {f_check_count : Addr} {od_check_count an_check_count : Option Addr} {sl_check_count : Array (Option Value)} {oc_check_count kV_check_count dc_check_count pm_check_count cd_check_count ct_check_count : Value}
    {f_comes : Addr} {od_comes an_comes : Option Addr} {sl_comes : Array (Option Value)} {oc_comes kV_comes dc_comes pm_comes cd_comes ct_comes : Value}
    {f_good_for : Addr} {od_good_for an_good_for : Option Addr} {sl_good_for : Array (Option Value)} {oc_good_for kV_good_for dc_good_for pm_good_for cd_good_for ct_good_for : Value}
    {f_price_behind : Addr} {od_price_behind an_price_behind : Option Addr} {sl_price_behind : Array (Option Value)} {oc_price_behind kV_price_behind dc_price_behind pm_price_behind cd_price_behind ct_price_behind : Value}
    {f_day_done : Addr} {od_day_done an_day_done : Option Addr} {sl_day_done : Array (Option Value)} {oc_day_done kV_day_done dc_day_done pm_day_done cd_day_done ct_day_done : Value}
    {f_day_of : Addr} {od_day_of an_day_of : Option Addr} {sl_day_of : Array (Option Value)} {oc_day_of kV_day_of dc_day_of pm_day_of cd_day_of ct_day_of : Value}
    {f__law_mix : Addr} {od__law_mix an__law_mix : Option Addr} {sl__law_mix : Array (Option Value)} {oc__law_mix kV__law_mix dc__law_mix pm__law_mix cd__law_mix ct__law_mix : Value}
    {f__law_next : Addr} {od__law_next an__law_next : Option Addr} {sl__law_next : Array (Option Value)} {oc__law_next kV__law_next dc__law_next pm__law_next cd__law_next ct__law_next : Value}
    {f__law_alike : Addr} {od__law_alike an__law_alike : Option Addr} {sl__law_alike : Array (Option Value)} {oc__law_alike kV__law_alike dc__law_alike pm__law_alike cd__law_alike ct__law_alike : Value}
    {f__law_market : Addr} {od__law_market an__law_market : Option Addr} {sl__law_market : Array (Option Value)} {oc__law_market kV__law_market dc__law_market pm__law_market cd__law_market ct__law_market : Value}
    {f__law_prices : Addr} {od__law_prices an__law_prices : Option Addr} {sl__law_prices : Array (Option Value)} {oc__law_prices kV__law_prices dc__law_prices pm__law_prices cd__law_prices ct__law_prices : Value}
    {f__law_day : Addr} {od__law_day an__law_day : Option Addr} {sl__law_day : Array (Option Value)} {oc__law_day kV__law_day dc__law_day pm__law_day cd__law_day ct__law_day : Value}
    {f__law_first : Addr} {od__law_first an__law_first : Option Addr} {sl__law_first : Array (Option Value)} {oc__law_first kV__law_first dc__law_first pm__law_first cd__law_first ct__law_first : Value}
    {f__law_kind : Addr} {od__law_kind an__law_kind : Option Addr} {sl__law_kind : Array (Option Value)} {oc__law_kind kV__law_kind dc__law_kind pm__law_kind cd__law_kind ct__law_kind : Value}
    {f_law : Addr} {od_law an_law : Option Addr} {sl_law : Array (Option Value)} {oc_law kV_law dc_law pm_law cd_law ct_law : Value}
    {t_MOST_SELLERS : Tok}
    {t_MOST_BUYERS : Tok}
    {t_MOST_STOCK : Tok}
    {t_MOST_STEP : Tok}
    {t_MOST_PRICE : Tok}
    {t_MOST_EVERY : Tok}
    {t_LAST_DAY : Tok}
    {c_BadSeller f_BadSeller : Addr} {od_BadSeller an_BadSeller : Option Addr} {sl_BadSeller : Array (Option Value)} {oc_BadSeller kV_BadSeller dc_BadSeller pm_BadSeller cd_BadSeller ct_BadSeller : Value}
    {c_BadBuyer f_BadBuyer : Addr} {od_BadBuyer an_BadBuyer : Option Addr} {sl_BadBuyer : Array (Option Value)} {oc_BadBuyer kV_BadBuyer dc_BadBuyer pm_BadBuyer cd_BadBuyer ct_BadBuyer : Value}
    {c_BadPrices f_BadPrices : Addr} {od_BadPrices an_BadPrices : Option Addr} {sl_BadPrices : Array (Option Value)} {oc_BadPrices kV_BadPrices dc_BadPrices pm_BadPrices cd_BadPrices ct_BadPrices : Value}
    (a_is_within : PySem.W.nsIn K mainGlobals "is_within" = some (some (.ref f_is_within))) (l_is_within : K.lookup f_is_within = some ⟨oc_is_within, od_is_within, .func (PySem.W.fnOf "is_within" "is_within" (defArgs s_is_within) (defBody s_is_within) (defScope s_is_within) .none kV_is_within dc_is_within pm_is_within an_is_within cd_is_within ct_is_within), sl_is_within⟩) (c_is_within : PySem.W.codeIn K cd_is_within "is_within" = true) (k_is_within : PySem.W.keepIn K (.ref f_is_within) = true)
    (a_can_sell : PySem.W.nsIn K mainGlobals "can_sell" = some (some (.ref f_can_sell))) (l_can_sell : K.lookup f_can_sell = some ⟨oc_can_sell, od_can_sell, .func (PySem.W.fnOf "can_sell" "can_sell" (defArgs s_can_sell) (defBody s_can_sell) (defScope s_can_sell) .none kV_can_sell dc_can_sell pm_can_sell an_can_sell cd_can_sell ct_can_sell), sl_can_sell⟩) (c_can_sell : PySem.W.codeIn K cd_can_sell "can_sell" = true) (k_can_sell : PySem.W.keepIn K (.ref f_can_sell) = true)
    (a_can_buy : PySem.W.nsIn K mainGlobals "can_buy" = some (some (.ref f_can_buy))) (l_can_buy : K.lookup f_can_buy = some ⟨oc_can_buy, od_can_buy, .func (PySem.W.fnOf "can_buy" "can_buy" (defArgs s_can_buy) (defBody s_can_buy) (defScope s_can_buy) .none kV_can_buy dc_can_buy pm_can_buy an_can_buy cd_can_buy ct_can_buy), sl_can_buy⟩) (c_can_buy : PySem.W.codeIn K cd_can_buy "can_buy" = true) (k_can_buy : PySem.W.keepIn K (.ref f_can_buy) = true)
    (a_check_market : PySem.W.nsIn K mainGlobals "check_market" = some (some (.ref f_check_market))) (l_check_market : K.lookup f_check_market = some ⟨oc_check_market, od_check_market, .func (PySem.W.fnOf "check_market" "check_market" (defArgs s_check_market) (defBody s_check_market) (defScope s_check_market) .none kV_check_market dc_check_market pm_check_market an_check_market cd_check_market ct_check_market), sl_check_market⟩) (c_check_market : PySem.W.codeIn K cd_check_market "check_market" = true) (k_check_market : PySem.W.keepIn K (.ref f_check_market) = true)
    (a_check_prices : PySem.W.nsIn K mainGlobals "check_prices" = some (some (.ref f_check_prices))) (l_check_prices : K.lookup f_check_prices = some ⟨oc_check_prices, od_check_prices, .func (PySem.W.fnOf "check_prices" "check_prices" (defArgs s_check_prices) (defBody s_check_prices) (defScope s_check_prices) .none kV_check_prices dc_check_prices pm_check_prices an_check_prices cd_check_prices ct_check_prices), sl_check_prices⟩) (c_check_prices : PySem.W.codeIn K cd_check_prices "check_prices" = true) (k_check_prices : PySem.W.keepIn K (.ref f_check_prices) = true)
    (a_check_count : PySem.W.nsIn K mainGlobals "check_count" = some (some (.ref f_check_count))) (l_check_count : K.lookup f_check_count = some ⟨oc_check_count, od_check_count, .func (PySem.W.fnOf "check_count" "check_count" (defArgs s_check_count) (defBody s_check_count) (defScope s_check_count) .none kV_check_count dc_check_count pm_check_count an_check_count cd_check_count ct_check_count), sl_check_count⟩) (c_check_count : PySem.W.codeIn K cd_check_count "check_count" = true) (k_check_count : PySem.W.keepIn K (.ref f_check_count) = true)
    (a_comes : PySem.W.nsIn K mainGlobals "comes" = some (some (.ref f_comes))) (l_comes : K.lookup f_comes = some ⟨oc_comes, od_comes, .func (PySem.W.fnOf "comes" "comes" (defArgs s_comes) (defBody s_comes) (defScope s_comes) .none kV_comes dc_comes pm_comes an_comes cd_comes ct_comes), sl_comes⟩) (c_comes : PySem.W.codeIn K cd_comes "comes" = true) (k_comes : PySem.W.keepIn K (.ref f_comes) = true)
    (a_good_for : PySem.W.nsIn K mainGlobals "good_for" = some (some (.ref f_good_for))) (l_good_for : K.lookup f_good_for = some ⟨oc_good_for, od_good_for, .func (PySem.W.fnOf "good_for" "good_for" (defArgs s_good_for) (defBody s_good_for) (defScope s_good_for) .none kV_good_for dc_good_for pm_good_for an_good_for cd_good_for ct_good_for), sl_good_for⟩) (c_good_for : PySem.W.codeIn K cd_good_for "good_for" = true) (k_good_for : PySem.W.keepIn K (.ref f_good_for) = true)
    (a_price_behind : PySem.W.nsIn K mainGlobals "price_behind" = some (some (.ref f_price_behind))) (l_price_behind : K.lookup f_price_behind = some ⟨oc_price_behind, od_price_behind, .func (PySem.W.fnOf "price_behind" "price_behind" (defArgs s_price_behind) (defBody s_price_behind) (defScope s_price_behind) .none kV_price_behind dc_price_behind pm_price_behind an_price_behind cd_price_behind ct_price_behind), sl_price_behind⟩) (c_price_behind : PySem.W.codeIn K cd_price_behind "price_behind" = true) (k_price_behind : PySem.W.keepIn K (.ref f_price_behind) = true)
    (a_day_done : PySem.W.nsIn K mainGlobals "day_done" = some (some (.ref f_day_done))) (l_day_done : K.lookup f_day_done = some ⟨oc_day_done, od_day_done, .func (PySem.W.fnOf "day_done" "day_done" (defArgs s_day_done) (defBody s_day_done) (defScope s_day_done) .none kV_day_done dc_day_done pm_day_done an_day_done cd_day_done ct_day_done), sl_day_done⟩) (c_day_done : PySem.W.codeIn K cd_day_done "day_done" = true) (k_day_done : PySem.W.keepIn K (.ref f_day_done) = true)
    (a_day_of : PySem.W.nsIn K mainGlobals "day_of" = some (some (.ref f_day_of))) (l_day_of : K.lookup f_day_of = some ⟨oc_day_of, od_day_of, .func (PySem.W.fnOf "day_of" "day_of" (defArgs s_day_of) (defBody s_day_of) (defScope s_day_of) .none kV_day_of dc_day_of pm_day_of an_day_of cd_day_of ct_day_of), sl_day_of⟩) (c_day_of : PySem.W.codeIn K cd_day_of "day_of" = true) (k_day_of : PySem.W.keepIn K (.ref f_day_of) = true)
    (a__law_mix : PySem.W.nsIn K mainGlobals "_law_mix" = some (some (.ref f__law_mix))) (l__law_mix : K.lookup f__law_mix = some ⟨oc__law_mix, od__law_mix, .func (PySem.W.fnOf "_law_mix" "_law_mix" (defArgs s__law_mix) (defBody s__law_mix) (defScope s__law_mix) .none kV__law_mix dc__law_mix pm__law_mix an__law_mix cd__law_mix ct__law_mix), sl__law_mix⟩) (c__law_mix : PySem.W.codeIn K cd__law_mix "_law_mix" = true) (k__law_mix : PySem.W.keepIn K (.ref f__law_mix) = true)
    (a__law_next : PySem.W.nsIn K mainGlobals "_law_next" = some (some (.ref f__law_next))) (l__law_next : K.lookup f__law_next = some ⟨oc__law_next, od__law_next, .func (PySem.W.fnOf "_law_next" "_law_next" (defArgs s__law_next) (defBody s__law_next) (defScope s__law_next) .none kV__law_next dc__law_next pm__law_next an__law_next cd__law_next ct__law_next), sl__law_next⟩) (c__law_next : PySem.W.codeIn K cd__law_next "_law_next" = true) (k__law_next : PySem.W.keepIn K (.ref f__law_next) = true)
    (a__law_alike : PySem.W.nsIn K mainGlobals "_law_alike" = some (some (.ref f__law_alike))) (l__law_alike : K.lookup f__law_alike = some ⟨oc__law_alike, od__law_alike, .func (PySem.W.fnOf "_law_alike" "_law_alike" (defArgs s__law_alike) (defBody s__law_alike) (defScope s__law_alike) .none kV__law_alike dc__law_alike pm__law_alike an__law_alike cd__law_alike ct__law_alike), sl__law_alike⟩) (c__law_alike : PySem.W.codeIn K cd__law_alike "_law_alike" = true) (k__law_alike : PySem.W.keepIn K (.ref f__law_alike) = true)
    (a__law_market : PySem.W.nsIn K mainGlobals "_law_market" = some (some (.ref f__law_market))) (l__law_market : K.lookup f__law_market = some ⟨oc__law_market, od__law_market, .func (PySem.W.fnOf "_law_market" "_law_market" (defArgs s__law_market) (defBody s__law_market) (defScope s__law_market) .none kV__law_market dc__law_market pm__law_market an__law_market cd__law_market ct__law_market), sl__law_market⟩) (c__law_market : PySem.W.codeIn K cd__law_market "_law_market" = true) (k__law_market : PySem.W.keepIn K (.ref f__law_market) = true)
    (a__law_prices : PySem.W.nsIn K mainGlobals "_law_prices" = some (some (.ref f__law_prices))) (l__law_prices : K.lookup f__law_prices = some ⟨oc__law_prices, od__law_prices, .func (PySem.W.fnOf "_law_prices" "_law_prices" (defArgs s__law_prices) (defBody s__law_prices) (defScope s__law_prices) .none kV__law_prices dc__law_prices pm__law_prices an__law_prices cd__law_prices ct__law_prices), sl__law_prices⟩) (c__law_prices : PySem.W.codeIn K cd__law_prices "_law_prices" = true) (k__law_prices : PySem.W.keepIn K (.ref f__law_prices) = true)
    (a__law_day : PySem.W.nsIn K mainGlobals "_law_day" = some (some (.ref f__law_day))) (l__law_day : K.lookup f__law_day = some ⟨oc__law_day, od__law_day, .func (PySem.W.fnOf "_law_day" "_law_day" (defArgs s__law_day) (defBody s__law_day) (defScope s__law_day) .none kV__law_day dc__law_day pm__law_day an__law_day cd__law_day ct__law_day), sl__law_day⟩) (c__law_day : PySem.W.codeIn K cd__law_day "_law_day" = true) (k__law_day : PySem.W.keepIn K (.ref f__law_day) = true)
    (a__law_first : PySem.W.nsIn K mainGlobals "_law_first" = some (some (.ref f__law_first))) (l__law_first : K.lookup f__law_first = some ⟨oc__law_first, od__law_first, .func (PySem.W.fnOf "_law_first" "_law_first" (defArgs s__law_first) (defBody s__law_first) (defScope s__law_first) .none kV__law_first dc__law_first pm__law_first an__law_first cd__law_first ct__law_first), sl__law_first⟩) (c__law_first : PySem.W.codeIn K cd__law_first "_law_first" = true) (k__law_first : PySem.W.keepIn K (.ref f__law_first) = true)
    (a__law_kind : PySem.W.nsIn K mainGlobals "_law_kind" = some (some (.ref f__law_kind))) (l__law_kind : K.lookup f__law_kind = some ⟨oc__law_kind, od__law_kind, .func (PySem.W.fnOf "_law_kind" "_law_kind" (defArgs s__law_kind) (defBody s__law_kind) (defScope s__law_kind) .none kV__law_kind dc__law_kind pm__law_kind an__law_kind cd__law_kind ct__law_kind), sl__law_kind⟩) (c__law_kind : PySem.W.codeIn K cd__law_kind "_law_kind" = true) (k__law_kind : PySem.W.keepIn K (.ref f__law_kind) = true)
    (a_law : PySem.W.nsIn K mainGlobals "law" = some (some (.ref f_law))) (l_law : K.lookup f_law = some ⟨oc_law, od_law, .func (PySem.W.fnOf "law" "law" (defArgs s_law) (defBody s_law) (defScope s_law) .none kV_law dc_law pm_law an_law cd_law ct_law), sl_law⟩) (c_law : PySem.W.codeIn K cd_law "law" = true) (k_law : PySem.W.keepIn K (.ref f_law) = true)
    (m_law : lamTab K "law" "law.<locals>.<lambda>" = true)
    (z_len : PySem.W.nsIn K mainGlobals "len" = some none)
    (z_range : PySem.W.nsIn K mainGlobals "range" = some none)
    (z_enumerate : PySem.W.nsIn K mainGlobals "enumerate" = some none)
    (z_min : PySem.W.nsIn K mainGlobals "min" = some none)
    (z_max : PySem.W.nsIn K mainGlobals "max" = some none)
    (z_tuple : PySem.W.nsIn K mainGlobals "tuple" = some none)
    (z_list : PySem.W.nsIn K mainGlobals "list" = some none)
    (z_isinstance : PySem.W.nsIn K mainGlobals "isinstance" = some none)
    (z_int : PySem.W.nsIn K mainGlobals "int" = some none)
    (z_bool : PySem.W.nsIn K mainGlobals "bool" = some none)
    (z_all : PySem.W.nsIn K mainGlobals "all" = some none)
    (z_any : PySem.W.nsIn K mainGlobals "any" = some none)
    (z_sum : PySem.W.nsIn K mainGlobals "sum" = some none)
    (z_sorted : PySem.W.nsIn K mainGlobals "sorted" = some none)
    (z_zip : PySem.W.nsIn K mainGlobals "zip" = some none)
    (z_str : PySem.W.nsIn K mainGlobals "str" = some none)
    (z_abs : PySem.W.nsIn K mainGlobals "abs" = some none)
    (z_ValueError : PySem.W.nsIn K mainGlobals "ValueError" = some none)
    (v_MOST_SELLERS : PySem.W.nsIn K mainGlobals "MOST_SELLERS" = some (some (.int 4 t_MOST_SELLERS)))
    (v_MOST_BUYERS : PySem.W.nsIn K mainGlobals "MOST_BUYERS" = some (some (.int 6 t_MOST_BUYERS)))
    (v_MOST_STOCK : PySem.W.nsIn K mainGlobals "MOST_STOCK" = some (some (.int 5 t_MOST_STOCK)))
    (v_MOST_STEP : PySem.W.nsIn K mainGlobals "MOST_STEP" = some (some (.int 9 t_MOST_STEP)))
    (v_MOST_PRICE : PySem.W.nsIn K mainGlobals "MOST_PRICE" = some (some (.int 99 t_MOST_PRICE)))
    (v_MOST_EVERY : PySem.W.nsIn K mainGlobals "MOST_EVERY" = some (some (.int 4 t_MOST_EVERY)))
    (v_LAST_DAY : PySem.W.nsIn K mainGlobals "LAST_DAY" = some (some (.int 1000000000000 t_LAST_DAY)))
    (x_facts : xfactsB K = true)
    (x_BadCount : xclsB K "BadCount" = true)
    (a_BadSeller : PySem.W.nsIn K mainGlobals "BadSeller" = some (some (.ref c_BadSeller))) (i_BadSeller : PySem.W.findIn K (.ref c_BadSeller) "__init__" = some (some (.ref f_BadSeller))) (n_BadSeller : PySem.W.findIn K (.ref c_BadSeller) "number" = some none) (y_BadSeller : PySem.W.typeIn K (.ref f_BadSeller) = some (.type "function"))
    (l_BadSeller : K.lookup f_BadSeller = some ⟨oc_BadSeller, od_BadSeller, .func (PySem.W.fnOf "__init__" "BadSeller.__init__" (defArgs s_BadSeller) (defBody s_BadSeller) (defScope s_BadSeller) .none kV_BadSeller dc_BadSeller pm_BadSeller an_BadSeller cd_BadSeller ct_BadSeller), sl_BadSeller⟩) (j_BadSeller : PySem.W.codeIn K cd_BadSeller "BadSeller.__init__" = true) (k_BadSeller : PySem.W.keepIn K (.ref f_BadSeller) = true) (o_BadSeller : oexB K c_BadSeller = true)
    (a_BadBuyer : PySem.W.nsIn K mainGlobals "BadBuyer" = some (some (.ref c_BadBuyer))) (i_BadBuyer : PySem.W.findIn K (.ref c_BadBuyer) "__init__" = some (some (.ref f_BadBuyer))) (n_BadBuyer : PySem.W.findIn K (.ref c_BadBuyer) "number" = some none) (y_BadBuyer : PySem.W.typeIn K (.ref f_BadBuyer) = some (.type "function"))
    (l_BadBuyer : K.lookup f_BadBuyer = some ⟨oc_BadBuyer, od_BadBuyer, .func (PySem.W.fnOf "__init__" "BadBuyer.__init__" (defArgs s_BadBuyer) (defBody s_BadBuyer) (defScope s_BadBuyer) .none kV_BadBuyer dc_BadBuyer pm_BadBuyer an_BadBuyer cd_BadBuyer ct_BadBuyer), sl_BadBuyer⟩) (j_BadBuyer : PySem.W.codeIn K cd_BadBuyer "BadBuyer.__init__" = true) (k_BadBuyer : PySem.W.keepIn K (.ref f_BadBuyer) = true) (o_BadBuyer : oexB K c_BadBuyer = true)
    (a_BadPrices : PySem.W.nsIn K mainGlobals "BadPrices" = some (some (.ref c_BadPrices))) (i_BadPrices : PySem.W.findIn K (.ref c_BadPrices) "__init__" = some (some (.ref f_BadPrices))) (n_BadPrices : PySem.W.findIn K (.ref c_BadPrices) "good" = some none) (y_BadPrices : PySem.W.typeIn K (.ref f_BadPrices) = some (.type "function"))
    (l_BadPrices : K.lookup f_BadPrices = some ⟨oc_BadPrices, od_BadPrices, .func (PySem.W.fnOf "__init__" "BadPrices.__init__" (defArgs s_BadPrices) (defBody s_BadPrices) (defScope s_BadPrices) .none kV_BadPrices dc_BadPrices pm_BadPrices an_BadPrices cd_BadPrices ct_BadPrices), sl_BadPrices⟩) (j_BadPrices : PySem.W.codeIn K cd_BadPrices "BadPrices.__init__" = true) (k_BadPrices : PySem.W.keepIn K (.ref f_BadPrices) = true) (o_BadPrices : oexB K c_BadPrices = true)
    (x_pe : pecB K (csK K "PriceError") = true) :
    ∃ fd : FuncData, (∀ (s : Shared) (v : Value), BindsTo s fd ⟨[v], []⟩ [("_law_script", v)]) ∧ ∀ base : Heap, K.In base → base.Ns mainGlobals mg → (∀ p ∈ csOf K xsL, LamX.TabB base mg p.1 p.2) → FnOk l.prog w K mg base CX0 9 fa fd ["_law_script"] (spLaw K) := by
  have e := hfa.symm.trans (PySem.W.mg_of X G a_law)
  cases e
  have hB : Blt mg := ⟨PySem.W.mg_none_of X G z_len, PySem.W.mg_none_of X G z_range, PySem.W.mg_none_of X G z_enumerate, PySem.W.mg_none_of X G z_min, PySem.W.mg_none_of X G z_max, PySem.W.mg_none_of X G z_tuple, PySem.W.mg_none_of X G z_list, PySem.W.mg_none_of X G z_isinstance, PySem.W.mg_none_of X G z_int, PySem.W.mg_none_of X G z_bool, PySem.W.mg_none_of X G z_all, PySem.W.mg_none_of X G z_any, PySem.W.mg_none_of X G z_sum, PySem.W.mg_none_of X G z_sorted, PySem.W.mg_none_of X G z_zip, PySem.W.mg_none_of X G z_str, PySem.W.mg_none_of X G z_abs⟩
  have hVE := PySem.W.mg_none_of X G z_ValueError
  have hC : Cst mg := ⟨⟨_, PySem.W.mg_of X G v_MOST_SELLERS⟩, ⟨_, PySem.W.mg_of X G v_MOST_BUYERS⟩, ⟨_, PySem.W.mg_of X G v_MOST_STOCK⟩, ⟨_, PySem.W.mg_of X G v_MOST_STEP⟩, ⟨_, PySem.W.mg_of X G v_MOST_PRICE⟩, ⟨_, PySem.W.mg_of X G v_MOST_EVERY⟩, ⟨_, PySem.W.mg_of X G v_LAST_DAY⟩⟩
  have hX := xfacts_of X G x_facts
  have hX_BadCount := xcls_of X G x_BadCount
  have F_is_within := fun_mk (st := s_is_within) l_is_within c_is_within k_is_within
  have b_is_within := F_is_within.binds (ps := P_is_within) fun _ _ _ _ _ _ us hl => match us, hl with | [_, _, _], _ => rfl
  have F_can_sell := fun_mk (st := s_can_sell) l_can_sell c_can_sell k_can_sell
  have b_can_sell := F_can_sell.binds (ps := P_can_sell) fun _ _ _ _ _ _ us hl => match us, hl with | [_], _ => rfl
  have F_can_buy := fun_mk (st := s_can_buy) l_can_buy c_can_buy k_can_buy
  have b_can_buy := F_can_buy.binds (ps := P_can_buy) fun _ _ _ _ _ _ us hl => match us, hl with | [_, _], _ => rfl
  have F_check_market := fun_mk (st := s_check_market) l_check_market c_check_market k_check_market
  have b_check_market := F_check_market.binds (ps := P_check_market) fun _ _ _ _ _ _ us hl => match us, hl with | [_], _ => rfl
  have F_check_prices := fun_mk (st := s_check_prices) l_check_prices c_check_prices k_check_prices
  have b_check_prices := F_check_prices.binds (ps := P_check_prices) fun _ _ _ _ _ _ us hl => match us, hl with | [_, _], _ => rfl
  have F_check_count := fun_mk (st := s_check_count) l_check_count c_check_count k_check_count
  have b_check_count := F_check_count.binds (ps := P_check_count) fun _ _ _ _ _ _ us hl => match us, hl with | [_, _], _ => rfl
  have F_comes := fun_mk (st := s_comes) l_comes c_comes k_comes
  have b_comes := F_comes.binds (ps := P_comes) fun _ _ _ _ _ _ us hl => match us, hl with | [_, _], _ => rfl
  have F_good_for := fun_mk (st := s_good_for) l_good_for c_good_for k_good_for
  have b_good_for := F_good_for.binds (ps := P_good_for) fun _ _ _ _ _ _ us hl => match us, hl with | [_, _, _], _ => rfl
  have F_price_behind := fun_mk (st := s_price_behind) l_price_behind c_price_behind k_price_behind
  have b_price_behind := F_price_behind.binds (ps := P_price_behind) fun _ _ _ _ _ _ us hl => match us, hl with | [_, _, _], _ => rfl
  have F_day_done := fun_mk (st := s_day_done) l_day_done c_day_done k_day_done
  have b_day_done := F_day_done.binds (ps := P_day_done) fun _ _ _ _ _ _ us hl => match us, hl with | [_, _, _], _ => rfl
  have F_day_of := fun_mk (st := s_day_of) l_day_of c_day_of k_day_of
  have b_day_of := F_day_of.binds (ps := P_day_of) fun _ _ _ _ _ _ us hl => match us, hl with | [_, _, _], _ => rfl
  have F__law_mix := fun_mk (st := s__law_mix) l__law_mix c__law_mix k__law_mix
  have b__law_mix := F__law_mix.binds (ps := P__law_mix) fun _ _ _ _ _ _ us hl => match us, hl with | [_, _], _ => rfl
  have F__law_next := fun_mk (st := s__law_next) l__law_next c__law_next k__law_next
  have b__law_next := F__law_next.binds (ps := P__law_next) fun _ _ _ _ _ _ us hl => match us, hl with | [_, _], _ => rfl
  have F__law_alike := fun_mk (st := s__law_alike) l__law_alike c__law_alike k__law_alike
  have b__law_alike := F__law_alike.binds (ps := P__law_alike) fun _ _ _ _ _ _ us hl => match us, hl with | [_, _], _ => rfl
  have F__law_market := fun_mk (st := s__law_market) l__law_market c__law_market k__law_market
  have b__law_market := F__law_market.binds (ps := P__law_market) fun _ _ _ _ _ _ us hl => match us, hl with | [_, _, _, _], _ => rfl
  have F__law_prices := fun_mk (st := s__law_prices) l__law_prices c__law_prices k__law_prices
  have b__law_prices := F__law_prices.binds (ps := P__law_prices) fun _ _ _ _ _ _ us hl => match us, hl with | [_, _], _ => rfl
  have F__law_day := fun_mk (st := s__law_day) l__law_day c__law_day k__law_day
  have b__law_day := F__law_day.binds (ps := P__law_day) fun _ _ _ _ _ _ us hl => match us, hl with | [_, _, _], _ => rfl
  have F__law_first := fun_mk (st := s__law_first) l__law_first c__law_first k__law_first
  have b__law_first := F__law_first.binds (ps := P__law_first) fun _ _ _ _ _ _ us hl => match us, hl with | [_], _ => rfl
  have F__law_kind := fun_mk (st := s__law_kind) l__law_kind c__law_kind k__law_kind
  have b__law_kind := F__law_kind.binds (ps := P__law_kind) fun _ _ _ _ _ _ us hl => match us, hl with | [_], _ => rfl
  have F_law := fun_mk (st := s_law) l_law c_law k_law
  obtain ⟨C_law, T_law, e_law, m1_law, m2_law, m3_law⟩ := lam_at (xs := xsL) m_law (by decide) a_law l_law
  have e_law : cd_law = .ref C_law := e_law
  subst e_law
  refine ⟨PySem.W.fnOf "law" "law" (defArgs s_law) (defBody s_law) (defScope s_law) .none kV_law dc_law pm_law an_law (.ref C_law) ct_law, fun s v => .of_eq rfl, fun base _ _ TB => ?_⟩
  have q_BadSeller : csK K "BadSeller" = c_BadSeller := by unfold csK; rw [a_BadSeller]
  have hX_BadSeller : XClsF (okJ "seller " " can't be") l.prog w K mg base "BadSeller" "number" (csK K "BadSeller") := by rw [q_BadSeller]; exact xclsF_mk (PySem.W.mg_of X G a_BadSeller) o_BadSeller n_BadSeller i_BadSeller y_BadSeller (ini_BadSeller (fun_mk (st := s_BadSeller) l_BadSeller j_BadSeller k_BadSeller) (pecB_ok x_pe) hX.hP) (fun s u v => .of_eq rfl)
  have q_BadBuyer : csK K "BadBuyer" = c_BadBuyer := by unfold csK; rw [a_BadBuyer]
  have hX_BadBuyer : XClsF (okJ "buyer " " can't be") l.prog w K mg base "BadBuyer" "number" (csK K "BadBuyer") := by rw [q_BadBuyer]; exact xclsF_mk (PySem.W.mg_of X G a_BadBuyer) o_BadBuyer n_BadBuyer i_BadBuyer y_BadBuyer (ini_BadBuyer (fun_mk (st := s_BadBuyer) l_BadBuyer j_BadBuyer k_BadBuyer) (pecB_ok x_pe) hX.hP) (fun s u v => .of_eq rfl)
  have q_BadPrices : csK K "BadPrices" = c_BadPrices := by unfold csK; rw [a_BadPrices]
  have hX_BadPrices : XClsF okC l.prog w K mg base "BadPrices" "good" (csK K "BadPrices") := by rw [q_BadPrices]; exact xclsF_mk (PySem.W.mg_of X G a_BadPrices) o_BadPrices n_BadPrices i_BadPrices y_BadPrices (ini_BadPrices (fun_mk (st := s_BadPrices) l_BadPrices j_BadPrices k_BadPrices) (pecB_ok x_pe) hX.hP) (fun s u v => .of_eq rfl)
  have g_is_within : Cal l.prog w K mg base CX0 1 "is_within" (spOf K ix0 3 ph_is_within) := ⟨_, _, P_is_within, ok_is_within (ix := ix0) F_is_within hB, PySem.W.mg_of X G a_is_within, k_is_within, b_is_within⟩
  have g_can_sell : Cal l.prog w K mg base CX0 2 "can_sell" (spOf K ix0 1 ph_can_sell) := ⟨_, _, P_can_sell, ok_can_sell (ix := ix0) F_can_sell hB hC g_is_within, PySem.W.mg_of X G a_can_sell, k_can_sell, b_can_sell⟩
  have g_can_buy : Cal l.prog w K mg base CX0 2 "can_buy" (spOf K ix0 2 ph_can_buy) := ⟨_, _, P_can_buy, ok_can_buy (ix := ix0) F_can_buy hB hC g_is_within, PySem.W.mg_of X G a_can_buy, k_can_buy, b_can_buy⟩
  have g_check_market : Cal l.prog w K mg base CX0 3 "check_market" (spOf K ix0 1 ph_check_market) := ⟨_, _, P_check_market, ok_check_market (ix := ix0) F_check_market hB hC g_can_sell g_can_buy, PySem.W.mg_of X G a_check_market, k_check_market, b_check_market⟩
  have gx_check_market : Cal l.prog w K mg base (L2.CX l.prog w) 3 "check_market" (spOf K (ixX (csK K)) 1 φx_check_market) := ⟨_, _, P_check_market, okx_check_market F_check_market hB hC hX_BadBuyer hX_BadSeller g_can_sell g_can_buy, PySem.W.mg_of X G a_check_market, k_check_market, b_check_market⟩
  have g_check_prices : Cal l.prog w K mg base CX0 3 "check_prices" (spOf K ix0 2 ph_check_prices) := ⟨_, _, P_check_prices, ok_check_prices (ix := ix0) F_check_prices hB g_is_within, PySem.W.mg_of X G a_check_prices, k_check_prices, b_check_prices⟩
  have gx_check_prices : Cal l.prog w K mg base (L2.CX l.prog w) 3 "check_prices" (spOf K (ixX (csK K)) 2 φx_check_prices) := ⟨_, _, P_check_prices, okx_check_prices F_check_prices hB hX_BadPrices g_is_within, PySem.W.mg_of X G a_check_prices, k_check_prices, b_check_prices⟩
  have g_check_count : Cal l.prog w K mg base CX0 2 "check_count" (spOf K ix0 2 ph_check_count) := ⟨_, _, P_check_count, ok_check_count (ix := ix0) F_check_count g_is_within, PySem.W.mg_of X G a_check_count, k_check_count, b_check_count⟩
  have gx_check_count : Cal l.prog w K mg base (L2.CX l.prog w) 2 "check_count" (spOf K (ixX (csK K)) 2 φx_check_count) := ⟨_, _, P_check_count, okx_check_count F_check_count hX_BadCount g_is_within, PySem.W.mg_of X G a_check_count, k_check_count, b_check_count⟩
  have g_comes : Cal l.prog w K mg base CX0 1 "comes" (spOf K ix0 2 ph_comes) := ⟨_, _, P_comes, ok_comes (ix := ix0) F_comes, PySem.W.mg_of X G a_comes, k_comes, b_comes⟩
  have g_good_for : Cal l.prog w K mg base CX0 1 "good_for" (spOf K ix0 3 ph_good_for) := ⟨_, _, P_good_for, ok_good_for (ix := ix0) F_good_for hB, PySem.W.mg_of X G a_good_for, k_good_for, b_good_for⟩
  have g_price_behind : Cal l.prog w K mg base CX0 1 "price_behind" (spOf K ix0 3 ph_price_behind) := ⟨_, _, P_price_behind, ok_price_behind (ix := ix0) F_price_behind hB, PySem.W.mg_of X G a_price_behind, k_price_behind, b_price_behind⟩
  have g_day_done : Cal l.prog w K mg base CX0 2 "day_done" (spOf K ix0 3 ph_day_done) := ⟨_, _, P_day_done, ok_day_done (ix := ix0) F_day_done hB g_comes g_good_for g_price_behind, PySem.W.mg_of X G a_day_done, k_day_done, b_day_done⟩
  have g_day_of : Cal l.prog w K mg base CX0 4 "day_of" (spOf K ix0 3 ph_day_of) := ⟨_, _, P_day_of, ok_day_of (ix := ix0) F_day_of hC g_check_market g_check_prices g_check_count g_day_done, PySem.W.mg_of X G a_day_of, k_day_of, b_day_of⟩
  have gx_day_of : Cal l.prog w K mg base (L2.CX l.prog w) 4 "day_of" (spOf K (ixX (csK K)) 3 φx_day_of) := ⟨_, _, P_day_of, okx_day_of F_day_of hC gx_check_market gx_check_prices gx_check_count g_day_done, PySem.W.mg_of X G a_day_of, k_day_of, b_day_of⟩
  have g__law_mix : Cal l.prog w K mg base CX0 1 "_law_mix" (spMix K) := ⟨_, _, P__law_mix, ok__law_mix (ix := ix0) F__law_mix hB, PySem.W.mg_of X G a__law_mix, k__law_mix, b__law_mix⟩
  have g__law_next : Cal l.prog w K mg base CX0 1 "_law_next" (spOf K ix0 2 ph__law_next) := ⟨_, _, P__law_next, ok__law_next (ix := ix0) F__law_next hB, PySem.W.mg_of X G a__law_next, k__law_next, b__law_next⟩
  have g__law_alike : Cal l.prog w K mg base CX0 8 "_law_alike" (spOf K ix0 2 (ph__law_alike 7)) := ⟨_, _, P__law_alike, (ok__law_alike (ix := ix0) F__law_alike hB (PySem.W.mg_of X G a__law_alike) k__law_alike b__law_alike 7).mono (by decide), PySem.W.mg_of X G a__law_alike, k__law_alike, b__law_alike⟩
  have g__law_market : Cal l.prog w K mg base CX0 2 "_law_market" (spOf K ix0 4 ph__law_market) := ⟨_, _, P__law_market, ok__law_market (ix := ix0) F__law_market hB g__law_next, PySem.W.mg_of X G a__law_market, k__law_market, b__law_market⟩
  have g__law_prices : Cal l.prog w K mg base CX0 2 "_law_prices" (spOf K ix0 2 ph__law_prices) := ⟨_, _, P__law_prices, ok__law_prices (ix := ix0) F__law_prices hB g__law_next, PySem.W.mg_of X G a__law_prices, k__law_prices, b__law_prices⟩
  have g__law_day : Cal l.prog w K mg base CX0 1 "_law_day" (spOf K ix0 3 ph__law_day) := ⟨_, _, P__law_day, ok__law_day (ix := ix0) F__law_day hB, PySem.W.mg_of X G a__law_day, k__law_day, b__law_day⟩
  have g__law_first : Cal l.prog w K mg base CX0 1 "_law_first" (spOf K ix0 1 ph__law_first) := ⟨_, _, P__law_first, ok__law_first (ix := ix0) F__law_first hB, PySem.W.mg_of X G a__law_first, k__law_first, b__law_first⟩
  exact ok_law hB g__law_next g__law_alike g__law_day g__law_first g_day_of g__law_market g__law_prices g__law_mix gx_day_of hVE hX (PySem.W.mg_of X G a__law_kind) k__law_kind l__law_kind c__law_kind b__law_kind l_law c_law (TB _ m1_law) m2_law m3_law law_true
end Pr
open PySem PySem.W PyProof.Rows
set_option maxRecDepth 100000 in
set_option maxHeartbeats 0 in
theorem PySem.Challenge.cw_learnprices_k02_whole_a_day_holds : PySem.Challenge.rw_learnprices_k02_whole_a_day.Holds := by
  w_on; o_law; k_head; (case hw => w_witness2)
  k_fill
  refine Fw.walk_all (l := PySem.Challenge.rw_learnprices_k02_whole_a_day) (n := 63) (k := 9) (x := "_law_script") (CX := fun _ => L2.CX0) Pr.xsL rfl (by decide) rfl ⟨rfl, by decide, by decide⟩ ?rec (fun w h Y => PySem.W.km_in_of Y) ?tabs ?F (fun _ _ _ _ _ h => h)
  case rec => kernel_rfl
  case tabs => intro w; kernel_rfl
  case F =>
    intro w mg fa h _ KX G hmg
    refine Fw.endF ?ht ?z
    (case ht => kernel_rfl)
    case z =>
    refine' Pr.all_mk KX G hmg ?a_is_within ?l_is_within ?c_is_within ?k_is_within ?a_can_sell ?l_can_sell ?c_can_sell ?k_can_sell ?a_can_buy ?l_can_buy ?c_can_buy ?k_can_buy ?a_check_market ?l_check_market ?c_check_market ?k_check_market ?a_check_prices ?l_check_prices ?c_check_prices ?k_check_prices ?a_check_count ?l_check_count ?c_check_count ?k_check_count ?a_comes ?l_comes ?c_comes ?k_comes ?a_good_for ?l_good_for ?c_good_for ?k_good_for ?a_price_behind ?l_price_behind ?c_price_behind ?k_price_behind ?a_day_done ?l_day_done ?c_day_done ?k_day_done ?a_day_of ?l_day_of ?c_day_of ?k_day_of ?a__law_mix ?l__law_mix ?c__law_mix ?k__law_mix ?a__law_next ?l__law_next ?c__law_next ?k__law_next ?a__law_alike ?l__law_alike ?c__law_alike ?k__law_alike ?a__law_market ?l__law_market ?c__law_market ?k__law_market ?a__law_prices ?l__law_prices ?c__law_prices ?k__law_prices ?a__law_day ?l__law_day ?c__law_day ?k__law_day ?a__law_first ?l__law_first ?c__law_first ?k__law_first ?a__law_kind ?l__law_kind ?c__law_kind ?k__law_kind ?a_law ?l_law ?c_law ?k_law ?m_law ?z_len ?z_range ?z_enumerate ?z_min ?z_max ?z_tuple ?z_list ?z_isinstance ?z_int ?z_bool ?z_all ?z_any ?z_sum ?z_sorted ?z_zip ?z_str ?z_abs ?z_ValueError ?v_MOST_SELLERS ?v_MOST_BUYERS ?v_MOST_STOCK ?v_MOST_STEP ?v_MOST_PRICE ?v_MOST_EVERY ?v_LAST_DAY ?x_facts ?x_BadCount ?a_BadSeller ?i_BadSeller ?n_BadSeller ?y_BadSeller ?l_BadSeller ?j_BadSeller ?k_BadSeller ?o_BadSeller ?a_BadBuyer ?i_BadBuyer ?n_BadBuyer ?y_BadBuyer ?l_BadBuyer ?j_BadBuyer ?k_BadBuyer ?o_BadBuyer ?a_BadPrices ?i_BadPrices ?n_BadPrices ?y_BadPrices ?l_BadPrices ?j_BadPrices ?k_BadPrices ?o_BadPrices ?x_pe
    (case a_is_within => k_is)
    (case l_is_within => k_is)
    (case c_is_within => k_is)
    (case k_is_within => k_is)
    (case a_can_sell => k_is)
    (case l_can_sell => k_is)
    (case c_can_sell => k_is)
    (case k_can_sell => k_is)
    (case a_can_buy => k_is)
    (case l_can_buy => k_is)
    (case c_can_buy => k_is)
    (case k_can_buy => k_is)
    (case a_check_market => k_is)
    (case l_check_market => k_is)
    (case c_check_market => k_is)
    (case k_check_market => k_is)
    (case a_check_prices => k_is)
    (case l_check_prices => k_is)
    (case c_check_prices => k_is)
    (case k_check_prices => k_is)
    (case a_check_count => k_is)
    (case l_check_count => k_is)
    (case c_check_count => k_is)
    (case k_check_count => k_is)
    (case a_comes => k_is)
    (case l_comes => k_is)
    (case c_comes => k_is)
    (case k_comes => k_is)
    (case a_good_for => k_is)
    (case l_good_for => k_is)
    (case c_good_for => k_is)
    (case k_good_for => k_is)
    (case a_price_behind => k_is)
    (case l_price_behind => k_is)
    (case c_price_behind => k_is)
    (case k_price_behind => k_is)
    (case a_day_done => k_is)
    (case l_day_done => k_is)
    (case c_day_done => k_is)
    (case k_day_done => k_is)
    (case a_day_of => k_is)
    (case l_day_of => k_is)
    (case c_day_of => k_is)
    (case k_day_of => k_is)
    (case a__law_mix => k_is)
    (case l__law_mix => k_is)
    (case c__law_mix => k_is)
    (case k__law_mix => k_is)
    (case a__law_next => k_is)
    (case l__law_next => k_is)
    (case c__law_next => k_is)
    (case k__law_next => k_is)
    (case a__law_alike => k_is)
    (case l__law_alike => k_is)
    (case c__law_alike => k_is)
    (case k__law_alike => k_is)
    (case a__law_market => k_is)
    (case l__law_market => k_is)
    (case c__law_market => k_is)
    (case k__law_market => k_is)
    (case a__law_prices => k_is)
    (case l__law_prices => k_is)
    (case c__law_prices => k_is)
    (case k__law_prices => k_is)
    (case a__law_day => k_is)
    (case l__law_day => k_is)
    (case c__law_day => k_is)
    (case k__law_day => k_is)
    (case a__law_first => k_is)
    (case l__law_first => k_is)
    (case c__law_first => k_is)
    (case k__law_first => k_is)
    (case a__law_kind => k_is)
    (case l__law_kind => k_is)
    (case c__law_kind => k_is)
    (case k__law_kind => k_is)
    (case a_law => k_is)
    (case l_law => k_is)
    (case c_law => k_is)
    (case k_law => k_is)
    (case z_len => k_is)
    (case z_range => k_is)
    (case z_enumerate => k_is)
    (case z_min => k_is)
    (case z_max => k_is)
    (case z_tuple => k_is)
    (case z_list => k_is)
    (case z_isinstance => k_is)
    (case z_int => k_is)
    (case z_bool => k_is)
    (case z_all => k_is)
    (case z_any => k_is)
    (case z_sum => k_is)
    (case z_sorted => k_is)
    (case z_zip => k_is)
    (case z_str => k_is)
    (case z_abs => k_is)
    (case z_ValueError => k_is)
    (case v_MOST_SELLERS => k_is)
    (case v_MOST_BUYERS => k_is)
    (case v_MOST_STOCK => k_is)
    (case v_MOST_STEP => k_is)
    (case v_MOST_PRICE => k_is)
    (case v_MOST_EVERY => k_is)
    (case v_LAST_DAY => k_is)
    (case a_BadSeller => k_is)
    (case i_BadSeller => k_is)
    (case n_BadSeller => k_is)
    (case y_BadSeller => k_is)
    (case l_BadSeller => k_is)
    (case j_BadSeller => k_is)
    (case k_BadSeller => k_is)
    (case a_BadBuyer => k_is)
    (case i_BadBuyer => k_is)
    (case n_BadBuyer => k_is)
    (case y_BadBuyer => k_is)
    (case l_BadBuyer => k_is)
    (case j_BadBuyer => k_is)
    (case k_BadBuyer => k_is)
    (case a_BadPrices => k_is)
    (case i_BadPrices => k_is)
    (case n_BadPrices => k_is)
    (case y_BadPrices => k_is)
    (case l_BadPrices => k_is)
    (case j_BadPrices => k_is)
    (case k_BadPrices => k_is)
    (case m_law => kernel_rfl)
    (case x_facts => kernel_rfl)
    (case x_BadCount => kernel_rfl)
    (case o_BadSeller => kernel_rfl)
    (case o_BadBuyer => kernel_rfl)
    (case o_BadPrices => kernel_rfl)
    (case x_pe => kernel_rfl)

