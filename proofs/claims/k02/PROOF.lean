import PyProof.Rows.All
import Wide.All
import OpenK.AllK
import Wide.FinOn
import HandS.ForMost
import HandS.IsInst
import HandS.More
import HandS.TupMul
import HandS.Flow
import HandS.TupAny
import HandS.Conv
import HandS.Style
import PyProof.StrLawsChain
import PyProof.StrBlockL
import PySem.Challenge.RW_allstitches_k02_whole_kinds
set_option Elab.async false
set_option linter.all false
set_option maxRecDepth 100000
set_option maxHeartbeats 4000000
namespace Dz
open PySem PySem.Spec PyProof.Rows L2

/-! ### data -/
inductive D where
  | non | bl (b : Bool) | int (i : Int) | str (x : Str)
  | tup (l : List D) | lst (l : List D) | fro (l : List D)
  | dct (ks : List Key) (l : List D)
  | ins (C : Addr) (ns : List Str) (l : List D)
  | tok (a : Addr) | ty (n : String)

mutual
def Rep (K : PySem.W.Frag) (G : Hp) : D → V → Prop
  | .non, v => v = .non
  | .bl b, v => v = .bl b
  | .int i, v => v = .int i
  | .str x, v => v = .str x
  | .tup l, v => ∃ a xs, v = .ref a ∧ SqT K G a xs ∧ RepA K G l xs
  | .lst l, v => ∃ a xs, v = .ref a ∧ G a = some (.lst xs) ∧ RepA K G l xs
  | .fro l, v => ∃ a xs, v = .ref a ∧ SqL K G a xs ∧ RepA K G l xs
  | .dct ks l, v => ∃ a xs, v = .ref a ∧ G a = some (.dK (ks.zip xs)) ∧ RepA K G l xs ∧ ks.length = l.length
  | .ins C ns l, v => ∃ a dx xs, v = .ref a ∧ G a = some (.ins C dx (ns.zip xs)) ∧ RepA K G l xs ∧ ns.length = l.length
  | .tok a, v => v = .ref a
  | .ty n, v => v = .ty n
def RepA (K : PySem.W.Frag) (G : Hp) : List D → List V → Prop
  | [], xs => xs = []
  | d :: l, xs => ∃ x r, xs = x :: r ∧ Rep K G d x ∧ RepA K G l r
end

section
variable {K : PySem.W.Frag} {G G' H H' F : Hp}
theorem sqt_mono {a : Addr} {xs : List V} (e : Same G G') (h : SqT K G a xs) : SqT K G' a xs := by
  rcases h with (h | ⟨o, h⟩) | h
  · exact .inl (.inl (e _ _ h))
  · exact .inl (.inr ⟨o, e _ _ h⟩)
  · exact .inr h
mutual
theorem Rep.mono (e : Same G G') : ∀ (d : D) (v : V), Rep K G d v → Rep K G' d v
  | .non, _, h => by unfold Rep at h ⊢; exact h
  | .bl _, _, h => by unfold Rep at h ⊢; exact h
  | .int _, _, h => by unfold Rep at h ⊢; exact h
  | .str _, _, h => by unfold Rep at h ⊢; exact h
  | .tup l, v, h => by
    unfold Rep at h ⊢
    obtain ⟨a, xs, rfl, s, r⟩ := h
    exact ⟨a, xs, rfl, sqt_mono e s, RepA.mono e l xs r⟩
  | .lst l, v, h => by
    unfold Rep at h ⊢
    obtain ⟨a, xs, rfl, s, r⟩ := h
    exact ⟨a, xs, rfl, e _ _ s, RepA.mono e l xs r⟩
  | .fro l, v, h => by
    unfold Rep at h ⊢
    obtain ⟨a, xs, rfl, s, r⟩ := h
    exact ⟨a, xs, rfl, e.seq s, RepA.mono e l xs r⟩
  | .dct ks l, v, h => by
    unfold Rep at h ⊢
    obtain ⟨a, xs, rfl, s, r, q⟩ := h
    exact ⟨a, xs, rfl, e _ _ s, RepA.mono e l xs r, q⟩
  | .ins C ns l, v, h => by
    unfold Rep at h ⊢
    obtain ⟨a, dx, xs, rfl, s, r, q⟩ := h
    exact ⟨a, dx, xs, rfl, e _ _ s, RepA.mono e l xs r, q⟩
  | .tok _, _, h => by unfold Rep at h ⊢; exact h
  | .ty _, _, h => by unfold Rep at h ⊢; exact h
theorem RepA.mono (e : Same G G') : ∀ (l : List D) (xs : List V), RepA K G l xs → RepA K G' l xs
  | [], _, h => by unfold RepA at h ⊢; exact h
  | d :: l, _, h => by
    unfold RepA at h ⊢
    obtain ⟨x, r, rfl, h1, h2⟩ := h
    exact ⟨x, r, rfl, Rep.mono e d x h1, RepA.mono e l r h2⟩
end
theorem RepA.nil : RepA K G [] [] := by unfold RepA; rfl
theorem RepA.cons {d : D} {x : V} {l : List D} {xs : List V} (h : Rep K G d x) (t : RepA K G l xs) : RepA K G (d :: l) (x :: xs) := by
  unfold RepA
  exact ⟨x, xs, rfl, h, t⟩
theorem RepA.len : ∀ {l : List D} {xs : List V}, RepA K G l xs → xs.length = l.length
  | [], _, h => by unfold RepA at h; subst h; rfl
  | d :: l, _, h => by
    unfold RepA at h
    obtain ⟨x, r, rfl, _, h2⟩ := h
    simp only [List.length_cons, RepA.len h2]
theorem RepA.get : ∀ {l : List D} {xs : List V} {i : Nat} {d : D}, RepA K G l xs → l[i]? = some d → ∃ x, xs[i]? = some x ∧ Rep K G d x
  | [], _, _, _, _, e => by simp at e
  | d :: l, _, 0, d', h, e => by
    unfold RepA at h
    obtain ⟨x, r, rfl, h1, h2⟩ := h
    simp at e; subst e
    exact ⟨x, rfl, h1⟩
  | d :: l, _, i + 1, d', h, e => by
    unfold RepA at h
    obtain ⟨x, r, rfl, h1, h2⟩ := h
    obtain ⟨y, e1, e2⟩ := RepA.get (i := i) h2 (by simpa using e)
    exact ⟨y, by simpa using e1, e2⟩
theorem RepA.get' {l : List D} {xs : List V} {i : Nat} {x : V} (h : RepA K G l xs) (e : xs[i]? = some x) : ∃ d, l[i]? = some d ∧ Rep K G d x := by
  have hl := h.len
  have hi : i < xs.length := (List.getElem?_eq_some_iff.mp e).1
  have hi' : i < l.length := by omega
  obtain ⟨y, e1, e2⟩ := h.get (List.getElem?_eq_getElem hi')
  rw [e] at e1
  cases e1
  exact ⟨_, List.getElem?_eq_getElem hi', e2⟩
theorem RepA.app : ∀ {l m : List D} {xs ys : List V}, RepA K G l xs → RepA K G m ys → RepA K G (l ++ m) (xs ++ ys)
  | [], _, _, _, h, t => by unfold RepA at h; subst h; exact t
  | d :: l, _, _, _, h, t => by
    unfold RepA at h
    obtain ⟨x, r, rfl, h1, h2⟩ := h
    exact .cons h1 (RepA.app h2 t)
theorem RepA.take : ∀ {l : List D} {xs : List V} (n : Nat), RepA K G l xs → RepA K G (l.take n) (xs.take n)
  | _, _, 0, _ => by simp only [List.take_zero]; exact .nil
  | [], _, n + 1, h => by unfold RepA at h; subst h; simp only [List.take_nil]; exact .nil
  | d :: l, _, n + 1, h => by
    unfold RepA at h
    obtain ⟨x, r, rfl, h1, h2⟩ := h
    simp only [List.take_succ_cons]
    exact .cons h1 (RepA.take n h2)
theorem RepA.drop : ∀ {l : List D} {xs : List V} (n : Nat), RepA K G l xs → RepA K G (l.drop n) (xs.drop n)
  | _, _, 0, h => h
  | [], _, n + 1, h => by unfold RepA at h; subst h; simp only [List.drop_nil]; exact .nil
  | d :: l, _, n + 1, h => by
    unfold RepA at h
    obtain ⟨x, r, rfl, h1, h2⟩ := h
    simp only [List.drop_succ_cons]
    exact RepA.drop n h2
theorem RepA.rev : ∀ {l : List D} {xs : List V}, RepA K G l xs → RepA K G l.reverse xs.reverse
  | [], _, h => by unfold RepA at h; subst h; simp only [List.reverse_nil]; exact .nil
  | d :: l, _, h => by
    unfold RepA at h
    obtain ⟨x, r, rfl, h1, h2⟩ := h
    simp only [List.reverse_cons]
    exact RepA.app (RepA.rev h2) (.cons h1 .nil)
theorem RepA.set {d : D} {x : V} (hd : Rep K G d x) : ∀ {l : List D} {xs : List V} (i : Nat), RepA K G l xs → RepA K G (l.set i d) (xs.set i x)
  | [], _, _, h => by unfold RepA at h; subst h; simp only [List.set_nil]; exact .nil
  | e :: l, _, 0, h => by
    unfold RepA at h
    obtain ⟨x', r, rfl, h1, h2⟩ := h
    exact .cons hd h2
  | e :: l, _, i + 1, h => by
    unfold RepA at h
    obtain ⟨x', r, rfl, h1, h2⟩ := h
    exact .cons h1 (RepA.set hd i h2)
theorem RepA.rep {d : D} {x : V} (h : Rep K G d x) : ∀ n : Nat, RepA K G (List.replicate n d) (List.replicate n x)
  | 0 => .nil
  | n + 1 => by rw [List.replicate_succ, List.replicate_succ]; exact .cons h (RepA.rep h n)
theorem RepA.ints : ∀ (ns : List Int), RepA K G (ns.map D.int) (ns.map V.int)
  | [] => .nil
  | n :: r => .cons (by unfold Rep; rfl) (RepA.ints r)
theorem repA_ints_inv : ∀ {ns : List Int} {xs : List V}, RepA K G (ns.map D.int) xs → xs = ns.map V.int
  | [], _, h => by simp only [List.map_nil] at h; unfold RepA at h; exact h
  | n :: r, _, h => by
    simp only [List.map_cons] at h
    unfold RepA at h
    obtain ⟨x, t, rfl, h1, h2⟩ := h
    unfold Rep at h1
    subst h1
    rw [repA_ints_inv h2]; rfl
theorem repA_strs_inv : ∀ {ns : List Str} {xs : List V}, RepA K G (ns.map D.str) xs → xs = ns.map V.str
  | [], _, h => by simp only [List.map_nil] at h; unfold RepA at h; exact h
  | n :: r, _, h => by
    simp only [List.map_cons] at h
    unfold RepA at h
    obtain ⟨x, t, rfl, h1, h2⟩ := h
    unfold Rep at h1
    subst h1
    rw [repA_strs_inv h2]; rfl
theorem repA_strs : ∀ (ns : List Str), RepA K G (ns.map D.str) (ns.map V.str)
  | [] => .nil
  | n :: r => .cons (by unfold Rep; rfl) (repA_strs r)
theorem repA_bls_inv : ∀ {ns : List Bool} {xs : List V}, RepA K G (ns.map D.bl) xs → xs = ns.map V.bl
  | [], _, h => by simp only [List.map_nil] at h; unfold RepA at h; exact h
  | n :: r, _, h => by
    simp only [List.map_cons] at h
    unfold RepA at h
    obtain ⟨x, t, rfl, h1, h2⟩ := h
    unfold Rep at h1
    subst h1
    rw [repA_bls_inv h2]; rfl
theorem rep_int {i : Int} {v : V} : Rep K G (.int i) v ↔ v = .int i := by unfold Rep; exact Iff.rfl
theorem rep_bl {i : Bool} {v : V} : Rep K G (.bl i) v ↔ v = .bl i := by unfold Rep; exact Iff.rfl
theorem rep_str {i : Str} {v : V} : Rep K G (.str i) v ↔ v = .str i := by unfold Rep; exact Iff.rfl
theorem rep_non {v : V} : Rep K G .non v ↔ v = .non := by unfold Rep; exact Iff.rfl
theorem rep_tok {a : Addr} {v : V} : Rep K G (.tok a) v ↔ v = .ref a := by unfold Rep; exact Iff.rfl
theorem rep_ty {a : String} {v : V} : Rep K G (.ty a) v ↔ v = .ty a := by unfold Rep; exact Iff.rfl
theorem rep_tup {l : List D} {v : V} : Rep K G (.tup l) v ↔ ∃ a xs, v = .ref a ∧ SqT K G a xs ∧ RepA K G l xs := by conv => lhs; unfold Rep
theorem rep_lst {l : List D} {v : V} : Rep K G (.lst l) v ↔ ∃ a xs, v = .ref a ∧ G a = some (.lst xs) ∧ RepA K G l xs := by conv => lhs; unfold Rep
theorem rep_fro {l : List D} {v : V} : Rep K G (.fro l) v ↔ ∃ a xs, v = .ref a ∧ SqL K G a xs ∧ RepA K G l xs := by conv => lhs; unfold Rep
theorem rep_dct {ks : List Key} {l : List D} {v : V} : Rep K G (.dct ks l) v ↔ ∃ a xs, v = .ref a ∧ G a = some (.dK (ks.zip xs)) ∧ RepA K G l xs ∧ ks.length = l.length := by conv => lhs; unfold Rep
theorem rep_ins {C : Addr} {ns : List Str} {l : List D} {v : V} : Rep K G (.ins C ns l) v ↔ ∃ a dx xs, v = .ref a ∧ G a = some (.ins C dx (ns.zip xs)) ∧ RepA K G l xs ∧ ns.length = l.length := by conv => lhs; unfold Rep
end

/-! ### changing objects -/
inductive HD where
  | lst (l : List D) | dct (ks : List Key) (l : List D) | ins (C dx : Addr) (ns : List Str) (l : List D)
def RepO (K : PySem.W.Frag) (G : Hp) : HD → HO → Prop
  | .lst l, o => ∃ xs, o = .lst xs ∧ RepA K G l xs
  | .dct ks l, o => ∃ xs, o = .dK (ks.zip xs) ∧ RepA K G l xs ∧ ks.length = l.length
  | .ins C dx ns l, o => ∃ xs, o = .ins C dx (ns.zip xs) ∧ RepA K G l xs ∧ ns.length = l.length
def HD.d : HD → D
  | .lst l => .lst l
  | .dct ks l => .dct ks l
  | .ins C _ ns l => .ins C ns l
section
variable {K : PySem.W.Frag} {G G' H H' F : Hp}
theorem RepO.mono (e : Same G G') : ∀ {o : HD} {u : HO}, RepO K G o u → RepO K G' o u
  | .lst _, _, ⟨xs, a, b⟩ => ⟨xs, a, b.mono e⟩
  | .dct _ _, _, ⟨xs, a, b, c⟩ => ⟨xs, a, b.mono e, c⟩
  | .ins _ _ _ _, _, ⟨xs, a, b, c⟩ => ⟨xs, a, b.mono e, c⟩
theorem RepO.rep {a : Addr} : ∀ {o : HD} {u : HO}, RepO K G o u → G a = some u → Rep K G o.d (.ref a)
  | .lst _, _, ⟨xs, e, b⟩, h => by subst e; exact rep_lst.mpr ⟨a, xs, rfl, h, b⟩
  | .dct _ _, _, ⟨xs, e, b, c⟩, h => by subst e; exact rep_dct.mpr ⟨a, xs, rfl, h, b, c⟩
  | .ins _ dx _ _, _, ⟨xs, e, b, c⟩, h => by subst e; exact rep_ins.mpr ⟨a, dx, xs, rfl, h, b, c⟩
end
/-- the ambient: changing objects that all know, each with what is true of it -/
abbrev Am := List (Addr × (HD → Prop))
def AmbOk (K : PySem.W.Frag) (A : Am) (G H : Hp) : Prop := ∀ q ∈ A, G q.1 = none ∧ ∃ o u, H q.1 = some u ∧ RepO K G o u ∧ q.2 o

/-- only new objects -/
structure Grow (G H G' H' : Hp) : Prop where
  g : Same G G'
  h : Same H H'
  o : ∀ a u, H a = some u → G' a = G a
theorem Grow.refl (G H : Hp) : Grow G H G H := ⟨Same.refl G, Same.refl H, fun _ _ _ => rfl⟩
theorem Grow.trans {G H G1 H1 G2 H2 : Hp} (a : Grow G H G1 H1) (b : Grow G1 H1 G2 H2) : Grow G H G2 H2 :=
  ⟨a.g.trans b.g, a.h.trans b.h, fun p u e => (b.o p u (a.h _ _ e)).trans (a.o p u e)⟩
theorem same_new {H : Hp} {p : Addr} {o : HO} (h : H p = none) : Same H (upd H p o) := fun b x e => by
  rw [upd_ne (ne_of_none e h)]
  exact e
theorem Grow.new {G H : Hp} {p : Addr} {o : HO} (s : Same G H) (h : H p = none) : Grow G H (upd G p o) (upd H p o) :=
  ⟨same_new (s.free h), same_new h, fun a u e => upd_ne (ne_of_none e h)⟩
theorem Grow.tmp {G H : Hp} {p : Addr} {o : HO} (h : H p = none) : Grow G H G (upd H p o) :=
  ⟨Same.refl G, same_new h, fun _ _ _ => rfl⟩
theorem same_upd2 {G H : Hp} {p : Addr} {o : HO} (s : Same G H) : Same (upd G p o) (upd H p o) := fun b x e => by
  by_cases hb : b = p
  · subst hb; rw [upd_same] at e ⊢; exact e
  · rw [upd_ne hb] at e ⊢; exact s b x e

/-! ### what a def's names hold -/
inductive EV where
  | un | dat (d : D) | cel (o : HD)
abbrev En := List EV
def gt : En → Nat → EV
  | [], _ => .un
  | e :: _, 0 => e
  | _ :: r, n + 1 => gt r n
def st : En → Nat → EV → En
  | [], _, _ => []
  | _ :: r, 0, v => v :: r
  | e :: r, n + 1, v => e :: st r n v
theorem gt_st {v : EV} : ∀ {en : En} {i j : Nat}, gt (st en i v) j = if j = i ∧ i < en.length then v else gt en j
  | [], i, j => by simp [st, gt]
  | e :: r, 0, 0 => by simp [st, gt]
  | e :: r, 0, j + 1 => by simp [st, gt]
  | e :: r, i + 1, 0 => by simp [st, gt]
  | e :: r, i + 1, j + 1 => by
    simp only [st, gt]
    rw [gt_st (en := r)]
    simp
theorem st_len {v : EV} : ∀ {en : En} {i : Nat}, (st en i v).length = en.length
  | [], _ => rfl
  | _ :: _, 0 => rfl
  | _ :: r, i + 1 => by simp only [st, List.length_cons, st_len]

structure StOk (K : PySem.W.Frag) (A : Am) (F G H : Hp) : Prop where
  gh : Same G H
  fh : Same F H
  fa : ∀ q ∈ A, F q.1 = none
  am : AmbOk K A G H
structure Slots (K : PySem.W.Frag) (A : Am) (F G H : Hp) (σ : L2.St) (en : En) (c : Nat → Addr) : Prop where
  dat : ∀ i d, gt en i = .dat d → ∃ v, σ[i]? = some (some v) ∧ Rep K G d v
  cel : ∀ i o, gt en i = .cel o → σ[i]? = some (some (.ref (c i))) ∧ (∃ u, H (c i) = some u ∧ RepO K G o u) ∧ G (c i) = none ∧ F (c i) = none ∧ ∀ q ∈ A, q.1 ≠ c i
  inj : ∀ i j o u, gt en i = .cel o → gt en j = .cel u → c i = c j → i = j
structure EnvOk (K : PySem.W.Frag) (A : Am) (F G H : Hp) (σ : L2.St) (en : En) : Prop where
  ok : StOk K A F G H
  len : σ.length = en.length
  ex : ∃ c, Slots K A F G H σ en c
/-- from G on, the frame's objects left as they are -/
structure Step (F G G' : Hp) : Prop where
  g : Same G G'
  f : ∀ a u, F a = some u → G' a = G a
theorem Step.refl (F G : Hp) : Step F G G := ⟨Same.refl G, fun _ _ _ => rfl⟩
theorem Step.trans {F G G1 G2 : Hp} (a : Step F G G1) (b : Step F G1 G2) : Step F G G2 := ⟨a.g.trans b.g, fun p u e => (b.f p u e).trans (a.f p u e)⟩

section
variable {K : PySem.W.Frag} {A : Am} {F G H G' H' : Hp} {σ : L2.St} {en : En}
theorem StOk.grow (k : StOk K A F G H) (g : Grow G H G' H') (s : Same G' H') : StOk K A F G' H' where
  gh := s
  fh := k.fh.trans g.h
  fa := k.fa
  am := fun q hq => by
    obtain ⟨e, o, u, e1, e2, e3⟩ := k.am q hq
    exact ⟨(g.o _ _ e1).trans e, o, u, g.h _ _ e1, e2.mono g.g, e3⟩
theorem EnvOk.grow (k : EnvOk K A F G H σ en) (g : Grow G H G' H') (s : Same G' H') : EnvOk K A F G' H' σ en where
  ok := k.ok.grow g s
  len := k.len
  ex := by
    obtain ⟨c, x⟩ := k.ex
    refine ⟨c, fun i d e => ?_, fun i o e => ?_, x.inj⟩
    · obtain ⟨v, e1, e2⟩ := x.dat i d e
      exact ⟨v, e1, e2.mono g.g⟩
    · obtain ⟨e1, ⟨u, e2, e3⟩, e4, e5, e6⟩ := x.cel i o e
      exact ⟨e1, ⟨u, g.h _ _ e2, e3.mono g.g⟩, (g.o _ _ e2).trans e4, e5, e6⟩
theorem Grow.step (g : Grow G H G' H') (f : Same F H) : Step F G G' := ⟨g.g, fun a u e => g.o a u (f _ _ e)⟩
end
end Dz

namespace Dz
open PySem PySem.Spec PyProof.Rows L2

theorem EnvOk.freeze {K : PySem.W.Frag} {A : Am} {F G H : Hp} {σ : L2.St} {en : En} {i : Nat} {o : HD} (k : EnvOk K A F G H σ en) (e : gt en i = .cel o) :
    ∃ v G', σ[i]? = some (some v) ∧ EnvOk K A F G' H σ (st en i (.dat o.d)) ∧ Step F G G' ∧ Rep K G' o.d v := by
  obtain ⟨c, x⟩ := k.ex
  obtain ⟨e1, ⟨u, e2, e3⟩, e4, e5, e6⟩ := x.cel i o e
  have sg : Same G (upd G (c i) u) := same_new e4
  have hr : Rep K (upd G (c i) u) o.d (.ref (c i)) := (e3.mono sg).rep upd_same
  refine ⟨.ref (c i), upd G (c i) u, e1, ⟨⟨?_, k.ok.fh, k.ok.fa, ?_⟩, ?_, c, ?_, ?_, ?_⟩, ⟨sg, ?_⟩, hr⟩
  · intro b w hb
    by_cases h : b = c i
    · subst h; rw [upd_same] at hb; cases hb; exact e2
    · rw [upd_ne h] at hb; exact k.ok.gh _ _ hb
  · intro q hq
    obtain ⟨a1, o1, u1, a2, a3, a4⟩ := k.ok.am q hq
    exact ⟨by rw [upd_ne (e6 q hq)]; exact a1, o1, u1, a2, a3.mono sg, a4⟩
  · rw [st_len]; exact k.len
  · intro j d hj
    rw [gt_st] at hj
    split at hj
    · rename_i h
      cases hj
      exact ⟨_, by rw [h.1]; exact e1, hr⟩
    · obtain ⟨v, h1, h2⟩ := x.dat j d hj
      exact ⟨v, h1, h2.mono sg⟩
  · intro j d hj
    rw [gt_st] at hj
    split at hj
    · cases hj
    · rename_i h
      obtain ⟨f1, ⟨u', f2, f3⟩, f4, f5, f6⟩ := x.cel j d hj
      have nj : c j ≠ c i := fun z => by
        have := x.inj j i d o hj e z
        subst this
        have hl : j < en.length := by
          rcases Nat.lt_or_ge j en.length with h' | h'
          · exact h'
          · exact absurd e1 (by rw [List.getElem?_eq_none (by rw [k.len]; exact h')]; intro z; cases z)
        exact h ⟨rfl, hl⟩
      exact ⟨f1, ⟨u', f2, f3.mono sg⟩, by rw [upd_ne nj]; exact f4, f5, f6⟩
  · intro a b p q ha hb hc
    rw [gt_st] at ha hb
    split at ha
    · cases ha
    · split at hb
      · cases hb
      · exact x.inj a b p q ha hb hc
  · intro a w ha
    exact upd_ne (fun z => by subst z; rw [e5] at ha; cases ha)

/-! ### readings over data -/
abbrev FE := En → (D → En → Prop) → Prop
abbrev FT := En → (Bool → En → Prop) → Prop
abbrev FA := En → (List D → En → Prop) → Prop
def LE (K : PySem.W.Frag) (A : Am) (f : FE) : TE := fun σ H Q => ∃ (F G : Hp) (en : En) (Ψ : D → En → Prop), EnvOk K A F G H σ en ∧ f en Ψ ∧
  ∀ d en' v G' H', Ψ d en' → EnvOk K A F G' H' σ en' → Step F G G' → Rep K G' d v → Q v H'
def LT (K : PySem.W.Frag) (A : Am) (f : FT) : TT := fun σ H Q => ∃ (F G : Hp) (en : En) (Ψ : Bool → En → Prop), EnvOk K A F G H σ en ∧ f en Ψ ∧
  ∀ d en' G' H', Ψ d en' → EnvOk K A F G' H' σ en' → Step F G G' → Q d H'
def LA (K : PySem.W.Frag) (A : Am) (f : FA) : TA := fun σ H Q => ∃ (F G : Hp) (en : En) (Ψ : List D → En → Prop), EnvOk K A F G H σ en ∧ f en Ψ ∧
  ∀ d en' v G' H', Ψ d en' → EnvOk K A F G' H' σ en' → Step F G G' → RepA K G' d v → Q v H'
abbrev DE (X : Cx) (A : Am) (e : Expr) (f : FE) : Prop := PE X e (LE X.K A f)
abbrev DT (X : Cx) (A : Am) (e : Expr) (f : FT) : Prop := PT X e (LT X.K A f)
abbrev DW (X : Cx) (A : Am) (e : Expr) (f : FT) : Prop := PW X e (LT X.K A f)
abbrev DA (X : Cx) (A : Am) (es : List Expr) (f : FA) : Prop := PA X es (LA X.K A f)
theorem pe_weak {X : Cx} {e : Expr} {t t' : TE} (h : PE X e t) (k : ∀ σ H Q, t' σ H Q → t σ H Q) : PE X e t' := ⟨fun pins s σ H Q I q => h.run pins s σ H Q I (k σ H Q q)⟩
theorem pt_weak {X : Cx} {e : Expr} {t t' : TT} (h : PT X e t) (k : ∀ σ H Q, t' σ H Q → t σ H Q) : PT X e t' := ⟨fun pins s σ H Q I q => h.run pins s σ H Q I (k σ H Q q)⟩
theorem pw_weak {X : Cx} {e : Expr} {t t' : TT} (h : PW X e t) (k : ∀ σ H Q, t' σ H Q → t σ H Q) : PW X e t' := ⟨fun w pins s σ H Q I q => h.run w pins s σ H Q I (k σ H Q q)⟩
theorem pa_weak {X : Cx} {e : List Expr} {t t' : TA} (h : PA X e t) (k : ∀ σ H Q, t' σ H Q → t σ H Q) : PA X e t' := ⟨fun p pins s σ H Q I q => h.run p pins s σ H Q I (k σ H Q q)⟩
theorem ps_weak {X : Cx} {e : Stmt} {t t' : TS} (h : PS X e t) (k : ∀ D σ H, t' D σ H → t D σ H) : PS X e t' := ⟨fun pins s σ H D I q => h.run pins s σ H D I (k D σ H q)⟩
theorem pss_weak {X : Cx} {e : List Stmt} {t t' : TS} (h : PSs X e t) (k : ∀ D σ H, t' D σ H → t D σ H) : PSs X e t' := ⟨fun pins s σ H D I q => h.run pins s σ H D I (k D σ H q)⟩
theorem pi_weak {X : Cx} {tg e : Expr} {t t' : TI} (h : PI X tg e t) (k : ∀ σ H Q, t' σ H Q → t σ H Q) : PI X tg e t' := ⟨fun pins s σ H Q I q => h.run pins s σ H Q I (k σ H Q q)⟩

/-! ### operations on values -/
abbrev R1D := D → (D → Prop) → Prop
abbrev R2D := D → D → (D → Prop) → Prop
abbrev RAD := List D → (D → Prop) → Prop
def LR2 (K : PySem.W.Frag) (r : R2D) : R2 := fun x y H Q => ∃ (G : Hp) (dx dy : D) (Ψ : D → Prop), Same G H ∧ Rep K G dx x ∧ Rep K G dy y ∧ r dx dy Ψ ∧ ∀ dz z G' H', Ψ dz → Grow G H G' H' → Same G' H' → Rep K G' dz z → Q z H'
def LR1 (K : PySem.W.Frag) (r : R1D) : V → Hp → VK → Prop := fun x H Q => ∃ (G : Hp) (dx : D) (Ψ : D → Prop), Same G H ∧ Rep K G dx x ∧ r dx Ψ ∧ ∀ dz z G' H', Ψ dz → Grow G H G' H' → Same G' H' → Rep K G' dz z → Q z H'
def LRA (K : PySem.W.Frag) (r : RAD) : List V → Hp → VK → Prop := fun x H Q => ∃ (G : Hp) (dx : List D) (Ψ : D → Prop), Same G H ∧ RepA K G dx x ∧ r dx Ψ ∧ ∀ dz z G' H', Ψ dz → Grow G H G' H' → Same G' H' → Rep K G' dz z → Q z H'
def fVar (i : Nat) : FE := fun en Φ => match gt en i with
  | .dat d => Φ d en
  | .cel o => Φ o.d (st en i (.dat o.d))
  | .un => False
def fC (d : D) : FE := fun en Φ => Φ d en
def fOp (r : R2D) (fa fb : FE) : FE := fun en Φ => fa en fun x e1 => fb e1 fun y e2 => r x y fun z => Φ z e2
def fUn (r : R1D) (fa : FE) : FE := fun en Φ => fa en fun x e1 => r x fun z => Φ z e1
def fCB (r : RAD) (fa : FA) : FE := fun en Φ => fa en fun xs e1 => r xs fun z => Φ z e1
def fNil : FA := fun en Φ => Φ [] en
def fCons (fa : FE) (fr : FA) : FA := fun en Φ => fa en fun x e1 => fr e1 fun xs e2 => Φ (x :: xs) e2

section
variable {X : Cx} {A : Am} {e a b c : Expr} {es : List Expr} {pos : Pos} {fa fb fc : FE} {ft fu : FT} {fr : FA}

theorem le_op {K : PySem.W.Frag} {r : R2D} {σ : L2.St} {H : Hp} {Q : VK} (h : LE K A (fOp r fa fb) σ H Q) : tOp (LR2 K r) (LE K A fa) (LE K A fb) σ H Q := by
  obtain ⟨F, G, en, Ψ, k, h, q⟩ := h
  exact ⟨F, G, en, _, k, h, fun x e1 v1 G1 H1 hb k1 s1 r1 => ⟨F, G1, e1, _, k1, hb, fun y e2 v2 G2 H2 hr k2 s2 r2 =>
    ⟨G2, x, y, _, k2.ok.gh, r1.mono s2.g, r2, hr, fun z w G3 H3 hz g s r3 => q z e2 w G3 H3 hz (k2.grow g s) ((s1.trans s2).trans (g.step k2.ok.fh)) r3⟩⟩⟩
theorem le_un {K : PySem.W.Frag} {r : R1D} {σ : L2.St} {H : Hp} {Q : VK} (h : LE K A (fUn r fa) σ H Q) : tUn (LR1 K r) (LE K A fa) σ H Q := by
  obtain ⟨F, G, en, Ψ, k, h, q⟩ := h
  exact ⟨F, G, en, _, k, h, fun x e1 v1 G1 H1 hb k1 s1 r1 =>
    ⟨G1, x, _, k1.ok.gh, r1, hb, fun z w G3 H3 hz g s r3 => q z e1 w G3 H3 hz (k1.grow g s) (s1.trans (g.step k1.ok.fh)) r3⟩⟩
theorem le_cb {K : PySem.W.Frag} {r : RAD} {σ : L2.St} {H : Hp} {Q : VK} (h : LE K A (fCB r fr) σ H Q) : tCB (LRA K r) (LA K A fr) σ H Q := by
  obtain ⟨F, G, en, Ψ, k, h, q⟩ := h
  exact ⟨F, G, en, _, k, h, fun x e1 v1 G1 H1 hb k1 s1 r1 =>
    ⟨G1, x, _, k1.ok.gh, r1, hb, fun z w G3 H3 hz g s r3 => q z e1 w G3 H3 hz (k1.grow g s) (s1.trans (g.step k1.ok.fh)) r3⟩⟩

theorem de_var (i : Nat) {x : Str} (hN : X.N[i]? = some x := by rfl) (hv : Vis X.env.scope x := by first | exact Or.inl rfl | exact Or.inr (Or.inl rfl) | exact Or.inr (Or.inr rfl)) (hd : (x == ("__debug__" : Str)) = false := by decide)
    (hcd : (x == ("__classdict__" : Str)) = false := by decide) : DE X A (.Name x pos) (fVar i) := pe_weak (pv i hN hv hd hcd) fun σ H Q h => by
  obtain ⟨F, G, en, Ψ, k, h, q⟩ := h
  unfold fVar at h
  cases eg : gt en i with
  | un => rw [eg] at h; exact h.elim
  | dat d =>
    rw [eg] at h
    obtain ⟨c, x⟩ := k.ex
    obtain ⟨v, e1, e2⟩ := x.dat i d eg
    exact ⟨v, e1, q d en v G H h k (Step.refl _ _) e2⟩
  | cel o =>
    rw [eg] at h
    obtain ⟨v, G', e1, k', s', r'⟩ := k.freeze eg
    exact ⟨v, e1, q _ _ v G' H h k' s' r'⟩
theorem le_c {K : PySem.W.Frag} {v : V} {d : D} (hr : ∀ G, Rep K G d v) {σ : L2.St} {H : Hp} {Q : VK} (h : LE K A (fC d) σ H Q) : tC v σ H Q := by
  obtain ⟨F, G, en, Ψ, k, h, q⟩ := h
  exact q d en v G H h k (Step.refl _ _) (hr G)
theorem de_int {i : Int} {j} : DE X A (.Constant (.int i) j pos) (fC (.int i)) := pe_weak pe_int fun _ _ _ h => le_c (fun G => rep_int.mpr rfl) h
theorem de_bl {i : Bool} {j} : DE X A (.Constant (.bool i) j pos) (fC (.bl i)) := pe_weak pe_bl fun _ _ _ h => le_c (fun G => rep_bl.mpr rfl) h
theorem de_non {j} : DE X A (.Constant .none j pos) (fC .non) := pe_weak pe_non fun _ _ _ h => le_c (fun G => rep_non.mpr rfl) h
theorem de_str {i : Str} {j} : DE X A (.Constant (.str i) j pos) (fC (.str i)) := pe_weak pe_str fun _ _ _ h => le_c (fun G => rep_str.mpr rfl) h
/-- a module's constant -/
theorem de_glob {x : Str} {u : Value} {v : V} {d : D} (hg : Gl X x) (hm : X.mg x = some u) (r : RelV v u) (hr : ∀ G, Rep X.K G d v) (hd : (x == ("__debug__" : Str)) = false := by decide) : DE X A (.Name x pos) (fC d) := pe_weak (pe_glob hg hm r hd) fun _ _ _ h => le_c hr h
theorem de_bltn {x : Str} {u : Value} {v : V} {d : D} (hg : Gl X x) (hm : X.mg x = none) (hv : bootBuiltins x = some u) (r : RelV v u) (hr : ∀ G, Rep X.K G d v) (hn : x ≠ "__name__" := by decide) (hd : (x == ("__debug__" : Str)) = false := by decide) : DE X A (.Name x pos) (fC d) :=
  pe_weak (pe_bltn hg hm hv r hn hd) fun _ _ _ h => le_c hr h
theorem de_op {op : Operator} {r : R2D} (ho : OpR X (binaryOp op) (LR2 X.K r)) (ha : DE X A a fa) (hb : DE X A b fb) : DE X A (.BinOp a op b pos) (fOp r fa fb) := pe_weak (pe_op ho ha hb) fun _ _ _ h => le_op h
theorem de_un {op : UnaryOp} {r : R1D} (ho : UnR X (unaryOp op) (LR1 X.K r)) (ha : DE X A a fa) : DE X A (.UnaryOp op a pos) (fUn r fa) := pe_weak (pe_un ho ha) fun _ _ _ h => le_un h
theorem de_cmp {op : CmpOp} {r : R2D} (ho : OpR X (compareOp op) (LR2 X.K r)) (ha : DE X A a fa) (hb : DE X A b fb) (hm : behindInMarks op b = false := by first | exact nobehind _ (by decide) (by decide) | rfl) : DE X A (.Compare a [op] [b] pos) (fOp r fa fb) :=
  pe_weak (pe_cmpR ho ha hb hm) fun _ _ _ h => le_op h
theorem de_ix {r : R2D} (hr : IxR X (LR2 X.K r)) (ha : DE X A a fa) (hb : DE X A b fb) (hs : PlainIx b := by exact fun _ _ => rfl) : DE X A (.Subscript a b pos) (fOp r fa fb) := pe_weak (pe_ix hr ha hb hs) fun _ _ _ h => le_op h
theorem da_nil : DA X A [] fNil := pa_weak pa_nil fun σ H Q h => by
  obtain ⟨F, G, en, Ψ, k, h, q⟩ := h
  exact q [] en [] G H h k (Step.refl _ _) .nil
theorem da_cons (ha : DE X A e fa) (hr : DA X A es fr) (hs : starEach (e :: es) X.env = (false, eval e X.env) :: starEach es X.env := by rfl) : DA X A (e :: es) (fCons fa fr) := pa_weak (pa_cons ha hr hs) fun σ H Q h => by
  obtain ⟨F, G, en, Ψ, k, h, q⟩ := h
  exact ⟨F, G, en, _, k, h, fun x e1 v1 G1 H1 hb k1 s1 r1 => ⟨F, G1, e1, _, k1, hb, fun y e2 v2 G2 H2 hr k2 s2 r2 => q _ e2 _ G2 H2 hr k2 (s1.trans s2) (.cons (r1.mono s2.g) r2)⟩⟩
/-- displays -/
def fTup (fr : FA) : FE := fun en Φ => fr en fun xs e1 => xs.length ≤ 100000 ∧ Φ (.tup xs) e1
def fLst (fr : FA) : FE := fun en Φ => fr en fun xs e1 => xs.length ≤ 100000 ∧ Φ (.lst xs) e1
theorem sz_of {n : Nat} (h : n ≤ 100000) : n ≤ sizeLine := Nat.le_trans h (by decide)
theorem de_tup {x1} (h : DA X A es fr) : DE X A (.Tuple es x1 pos) (fTup fr) := pe_weak (pe_tup h) fun σ H Q h => by
  obtain ⟨F, G, en, Ψ, k, h, q⟩ := h
  exact ⟨F, G, en, _, k, h, fun xs e1 vs G1 H1 hb k1 s1 r1 => ⟨by rw [r1.len]; exact sz_of hb.1, fun p hp => by
    have g : Grow G1 H1 (upd G1 p (.tup vs)) (upd H1 p (.tup vs)) := Grow.new k1.ok.gh hp
    exact q _ e1 _ _ _ hb.2 (k1.grow g (same_upd2 k1.ok.gh)) (s1.trans (g.step k1.ok.fh)) (rep_tup.mpr ⟨p, vs, rfl, .inl (.inl upd_same), r1.mono g.g⟩)⟩⟩
theorem de_lst (h : DA X A es fr) : DE X A (.List es pos) (fLst fr) := pe_weak (pe_lst h) fun σ H Q h => by
  obtain ⟨F, G, en, Ψ, k, h, q⟩ := h
  exact ⟨F, G, en, _, k, h, fun xs e1 vs G1 H1 hb k1 s1 r1 => ⟨by rw [r1.len]; exact sz_of hb.1, fun p hp => by
    have g : Grow G1 H1 (upd G1 p (.lst vs)) (upd H1 p (.lst vs)) := Grow.new k1.ok.gh hp
    exact q _ e1 _ _ _ hb.2 (k1.grow g (same_upd2 k1.ok.gh)) (s1.trans (g.step k1.ok.fh)) (rep_lst.mpr ⟨p, vs, rfl, upd_same, r1.mono g.g⟩)⟩⟩
/-- built-ins by name -/
theorem de_callB {x : Str} {p : Pos} {id : String} {r : RAD} (hc : CallR X (.builtin id) (LRA X.K r)) (hg : Gl X x) (hm : X.mg x = none) (hv : bootBuiltins x = some (.builtin id)) (ha : DA X A (e :: es) fr) (hn : x ≠ "__name__" := by decide) (hdb : (x == ("__debug__" : Str)) = false := by decide)
    (he : starEach (e :: es) X.env = (false, eval e X.env) :: starEach es X.env := by rfl) (hpl : (backTo pos (starEach es X.env)).any (·.1) = false := by rfl) : DE X A (.Call (.Name x p) (e :: es) [] pos) (fCB r fr) :=
  pe_weak (pe_callB hc hg hm hv ha hn hdb he hpl) fun _ _ _ h => le_cb h
theorem de_callTy {x : Str} {p : Pos} {T : String} {r : RAD} (hc : CallR X (.type T) (LRA X.K r)) (hg : Gl X x) (hm : X.mg x = none) (hv : bootBuiltins x = some (.type T)) (ha : DA X A (e :: es) fr) (hn : x ≠ "__name__" := by decide) (hdb : (x == ("__debug__" : Str)) = false := by decide)
    (he : starEach (e :: es) X.env = (false, eval e X.env) :: starEach es X.env := by rfl) (hpl : (backTo pos (starEach es X.env)).any (·.1) = false := by rfl) : DE X A (.Call (.Name x p) (e :: es) [] pos) (fCB r fr) :=
  pe_weak (pe_callTy hc hg hm hv ha hn hdb he hpl) fun _ _ _ h => le_cb h

/-! ### tests -/
def fTest (fa : FE) : FT := fun en Φ => fa en fun x e1 => ∃ k, x = .bl k ∧ Φ k e1
def fTAnd (f g : FT) : FT := fun en Φ => f en fun c e1 => if c = true then g e1 Φ else Φ false e1
def fTOr (f g : FT) : FT := fun en Φ => f en fun c e1 => if c = true then Φ true e1 else g e1 Φ
def fTNot (f : FT) : FT := fun en Φ => f en fun c e1 => Φ (!c) e1
theorem le_test {K : PySem.W.Frag} {σ : L2.St} {H : Hp} {Q : Bool → Hp → Prop} (h : LT K A (fTest fa) σ H Q) : LE K A fa σ H fun x H1 => ∃ k, x = .bl k ∧ Q k H1 := by
  obtain ⟨F, G, en, Ψ, k, h, q⟩ := h
  exact ⟨F, G, en, _, k, h, fun x e1 v1 G1 H1 hb k1 s1 r1 => by
    obtain ⟨b, rfl, hb⟩ := hb
    exact ⟨b, rep_bl.mp r1, q b e1 G1 H1 hb k1 s1⟩⟩
theorem dt_val (h : DE X A e fa) (he : ∀ whole, isTrue e X.env whole = (do let v ← whole; standAt e.pos; holding [v] (truthy v)) := by intro _; rfl) : DT X A e (fTest fa) := pt_weak (pt_val h he) fun σ H Q h => le_test h
theorem dt_cmp {op : CmpOp} {r : R2D} (ho : OpR X (compareOp op) (LR2 X.K r)) (ha : DE X A a fa) (hb : DE X A b fb) (hm : behindInMarks op b = false := by first | exact nobehind _ (by decide) (by decide) | rfl) : DT X A (.Compare a [op] [b] pos) (fTest (fOp r fa fb)) :=
  pt_weak (pt_cmpR ho ha hb hm) fun σ H Q h => by
    obtain ⟨F, G, en, Ψ, k, h, q⟩ := h
    exact ⟨F, G, en, _, k, h, fun x e1 v1 G1 H1 hb k1 s1 r1 => ⟨F, G1, e1, _, k1, hb, fun y e2 v2 G2 H2 hr k2 s2 r2 =>
      ⟨G2, x, y, _, k2.ok.gh, r1.mono s2.g, r2, hr, fun z w G3 H3 hz g s r3 => by
        obtain ⟨b, rfl, hz⟩ := hz
        exact ⟨b, rep_bl.mp r3, q b e2 G3 H3 hz (k2.grow g s) ((s1.trans s2).trans (g.step k2.ok.fh))⟩⟩⟩⟩
theorem dw_and1 (ha : DT X A a ft) : DW X A (.BoolOp .And [a] pos) ft := pw_and1 ha
theorem dw_or1 (ha : DT X A a ft) : DW X A (.BoolOp .Or [a] pos) ft := pw_or1 ha
theorem dw_and {rest : List Expr} (ha : DT X A a ft) (hb : DW X A (.BoolOp .And (b :: rest) pos) fu) : DW X A (.BoolOp .And (a :: b :: rest) pos) (fTAnd ft fu) := pw_weak (pw_and ha hb) fun σ H Q h => by
  obtain ⟨F, G, en, Ψ, k, h, q⟩ := h
  refine ⟨F, G, en, _, k, h, fun x e1 G1 H1 hb k1 s1 => ?_⟩
  cases x with
  | true => exact ⟨F, G1, e1, _, k1, hb, fun y e2 G2 H2 hr k2 s2 => q y e2 G2 H2 hr k2 (s1.trans s2)⟩
  | false => exact q false e1 G1 H1 hb k1 s1
theorem dw_or {rest : List Expr} (ha : DT X A a ft) (hb : DW X A (.BoolOp .Or (b :: rest) pos) fu) : DW X A (.BoolOp .Or (a :: b :: rest) pos) (fTOr ft fu) := pw_weak (pw_or ha hb) fun σ H Q h => by
  obtain ⟨F, G, en, Ψ, k, h, q⟩ := h
  refine ⟨F, G, en, _, k, h, fun x e1 G1 H1 hb k1 s1 => ?_⟩
  cases x with
  | false => exact ⟨F, G1, e1, _, k1, hb, fun y e2 G2 H2 hr k2 s2 => q y e2 G2 H2 hr k2 (s1.trans s2)⟩
  | true => exact q true e1 G1 H1 hb k1 s1
theorem dt_not (ha : DT X A a ft) : DT X A (.UnaryOp .Not a pos) (fTNot ft) := pt_weak (pt_not ha) fun σ H Q h => by
  obtain ⟨F, G, en, Ψ, k, h, q⟩ := h
  exact ⟨F, G, en, _, k, h, fun x e1 G1 H1 hb k1 s1 => q _ e1 G1 H1 hb k1 s1⟩
/-- .. as values -/
def fAndV (fa fb : FE) : FE := fun en Φ => fa en fun x e1 => ∃ c, x = .bl c ∧ if c = true then fb e1 Φ else Φ (.bl false) e1
def fOrV (fa fb : FE) : FE := fun en Φ => fa en fun x e1 => ∃ c, x = .bl c ∧ if c = true then Φ (.bl true) e1 else fb e1 Φ
def fNotV (fa : FE) : FE := fun en Φ => fa en fun x e1 => ∃ c, x = .bl c ∧ Φ (.bl (!c)) e1
def fIf (ft : FT) (fa fb : FE) : FE := fun en Φ => ft en fun c e1 => if c = true then fa e1 Φ else fb e1 Φ
theorem de_one {op} (h : DE X A a fa) : DE X A (.BoolOp op [a] pos) fa := pe_one h
theorem de_and {rest : List Expr} (ha : DE X A a fa) (hb : DE X A (.BoolOp .And (b :: rest) pos) fb) : DE X A (.BoolOp .And (a :: b :: rest) pos) (fAndV fa fb) := pe_weak (pe_and ha hb) fun σ H Q h => by
  obtain ⟨F, G, en, Ψ, k, h, q⟩ := h
  refine ⟨F, G, en, _, k, h, fun x e1 v1 G1 H1 hb k1 s1 r1 => ?_⟩
  obtain ⟨c, rfl, hb⟩ := hb
  refine ⟨c, rep_bl.mp r1, ?_⟩
  cases c with
  | true => exact ⟨F, G1, e1, _, k1, hb, fun y e2 v2 G2 H2 hr k2 s2 r2 => q y e2 v2 G2 H2 hr k2 (s1.trans s2) r2⟩
  | false => exact q _ e1 _ G1 H1 hb k1 s1 (rep_bl.mpr rfl)
theorem de_or {rest : List Expr} (ha : DE X A a fa) (hb : DE X A (.BoolOp .Or (b :: rest) pos) fb) : DE X A (.BoolOp .Or (a :: b :: rest) pos) (fOrV fa fb) := pe_weak (pe_or ha hb) fun σ H Q h => by
  obtain ⟨F, G, en, Ψ, k, h, q⟩ := h
  refine ⟨F, G, en, _, k, h, fun x e1 v1 G1 H1 hb k1 s1 r1 => ?_⟩
  obtain ⟨c, rfl, hb⟩ := hb
  refine ⟨c, rep_bl.mp r1, ?_⟩
  cases c with
  | false => exact ⟨F, G1, e1, _, k1, hb, fun y e2 v2 G2 H2 hr k2 s2 r2 => q y e2 v2 G2 H2 hr k2 (s1.trans s2) r2⟩
  | true => exact q _ e1 _ G1 H1 hb k1 s1 (rep_bl.mpr rfl)
theorem de_not (ha : DE X A a fa) : DE X A (.UnaryOp .Not a pos) (fNotV fa) := pe_weak (pe_not ha) fun σ H Q h => by
  obtain ⟨F, G, en, Ψ, k, h, q⟩ := h
  refine ⟨F, G, en, _, k, h, fun x e1 v1 G1 H1 hb k1 s1 r1 => ?_⟩
  obtain ⟨c, rfl, hb⟩ := hb
  exact ⟨c, rep_bl.mp r1, q _ e1 _ G1 H1 hb k1 s1 (rep_bl.mpr rfl)⟩
theorem de_if (hc : DT X A c ft) (ha : DE X A a fa) (hb : DE X A b fb) : DE X A (.IfExp c a b pos) (fIf ft fa fb) := pe_weak (pe_ifExp hc ha hb) fun σ H Q h => by
  obtain ⟨F, G, en, Ψ, k, h, q⟩ := h
  refine ⟨F, G, en, _, k, h, fun x e1 G1 H1 hb k1 s1 => ?_⟩
  cases x with
  | true => exact ⟨F, G1, e1, _, k1, hb, fun y e2 v2 G2 H2 hr k2 s2 r2 => q y e2 v2 G2 H2 hr k2 (s1.trans s2) r2⟩
  | false => exact ⟨F, G1, e1, _, k1, hb, fun y e2 v2 G2 H2 hr k2 s2 r2 => q y e2 v2 G2 H2 hr k2 (s1.trans s2) r2⟩
/-- chains -/
def fChain (r r' : R2D) (fa fb fc : FE) : FE := fun en Φ => fa en fun x e1 => fb e1 fun y e2 => r x y fun z => ∃ k, z = .bl k ∧ if k = true then fc e2 fun w e3 => r' y w fun z' => Φ z' e3 else Φ (.bl false) e2
theorem de_chain {op op' : CmpOp} {r r' : R2D} (ho : OpR X (compareOp op) (LR2 X.K r)) (ho' : OpR X (compareOp op') (LR2 X.K r')) (ha : DE X A a fa) (hb : DE X A b fb) (hc : DE X A c fc) (hm : lastMarks [op, op'] [b, c] = false := by with_unfolding_all rfl) : DE X A (.Compare a [op, op'] [b, c] pos) (fChain r r' fa fb fc) :=
  pe_weak (pe_chain ho ho' ha hb hc hm) fun σ H Q h => by
    obtain ⟨F, G, en, Ψ, k, h, q⟩ := h
    refine ⟨F, G, en, _, k, h, fun x e1 v1 G1 H1 hb k1 s1 r1 => ⟨F, G1, e1, _, k1, hb, fun y e2 v2 G2 H2 hr k2 s2 r2 =>
      ⟨G2, x, y, _, k2.ok.gh, r1.mono s2.g, r2, hr, fun z w G3 H3 hz g s r3 => ?_⟩⟩⟩
    obtain ⟨b, rfl, hz⟩ := hz
    refine ⟨b, rep_bl.mp r3, ?_⟩
    have k3 := k2.grow g s
    have s3 := (s1.trans s2).trans (g.step k2.ok.fh)
    cases b with
    | false => exact q _ e2 _ G3 H3 hz k3 s3 (rep_bl.mpr rfl)
    | true => exact ⟨F, G3, e2, _, k3, hz, fun w' e4 v4 G4 H4 hw k4 s4 r4 => ⟨G4, y, w', _, k4.ok.gh, (r2.mono g.g).mono s4.g, r4, hw, fun z5 w5 G5 H5 hz5 g5 s5 r5 => q z5 e4 w5 G5 H5 hz5 (k4.grow g5 s5) ((s3.trans s4).trans (g5.step k4.ok.fh)) r5⟩⟩
end
end Dz

namespace Dz
open PySem PySem.Spec PyProof.Rows L2

section
variable {K : PySem.W.Frag} {A : Am} {F G H G' H' : Hp} {σ : L2.St} {en : En}
/-- a slot takes a value -/
theorem EnvOk.put {i : Nat} {d : D} {v : V} (k : EnvOk K A F G H σ en) (r : Rep K G d v) : EnvOk K A F G H (σ.set i (some v)) (st en i (.dat d)) := by
  obtain ⟨c, x⟩ := k.ex
  refine ⟨k.ok, by rw [List.length_set, st_len]; exact k.len, c, fun j d' h => ?_, fun j o h => ?_, fun a b p q ha hb hc => ?_⟩
  · rw [gt_st] at h
    split at h
    · rename_i hj
      cases h
      refine ⟨v, ?_, r⟩
      rw [hj.1, List.getElem?_set_self (by rw [k.len]; exact hj.2)]
    · rename_i hj
      obtain ⟨w, h1, h2⟩ := x.dat j d' h
      refine ⟨w, ?_, h2⟩
      rw [List.getElem?_set_ne]
      · exact h1
      · intro z
        subst z
        refine hj ⟨rfl, ?_⟩
        rcases Nat.lt_or_ge i en.length with h' | h'
        · exact h'
        · exact absurd h1 (by rw [List.getElem?_eq_none (by rw [k.len]; exact h')]; intro z; cases z)
  · rw [gt_st] at h
    split at h
    · cases h
    · rename_i hj
      obtain ⟨h1, h2⟩ := x.cel j o h
      refine ⟨?_, h2⟩
      rw [List.getElem?_set_ne]
      · exact h1
      · intro z
        subst z
        refine hj ⟨rfl, ?_⟩
        rcases Nat.lt_or_ge i en.length with h' | h'
        · exact h'
        · exact absurd h1 (by rw [List.getElem?_eq_none (by rw [k.len]; exact h')]; intro z; cases z)
  · rw [gt_st] at ha hb
    split at ha
    · cases ha
    · split at hb
      · cases hb
      · exact x.inj a b p q ha hb hc
/-- a slot is forgotten -/
theorem EnvOk.forget {i : Nat} {o : Option V} (k : EnvOk K A F G H σ en) : EnvOk K A F G H (σ.set i o) (st en i .un) := by
  obtain ⟨c, x⟩ := k.ex
  have lt_of : ∀ {j : Nat} {w : V}, σ[j]? = some (some w) → j < en.length := fun {j w} h1 => by
    rcases Nat.lt_or_ge j en.length with h' | h'
    · exact h'
    · exact absurd h1 (by rw [List.getElem?_eq_none (by rw [k.len]; exact h')]; intro z; cases z)
  refine ⟨k.ok, by rw [List.length_set, st_len]; exact k.len, c, fun j d' h => ?_, fun j o h => ?_, fun a b p q ha hb hc => ?_⟩
  · rw [gt_st] at h
    split at h
    · cases h
    · rename_i hj
      obtain ⟨w, h1, h2⟩ := x.dat j d' h
      refine ⟨w, ?_, h2⟩
      rw [List.getElem?_set_ne]
      · exact h1
      · intro z
        subst z
        exact hj ⟨rfl, lt_of h1⟩
  · rw [gt_st] at h
    split at h
    · cases h
    · rename_i hj
      obtain ⟨h1, h2⟩ := x.cel j o h
      refine ⟨?_, h2⟩
      rw [List.getElem?_set_ne]
      · exact h1
      · intro z
        subst z
        exact hj ⟨rfl, lt_of h1⟩
  · rw [gt_st] at ha hb
    split at ha
    · cases ha
    · split at hb
      · cases hb
      · exact x.inj a b p q ha hb hc
/-- a new object in a temporary place -/
theorem gt_app_lt {e : EV} : ∀ {en : En} {i : Nat}, i < en.length → gt (en ++ [e]) i = gt en i
  | [], i, h => by simp at h
  | _ :: r, 0, _ => rfl
  | _ :: r, i + 1, h => by
    simp only [List.cons_append, gt]
    exact gt_app_lt (en := r) (by simpa using h)
theorem gt_app_eq {e : EV} : ∀ {en : En}, gt (en ++ [e]) en.length = e
  | [] => rfl
  | _ :: r => by
    simp only [List.cons_append, List.length_cons, gt]
    exact gt_app_eq (en := r)
theorem gt_ge : ∀ {en : En} {i : Nat}, en.length ≤ i → gt en i = .un
  | [], _, _ => rfl
  | _ :: r, 0, h => by simp at h
  | _ :: r, i + 1, h => by
    simp only [gt]
    exact gt_ge (en := r) (by simpa using h)
theorem EnvOk.newcell {p : Addr} {o : HD} {u : HO} (k : EnvOk K A F G H σ en) (hp : H p = none) (r : RepO K G o u) : EnvOk K A F G (upd H p u) (σ ++ [some (.ref p)]) (en ++ [.cel o]) := by
  have g : Grow G H G (upd H p u) := Grow.tmp hp
  have sg : Same G (upd H p u) := k.ok.gh.trans (same_new hp)
  obtain ⟨c, x⟩ := (k.grow g sg).ex
  have k2 := k.grow g sg
  have lt_of : ∀ {j : Nat} {q : EV}, gt (en ++ [.cel o]) j = q → q ≠ .un → j ≠ en.length → j < en.length := fun {j q} h1 h2 h3 => by
    rcases Nat.lt_or_ge j en.length with h' | h'
    · exact h'
    · refine absurd (gt_ge (en := en ++ [.cel o]) (i := j) ?_) (by rw [h1]; exact h2)
      rw [List.length_append]
      show en.length + 1 ≤ j
      omega
  have get_lt : ∀ {j : Nat}, j < en.length → (σ ++ [some (V.ref p)])[j]? = σ[j]? := fun {j} h => by
    rw [List.getElem?_append_left (by rw [k.len]; exact h)]
  have cfresh : ∀ j, ∀ q, gt en j = .cel q → c j ≠ p := fun j q h z => by
    obtain ⟨c0, x0⟩ := k.ex
    obtain ⟨e1, ⟨u1, e2, _⟩, _⟩ := x0.cel j q h
    obtain ⟨f1, _⟩ := x.cel j q h
    rw [e1] at f1
    have e3 : c0 j = c j := by injection f1 with f1; injection f1 with f1; injection f1
    rw [e3, z] at e2
    rw [hp] at e2; cases e2
  refine ⟨k2.ok, by rw [List.length_append, List.length_append, k.len]; rfl, fun j => if j = en.length then p else c j, fun j d h => ?_, fun j q h => ?_, fun a b q1 q2 ha hb hc => ?_⟩
  · have hj : j ≠ en.length := fun z => by subst z; rw [gt_app_eq] at h; cases h
    have hl := lt_of h (by intro z; cases z) hj
    rw [gt_app_lt hl] at h
    rw [get_lt hl]
    exact x.dat j d h
  · by_cases hj : j = en.length
    · subst hj
      rw [gt_app_eq] at h
      cases h
      simp only [if_pos]
      refine ⟨?_, ⟨u, upd_same, r⟩, ?_, ?_, fun q hq => ?_⟩
      · rw [List.getElem?_append_right (by rw [k.len]; exact Nat.le_refl _), k.len, Nat.sub_self]; rfl
      · exact k.ok.gh.free hp
      · exact k.ok.fh.free hp
      · intro z
        obtain ⟨_, _, _, e, _⟩ := k.ok.am q hq
        rw [z, hp] at e; cases e
    · have hl := lt_of h (by intro z; cases z) hj
      rw [gt_app_lt hl] at h
      simp only [if_neg hj]
      rw [get_lt hl]
      exact x.cel j q h
  · by_cases h1 : a = en.length
    · by_cases h2 : b = en.length
      · rw [h1, h2]
      · have hl := lt_of hb (by intro z; cases z) h2
        rw [gt_app_lt hl] at hb
        simp only [if_pos h1, if_neg h2] at hc
        exact absurd hc.symm (cfresh b q2 hb)
    · have hl := lt_of ha (by intro z; cases z) h1
      rw [gt_app_lt hl] at ha
      by_cases h2 : b = en.length
      · simp only [if_pos h2, if_neg h1] at hc
        exact absurd hc (cfresh a q1 ha)
      · have hl2 := lt_of hb (by intro z; cases z) h2
        rw [gt_app_lt hl2] at hb
        simp only [if_neg h2, if_neg h1] at hc
        exact x.inj a b q1 q2 ha hb hc
/-- the temporary place is left, the object moves to a slot -/
theorem EnvOk.move {p : Addr} {o : HD} {i : Nat} (k : EnvOk K A F G H (σ ++ [some (.ref p)]) (en ++ [.cel o])) : EnvOk K A F G H (σ.set i (some (.ref p))) (st en i (.cel o)) := by
  obtain ⟨c, x⟩ := k.ex
  have hlen : σ.length = en.length := by
    have h := k.len
    rw [List.length_append, List.length_append] at h
    exact Nat.add_right_cancel h
  have get_lt : ∀ {j : Nat}, j < en.length → (σ ++ [some (V.ref p)])[j]? = σ[j]? := fun {j} h => by
    rw [List.getElem?_append_left (by rw [hlen]; exact h)]
  have lt_of : ∀ {j : Nat} {q : EV}, gt en j = q → q ≠ .un → j < en.length := fun {j q} h1 h2 => by
    rcases Nat.lt_or_ge j en.length with h' | h'
    · exact h'
    · exact absurd (gt_ge h') (by rw [h1]; exact h2)
  obtain ⟨t1, t2⟩ := x.cel en.length o gt_app_eq
  have cp : c en.length = p := by
    rw [List.getElem?_append_right (by rw [hlen]; exact Nat.le_refl _), hlen, Nat.sub_self] at t1
    have t1 : some (some (V.ref p)) = some (some (V.ref (c en.length))) := t1
    injection t1 with t1; injection t1 with t1; injection t1 with t1; exact t1.symm
  rw [cp] at t2
  refine ⟨k.ok, by rw [List.length_set, st_len]; exact hlen, fun j => if j = i then p else c j, fun j d h => ?_, fun j q h => ?_, fun a b q1 q2 ha hb hc => ?_⟩
  · rw [gt_st] at h
    split at h
    · cases h
    · rename_i hj
      have hl := lt_of h (by intro z; cases z)
      rw [List.getElem?_set_ne (by intro z; subst z; exact hj ⟨rfl, hl⟩)]
      obtain ⟨v, e1, e2⟩ := x.dat j d (by rw [gt_app_lt hl]; exact h)
      rw [get_lt hl] at e1
      exact ⟨v, e1, e2⟩
  · rw [gt_st] at h
    split at h
    · rename_i hj
      cases h
      have ej := hj.1
      subst ej
      simp only [if_pos]
      exact ⟨by rw [List.getElem?_set_self (by rw [hlen]; exact hj.2)], t2⟩
    · rename_i hj
      have hl := lt_of h (by intro z; cases z)
      have hji : j ≠ i := by intro z; subst z; exact hj ⟨rfl, hl⟩
      rw [List.getElem?_set_ne hji.symm]
      obtain ⟨e1, e2⟩ := x.cel j q (by rw [gt_app_lt hl]; exact h)
      rw [get_lt hl] at e1
      simp only [if_neg hji]
      exact ⟨e1, e2⟩
  · have key : ∀ j q, gt (st en i (.cel o)) j = .cel q → j ≠ i → gt (en ++ [.cel o]) j = .cel q ∧ j < en.length := fun j q h hj => by
      rw [gt_st, if_neg (fun z => hj z.1)] at h
      have hl := lt_of h (by intro z; cases z)
      exact ⟨by rw [gt_app_lt hl]; exact h, hl⟩
    have kei : ∀ q, gt (st en i (.cel o)) i = .cel q → i < en.length := fun q h => by
      rw [gt_st] at h
      split at h
      · rename_i z; exact z.2
      · exact lt_of h (by intro z; cases z)
    by_cases h1 : a = i
    · by_cases h2 : b = i
      · rw [h1, h2]
      · obtain ⟨hb', lb⟩ := key b q2 hb h2
        simp only [if_pos h1, if_neg h2] at hc
        have := x.inj en.length b o q2 gt_app_eq hb' (by rw [cp]; exact hc)
        omega
    · obtain ⟨ha', la⟩ := key a q1 ha h1
      by_cases h2 : b = i
      · simp only [if_pos h2, if_neg h1] at hc
        have := x.inj en.length a o q1 gt_app_eq ha' (by rw [cp]; exact hc.symm)
        omega
      · obtain ⟨hb', lb⟩ := key b q2 hb h2
        simp only [if_neg h2, if_neg h1] at hc
        exact x.inj a b q1 q2 ha' hb' hc
/-- the object of a slot changes -/
theorem EnvOk.alter {i : Nat} {o o' : HD} {a : Addr} {u' : HO} (k : EnvOk K A F G H σ en) (e : gt en i = .cel o) (ha : σ[i]? = some (some (.ref a))) (r : RepO K G o' u') : EnvOk K A F G (upd H a u') σ (st en i (.cel o')) := by
  obtain ⟨c, x⟩ := k.ex
  obtain ⟨e1, ⟨u, e2, e3⟩, e4, e5, e6⟩ := x.cel i o e
  have ca : c i = a := by
    rw [ha] at e1
    injection e1 with e1; injection e1 with e1; injection e1 with e1; exact e1.symm
  subst ca
  have hl : i < en.length := by
    rcases Nat.lt_or_ge i en.length with h' | h'
    · exact h'
    · rw [gt_ge h'] at e; cases e
  have sG : Same G (upd H (c i) u') := fun b w hb => by
    rw [upd_ne (fun z => by subst z; rw [e4] at hb; cases hb)]
    exact k.ok.gh _ _ hb
  refine ⟨⟨sG, fun b w hb => ?_, k.ok.fa, fun q hq => ?_⟩, by rw [st_len]; exact k.len, c, fun j d h => ?_, fun j q h => ?_, fun s t q1 q2 hs ht hc => ?_⟩
  · rw [upd_ne (fun z => by subst z; rw [e5] at hb; cases hb)]
    exact k.ok.fh _ _ hb
  · obtain ⟨a1, o1, u1, a2, a3, a4⟩ := k.ok.am q hq
    exact ⟨a1, o1, u1, by rw [upd_ne (e6 q hq)]; exact a2, a3, a4⟩
  · rw [gt_st] at h
    split at h
    · cases h
    · exact x.dat j d h
  · rw [gt_st] at h
    split at h
    · rename_i hj
      cases h
      have ej := hj.1
      subst ej
      exact ⟨ha, ⟨u', upd_same, r⟩, e4, e5, e6⟩
    · rename_i hj
      obtain ⟨f1, ⟨u1, f2, f3⟩, f4⟩ := x.cel j q h
      have nj : c j ≠ c i := fun z => by
        have := x.inj j i q o h e z
        exact hj ⟨this, hl⟩
      exact ⟨f1, ⟨u1, by rw [upd_ne nj]; exact f2, f3⟩, f4⟩
  · have key : ∀ j q, gt (st en i (.cel o')) j = .cel q → ∃ q', gt en j = .cel q' := fun j q h => by
      rw [gt_st] at h
      split at h
      · rename_i z; rw [z.1]; exact ⟨o, e⟩
      · exact ⟨q, h⟩
    obtain ⟨p1, h1⟩ := key s q1 hs
    obtain ⟨p2, h2⟩ := key t q2 ht
    exact x.inj s t p1 p2 h1 h2 hc
/-- the frame may grow -/
theorem EnvOk.slot {i : Nat} {o : HD} (k : EnvOk K A F G H σ en) (e : gt en i = .cel o) : ∃ a u, σ[i]? = some (some (.ref a)) ∧ H a = some u ∧ RepO K G o u := by
  obtain ⟨c, x⟩ := k.ex
  obtain ⟨e1, ⟨u, e2, e3⟩, _⟩ := x.cel i o e
  exact ⟨c i, u, e1, e2, e3⟩
end

/-! ### statements -/
structure Ed where
  nx : En → Prop
  rt : D → Prop
  bk : En → Prop := fun _ => False
  ct : En → Prop := fun _ => False
abbrev FS := En → Ed → Prop
def LS (K : PySem.W.Frag) (A : Am) (f : FS) : TS := fun Dd σ H => ∃ (F G : Hp) (en : En) (Ψ : Ed), EnvOk K A F G H σ en ∧ f en Ψ ∧
  (∀ e σ' G' H', Ψ.nx e → EnvOk K A F G' H' σ' e → Step F G G' → Dd.nx σ' H') ∧
  (∀ d v G' H', Ψ.rt d → StOk K A F G' H' → Step F G G' → Rep K G' d v → Dd.rt v H') ∧
  (∀ e σ' G' H', Ψ.bk e → EnvOk K A F G' H' σ' e → Step F G G' → Dd.bk σ' H') ∧
  (∀ e σ' G' H', Ψ.ct e → EnvOk K A F G' H' σ' e → Step F G G' → Dd.ct σ' H')
abbrev DS (X : Cx) (A : Am) (s : Stmt) (f : FS) : Prop := PS X s (LS X.K A f)
abbrev DSs (X : Cx) (A : Am) (s : List Stmt) (f : FS) : Prop := PSs X s (LS X.K A f)
def fNext : FS := fun en Ψ => Ψ.nx en
def fSeq (f g : FS) : FS := fun en Ψ => f en { Ψ with nx := fun e => g e Ψ }
def fDrop (fa : FE) : FS := fun en Ψ => fa en fun _ e => Ψ.nx e
def fRet (fa : FE) : FS := fun en Ψ => fa en fun d _ => Ψ.rt d
def fRetN : FS := fun en Ψ => Ψ.rt .non
def fIfS (ft : FT) (f g : FS) : FS := fun en Ψ => ft en fun c e => if c = true then f e Ψ else g e Ψ
def fBreak : FS := fun en Ψ => Ψ.bk en
def fCont : FS := fun en Ψ => Ψ.ct en
section
variable {X : Cx} {A : Am} {s : Stmt} {ss : List Stmt} {e a b c : Expr} {es : List Expr} {pos : Pos} {fa fb : FE} {ft : FT} {f g h : FS}
theorem dss_nil : DSs X A [] fNext := pss_weak pss_nil fun Dd σ H ⟨F, G, en, Ψ, k, h, q, _⟩ => q en σ G H h k (Step.refl _ _)
theorem dss_cons (h1 : DS X A s f) (h2 : DSs X A ss g) : DSs X A (s :: ss) (fSeq f g) := pss_weak (pss_cons h1 h2) fun Dd σ H ⟨F, G, en, Ψ, k, h, q1, q2, q3, q4⟩ =>
  ⟨F, G, en, _, k, h, fun e σ' G1 H1 hg k1 s1 => ⟨F, G1, e, Ψ, k1, hg, fun e2 σ2 G2 H2 z k2 s2 => q1 e2 σ2 G2 H2 z k2 (s1.trans s2), fun d v G2 H2 z k2 s2 => q2 d v G2 H2 z k2 (s1.trans s2), fun e2 σ2 G2 H2 z k2 s2 => q3 e2 σ2 G2 H2 z k2 (s1.trans s2), fun e2 σ2 G2 H2 z k2 s2 => q4 e2 σ2 G2 H2 z k2 (s1.trans s2)⟩, q2, q3, q4⟩
theorem dss_one (h1 : DS X A s f) : DSs X A [s] f := pss_one h1
theorem ds_pass {p : Pos} : DS X A (.Pass p) fNext := ps_weak ps_pass fun Dd σ H ⟨F, G, en, Ψ, k, h, q, _⟩ => q en σ G H h k (Step.refl _ _)
theorem ds_break {p : Pos} : DS X A (.Break p) fBreak := ps_weak ps_break fun Dd σ H ⟨F, G, en, Ψ, k, h, _, _, q, _⟩ => q en σ G H h k (Step.refl _ _)
theorem ds_cont {p : Pos} : DS X A (.Continue p) fCont := ps_weak ps_continue fun Dd σ H ⟨F, G, en, Ψ, k, h, _, _, _, q⟩ => q en σ G H h k (Step.refl _ _)
theorem ds_expr (he : DE X A e fa) (hs : swapsWith e none pos.line X.env = pure false := by rfl) : DS X A (.Expr e pos) (fDrop fa) := ps_weak (ps_expr he hs) fun Dd σ H ⟨F, G, en, Ψ, k, h, q1, _⟩ =>
  ⟨F, G, en, _, k, h, fun d e1 v G1 H1 z k1 s1 _ => q1 e1 σ G1 H1 z k1 s1⟩
theorem ds_ret (he : DE X A e fa) : DS X A (.Return (some e) pos) (fRet fa) := ps_weak (ps_ret he) fun Dd σ H ⟨F, G, en, Ψ, k, h, _, q2, _⟩ =>
  ⟨F, G, en, _, k, h, fun d e1 v G1 H1 z k1 s1 r1 => q2 d v G1 H1 z k1.ok s1 r1⟩
theorem ds_retN : DS X A (.Return none pos) fRetN := ps_weak ps_retN fun Dd σ H ⟨F, G, en, Ψ, k, h, _, q2, _⟩ => q2 .non .non G H h k.ok (Step.refl _ _) (rep_non.mpr rfl)
theorem ds_if {sa sb : List Stmt} (hc : DT X A c ft) (ha : DSs X A sa f) (hb : DSs X A sb g) : DS X A (.If c sa sb pos) (fIfS ft f g) := ps_weak (ps_if hc ha hb) fun Dd σ H ⟨F, G, en, Ψ, k, h, q1, q2, q3, q4⟩ => by
  refine ⟨F, G, en, _, k, h, fun b e1 G1 H1 hg k1 s1 => ?_⟩
  cases b with
  | true => exact ⟨F, G1, e1, Ψ, k1, hg, fun e2 σ2 G2 H2 z k2 s2 => q1 e2 σ2 G2 H2 z k2 (s1.trans s2), fun d v G2 H2 z k2 s2 => q2 d v G2 H2 z k2 (s1.trans s2), fun e2 σ2 G2 H2 z k2 s2 => q3 e2 σ2 G2 H2 z k2 (s1.trans s2), fun e2 σ2 G2 H2 z k2 s2 => q4 e2 σ2 G2 H2 z k2 (s1.trans s2)⟩
  | false => exact ⟨F, G1, e1, Ψ, k1, hg, fun e2 σ2 G2 H2 z k2 s2 => q1 e2 σ2 G2 H2 z k2 (s1.trans s2), fun d v G2 H2 z k2 s2 => q2 d v G2 H2 z k2 (s1.trans s2), fun e2 σ2 G2 H2 z k2 s2 => q3 e2 σ2 G2 H2 z k2 (s1.trans s2), fun e2 σ2 G2 H2 z k2 s2 => q4 e2 σ2 G2 H2 z k2 (s1.trans s2)⟩

/-! ### targets -/
abbrev FG := D → En → (En → Prop) → Prop
abbrev FGs := List D → En → (En → Prop) → Prop
def LG (K : PySem.W.Frag) (A : Am) (vs : List Nat) (g : FG) : TG := fun v σ H Q => ∃ (F G : Hp) (en : En) (d : D) (Ψ : En → Prop), EnvOk K A F G H σ en ∧ Rep K G d v ∧ g d en Ψ ∧
  ∀ e σ' G' H', Ψ e → EnvOk K A F G' H' σ' e → Step F G G' → wipe σ' vs = wipe σ vs → Q σ' H'
def LGs (K : PySem.W.Frag) (A : Am) (vs : List Nat) (g : FGs) : TGs := fun v σ H Q => ∃ (F G : Hp) (en : En) (d : List D) (Ψ : En → Prop), EnvOk K A F G H σ en ∧ RepA K G d v ∧ g d en Ψ ∧
  ∀ e σ' G' H', Ψ e → EnvOk K A F G' H' σ' e → Step F G G' → wipe σ' vs = wipe σ vs → Q σ' H'
abbrev DG (X : Cx) (A : Am) (vs : List Nat) (t : Expr) (g : FG) : Prop := PG X t (LG X.K A vs g)
abbrev DGs (X : Cx) (A : Am) (vs : List Nat) (t : List Expr) (g : FGs) : Prop := PGs X t (LGs X.K A vs g)
theorem pg_weak {X : Cx} {e : Expr} {t t' : TG} (h : PG X e t) (k : ∀ v σ H Q, t' v σ H Q → t v σ H Q) : PG X e t' := ⟨fun pins s σ H v u Q I r q => h.run pins s σ H v u Q I r (k v σ H Q q)⟩
theorem pgs_weak {X : Cx} {e : List Expr} {t t' : TGs} (h : PGs X e t) (k : ∀ v σ H Q, t' v σ H Q → t v σ H Q) : PGs X e t' := ⟨fun pins s σ H v u Q I r q => h.run pins s σ H v u Q I r (k v σ H Q q)⟩
theorem wipe_set {v : Option V} {i : Nat} : ∀ {vs : List Nat} {σ : L2.St}, i ∈ vs → wipe (σ.set i v) vs = wipe σ vs
  | [], _, h => by simp at h
  | w :: vs, σ, h => by
    unfold wipe
    by_cases hw : i ∈ vs
    · rw [wipe_set hw]
    · have : i = w := by
        rcases List.mem_cons.mp h with z | z
        · exact z
        · exact absurd z hw
      subst this
      clear h
      have aux : ∀ (vs : List Nat) (σ : L2.St), (wipe (σ.set i v) vs).set i none = (wipe σ vs).set i none := fun vs => by
        induction vs with
        | nil => intro σ; unfold wipe; rw [List.set_set]
        | cons x r ih =>
          intro σ
          unfold wipe
          by_cases hx : x = i
          · subst hx; rw [List.set_set, List.set_set, ih]
          · rw [List.set_comm _ _ (by exact hx), ih, List.set_comm _ _ (by exact fun z => hx z.symm)]
      exact aux vs σ
def gN (i : Nat) : FG := fun d en Φ => Φ (st en i (.dat d))
theorem dg_name {i : Nat} {x : Str} {vs : List Nat} (hN : X.N.Nodup) (hi : X.N[i]? = some x) (hx : Loc X.env.scope x) (hm : i ∈ vs := by decide) (hf : X.fn x = true ∨ X.env.scope.names.lookup x = some .local := by first | exact .inl rfl | exact .inr rfl | assumption) : DG X A vs (.Name x pos) (gN i) :=
  pg_weak (pg_name hN hi hx hf) fun v σ H Q ⟨F, G, en, d, Ψ, k, r, h, q⟩ => q _ _ G H h (k.put r) (Step.refl _ _) (wipe_set hm)
def gNl : FGs := fun ds en Φ => ds = [] ∧ Φ en
def gCs (g : FG) (gs : FGs) : FGs := fun ds en Φ => match ds with
  | d :: r => g d en fun e => gs r e Φ
  | [] => False
theorem dgs_nil {vs : List Nat} : DGs X A vs [] gNl := pgs_weak pgs_nil fun v σ H Q ⟨F, G, en, d, Ψ, k, r, h, q⟩ => by
  obtain ⟨rfl, h⟩ := h
  unfold RepA at r
  exact ⟨r, q _ _ G H h k (Step.refl _ _) rfl⟩
theorem dgs_cons {vs : List Nat} {gg : FG} {gs : FGs} (h1 : DG X A vs e gg) (h2 : DGs X A vs es gs) (hs : (assignEach (e :: es) X.env).map (·.2) = assign e X.env :: (assignEach es X.env).map (·.2) := by rfl) : DGs X A vs (e :: es) (gCs gg gs) :=
  pgs_weak (pgs_cons h1 h2 hs) fun v σ H Q ⟨F, G, en, d, Ψ, k, r, h, q⟩ => by
    cases d with
    | nil => exact h.elim
    | cons d0 dr =>
      unfold RepA at r
      obtain ⟨x, xs, rfl, r1, r2⟩ := r
      exact ⟨x, xs, rfl, F, G, en, d0, _, k, r1, h, fun e1 σ1 G1 H1 hh k1 s1 w1 => ⟨F, G1, e1, dr, _, k1, r2.mono s1.g, hh, fun e2 σ2 G2 H2 z k2 s2 w2 => q e2 σ2 G2 H2 z k2 (s1.trans s2) (w2.trans w1)⟩⟩
def gT (n : Nat) (gs : FGs) : FG := fun d en Φ => match d with
  | .tup l => l.length = n ∧ gs l en Φ
  | _ => False
theorem dg_tup {vs : List Nat} {k : Nat} {gs : FGs} {n : Nat} (hc : X.calm = true) (h : DGs X A vs es gs) (hn : (assignEach es X.env).length = n := by rfl) (hst : (assignEach es X.env).findIdx? (·.1) = none := by rfl) : DG X A vs (.Tuple es k pos) (gT n gs) :=
  pg_weak (pg_tup hc h hn hst) fun v σ H Q ⟨F, G, en, d, Ψ, kk, r, h, q⟩ => by
    cases d with
    | tup l =>
      obtain ⟨hl, h⟩ := h
      obtain ⟨a, xs, rfl, sq, ra⟩ := rep_tup.mp r
      exact ⟨a, xs, rfl, sqt_mono kk.ok.gh sq, by rw [ra.len]; exact hl, F, G, en, l, Ψ, kk, ra, h, q⟩
    | _ => exact h.elim
def fAsg (fa : FE) (g : FG) : FS := fun en Ψ => fa en fun d e => g d e Ψ.nx
theorem ds_asg {tg : Expr} {vs : List Nat} {gg : FG} (he : DE X A e fa) (hg : DG X A vs tg gg) (hs : swapsWithSole [tg] e pos.line X.env = pure false := by rfl) (hw : swappedStores [tg] e X.env = pure none := by rfl)
    (h1 : (assignEach [tg] X.env).map (·.2) = [assign tg X.env] := by rfl) : DS X A (.Assign [tg] e pos) (fAsg fa gg) := ps_weak (ps_asg he hg hs hw h1) fun Dd σ H ⟨F, G, en, Ψ, k, h, q1, _⟩ =>
  ⟨F, G, en, _, k, h, fun d e1 v G1 H1 z k1 s1 r1 => ⟨F, G1, e1, d, Ψ.nx, k1, r1, z, fun e2 σ2 G2 H2 z2 k2 s2 _ => q1 e2 σ2 G2 H2 z2 k2 (s1.trans s2)⟩⟩
/-- a, b = e1, e2 -/
def fPar (i j : Nat) (fr : FA) : FS := fun en Ψ => fr en fun xs e => match xs with
  | [x, y] => Ψ.nx (st (st e i (.dat x)) j (.dat y))
  | _ => False
theorem ds_par {i j : Nat} {x y : Str} {fr : FA} {px py pt : Pos} {kt k2 pt2} (hc : X.calm = true) (hN : X.N.Nodup) (hi : X.N[i]? = some x) (hj : X.N[j]? = some y) (hij : i ≠ j)
    (hx : X.env.scope.names.lookup x = some .local) (hy : X.env.scope.names.lookup y = some .local) (ha : DA X A [a, b] fr)
    (hw : swappedStores [.Tuple [.Name x px, .Name y py] kt pt] (.Tuple [a, b] k2 pt2) X.env = pure (some [x, y]) := by rfl)
    (hs : swapsWithSole [.Tuple [.Name x px, .Name y py] kt pt] (.Tuple [a, b] k2 pt2) pos.line X.env = pure false := by rfl) :
    DS X A (.Assign [.Tuple [.Name x px, .Name y py] kt pt] (.Tuple [a, b] k2 pt2) pos) (fPar i j fr) := ps_weak (ps_par hc hN hi hj hij hx hy ha hw hs) fun Dd σ H ⟨F, G, en, Ψ, k, h, q1, _⟩ =>
  ⟨F, G, en, _, k, h, fun d e1 v G1 H1 z k1 s1 r1 => by
    match d, z with
    | [d1, d2], z =>
      unfold RepA at r1
      obtain ⟨v1, r, rfl, p1, r1⟩ := r1
      unfold RepA at r1
      obtain ⟨v2, r, rfl, p2, r1⟩ := r1
      unfold RepA at r1
      subst r1
      exact ⟨v1, v2, rfl, q1 _ _ G1 H1 z ((k1.put p1).put p2) s1⟩⟩
/-- x op= e -/
def fAug (i : Nat) (fe : FE) (r : R2D) : FS := fun en Ψ => match gt en i with
  | .dat x => fe en fun y e => gt e i = .dat x ∧ r x y fun z => Ψ.nx (st e i (.dat z))
  | _ => False
theorem ds_aug {i : Nat} {x : Str} {op : Operator} {r : R2D} {pos' : Pos} (hN : X.N.Nodup) (hi : X.N[i]? = some x) (hx : Loc X.env.scope x) (he : DE X A e fa) (ho : PIp X op (LR2 X.K r))
    (hf : X.fn x = true ∨ X.env.scope.names.lookup x = some .local := by first | exact .inl rfl | exact .inr rfl | assumption) : DS X A (.AugAssign (.Name x pos') op e pos) (fAug i fa r) := ps_weak (ps_aug hN hi hx he ho hf) fun Dd σ H ⟨F, G, en, Ψ, k, h, q1, _⟩ => by
  unfold fAug at h
  cases eg : gt en i with
  | un => rw [eg] at h; exact h.elim
  | cel o => rw [eg] at h; exact h.elim
  | dat d =>
    rw [eg] at h
    obtain ⟨c, sl⟩ := k.ex
    obtain ⟨v, e1, e2⟩ := sl.dat i d eg
    exact ⟨v, e1, F, G, en, _, k, h, fun y ey w G1 H1 hz k1 s1 r1 => ⟨G1, d, y, _, k1.ok.gh, e2.mono s1.g, r1, hz.2, fun z u G2 H2 h2 g2 s2 r2 => q1 _ _ G2 H2 h2 ((k1.grow g2 s2).put r2) (s1.trans (g2.step k1.ok.fh))⟩⟩

/-! ### what a loop walks -/
abbrev FI := En → (List D → En → Prop) → Prop
/-- an iterator that yields these data -/
structure Yl (K : PySem.W.Frag) (J : It) (G : Hp) (items : List D) : Prop where
  go : ∀ G1 H1 k, Same G G1 → Same G1 H1 → k < items.length → J.go k H1
  yl : ∀ G1 H1 k x H2 d, Same G G1 → Same G1 H1 → items[k]? = some d → J.yld k H1 x H2 → ∃ G2, Grow G1 H1 G2 H2 ∧ Same G2 H2 ∧ Rep K G2 d x
  sp : ∀ G1 H1 k, Same G G1 → Same G1 H1 → items.length ≤ k → J.stop k H1
def LI (K : PySem.W.Frag) (A : Am) (f : FI) : TI := fun σ H R => ∃ (F G : Hp) (en : En) (Ψ : List D → En → Prop), EnvOk K A F G H σ en ∧ f en Ψ ∧
  ∀ items e' G' H' J, Ψ items e' → EnvOk K A F G' H' σ e' → Step F G G' → Yl K J G' items → R J H'
abbrev DI (X : Cx) (A : Am) (tg e : Expr) (f : FI) : Prop := PI X tg e (LI X.K A f)
/-- what a for asks behind its source -/
def ForGoal (g : FG) (fb : FS) (e1 : En) (items : List D) (Ψ : Ed) : Prop := ∃ I : Nat → En → Prop, I 0 e1 ∧
  (∀ k x e, items[k]? = some x → I k e → g x e fun e2 => fb e2 { nx := I (k + 1), ct := I (k + 1), bk := Ψ.nx, rt := Ψ.rt }) ∧ ∀ e, I items.length e → Ψ.nx e
def fFor (fi : FI) (g : FG) (fb : FS) : FS := fun en Ψ => fi en fun items e1 => ForGoal g fb e1 items Ψ
theorem ds_for {iter tg : Expr} {body : List Stmt} {fi : FI} {gg : FG} {fb : FS} {vs : List Nat} (hp : PassesOwn (model X.prog X.w) X.A X.env X.xe) (hc : X.calm = true) (hi : DI X A tg iter fi) (hg : DG X A vs tg gg) (hb : DSs X A body fb)
    (hs : ∀ x, foldedSetIterable iter X.env x = pure x := by intro _; rfl) : DS X A (.For tg iter body [] pos) (fFor fi gg fb) := ps_weak (ps_for hp hc hi hg hb hs) fun Dd σ H ⟨F, G, en, Ψ, k, h, q1, q2, q3, q4⟩ =>
  ⟨F, G, en, _, k, h, fun items e1 G1 H1 J hI k1 s1 Y => by
    obtain ⟨I, i0, it, id⟩ := hI
    refine ⟨fun i m σ' H' => ∃ e G', EnvOk X.K A F G' H' σ' e ∧ Step F G1 G' ∧ I i e ∧ i + m = items.length, ⟨items.length, e1, G1, k1, Step.refl _ _, i0, by omega⟩, fun i m σ2 H2 w => ?_⟩
    obtain ⟨e2, G2, k2, s2, ie, hm⟩ := w
    by_cases hi : i < items.length
    · refine .inr ⟨Y.go G2 H2 i s2.g k2.ok.gh hi, fun σ' H' => ∃ e G', EnvOk X.K A F G' H' σ' e ∧ Step F G1 G' ∧ I (i + 1) e, fun σ' H' ⟨e, G', a, b, c⟩ => ⟨m - 1, by omega, e, G', a, b, c, by omega⟩, fun x H' hy => ?_⟩
      obtain ⟨G3, g3, s3, r3⟩ := Y.yl G2 H2 i x H' _ s2.g k2.ok.gh (List.getElem?_eq_getElem hi) hy
      have k3 := k2.grow g3 s3
      have st3 := s2.trans (g3.step k2.ok.fh)
      exact ⟨F, G3, e2, _, _, k3, r3, it i _ e2 (List.getElem?_eq_getElem hi) ie, fun e4 σ4 G4 H4 hb4 k4 s4 _ => ⟨F, G4, e4, _, k4, hb4,
        fun e5 σ5 G5 H5 z k5 s5 => ⟨e5, G5, k5, (st3.trans s4).trans s5, z⟩, fun d v G5 H5 z k5 s5 => q2 d v G5 H5 z k5 (((s1.trans st3).trans s4).trans s5),
        fun e5 σ5 G5 H5 z k5 s5 => q1 e5 σ5 G5 H5 z k5 (((s1.trans st3).trans s4).trans s5), fun e5 σ5 G5 H5 z k5 s5 => ⟨e5, G5, k5, (st3.trans s4).trans s5, z⟩⟩⟩
    · have hil : i = items.length := by omega
      subst hil
      exact .inl ⟨Y.sp G2 H2 _ s2.g k2.ok.gh (Nat.le_refl _), q1 e2 σ2 G2 H2 (id e2 ie) k2 (s1.trans s2)⟩⟩
def fWhile (ft : FT) (fb : FS) : FS := fun en Ψ => ∃ I : Nat → En → Prop, (∃ m, I m en) ∧ ∀ m e, I m e → ft e fun b e1 => if b = true then
  fb e1 { nx := fun e2 => ∃ m', m' < m ∧ I m' e2, ct := fun e2 => ∃ m', m' < m ∧ I m' e2, bk := Ψ.nx, rt := Ψ.rt } else Ψ.nx e1
theorem ds_while {body : List Stmt} {fb : FS} (hp : PassesOwn (model X.prog X.w) X.A X.env X.xe) (hc : DT X A c ft) (hb : DSs X A body fb) : DS X A (.While c body [] pos) (fWhile ft fb) := ps_weak (ps_while hp hc hb) fun Dd σ H ⟨F, G, en, Ψ, k, h, q1, q2, q3, q4⟩ => by
  obtain ⟨I, ⟨m0, i0⟩, it⟩ := h
  refine ⟨fun m σ' H' => ∃ e G', EnvOk X.K A F G' H' σ' e ∧ Step F G G' ∧ I m e, ⟨m0, en, G, k, Step.refl _ _, i0⟩, fun m σ1 H1 w => ?_⟩
  obtain ⟨e1, G1, k1, s1, ie⟩ := w
  refine ⟨F, G1, e1, _, k1, it m e1 ie, fun b e2 G2 H2 hb2 k2 s2 => ?_⟩
  cases b with
  | true =>
    refine (show (if true = true then _ else _) from ?_)
    rw [if_pos rfl]
    refine ⟨fun σ' H' => ∃ m', m' < m ∧ ∃ e G', EnvOk X.K A F G' H' σ' e ∧ Step F G G' ∧ I m' e, fun σ' H' ⟨m', hm, w⟩ => ⟨m', hm, w⟩, F, G2, e2, _, k2, hb2, fun e5 σ5 G5 H5 z k5 s5 => ?_, fun d v G5 H5 z k5 s5 => q2 d v G5 H5 z k5 ((s1.trans s2).trans s5), fun e5 σ5 G5 H5 z k5 s5 => q1 e5 σ5 G5 H5 z k5 ((s1.trans s2).trans s5), fun e5 σ5 G5 H5 z k5 s5 => ?_⟩
    · obtain ⟨m', hm, z⟩ := z
      exact ⟨m', hm, e5, G5, k5, (s1.trans s2).trans s5, z⟩
    · obtain ⟨m', hm, z⟩ := z
      exact ⟨m', hm, e5, G5, k5, (s1.trans s2).trans s5, z⟩
  | false =>
    rw [if_neg Bool.false_ne_true]
    exact q1 e2 σ1 G2 H2 hb2 k2 (s1.trans s2)
end
end Dz

/-! rules of the machine that the layer lacks: t[::-1], t * 1 -/
namespace Dz
open PySem PySem.Spec PyProof.Rows L2
section
variable {prog : Program} {w : World} {A : Around} {E : Value → Shared → Prop} {s : Shared}
theorem places_rev (n : Nat) : Builtin.Slice.slicePlaces ((n : Int) - 1) (-1) (-1) = n := by
  unfold Builtin.Slice.slicePlaces
  have h1 : ¬ ((-1 : Int) > 0) := by omega
  simp only [h1, if_false, Int.neg_neg, Int.ediv_one]
  split <;> omega
theorem fm_congr {α β : Type} {f g : α → Option β} : ∀ {l : List α}, (∀ x ∈ l, f x = g x) → l.filterMap f = l.filterMap g
  | [], _ => rfl
  | x :: l, h => by
    rw [List.filterMap_cons, List.filterMap_cons, h x List.mem_cons_self, fm_congr fun y hy => h y (List.mem_cons_of_mem _ hy)]
theorem sliceApplied_rev {sl : Addr} {u : Tok} {n : Nat} {Q : Int × Int × Nat → Shared → Prop} (hs : s.heap.IsSliceOf sl .none .none (.int (-1) u))
    (h : Q ((n : Int) - 1, -1, n) s) : wpAny (model prog w) A (Builtin.Slice.sliceApplied (.ref sl) (pure (n : Int))) Q E s := by
  obtain ⟨os, hos, hcs, hds⟩ := id hs
  unfold Builtin.Slice.sliceApplied Builtin.Slice.sliceFields
  refine wpAny_bind (wpAny_bind (wpAny_field hos hds (x := .none) rfl (wpAny_bind (wpAny_field hos hds (x := .none) rfl (wpAny_bind (wpAny_field hos hds (x := .int (-1) u) rfl (wpAny_pure ?_)))))))
  refine wpAny_bind (slicePart_int ?_)
  show wpAny _ _ (if ((-1 : Int) == 0) = true then _ else _) _ _ s
  rw [if_neg (by decide)]
  refine wpAny_bind (slicePart_none (wpAny_bind (slicePart_none (wpAny_bind (wpAny_pure ?_)))))
  show wpAny _ _ (match Builtin.Slice.sliceAdjust none none (-1) (n : Int) with | (lo, hi) => pure (lo, (-1 : Int), Builtin.Slice.slicePlaces lo hi (-1))) _ _ s
  have e : Builtin.Slice.sliceAdjust none none (-1) (n : Int) = ((n : Int) - 1, -1) := by
    unfold Builtin.Slice.sliceAdjust
    simp
  rw [e]
  show wpAny _ _ (pure ((n : Int) - 1, (-1 : Int), Builtin.Slice.slicePlaces ((n : Int) - 1) (-1) (-1))) _ _ s
  rw [places_rev]
  exact wpAny_pure h
theorem pick_rev (xs : Array Value) : ((List.range xs.size).filterMap fun (k : Nat) => xs[((xs.size : Int) - 1 + (k : Int) * (-1)).toNat]?).toArray = xs.toList.reverse.toArray := by
  have e : ((List.range xs.size).filterMap fun (k : Nat) => xs[((xs.size : Int) - 1 + (k : Int) * (-1)).toNat]?) = ((List.range xs.size).map fun k => xs.size - 1 - k).filterMap (xs[·]?) := by
    rw [List.filterMap_map]
    refine fm_congr fun k hk => ?_
    have := List.mem_range.mp hk
    have e2 : ((xs.size : Int) - 1 + (k : Int) * (-1)).toNat = xs.size - 1 - k := by omega
    simp only [e2, Function.comp]
  rw [e, PySem.W.krv_range, List.filterMap_reverse, PySem.W.krv_all]
theorem getItem_tuple_rev {t sl : Addr} {items : Array Value} {u : Tok} {Q : Value → Shared → Prop} (ht : IsTup s.heap t items) (hs : s.heap.IsSliceOf sl .none .none (.int (-1) u))
    (h : Q (.ref s.heap.objs.size) { s with heap := s.heap.push { cls := .type "tuple", data := .seq items.toList.reverse.toArray } })
    (hsz : items.size ≤ sizeLine) : wpAny (model prog w) A (getItem (.ref t) (.ref sl)) Q E s := by
  have htake : sizeOk (.seq items.toList.reverse.toArray) := by
    show items.toList.reverse.toArray.size ≤ sizeLine
    rw [List.size_toArray, List.length_reverse, Array.length_toList]
    exact hsz
  obtain ⟨os, hos, hcs, hds⟩ := id hs
  have hTs : s.TypeIs (.ref sl) "slice" := ⟨os, hos, hcs⟩
  unfold getItem
  try with_reducible refine wpAny_holding ?_
  first | refine wpAny_bind (wpAny_pure ?_) | skip
  refine wpAny_bind (wpAny_sequenceKey ht.typeIs (by decide) ?_)
  refine wpAny_bind (wpAny_callSpecial?_slot (name := Str.ofString "__getitem__") ht.typeIs PyProof.Rows.slot_tuple_getitem
    (wpAny_call_entry PyProof.Rows.slot_tuple_getitem ht.typeIs PyProof.Rows.entry_tuple_getitem ?_ (PyProof.Rows.args_tuple_getitem _ _)))
  show wpAny _ _ (Builtin.Tuple.tupleItemsOf (.ref t) >>= _) _ _ s
  refine wpAny_bind (PyProof.Rows.tupleItemsOf_ ht ?_)
  refine wpAny_bind (wpAny_typeOf hTs ?_)
  rw [if_pos (by decide)]
  refine wpAny_bind (sliceApplied_rev hs ?_)
  show wpAny _ _ (if (((items.size : Int) - 1) == 0 && (-1 : Int) == 1 && items.size == items.size) = true then _ else _) _ _ s
  have hno : ¬ ((((items.size : Int) - 1) == 0 && (-1 : Int) == 1 && items.size == items.size) = true) := by
    intro q
    rw [Bool.and_eq_true, Bool.and_eq_true] at q
    exact absurd q.1.2 (by decide)
  rw [if_neg hno, pick_rev]
  first
    | exact wpAny_bind (m := Builtin.Tuple.tupleExact _) (wpAny_newObj_type (wpAny_pure ⟨_, rfl, wpAny_pure h⟩) htake)
    | exact wpAny_bind (m := Builtin.Tuple.tupleExact _) (wpAny_newObj_type (wpAny_bind (wpAny_pure (wpAny_pure ⟨_, rfl, wpAny_pure h⟩))) htake)
    | exact wpAny_bind (wpAny_bind (m := Builtin.Tuple.tupleExact _) (wpAny_newObj_type (wpAny_pure (wpAny_pure ⟨_, rfl, wpAny_pure h⟩)) htake))
    | exact wpAny_bind (wpAny_bind (m := Builtin.Tuple.tupleExact _) (wpAny_newObj_type (wpAny_pure ⟨_, rfl, wpAny_pure h⟩) htake))
end
def tRevT (K : PySem.W.Frag) (te : TE) : TE := fun σ H Q => te σ H fun x H1 => ∃ a xs, x = .ref a ∧ SqT K H1 a xs ∧ ∀ p, H1 p = none → Q (.ref p) (upd H1 p (.tup xs.reverse))
theorem pe_revT {X : Cx} {e : Expr} {te : TE} {k : Nat} {p1 p2 p3 pos : Pos} (he : PE X e te) : PE X (.Subscript e (.Slice none none (some (.UnaryOp .USub (.Constant (.int 1) k p1) p2)) p3) pos) (tRevT X.K te) := by
  refine ⟨fun pins s σ H Q I h => ?_⟩
  refine Subscript_ (thn (he.run pins s σ H _ I h) fun v s1 ⟨x, H1, I1, r1, q1⟩ => ?_)
  obtain ⟨a, xs, ex, hx, q⟩ := q1
  subst ex
  cases r1
  have hst : PO X (some (.UnaryOp .USub (.Constant (.int 1) k p1) p2)) (tPart (tUn (rU fun i => .int (-i)) (tC (.int 1)))) := po_some (pe_un un_neg pe_int)
  refine wpAny_Slice (thn (po_none.run pins s1 σ H1 (fun o H2 => o = none ∧ H2 = H1) I1 ⟨rfl, rfl⟩) fun vl s2 ⟨l, H2, I2, pl, el, e2⟩ => ?_)
  subst el e2
  refine thn (po_none.run pins s2 σ H2 (fun o H3 => o = none ∧ H3 = H2) I2 ⟨rfl, rfl⟩) fun vu s3 ⟨u, H3, I3, pu, eu, e3⟩ => ?_
  subst eu e3
  refine thn (hst.run pins s3 σ H3 (fun o H4 => o = some (-1) ∧ H4 = H3) I3 ⟨1, rfl, -1, rfl, rfl, rfl⟩) fun vs s4 ⟨o, H4, I4, ps, eo, e4⟩ => ?_
  subst eo e4
  have I5 : Inv X pins σ H4 { s4 with heap := s4.heap.push { cls := .type "slice", data := .fields #[vl, vu, vs] } } := I4.kept (t' := s4.toks) fun b ob q => Heap.get?_push_of_some _ q
  obtain ⟨its, r, ht, hz⟩ := I5.tuple hx
  have hlen := r.length
  cases pl
  cases pu
  cases ps with
  | int i t =>
    show wpAny (model X.prog X.w) X.A (subscriptTail e (.Slice none none (some (.UnaryOp .USub (.Constant (.int 1) k p1) p2)) p3) (.ref a) (.ref s4.heap.objs.size)) (EP X pins σ Q) X.xe { s4 with heap := s4.heap.push { cls := .type "slice", data := .fields #[.none, .none, .int (-1) t] } }
    refine tail_any (ops := [.ref a, .ref s4.heap.objs.size]) ht.typeIs (PyProof.Rows.slot_tuple_getitem.lookup) ?_ (by with_unfolding_all rfl)
    refine getItem_tuple_rev ht (Heap.IsSliceOf.new _ .none .none (.int (-1) t)) ?_ (by rw [List.size_toArray]; omega)
    refine ⟨.ref _, _, I5.laid (t' := s4.toks) (o := .tup xs.reverse) (fun b ob q => Heap.get?_push_of_some _ q) (Nat.le_refl _) ?_, rfl, q _ (I5.hok.fresh (Nat.le_refl _))⟩
    refine ⟨by rw [List.length_reverse]; omega, its.reverse, ?_, ?_⟩
    · exact r.reverse
    · exact IsTup.new _ _
/-! t * 1 is t itself -/
theorem tuple_mul1 (l : Addr) (items : Array Value) (n : Nat) (dd : Option Addr) (sl : Array (Option Value)) (u : Tok) :
    Meets (Builtin.«tuple.__mul__» ⟨[.ref l, .int 1 u], []⟩) (fun _ R s => s.heap.get? l = some { cls := .type "tuple", dict := dd, data := .seq items n, slots := sl } ∧ R (.ok (.ret (Value.ref l))) s) :=
  .of_wp fun prog w A R s h => by
    obtain ⟨hp, g, d, tk, os⟩ := s
    obtain ⟨hl, h⟩ := h
    have f1 := AutoSeq1.idx_int
    have c0 : (decide ((1 : Int) < -(2 ^ 63)) || decide ((1 : Int) ≥ 2 ^ 63)) = false := by decide
    have c1 : (items.isEmpty || (1 : Int) == 1) = true := by
      rw [show ((1 : Int) == 1) = true from rfl, Bool.or_true]
    wp_walk using wpAny_loadPart' hl
    repeat (first
      | (refine wpAny_ite_false (decide_eq_false (by rw [c0]; exact Bool.false_ne_true)) ?_; wp_walk using wpAny_loadPart' hl)
      | (refine wpAny_ite_true (decide_eq_true c1) ?_; wp_walk using wpAny_loadPart' hl))
    all_goals exact ⟨_, rfl, h⟩
def rRep1T (K : PySem.W.Frag) : R2 := fun x y H Q => ∃ l xs, x = .ref l ∧ y = .int 1 ∧ SqT K H l xs ∧ Q (.ref l) H
theorem op_rep1T {X : Cx} : OpR X (binaryOp .Mult) (rRep1T X.K) := by
  intro pins s σ H x y v u Q I rx ry h
  obtain ⟨l, xs, rfl, rfl, hT, q⟩ := h
  cases rx
  obtain ⟨t, rfl⟩ := ry
  obtain ⟨its, r, ⟨⟨cls, dd, data, sl⟩, ho, hc, n, hd⟩, hs⟩ := I.tuple hT
  simp only at hc hd
  subst hc hd
  refine wpAny_binaryOp_repeat_ref (T := "tuple") (U := "int") (by decide) ⟨_, ho, rfl⟩ (fun s' => typeIs_int s' 1 t) noFill_tuple_mul PySem.F.fills_int_mul PySem.F.slot_int_rmul repeat_tuple PySem.F.slot_int_index.lookup
    (call_meets PySem.F.slot_int_rmul (typeIs_int s 1 t) PySem.F.entry_int_rmul (PySem.F.args_int_rmul_2 _ _) (int_rmul_tuple 1 t l its.toArray n dd sl)
      ⟨ho, rfl, ⟨_, ho, rfl⟩, call_meets PySem.F.slot_tuple_mul ⟨_, ho, rfl⟩ PySem.F.entry_tuple_mul (PySem.F.args_tuple_mul_2 _ _) (tuple_mul1 l its.toArray n dd sl t) ⟨ho, ?_⟩⟩)
  exact ⟨.ref l, H, I, rfl, q⟩
end Dz

namespace Dz
open PySem PySem.Spec PyProof.Rows L2

/-! ### plain data, and == -/
mutual
def eqD : D → D → Bool
  | .non, .non => true
  | .bl a, .bl b => a == b
  | .bl a, .int j => (if a then 1 else 0) == j
  | .int i, .bl b => i == (if b then 1 else 0)
  | .int i, .int j => i == j
  | .str x, .str y => x == y
  | .lst a, .lst b => eqL a b
  | .lst a, .fro b => eqL a b
  | .fro a, .lst b => eqL a b
  | .fro a, .fro b => eqL a b
  | .tup a, .tup b => eqL a b
  | _, _ => false
def eqL : List D → List D → Bool
  | [], [] => true
  | x :: a, y :: b => eqD x y && eqL a b
  | _, _ => false
end
mutual
def plD : Nat → D → Bool
  | _, .non => true
  | _, .bl _ => true
  | _, .int _ => true
  | _, .str x => PyData.strOk x
  | n, .tup l => match n with
    | 0 => false
    | m + 1 => plL m l
  | n, .lst l => match n with
    | 0 => false
    | m + 1 => plL m l
  | n, .fro l => match n with
    | 0 => false
    | m + 1 => plL m l
  | _, _ => false
def plL : Nat → List D → Bool
  | _, [] => true
  | n, x :: l => plD n x && plL n l
end
mutual
def toPy : D → PyData
  | .non => .none
  | .bl b => .bool b
  | .int i => .int i
  | .str x => .str x
  | .tup l => .tuple (toPyL l)
  | .lst l => .list (toPyL l)
  | .fro l => .list (toPyL l)
  | _ => .none
def toPyL : List D → List PyData
  | [] => []
  | x :: l => toPy x :: toPyL l
end
mutual
theorem rep_dp {K : PySem.W.Frag} {G H : Hp} (gh : Same G H) : ∀ (n : Nat) (d : D) (v : V), plD n d = true → Rep K G d v → Dp K H v (toPy d)
  | _, .non, v, _, h => by rw [rep_non.mp h]; exact .non
  | _, .bl b, v, _, h => by rw [rep_bl.mp h]; exact .bl b
  | _, .int b, v, _, h => by rw [rep_int.mp h]; exact .int b
  | _, .str b, v, _, h => by rw [rep_str.mp h]; exact .str b
  | 0, .tup l, v, h, _ => by unfold plD at h; cases h
  | m + 1, .tup l, v, hp, h => by
    obtain ⟨a, xs, rfl, s, r⟩ := rep_tup.mp h
    unfold plD at hp
    exact .tup (sqt_mono gh s) (rep_dpL gh m l xs hp r)
  | 0, .lst l, v, h, _ => by unfold plD at h; cases h
  | m + 1, .lst l, v, hp, h => by
    obtain ⟨a, xs, rfl, s, r⟩ := rep_lst.mp h
    unfold plD at hp
    exact .lst (.inl (.inl (gh _ _ s))) (rep_dpL gh m l xs hp r)
  | 0, .fro l, v, h, _ => by unfold plD at h; cases h
  | m + 1, .fro l, v, hp, h => by
    obtain ⟨a, xs, rfl, s, r⟩ := rep_fro.mp h
    unfold plD at hp
    exact .lst (gh.seq s) (rep_dpL gh m l xs hp r)
  | _, .dct _ _, _, h, _ => by unfold plD at h; cases h
  | _, .ins _ _ _, _, h, _ => by unfold plD at h; cases h
  | _, .tok _, _, h, _ => by unfold plD at h; cases h
  | _, .ty _, _, h, _ => by unfold plD at h; cases h
theorem rep_dpL {K : PySem.W.Frag} {G H : Hp} (gh : Same G H) : ∀ (n : Nat) (l : List D) (xs : List V), plL n l = true → RepA K G l xs → DpAll K H xs (toPyL l)
  | _, [], xs, _, h => by unfold RepA at h; subst h; exact .nil
  | n, d :: l, xs, hp, h => by
    unfold RepA at h
    obtain ⟨x, r, rfl, h1, h2⟩ := h
    unfold plL at hp
    rw [Bool.and_eq_true] at hp
    exact .cons (rep_dp gh n d x hp.1 h1) (rep_dpL gh n l r hp.2 h2)
end
mutual
theorem pl_lay : ∀ (n : Nat) (d : D), plD n d = true → (toPy d).canLay0 = true ∧ (toPy d).depth ≤ n + 1
  | n, .non, _ => by unfold toPy PyData.canLay0; exact ⟨rfl, by simp only [PyData.depth]; omega⟩
  | n, .bl b, _ => by unfold toPy PyData.canLay0; exact ⟨rfl, by simp only [PyData.depth]; omega⟩
  | n, .int b, _ => by unfold toPy PyData.canLay0; exact ⟨rfl, by simp only [PyData.depth]; omega⟩
  | n, .str b, h => by unfold plD at h; unfold toPy PyData.canLay0; exact ⟨h, by simp only [PyData.depth]; omega⟩
  | 0, .tup l, h => by unfold plD at h; cases h
  | m + 1, .tup l, h => by
    unfold plD at h
    obtain ⟨h1, h2⟩ := pl_layL m l h
    unfold toPy PyData.canLay0
    exact ⟨h1, by simp only [PyData.depth]; omega⟩
  | 0, .lst l, h => by unfold plD at h; cases h
  | m + 1, .lst l, h => by
    unfold plD at h
    obtain ⟨h1, h2⟩ := pl_layL m l h
    unfold toPy PyData.canLay0
    exact ⟨h1, by simp only [PyData.depth]; omega⟩
  | 0, .fro l, h => by unfold plD at h; cases h
  | m + 1, .fro l, h => by
    unfold plD at h
    obtain ⟨h1, h2⟩ := pl_layL m l h
    unfold toPy PyData.canLay0
    exact ⟨h1, by simp only [PyData.depth]; omega⟩
  | _, .dct _ _, h => by unfold plD at h; cases h
  | _, .ins _ _ _, h => by unfold plD at h; cases h
  | _, .tok _, h => by unfold plD at h; cases h
  | _, .ty _, h => by unfold plD at h; cases h
theorem pl_layL : ∀ (n : Nat) (l : List D), plL n l = true → PyData.canLayAll0 (toPyL l) = true ∧ PyData.depthAll (toPyL l) ≤ n + 1
  | n, [], _ => by unfold toPyL PyData.canLayAll0; exact ⟨rfl, by simp only [PyData.depthAll]; omega⟩
  | n, d :: l, h => by
    unfold plL at h
    rw [Bool.and_eq_true] at h
    obtain ⟨h1, h2⟩ := pl_lay n d h.1
    obtain ⟨h3, h4⟩ := pl_layL n l h.2
    unfold toPyL PyData.canLayAll0
    exact ⟨by rw [h1, h3]; rfl, by simp only [PyData.depthAll]; omega⟩
end
theorem pl_tup {n : Nat} {l : List D} (h : plD n (.tup l) = true) : ∃ m, n = m + 1 ∧ plL m l = true := by
  cases n with
  | zero => unfold plD at h; cases h
  | succ m => unfold plD at h; exact ⟨m, rfl, h⟩
theorem pl_lst {n : Nat} {l : List D} (h : plD n (.lst l) = true) : ∃ m, n = m + 1 ∧ plL m l = true := by
  cases n with
  | zero => unfold plD at h; cases h
  | succ m => unfold plD at h; exact ⟨m, rfl, h⟩
theorem pl_fro {n : Nat} {l : List D} (h : plD n (.fro l) = true) : ∃ m, n = m + 1 ∧ plL m l = true := by
  cases n with
  | zero => unfold plD at h; cases h
  | succ m => unfold plD at h; exact ⟨m, rfl, h⟩
mutual
theorem eqv_eqD : ∀ (x : D) (n m : Nat) (y : D), plD n x = true → plD m y = true → PyData.eqv (toPy x) (toPy y) = eqD x y
  | .non, n, m, y, hx, hy => by cases y <;> first | (unfold plD at hy; cases hy; done) | (unfold toPy eqD PyData.eqv; rfl)
  | .bl _, n, m, y, hx, hy => by cases y <;> first | (unfold plD at hy; cases hy; done) | (unfold toPy eqD PyData.eqv; rfl)
  | .int _, n, m, y, hx, hy => by cases y <;> first | (unfold plD at hy; cases hy; done) | (unfold toPy eqD PyData.eqv; rfl)
  | .str _, n, m, y, hx, hy => by cases y <;> first | (unfold plD at hy; cases hy; done) | (unfold toPy eqD PyData.eqv; rfl)
  | .tup a, n, m, y, hx, hy => by
    obtain ⟨n', _, hx'⟩ := pl_tup hx
    cases y with
    | tup b =>
      obtain ⟨m', _, hy'⟩ := pl_tup hy
      unfold toPy eqD PyData.eqv
      exact eqv_eqL a n' m' b hx' hy'
    | _ => first | (unfold plD at hy; cases hy; done) | (unfold toPy eqD PyData.eqv; rfl)
  | .lst a, n, m, y, hx, hy => by
    obtain ⟨n', _, hx'⟩ := pl_lst hx
    cases y with
    | lst b =>
      obtain ⟨m', _, hy'⟩ := pl_lst hy
      unfold toPy eqD PyData.eqv
      exact eqv_eqL a n' m' b hx' hy'
    | fro b =>
      obtain ⟨m', _, hy'⟩ := pl_fro hy
      unfold toPy eqD PyData.eqv
      exact eqv_eqL a n' m' b hx' hy'
    | _ => first | (unfold plD at hy; cases hy; done) | (unfold toPy eqD PyData.eqv; rfl)
  | .fro a, n, m, y, hx, hy => by
    obtain ⟨n', _, hx'⟩ := pl_fro hx
    cases y with
    | lst b =>
      obtain ⟨m', _, hy'⟩ := pl_lst hy
      unfold toPy eqD PyData.eqv
      exact eqv_eqL a n' m' b hx' hy'
    | fro b =>
      obtain ⟨m', _, hy'⟩ := pl_fro hy
      unfold toPy eqD PyData.eqv
      exact eqv_eqL a n' m' b hx' hy'
    | _ => first | (unfold plD at hy; cases hy; done) | (unfold toPy eqD PyData.eqv; rfl)
  | .dct _ _, _, _, _, h, _ => by unfold plD at h; cases h
  | .ins _ _ _, _, _, _, h, _ => by unfold plD at h; cases h
  | .tok _, _, _, _, h, _ => by unfold plD at h; cases h
  | .ty _, _, _, _, h, _ => by unfold plD at h; cases h
theorem eqv_eqL : ∀ (a : List D) (n m : Nat) (b : List D), plL n a = true → plL m b = true → PyData.eqvAll (toPyL a) (toPyL b) = eqL a b
  | [], _, _, [], _, _ => by unfold toPyL eqL PyData.eqvAll; rfl
  | [], _, _, y :: b, _, _ => by unfold toPyL eqL PyData.eqvAll; rfl
  | x :: a, _, _, [], _, _ => by unfold toPyL eqL PyData.eqvAll; rfl
  | x :: a, n, m, y :: b, hx, hy => by
    unfold plL at hx hy
    rw [Bool.and_eq_true] at hx hy
    unfold toPyL eqL PyData.eqvAll
    rw [eqv_eqD x n m y hx.1 hy.1, eqv_eqL a n m b hx.2 hy.2]
end
theorem shaped_pl {n : Nat} {d : D} (hn : n ≤ 63) (h : plD n d = true) : SeqAt.shaped (toPy d) = true := by
  obtain ⟨h1, h2⟩ := pl_lay n d h
  unfold SeqAt.shaped
  rw [h1, Bool.true_and]
  exact decide_eq_true (by omega)
/-! equal data are equal -/
mutual
def noBl : D → Bool
  | .bl _ => false
  | .tup l => noBlL l
  | .lst l => noBlL l
  | .int _ => true
  | .str _ => true
  | .non => true
  | _ => false
def noBlL : List D → Bool
  | [] => true
  | x :: l => noBl x && noBlL l
end
mutual
theorem eqD_eq : ∀ (x y : D), noBl x = true → noBl y = true → (eqD x y = true ↔ x = y)
  | .non, y, _, hy => by cases y <;> first | (unfold noBl at hy; cases hy; done) | (unfold eqD; simp)
  | .bl _, y, hx, hy => by unfold noBl at hx; cases hx
  | .int _, y, _, hy => by cases y <;> first | (unfold noBl at hy; cases hy; done) | (unfold eqD; simp)
  | .str _, y, _, hy => by cases y <;> first | (unfold noBl at hy; cases hy; done) | (unfold eqD; simp)
  | .tup a, y, hx, hy => by
    unfold noBl at hx
    cases y with
    | tup b =>
      unfold noBl at hy
      unfold eqD
      rw [eqL_eq a b hx hy]
      simp
    | _ => first | (unfold noBl at hy; cases hy; done) | (unfold eqD; simp)
  | .lst a, y, hx, hy => by
    unfold noBl at hx
    cases y with
    | lst b =>
      unfold noBl at hy
      unfold eqD
      rw [eqL_eq a b hx hy]
      simp
    | _ => first | (unfold noBl at hy; cases hy; done) | (unfold eqD; simp)
  | .fro _, _, h, _ => by unfold noBl at h; cases h
  | .dct _ _, _, h, _ => by unfold noBl at h; cases h
  | .ins _ _ _, _, h, _ => by unfold noBl at h; cases h
  | .tok _, _, h, _ => by unfold noBl at h; cases h
  | .ty _, _, h, _ => by unfold noBl at h; cases h
theorem eqL_eq : ∀ (a b : List D), noBlL a = true → noBlL b = true → (eqL a b = true ↔ a = b)
  | [], [], _, _ => by unfold eqL; simp
  | [], y :: b, _, _ => by unfold eqL; simp
  | x :: a, [], _, _ => by unfold eqL; simp
  | x :: a, y :: b, hx, hy => by
    unfold noBlL at hx hy
    rw [Bool.and_eq_true] at hx hy
    unfold eqL
    rw [Bool.and_eq_true, eqD_eq x y hx.1 hy.1, eqL_eq a b hx.2 hy.2]
    simp
end
/-! ### operations by their data -/
def rEqDD : R2D := fun x y Φ => plD 12 x = true ∧ plD 12 y = true ∧ Φ (.bl (eqD x y))
def rNeDD : R2D := fun x y Φ => plD 12 x = true ∧ plD 12 y = true ∧ Φ (.bl (!eqD x y))
def rAddD : R2D := fun x y Φ => match x, y with
  | .int i, .int j => Φ (.int (i + j))
  | .str a, .str b => a.length + b.length ≤ sizeLine ∧ Φ (.str (a ++ b))
  | .tup a, .tup b => a.length + b.length ≤ 100000 ∧ Φ (.tup (a ++ b))
  | .lst a, .lst b => a.length + b.length ≤ 100000 ∧ Φ (.lst (a ++ b))
  | _, _ => False
def rSubD : R2D := fun x y Φ => match x, y with
  | .int i, .int j => Φ (.int (i - j))
  | _, _ => False
def rMulD : R2D := fun x y Φ => match x, y with
  | .int i, .int j => CMul i j ∧ Φ (.int (i * j))
  | .tup a, .int k => a ≠ [] ∧ 1 ≤ k ∧ k ≤ 1000 ∧ a.length ≤ 1000 ∧ Φ (.tup (List.replicate k.toNat a).flatten)
  | .lst a, .int k => -(2 ^ 63) ≤ k ∧ k < 2 ^ 63 ∧ a.length * k.toNat ≤ 100000 ∧ Φ (.lst (List.replicate k.toNat a).flatten)
  | _, _ => False
def rModD : R2D := fun x y Φ => match x, y with
  | .int i, .int j => 0 < j ∧ Φ (.int (i % j))
  | _, _ => False
def rDivD : R2D := fun x y Φ => match x, y with
  | .int i, .int j => (0 < j ∧ j < 1073741824) ∧ Φ (.int (i / j))
  | _, _ => False
def rPowD : R2D := fun x y Φ => match x, y with
  | .int i, .int j => CPow i j ∧ Φ (.int (i ^ j.toNat))
  | _, _ => False
def rLtD : R2D := fun x y Φ => match x, y with
  | .int i, .int j => Φ (.bl (decide (i < j)))
  | .str i, .str j => Φ (.bl (decide (i.cps.toList < j.cps.toList)))
  | _, _ => False
def rLeD : R2D := fun x y Φ => match x, y with
  | .int i, .int j => Φ (.bl (decide (i ≤ j)))
  | .str i, .str j => Φ (.bl (!decide (j.cps.toList < i.cps.toList)))
  | _, _ => False
def rGtD : R2D := fun x y Φ => match x, y with
  | .int i, .int j => Φ (.bl (decide (j < i)))
  | _, _ => False
def rGeD : R2D := fun x y Φ => match x, y with
  | .int i, .int j => Φ (.bl (decide (j ≤ i)))
  | _, _ => False
/-- is None, is not None -/
def rIsND : R1D := fun x Φ => match x with
  | .non => Φ (.bl true)
  | _ => Φ (.bl false)
def rNegD : R1D := fun x Φ => match x with
  | .int i => Φ (.int (-i))
  | _ => False
theorem repA_flat {K : PySem.W.Frag} {G : Hp} {l : List D} {xs : List V} (r : RepA K G l xs) : ∀ n, RepA K G (List.replicate n l).flatten (List.replicate n xs).flatten
  | 0 => .nil
  | n + 1 => by
    rw [List.replicate_succ, List.replicate_succ, List.flatten_cons, List.flatten_cons]
    exact r.app (repA_flat r n)
section
variable {X : Cx}
theorem opd_add : OpR X (binaryOp .Add) (LR2 X.K rAddD) := by
  intro pins s σ H x y v u Q I rx ry ⟨G, dx, dy, Ψ, gh, r1, r2, h, q⟩
  unfold rAddD at h
  split at h
  · rename_i i j
    cases rep_int.mp r1; cases rep_int.mp r2
    exact op_add pins s σ H _ _ v u Q I rx ry ⟨i, j, rfl, rfl, q _ _ G H h (Grow.refl _ _) gh (rep_int.mpr rfl)⟩
  · rename_i i j
    cases rep_str.mp r1; cases rep_str.mp r2
    exact op_add_str pins s σ H _ _ v u Q I rx ry ⟨i, j, rfl, rfl, h.1, q _ _ G H h.2 (Grow.refl _ _) gh (rep_str.mpr rfl)⟩
  · rename_i a b
    obtain ⟨p1, xs, rfl, s1, a1⟩ := rep_tup.mp r1
    obtain ⟨p2, ys, rfl, s2, a2⟩ := rep_tup.mp r2
    refine op_catA pins s σ H _ _ v u Q I rx ry ⟨p1, p2, xs, ys, rfl, rfl, sqt_mono gh s1, sqt_mono gh s2, by rw [a1.len, a2.len]; exact sz_of h.1, fun e => ?_, fun e e2 => ?_, fun e e2 p hp => ?_⟩
    · subst e
      have e2 : a = [] := List.eq_nil_of_length_eq_zero (by have := a1.len; simpa using this.symm)
      subst e2
      exact q _ _ G H h.2 (Grow.refl _ _) gh (by rw [List.nil_append]; exact r2)
    · subst e2
      have e2 : b = [] := List.eq_nil_of_length_eq_zero (by have := a2.len; simpa using this.symm)
      subst e2
      exact q _ _ G H h.2 (Grow.refl _ _) gh (by rw [List.append_nil]; exact r1)
    · have g : Grow G H (upd G p (.tup (xs ++ ys))) (upd H p (.tup (xs ++ ys))) := Grow.new gh hp
      exact q _ _ _ _ h.2 g (same_upd2 gh) (rep_tup.mpr ⟨p, _, rfl, .inl (.inl upd_same), (a1.app a2).mono g.g⟩)
  · rename_i a b
    obtain ⟨p1, xs, rfl, s1, a1⟩ := rep_lst.mp r1
    obtain ⟨p2, ys, rfl, s2, a2⟩ := rep_lst.mp r2
    refine op_cat pins s σ H _ _ v u Q I rx ry ⟨p1, p2, xs, ys, rfl, rfl, gh _ _ s1, gh _ _ s2, by rw [a1.len, a2.len]; exact sz_of h.1, fun p hp => ?_⟩
    have g : Grow G H (upd G p (.lst (xs ++ ys))) (upd H p (.lst (xs ++ ys))) := Grow.new gh hp
    exact q _ _ _ _ h.2 g (same_upd2 gh) (rep_lst.mpr ⟨p, _, rfl, upd_same, (a1.app a2).mono g.g⟩)
  · exact h.elim
theorem opd_mul : OpR X (binaryOp .Mult) (LR2 X.K rMulD) := by
  intro pins s σ H x y v u Q I rx ry ⟨G, dx, dy, Ψ, gh, r1, r2, h, q⟩
  unfold rMulD at h
  split at h
  · rename_i i j
    cases rep_int.mp r1; cases rep_int.mp r2
    exact op_mul pins s σ H _ _ v u Q I rx ry ⟨i, j, rfl, rfl, h.1, q _ _ G H h.2 (Grow.refl _ _) gh (rep_int.mpr rfl)⟩
  · rename_i a k
    obtain ⟨p1, xs, rfl, s1, a1⟩ := rep_tup.mp r1
    cases rep_int.mp r2
    obtain ⟨hne, k1, k2, hl, h⟩ := h
    have hxs : xs ≠ [] := fun e => by
      subst e
      exact hne (List.eq_nil_of_length_eq_zero (by have := a1.len; simpa using this.symm))
    by_cases hk : k = 1
    · subst hk
      have e : (List.replicate (1 : Int).toNat a).flatten = a := by simp
      rw [e] at h
      exact op_rep1T pins s σ H _ _ v u Q I rx ry ⟨p1, xs, rfl, rfl, sqt_mono gh s1, q _ _ G H h (Grow.refl _ _) gh r1⟩
    · refine op_repT pins s σ H _ _ v u Q I rx ry ⟨p1, k, xs, rfl, rfl, sqt_mono gh s1, hxs, by omega, k2, by rw [a1.len]; exact hl, fun p hp => ?_⟩
      have g : Grow G H (upd G p (.tup (List.replicate k.toNat xs).flatten)) (upd H p (.tup (List.replicate k.toNat xs).flatten)) := Grow.new gh hp
      exact q _ _ _ _ h g (same_upd2 gh) (rep_tup.mpr ⟨p, _, rfl, .inl (.inl upd_same), (repA_flat a1 _).mono g.g⟩)
  · rename_i a k
    obtain ⟨p1, xs, rfl, s1, a1⟩ := rep_lst.mp r1
    cases rep_int.mp r2
    obtain ⟨k1, k2, hl, h⟩ := h
    refine op_rep pins s σ H _ _ v u Q I rx ry ⟨p1, k, xs, rfl, rfl, gh _ _ s1, k1, k2, by rw [a1.len]; exact sz_of hl, fun p hp => ?_⟩
    have g : Grow G H (upd G p (.lst (List.replicate k.toNat xs).flatten)) (upd H p (.lst (List.replicate k.toNat xs).flatten)) := Grow.new gh hp
    exact q _ _ _ _ h g (same_upd2 gh) (rep_lst.mpr ⟨p, _, rfl, upd_same, (repA_flat a1 _).mono g.g⟩)
  · exact h.elim
/-- two ints -/
theorem opd_i2 {f : Value → Value → Sem Value} {C : Int → Int → Prop} {g : Int → Int → D} {w : Int → Int → V} {r : R2D} (ho : OpR X f (rI C w)) (hw : ∀ i j G, Rep X.K G (g i j) (w i j)) (hr : ∀ x y Φ, r x y Φ → ∃ i j, x = .int i ∧ y = .int j ∧ C i j ∧ Φ (g i j)) : OpR X f (LR2 X.K r) := by
  intro pins s σ H x y v u Q I rx ry ⟨G, dx, dy, Ψ, gh, r1, r2, h, q⟩
  obtain ⟨i, j, rfl, rfl, c, h⟩ := hr _ _ _ h
  cases rep_int.mp r1; cases rep_int.mp r2
  exact ho pins s σ H _ _ v u Q I rx ry ⟨i, j, rfl, rfl, c, q _ _ G H h (Grow.refl _ _) gh (hw i j G)⟩
theorem opI0_of {f : Value → Value → Sem Value} {w : Int → Int → V} (ho : OpR X f (rI0 w)) : OpR X f (rI (fun _ _ => True) w) := fun pins s σ H x y v u Q I rx ry ⟨i, j, e1, e2, _, h⟩ => ho pins s σ H x y v u Q I rx ry ⟨i, j, e1, e2, h⟩
theorem opd_sub : OpR X (binaryOp .Sub) (LR2 X.K rSubD) := opd_i2 (g := fun i j => .int (i - j)) (opI0_of op_sub) (fun _ _ _ => rep_int.mpr rfl) fun x y Φ h => by
  unfold rSubD at h
  split at h
  · exact ⟨_, _, rfl, rfl, trivial, h⟩
  · exact h.elim
theorem opd_mod : OpR X (binaryOp .Mod) (LR2 X.K rModD) := opd_i2 (g := fun i j => .int (i % j)) op_mod (fun _ _ _ => rep_int.mpr rfl) fun x y Φ h => by
  unfold rModD at h
  split at h
  · exact ⟨_, _, rfl, rfl, h.1, h.2⟩
  · exact h.elim
theorem opd_div : OpR X (binaryOp .FloorDiv) (LR2 X.K rDivD) := opd_i2 (g := fun i j => .int (i / j)) op_fdiv (fun _ _ _ => rep_int.mpr rfl) fun x y Φ h => by
  unfold rDivD at h
  split at h
  · exact ⟨_, _, rfl, rfl, h.1, h.2⟩
  · exact h.elim
theorem opd_pow : OpR X (binaryOp .Pow) (LR2 X.K rPowD) := opd_i2 (g := fun i j => .int (i ^ j.toNat)) op_pow (fun _ _ _ => rep_int.mpr rfl) fun x y Φ h => by
  unfold rPowD at h
  split at h
  · exact ⟨_, _, rfl, rfl, h.1, h.2⟩
  · exact h.elim
theorem opd_gt : OpR X (compareOp .Gt) (LR2 X.K rGtD) := opd_i2 (g := fun i j => .bl (decide (j < i))) (opI0_of op_gt) (fun _ _ _ => rep_bl.mpr rfl) fun x y Φ h => by
  unfold rGtD at h
  split at h
  · exact ⟨_, _, rfl, rfl, trivial, h⟩
  · exact h.elim
theorem opd_ge : OpR X (compareOp .GtE) (LR2 X.K rGeD) := opd_i2 (g := fun i j => .bl (decide (j ≤ i))) (opI0_of op_ge) (fun _ _ _ => rep_bl.mpr rfl) fun x y Φ h => by
  unfold rGeD at h
  split at h
  · exact ⟨_, _, rfl, rfl, trivial, h⟩
  · exact h.elim
theorem opd_lt : OpR X (compareOp .Lt) (LR2 X.K rLtD) := by
  intro pins s σ H x y v u Q I rx ry ⟨G, dx, dy, Ψ, gh, r1, r2, h, q⟩
  unfold rLtD at h
  split at h
  · rename_i i j
    cases rep_int.mp r1; cases rep_int.mp r2
    exact op_lt pins s σ H _ _ v u Q I rx ry ⟨i, j, rfl, rfl, q _ _ G H h (Grow.refl _ _) gh (rep_bl.mpr rfl)⟩
  · rename_i i j
    cases rep_str.mp r1; cases rep_str.mp r2
    exact op_lt_str pins s σ H _ _ v u Q I rx ry ⟨i, j, rfl, rfl, q _ _ G H h (Grow.refl _ _) gh (rep_bl.mpr rfl)⟩
  · exact h.elim
theorem opd_le : OpR X (compareOp .LtE) (LR2 X.K rLeD) := by
  intro pins s σ H x y v u Q I rx ry ⟨G, dx, dy, Ψ, gh, r1, r2, h, q⟩
  unfold rLeD at h
  split at h
  · rename_i i j
    cases rep_int.mp r1; cases rep_int.mp r2
    exact op_le pins s σ H _ _ v u Q I rx ry ⟨i, j, rfl, rfl, q _ _ G H h (Grow.refl _ _) gh (rep_bl.mpr rfl)⟩
  · rename_i i j
    cases rep_str.mp r1; cases rep_str.mp r2
    exact op_le_str pins s σ H _ _ v u Q I rx ry ⟨i, j, rfl, rfl, q _ _ G H h (Grow.refl _ _) gh (rep_bl.mpr rfl)⟩
  · exact h.elim
theorem opd_eq (hu : X.A.units + 64 < cLine) : OpR X (compareOp .Eq) (LR2 X.K rEqDD) := by
  intro pins s σ H x y v u Q I rx ry ⟨G, dx, dy, Ψ, gh, r1, r2, ⟨p1, p2, h⟩, q⟩
  refine op_eqD hu pins s σ H x y v u Q I rx ry ⟨_, _, rep_dp gh _ _ _ p1 r1, rep_dp gh _ _ _ p2 r2, shaped_pl (by decide) p1, shaped_pl (by decide) p2, ?_⟩
  rw [eqv_eqD _ _ _ _ p1 p2]
  exact q _ _ G H h (Grow.refl _ _) gh (rep_bl.mpr rfl)
theorem opd_ne (hu : X.A.units + 64 < cLine) : OpR X (compareOp .NotEq) (LR2 X.K rNeDD) := by
  intro pins s σ H x y v u Q I rx ry ⟨G, dx, dy, Ψ, gh, r1, r2, ⟨p1, p2, h⟩, q⟩
  refine op_neD hu pins s σ H x y v u Q I rx ry ⟨_, _, rep_dp gh _ _ _ p1 r1, rep_dp gh _ _ _ p2 r2, shaped_pl (by decide) p1, shaped_pl (by decide) p2, ?_⟩
  rw [eqv_eqD _ _ _ _ p1 p2]
  exact q _ _ G H h (Grow.refl _ _) gh (rep_bl.mpr rfl)
end
end Dz

namespace Dz
open PySem PySem.Spec PyProof.Rows L2

/-! ### subscripts -/
def seqD : D → Option (List D)
  | .tup l => some l
  | .lst l => some l
  | .fro l => some l
  | _ => none
/-- what a dict holds at a key -/
def getK : List Key → List D → Key → Option D
  | k' :: ks, d :: l, k => if k' = k then some d else getK ks l k
  | _, _, _ => none
def rIxDD : R2D := fun x y Φ => match x, y with
  | .tup l, .int i => ∃ d, atI l i = some d ∧ Φ d
  | .lst l, .int i => ∃ d, atI l i = some d ∧ Φ d
  | .fro l, .int i => ∃ d, atI l i = some d ∧ Φ d
  | .dct ks l, .str z => ∃ d, getK ks l (Sum.inr z) = some d ∧ Φ d
  | .dct ks l, .int z => ∃ d, getK ks l (Sum.inl z) = some d ∧ Φ d
  | _, _ => False
section
variable {K : PySem.W.Frag} {G H : Hp}
theorem atI_len {α β : Type} {l : List α} {xs : List β} (h : xs.length = l.length) {i : Int} {d : α} (e : atI l i = some d) : ∃ j, ixN xs.length i = some j ∧ l[j]? = some d := by
  unfold atI at e
  rw [h]
  cases q : ixN l.length i with
  | none => rw [q] at e; cases e
  | some j => rw [q] at e; exact ⟨j, rfl, e⟩
theorem RepA.atI {l : List D} {xs : List V} {i : Int} {d : D} (r : RepA K G l xs) (e : atI l i = some d) : ∃ x, L2.atI xs i = some x ∧ Rep K G d x := by
  obtain ⟨j, h1, h2⟩ := atI_len r.len e
  obtain ⟨x, h3, h4⟩ := r.get h2
  exact ⟨x, by unfold L2.atI; rw [h1]; exact h3, h4⟩
theorem repA_val {k : Key} : ∀ {ks : List Key} {l : List D} {xs : List V} {d : D}, RepA K G l xs → getK ks l k = some d → ∃ x, valV (ks.zip xs) k = some x ∧ Rep K G d x
  | [], l, xs, d, _, h => by simp [getK] at h
  | k' :: ks, [], xs, d, r, h => by simp [getK] at h
  | k' :: ks, e :: l, xs, d, r, h => by
    unfold RepA at r
    obtain ⟨x, t, rfl, r1, r2⟩ := r
    unfold getK at h
    unfold valV
    simp only [List.zip_cons_cons, List.find?_cons]
    by_cases hk : k' = k
    · simp only [hk, if_true] at h
      simp only [hk, decide_true, Option.map_some]
      cases h
      exact ⟨x, rfl, r1⟩
    · simp only [if_neg hk] at h
      simp only [hk, decide_false]
      exact repA_val (ks := ks) r2 h
theorem repA_valN {k : Key} : ∀ {ks : List Key} {l : List D} {xs : List V}, RepA K G l xs → ((valV (ks.zip xs) k).isSome = (getK ks l k).isSome)
  | [], l, xs, _ => by simp [valV, getK]
  | k' :: ks, [], xs, r => by unfold RepA at r; subst r; simp [valV, getK]
  | k' :: ks, e :: l, xs, r => by
    unfold RepA at r
    obtain ⟨x, t, rfl, r1, r2⟩ := r
    unfold valV getK
    simp only [List.zip_cons_cons, List.find?_cons]
    by_cases hk : k' = k
    · simp only [hk, decide_true, Option.map_some, Option.isSome_some, if_true]
    · simp only [if_neg hk]
      simp only [hk, decide_false]
      exact repA_valN (ks := ks) r2
end
section
variable {X : Cx}
theorem ix_dK (hu : X.A.units + 1 < cLine) : IxR X (fun x y H Q => ∃ a v, x = .ref a ∧ DGet H a y (some v) ∧ Q v H) := by
  intro value slice pins s σ H x y v u Q I rx ry ⟨a, w, ex, g, q⟩ hs
  subst ex
  obtain rfl : v = Value.ref a := rx
  exact tail_any (dict_typeIs I g) PySem.F.slot_dict_getitem.lookup (d_getItem hu I g ry fun w' s3 I3 rw' => ⟨w, H, I3, rw', q⟩) hs
theorem ixd (hu : X.A.units + 64 < cLine) : IxR X (LR2 X.K rIxDD) := by
  intro value slice pins s σ H x y v u Q I rx ry ⟨G, dx, dy, Ψ, gh, r1, r2, h, q⟩ hs
  unfold rIxDD at h
  split at h
  · obtain ⟨d, e, h⟩ := h
    obtain ⟨p, xs, rfl, s1, a1⟩ := rep_tup.mp r1
    cases rep_int.mp r2
    obtain ⟨z, e1, e2⟩ := a1.atI e
    exact ix_tup value slice pins s σ H _ _ v u Q I rx ry ⟨p, xs, _, z, rfl, rfl, sqt_mono gh s1, e1, q _ _ G H h (Grow.refl _ _) gh e2⟩ hs
  · obtain ⟨d, e, h⟩ := h
    obtain ⟨p, xs, rfl, s1, a1⟩ := rep_lst.mp r1
    cases rep_int.mp r2
    obtain ⟨z, e1, e2⟩ := a1.atI e
    exact ix_list value slice pins s σ H _ _ v u Q I rx ry ⟨p, xs, _, z, rfl, rfl, .inl (.inl (gh _ _ s1)), e1, q _ _ G H h (Grow.refl _ _) gh e2⟩ hs
  · obtain ⟨d, e, h⟩ := h
    obtain ⟨p, xs, rfl, s1, a1⟩ := rep_fro.mp r1
    cases rep_int.mp r2
    obtain ⟨z, e1, e2⟩ := a1.atI e
    exact ix_list value slice pins s σ H _ _ v u Q I rx ry ⟨p, xs, _, z, rfl, rfl, gh.seq s1, e1, q _ _ G H h (Grow.refl _ _) gh e2⟩ hs
  · obtain ⟨d, e, h⟩ := h
    obtain ⟨p, xs, rfl, s1, a1, _⟩ := rep_dct.mp r1
    cases rep_str.mp r2
    obtain ⟨z, e1, e2⟩ := repA_val a1 e
    exact ix_dK (by omega) value slice pins s σ H _ _ v u Q I rx ry ⟨p, z, rfl, .inl ⟨_, Sum.inr _, .inl (gh _ _ s1), rfl, e1.symm⟩, q _ _ G H h (Grow.refl _ _) gh e2⟩ hs
  · obtain ⟨d, e, h⟩ := h
    obtain ⟨p, xs, rfl, s1, a1, _⟩ := rep_dct.mp r1
    cases rep_int.mp r2
    obtain ⟨z, e1, e2⟩ := repA_val a1 e
    exact ix_dK (by omega) value slice pins s σ H _ _ v u Q I rx ry ⟨p, z, rfl, .inl ⟨_, Sum.inl _, .inl (gh _ _ s1), rfl, e1.symm⟩, q _ _ G H h (Grow.refl _ _) gh e2⟩ hs
  · exact h.elim

/-! ### a written dict with text keys -/
structure KTab (K : PySem.W.Frag) (w : World) (a : Addr) (tab : Str → Option (Option D)) : Prop where
  dk : ∃ es n, KDict K w a es n
  non : ∀ z, tab z = some none → PySem.W.nsIn K a z = some none
  som : ∀ z d, tab z = some (some d) → ∃ u v, PySem.W.nsIn K a z = some (some u) ∧ RelV v u ∧ ∀ G, Rep K G d v
def rKix (a : Addr) (tab : Str → Option (Option D)) : R2D := fun x y Φ => match x, y with
  | .tok b, .str z => a = b ∧ ∃ d, tab z = some (some d) ∧ Φ d
  | _, _ => False
def rKin (a : Addr) (tab : Str → Option (Option D)) : R2D := fun x y Φ => match x, y with
  | .str z, .tok b => a = b ∧ ∃ d, tab z = some d ∧ Φ (.bl d.isSome)
  | _, _ => False
theorem ixk {a : Addr} {tab : Str → Option (Option D)} (T : KTab X.K X.w a tab) : IxR X (LR2 X.K (rKix a tab)) := by
  intro value slice pins s σ H x y v u Q I rx ry ⟨G, dx, dy, Ψ, gh, r1, r2, h, q⟩ hs
  unfold rKix at h
  split at h
  · obtain ⟨rfl, d, e, h⟩ := h
    cases rep_tok.mp r1
    cases rep_str.mp r2
    obtain ⟨es, n, kd⟩ := T.dk
    obtain ⟨u0, v0, e1, e2, e3⟩ := T.som _ _ e
    exact ix_kdict value slice pins s σ H _ _ v u Q I rx ry ⟨a, _, v0, rfl, rfl, ⟨es, n, u0, kd.at_, kd.lit, e1, e2⟩, q _ _ G H h (Grow.refl _ _) gh (e3 G)⟩ hs
  · exact h.elim
theorem opd_ink {a : Addr} {tab : Str → Option (Option D)} (T : KTab X.K X.w a tab) : OpR X (compareOp .In) (LR2 X.K (rKin a tab)) := by
  intro pins s σ H x y v u Q I rx ry ⟨G, dx, dy, Ψ, gh, r1, r2, h, q⟩
  unfold rKin at h
  split at h
  · obtain ⟨rfl, d, e, h⟩ := h
    cases rep_str.mp r1
    cases rep_tok.mp r2
    obtain ⟨es, n, kd⟩ := T.dk
    cases d with
    | none => exact op_in_kd kd pins s σ H _ _ v u Q I rx ry ⟨_, none, rfl, rfl, T.non _ e, q _ _ G H h (Grow.refl _ _) gh (rep_bl.mpr rfl)⟩
    | some d =>
      obtain ⟨u0, v0, e1, e2, e3⟩ := T.som _ _ e
      exact op_in_kd kd pins s σ H _ _ v u Q I rx ry ⟨_, some u0, rfl, rfl, e1, q _ _ G H h (Grow.refl _ _) gh (rep_bl.mpr rfl)⟩
  · exact h.elim

/-! ### built-ins -/
def rLenD : RAD := fun xs Φ => match xs with
  | [.str z] => z.length ≤ sizeLine ∧ Φ (.int z.length)
  | [.tup l] => Φ (.int l.length)
  | [.lst l] => Φ (.int l.length)
  | [.fro l] => Φ (.int l.length)
  | _ => False
theorem callD_len : CallR X (.builtin "len") (LRA X.K rLenD) := by
  intro pins s σ H xs us Q I r ⟨G, ds, Ψ, gh, r1, h, q⟩
  unfold rLenD at h
  split at h
  · unfold RepA at r1
    obtain ⟨x, t, rfl, p1, r1⟩ := r1
    unfold RepA at r1
    subst r1
    cases rep_str.mp p1
    exact call_len_str pins s σ H _ us Q I r ⟨_, rfl, h.1, q _ _ G H h.2 (Grow.refl _ _) gh (rep_int.mpr rfl)⟩
  · unfold RepA at r1
    obtain ⟨x, t, rfl, p1, r1⟩ := r1
    unfold RepA at r1
    subst r1
    obtain ⟨p, xs, rfl, s1, a1⟩ := rep_tup.mp p1
    exact call_len_seq pins s σ H _ us Q I r ⟨p, xs, rfl, .inr (sqt_mono gh s1), by rw [a1.len]; exact q _ _ G H h (Grow.refl _ _) gh (rep_int.mpr rfl)⟩
  · unfold RepA at r1
    obtain ⟨x, t, rfl, p1, r1⟩ := r1
    unfold RepA at r1
    subst r1
    obtain ⟨p, xs, rfl, s1, a1⟩ := rep_lst.mp p1
    exact call_len_seq pins s σ H _ us Q I r ⟨p, xs, rfl, .inl (.inl (.inl (gh _ _ s1))), by rw [a1.len]; exact q _ _ G H h (Grow.refl _ _) gh (rep_int.mpr rfl)⟩
  · unfold RepA at r1
    obtain ⟨x, t, rfl, p1, r1⟩ := r1
    unfold RepA at r1
    subst r1
    obtain ⟨p, xs, rfl, s1, a1⟩ := rep_fro.mp p1
    exact call_len_seq pins s σ H _ us Q I r ⟨p, xs, rfl, .inl (gh.seq s1), by rw [a1.len]; exact q _ _ G H h (Grow.refl _ _) gh (rep_int.mpr rfl)⟩
  · exact h.elim
def rAbsD : RAD := fun xs Φ => match xs with
  | [.int i] => Φ (.int (if i < 0 then -i else i))
  | _ => False
theorem callD_abs : CallR X (.builtin "abs") (LRA X.K rAbsD) := by
  intro pins s σ H xs us Q I r ⟨G, ds, Ψ, gh, r1, h, q⟩
  unfold rAbsD at h
  split at h
  · unfold RepA at r1
    obtain ⟨x, t, rfl, p1, r1⟩ := r1
    unfold RepA at r1
    subst r1
    cases rep_int.mp p1
    exact call_abs pins s σ H _ us Q I r ⟨_, rfl, q _ _ G H h (Grow.refl _ _) gh (rep_int.mpr rfl)⟩
  · exact h.elim
def rIntD : RAD := fun xs Φ => match xs with
  | [.int i] => Φ (.int i)
  | [.bl k] => Φ (.int (if k then 1 else 0))
  | [.str a] => ∃ n, PySem.intText? a = some n ∧ a.length ≤ 640 ∧ Φ (.int n)
  | _ => False
theorem callD_int : CallR X (.type "int") (LRA X.K rIntD) := by
  intro pins s σ H xs us Q I r ⟨G, ds, Ψ, gh, r1, h, q⟩
  unfold rIntD at h
  split at h
  · unfold RepA at r1
    obtain ⟨x, t, rfl, p1, r1⟩ := r1
    unfold RepA at r1
    subst r1
    cases rep_int.mp p1
    exact call_int1 pins s σ H _ us Q I r (.inl ⟨_, rfl, q _ _ G H h (Grow.refl _ _) gh (rep_int.mpr rfl)⟩)
  · unfold RepA at r1
    obtain ⟨x, t, rfl, p1, r1⟩ := r1
    unfold RepA at r1
    subst r1
    cases rep_bl.mp p1
    exact call_int1 pins s σ H _ us Q I r (.inr ⟨_, rfl, q _ _ G H h (Grow.refl _ _) gh (rep_int.mpr rfl)⟩)
  · unfold RepA at r1
    obtain ⟨x, t, rfl, p1, r1⟩ := r1
    unfold RepA at r1
    subst r1
    cases rep_str.mp p1
    obtain ⟨n, e1, e2, h⟩ := h
    exact call_int_str pins s σ H _ us Q I r ⟨_, n, rfl, e1, e2, q _ _ G H h (Grow.refl _ _) gh (rep_int.mpr rfl)⟩
  · exact h.elim
/-- all(list of truth values), any(..) -/
def rAllD : RAD := fun xs Φ => ∃ bs : List Bool, xs = [.lst (bs.map D.bl)] ∧ Φ (.bl (bs.all id))
def rAnyD : RAD := fun xs Φ => ∃ bs : List Bool, xs = [.lst (bs.map D.bl)] ∧ Φ (.bl (bs.any id))
def rSumD : RAD := fun xs Φ => ∃ ns : List Int, xs = [.lst (ns.map D.int)] ∧ Φ (.int ns.sum)
theorem callD_all (hc : X.calm = true) : CallR X (.builtin "all") (LRA X.K rAllD) := by
  intro pins s σ H xs us Q I r ⟨G, ds, Ψ, gh, r1, ⟨bs, e, h⟩, q⟩
  subst e
  unfold RepA at r1
  obtain ⟨x, t, rfl, p1, r1⟩ := r1
  unfold RepA at r1
  subst r1
  obtain ⟨p, xs, rfl, s1, a1⟩ := rep_lst.mp p1
  have e := repA_bls_inv a1
  subst e
  exact cr_all hc pins s σ H _ us Q I r ⟨p, bs, rfl, .inl (.inl (gh _ _ s1)), q _ _ G H h (Grow.refl _ _) gh (rep_bl.mpr rfl)⟩
theorem callD_any (hc : X.calm = true) : CallR X (.builtin "any") (LRA X.K rAnyD) := by
  intro pins s σ H xs us Q I r ⟨G, ds, Ψ, gh, r1, ⟨bs, e, h⟩, q⟩
  subst e
  unfold RepA at r1
  obtain ⟨x, t, rfl, p1, r1⟩ := r1
  unfold RepA at r1
  subst r1
  obtain ⟨p, xs, rfl, s1, a1⟩ := rep_lst.mp p1
  have e := repA_bls_inv a1
  subst e
  exact cr_any hc pins s σ H _ us Q I r ⟨p, bs, rfl, .inl (.inl (gh _ _ s1)), q _ _ G H h (Grow.refl _ _) gh (rep_bl.mpr rfl)⟩
theorem callD_sum (hc : X.calm = true) : CallR X (.builtin "sum") (LRA X.K rSumD) := by
  intro pins s σ H xs us Q I r ⟨G, ds, Ψ, gh, r1, ⟨bs, e, h⟩, q⟩
  subst e
  unfold RepA at r1
  obtain ⟨x, t, rfl, p1, r1⟩ := r1
  unfold RepA at r1
  subst r1
  obtain ⟨p, xs, rfl, s1, a1⟩ := rep_lst.mp p1
  have e := repA_ints_inv a1
  subst e
  exact cr_sum hc pins s σ H _ us Q I r ⟨p, bs, rfl, .inl (.inl (gh _ _ s1)), q _ _ G H h (Grow.refl _ _) gh (rep_int.mpr rfl)⟩
/-- sorted(list of texts) -/
def rSortedSD : RAD := fun xs Φ => ∃ zs : List Str, xs = [.lst (zs.map D.str)] ∧ zs.length < 64 ∧ ∀ ys : List Str, ys.Perm zs → sortedS ys = true → Φ (.lst (ys.map D.str))
theorem callD_sortedS : CallR X (.builtin "sorted") (LRA X.K rSortedSD) := by
  intro pins s σ H xs us Q I r ⟨G, ds, Ψ, gh, r1, ⟨zs, e, h64, h⟩, q⟩
  subst e
  unfold RepA at r1
  obtain ⟨x, t, rfl, p1, r1⟩ := r1
  unfold RepA at r1
  subst r1
  obtain ⟨p, xs, rfl, s1, a1⟩ := rep_lst.mp p1
  have e := repA_strs_inv a1
  subst e
  refine cr_sortedS pins s σ H _ us Q I r ⟨p, zs, rfl, .inl (.inl (gh _ _ s1)), h64, fun ys l hp hs hl => ?_⟩
  have g : Grow G H (upd G l (.lst (ys.map V.str))) (upd H l (.lst (ys.map V.str))) := Grow.new gh hl
  exact q _ _ _ _ (h ys hp hs) g (same_upd2 gh) (rep_lst.mpr ⟨l, _, rfl, upd_same, repA_strs ys⟩)
/-- list(..) of a list, a tuple, a dict; tuple(..) -/
def kD : Key → D
  | .inl i => .int i
  | .inr x => .str x
def rListDD : RAD := fun xs Φ => match xs with
  | [.lst l] => Φ (.lst l)
  | [.fro l] => Φ (.lst l)
  | [.tup l] => Φ (.lst l)
  | [.dct ks l] => Φ (.lst (ks.map kD))
  | _ => False
theorem repA_keys {K : PySem.W.Frag} {G : Hp} : ∀ ks : List Key, RepA K G (ks.map kD) (ks.map kV)
  | [] => .nil
  | .inl i :: r => .cons (rep_int.mpr rfl) (repA_keys r)
  | .inr i :: r => .cons (rep_str.mpr rfl) (repA_keys r)
theorem callD_list (hc : X.calm = true) : CallR X (.type "list") (LRA X.K rListDD) := by
  intro pins s σ H xs us Q I r ⟨G, ds, Ψ, gh, r1, h, q⟩
  unfold rListDD at h
  split at h
  · unfold RepA at r1
    obtain ⟨x, t, rfl, p1, r1⟩ := r1
    unfold RepA at r1
    subst r1
    obtain ⟨p, xs, rfl, s1, a1⟩ := rep_lst.mp p1
    refine call_list_of pins s σ H _ us Q I r ⟨p, xs, rfl, .inl (.inl (.inl (gh _ _ s1))), fun l hl => ?_⟩
    have g : Grow G H (upd G l (.lst xs)) (upd H l (.lst xs)) := Grow.new gh hl
    exact q _ _ _ _ h g (same_upd2 gh) (rep_lst.mpr ⟨l, _, rfl, upd_same, a1.mono g.g⟩)
  · unfold RepA at r1
    obtain ⟨x, t, rfl, p1, r1⟩ := r1
    unfold RepA at r1
    subst r1
    obtain ⟨p, xs, rfl, s1, a1⟩ := rep_fro.mp p1
    refine call_list_of pins s σ H _ us Q I r ⟨p, xs, rfl, .inl (gh.seq s1), fun l hl => ?_⟩
    have g : Grow G H (upd G l (.lst xs)) (upd H l (.lst xs)) := Grow.new gh hl
    exact q _ _ _ _ h g (same_upd2 gh) (rep_lst.mpr ⟨l, _, rfl, upd_same, a1.mono g.g⟩)
  · unfold RepA at r1
    obtain ⟨x, t, rfl, p1, r1⟩ := r1
    unfold RepA at r1
    subst r1
    obtain ⟨p, xs, rfl, s1, a1⟩ := rep_tup.mp p1
    refine call_list_of pins s σ H _ us Q I r ⟨p, xs, rfl, .inr (sqt_mono gh s1), fun l hl => ?_⟩
    have g : Grow G H (upd G l (.lst xs)) (upd H l (.lst xs)) := Grow.new gh hl
    exact q _ _ _ _ h g (same_upd2 gh) (rep_lst.mpr ⟨l, _, rfl, upd_same, a1.mono g.g⟩)
  · unfold RepA at r1
    obtain ⟨x, t, rfl, p1, r1⟩ := r1
    unfold RepA at r1
    subst r1
    rename_i ks l
    obtain ⟨p, xs, rfl, s1, a1, hl2⟩ := rep_dct.mp p1
    have ek : (ks.zip xs).map (·.1) = ks := by
      rw [List.map_fst_zip]
      rw [a1.len, hl2]; exact Nat.le_refl _
    refine call_list_dK hc pins s σ H _ us Q I r ⟨p, ks.zip xs, rfl, gh _ _ s1, fun l hl => ?_⟩
    have e2 : (ks.zip xs).map (fun kv => kV kv.1) = ks.map kV := by
      rw [show (fun kv : Key × V => kV kv.1) = kV ∘ (·.1) from rfl, ← List.map_map, ek]
    rw [e2]
    have g : Grow G H (upd G l (.lst (ks.map kV))) (upd H l (.lst (ks.map kV))) := Grow.new gh hl
    exact q _ _ _ _ h g (same_upd2 gh) (rep_lst.mpr ⟨l, _, rfl, upd_same, repA_keys ks⟩)
  · exact h.elim
def rTupleD : RAD := fun xs Φ => match xs with
  | [.lst l] => Φ (.tup l)
  | [.fro l] => Φ (.tup l)
  | [.tup l] => Φ (.tup l)
  | _ => False
theorem callD_tuple : CallR X (.type "tuple") (LRA X.K rTupleD) := by
  intro pins s σ H xs us Q I r ⟨G, ds, Ψ, gh, r1, h, q⟩
  unfold rTupleD at h
  split at h
  · unfold RepA at r1
    obtain ⟨x, t, rfl, p1, r1⟩ := r1
    unfold RepA at r1
    subst r1
    obtain ⟨p, xs, rfl, s1, a1⟩ := rep_lst.mp p1
    refine call_tuple_of pins s σ H _ us Q I r ⟨p, xs, rfl, .inl ⟨.inl (.inl (gh _ _ s1)), fun l hl => ?_⟩⟩
    have g : Grow G H (upd G l (.tup xs)) (upd H l (.tup xs)) := Grow.new gh hl
    exact q _ _ _ _ h g (same_upd2 gh) (rep_tup.mpr ⟨l, _, rfl, .inl (.inl upd_same), a1.mono g.g⟩)
  · unfold RepA at r1
    obtain ⟨x, t, rfl, p1, r1⟩ := r1
    unfold RepA at r1
    subst r1
    obtain ⟨p, xs, rfl, s1, a1⟩ := rep_fro.mp p1
    refine call_tuple_of pins s σ H _ us Q I r ⟨p, xs, rfl, .inl ⟨gh.seq s1, fun l hl => ?_⟩⟩
    have g : Grow G H (upd G l (.tup xs)) (upd H l (.tup xs)) := Grow.new gh hl
    exact q _ _ _ _ h g (same_upd2 gh) (rep_tup.mpr ⟨l, _, rfl, .inl (.inl upd_same), a1.mono g.g⟩)
  · unfold RepA at r1
    obtain ⟨x, t, rfl, p1, r1⟩ := r1
    unfold RepA at r1
    subst r1
    obtain ⟨p, xs, rfl, s1, a1⟩ := rep_tup.mp p1
    exact call_tuple_of pins s σ H _ us Q I r ⟨p, xs, rfl, .inr ⟨sqt_mono gh s1, q _ _ G H h (Grow.refl _ _) gh p1⟩⟩
  · exact h.elim
/-- isinstance with one built-in class -/
def tyN : D → Option String
  | .non => some "NoneType"
  | .bl _ => some "bool"
  | .int _ => some "int"
  | .str _ => some "str"
  | .tup _ => some "tuple"
  | .lst _ => some "list"
  | .dct _ _ => some "dict"
  | _ => none
def isT (t T : String) : Bool := t == T || (t == "bool" && T == "int")
theorem kit_all : ∀ t ∈ ["NoneType", "bool", "int", "str", "tuple", "list", "dict"], ∀ T ∈ ["str", "tuple", "int", "bool", "list", "dict"], kitB t T = some (isT t T) := by decide +kernel
def rIsiD : RAD := fun xs Φ => match xs with
  | [x, .ty T] => T ∈ ["str", "tuple", "int", "bool", "list", "dict"] ∧ ∃ t, tyN x = some t ∧ Φ (.bl (isT t T))
  | _ => False
theorem tyN_mem : ∀ {x : D} {t : String}, tyN x = some t → t ∈ ["NoneType", "bool", "int", "str", "tuple", "list", "dict"]
  | .non, _, h => by cases h; decide
  | .bl _, _, h => by cases h; decide
  | .int _, _, h => by cases h; decide
  | .str _, _, h => by cases h; decide
  | .tup _, _, h => by cases h; decide
  | .lst _, _, h => by cases h; decide
  | .dct _ _, _, h => by cases h; decide
  | .fro _, _, h => by cases h
  | .ins _ _ _, _, h => by cases h
  | .tok _, _, h => by cases h
  | .ty _, _, h => by cases h
theorem tyN_ty {K : PySem.W.Frag} {G H : Hp} (gh : Same G H) : ∀ {x : D} {t : String} {v : V}, tyN x = some t → Rep K G x v → TyX K H v (.type t)
  | .non, _, _, h, r => by cases h; rw [rep_non.mp r]; exact .base .non
  | .bl _, _, _, h, r => by cases h; rw [rep_bl.mp r]; exact .base (.bl _)
  | .int _, _, _, h, r => by cases h; rw [rep_int.mp r]; exact .base (.int _)
  | .str _, _, _, h, r => by cases h; rw [rep_str.mp r]; exact .base (.str _)
  | .tup _, _, _, h, r => by
    cases h
    obtain ⟨p, xs, rfl, s1, a1⟩ := rep_tup.mp r
    rcases sqt_mono gh s1 with (h | ⟨o, h⟩) | ⟨o, its, n, h1, h2, _⟩
    · exact .base (.tup h)
    · exact .fTuple h
    · exact .kTuple h1 h2
  | .lst _, _, _, h, r => by
    cases h
    obtain ⟨p, xs, rfl, s1, a1⟩ := rep_lst.mp r
    exact .base (.lst (gh _ _ s1))
  | .dct _ _, _, _, h, r => by
    cases h
    obtain ⟨p, xs, rfl, s1, a1, _⟩ := rep_dct.mp r
    exact .base (.dK (gh _ _ s1))
  | .fro _, _, _, h, _ => by cases h
  | .ins _ _ _, _, _, h, _ => by cases h
  | .tok _, _, _, h, _ => by cases h
  | .ty _, _, _, h, _ => by cases h
theorem callD_isi : CallR X (.builtin "isinstance") (LRA X.K rIsiD) := by
  intro pins s σ H xs us Q I r ⟨G, ds, Ψ, gh, r1, h, q⟩
  unfold rIsiD at h
  split at h
  · obtain ⟨hT, t, ht, h⟩ := h
    unfold RepA at r1
    obtain ⟨x, tl, rfl, p1, r1⟩ := r1
    unfold RepA at r1
    obtain ⟨y, tl, rfl, p2, r1⟩ := r1
    unfold RepA at r1
    subst r1
    cases rep_ty.mp p2
    exact call_isi pins s σ H _ us Q I r ⟨x, .ty _, .type t, .type _, isT t _, rfl, .ty _, tyN_ty gh ht p1, kit_ty (kit_all _ (tyN_mem ht) _ hT), q _ _ G H h (Grow.refl _ _) gh (rep_bl.mpr rfl)⟩
  · exact h.elim
end
end Dz

namespace Dz
open PySem PySem.Spec PyProof.Rows L2

/-! ### what is walked -/
section
variable {X : Cx} {A : Am} {tg e : Expr} {es : List Expr} {fa : FE} {fr : FA}
def iSeq (K : PySem.W.Frag) (tl : TE) : TI := fun σ H R => tl σ H fun x H1 => ∃ a, x = .ref a ∧ (((∃ xs, SqL K H1 a xs) ∧ R (Itl K a) H1) ∨ ((∃ xs, SqT K H1 a xs) ∧ R (Itt K a) H1))
theorem pi_seq {l : Expr} {tl : TE} (hl : PE X l tl) : PI X tg l (iSeq X.K tl) := by
  refine ⟨fun pins s σ H R I h => ?_⟩
  refine thn (hl.run pins s σ H _ I h) fun v s1 ⟨x, H1, I1, r1, q1⟩ => ?_
  obtain ⟨a, e, q1⟩ := q1
  subst e
  cases r1
  rcases q1 with ⟨⟨xs, hq⟩, q⟩ | ⟨⟨xs, hq⟩, q⟩
  · obtain ⟨its, rv, p, hz⟩ := I1.list hq
    refine wpAny_pyIter_list p.isList ?_
    refine ⟨s1.heap.objs.size, [s1.heap.objs.size], _, _, H1, rfl, I1.kept (t' := s1.toks) fun b o e => Heap.get?_push_of_some _ e, turn_list a _, ⟨_, Heap.get?_push_size _ rfl, rfl, rfl⟩, fun b hb => ?_, q⟩
    have e : b = s1.heap.objs.size := by simpa using hb
    subst e
    exact I1.fpOk (Nat.le_refl _) (I1.hok.fresh (Nat.le_refl _))
  · obtain ⟨its, rv, p, hz⟩ := I1.tuple hq
    refine wpAny_pyIter_tuple (show s1.heap.IsTuple a its.toArray from p) ?_
    refine ⟨s1.heap.objs.size, [s1.heap.objs.size], _, _, H1, rfl, I1.kept (t' := s1.toks) fun b o e => Heap.get?_push_of_some _ e, turn_tuple a _, ⟨_, Heap.get?_push_size _ rfl, rfl, rfl⟩, fun b hb => ?_, q⟩
    have e : b = s1.heap.objs.size := by simpa using hb
    subst e
    exact I1.fpOk (Nat.le_refl _) (I1.hok.fresh (Nat.le_refl _))
theorem yl_list {K : PySem.W.Frag} {G : Hp} {a : Addr} {xs : List V} {items : List D} (s : SqL K G a xs) (r : RepA K G items xs) : Yl K (Itl K a) G items where
  go := fun G1 H1 k g h hk => ⟨xs, _, h.seq (g.seq s), List.getElem?_eq_getElem (by rw [r.len]; exact hk)⟩
  yl := fun G1 H1 k x H2 d g h hd hy => by
    obtain ⟨rfl, hx⟩ := hy
    have e := hx xs (h.seq (g.seq s))
    obtain ⟨d', e1, e2⟩ := r.get' e
    rw [hd] at e1
    cases e1
    exact ⟨G1, Grow.refl _ _, h, e2.mono g⟩
  sp := fun G1 H1 k g h hk => ⟨xs, h.seq (g.seq s), by rw [r.len]; exact hk⟩
theorem yl_tup {K : PySem.W.Frag} {G : Hp} {a : Addr} {xs : List V} {items : List D} (s : SqT K G a xs) (r : RepA K G items xs) : Yl K (Itt K a) G items where
  go := fun G1 H1 k g h hk => ⟨xs, _, sqt_mono h (sqt_mono g s), List.getElem?_eq_getElem (by rw [r.len]; exact hk)⟩
  yl := fun G1 H1 k x H2 d g h hd hy => by
    obtain ⟨rfl, hx⟩ := hy
    have e := hx xs (sqt_mono h (sqt_mono g s))
    obtain ⟨d', e1, e2⟩ := r.get' e
    rw [hd] at e1
    cases e1
    exact ⟨G1, Grow.refl _ _, h, e2.mono g⟩
  sp := fun G1 H1 k g h hk => ⟨xs, sqt_mono h (sqt_mono g s), by rw [r.len]; exact hk⟩
def fISeq (fa : FE) : FI := fun en Φ => fa en fun d e => ∃ l, seqD d = some l ∧ Φ l e
theorem di_seq (ha : DE X A e fa) : DI X A tg e (fISeq fa) := pi_weak (pi_seq ha) fun σ H R ⟨F, G, en, Ψ, k, h, q⟩ =>
  ⟨F, G, en, _, k, h, fun d e1 v G1 H1 z k1 s1 r1 => by
    obtain ⟨l, hl, z⟩ := z
    cases d with
    | tup l' =>
      cases hl
      obtain ⟨p, xs, rfl, sq, ra⟩ := rep_tup.mp r1
      exact ⟨p, rfl, .inr ⟨⟨xs, sqt_mono k1.ok.gh sq⟩, q _ _ G1 H1 _ z k1 s1 (yl_tup sq ra)⟩⟩
    | lst l' =>
      cases hl
      obtain ⟨p, xs, rfl, sq, ra⟩ := rep_lst.mp r1
      exact ⟨p, rfl, .inl ⟨⟨xs, .inl (.inl (k1.ok.gh _ _ sq))⟩, q _ _ G1 H1 _ z k1 s1 (yl_list (.inl (.inl sq)) ra)⟩⟩
    | fro l' =>
      cases hl
      obtain ⟨p, xs, rfl, sq, ra⟩ := rep_fro.mp r1
      exact ⟨p, rfl, .inl ⟨⟨xs, k1.ok.gh.seq sq⟩, q _ _ G1 H1 _ z k1 s1 (yl_list sq ra)⟩⟩
    | _ => cases hl⟩
/-- range(n), range(a, b) -/
def rngD (lo : Int) (n : Nat) : List D := (List.range n).map fun i => D.int (lo + (i : Nat))
theorem rngD_get {lo : Int} {n i : Nat} {d : D} (h : (rngD lo n)[i]? = some d) : i < n ∧ d = .int (lo + i) := by
  unfold rngD at h
  rw [List.getElem?_map] at h
  by_cases hi : i < n
  · rw [List.getElem?_range hi] at h
    exact ⟨hi, (Option.some.inj h).symm⟩
  · rw [List.getElem?_eq_none (by rw [List.length_range]; omega)] at h
    cases h
theorem rngD_len {lo : Int} {n : Nat} : (rngD lo n).length = n := by unfold rngD; rw [List.length_map, List.length_range]
theorem yl_rng {K : PySem.W.Frag} {G : Hp} {lo : Int} {n : Nat} : Yl K (Itr lo n) G (rngD lo n) where
  go := fun G1 H1 k g h hk => by rw [rngD_len] at hk; exact hk
  yl := fun G1 H1 k x H2 d g h hd hy => by
    obtain ⟨rfl, rfl⟩ := hy
    obtain ⟨_, rfl⟩ := rngD_get hd
    exact ⟨G1, Grow.refl _ _, h, rep_int.mpr rfl⟩
  sp := fun G1 H1 k g h hk => by rw [rngD_len] at hk; exact hk
def fRng1 (fr : FA) : FI := fun en Φ => fr en fun ds e => ∃ j : Int, ds = [.int j] ∧ -(2 ^ 62) ≤ j ∧ j < 2 ^ 62 ∧ Φ (rngD 0 j.toNat) e
def fRng2 (fr : FA) : FI := fun en Φ => fr en fun ds e => ∃ i j : Int, ds = [.int i, .int j] ∧ (-(2 ^ 62) ≤ i ∧ i < 2 ^ 62 ∧ -(2 ^ 62) ≤ j ∧ j < 2 ^ 62) ∧ Φ (rngD i (j - i).toNat) e
theorem repA_1 {K : PySem.W.Frag} {G : Hp} {d : D} {v : List V} (r : RepA K G [d] v) : ∃ x, v = [x] ∧ Rep K G d x := by
  unfold RepA at r
  obtain ⟨x, t, rfl, p1, r⟩ := r
  unfold RepA at r
  subst r
  exact ⟨x, rfl, p1⟩
theorem repA_2 {K : PySem.W.Frag} {G : Hp} {d d2 : D} {v : List V} (r : RepA K G [d, d2] v) : ∃ x y, v = [x, y] ∧ Rep K G d x ∧ Rep K G d2 y := by
  unfold RepA at r
  obtain ⟨x, t, rfl, p1, r⟩ := r
  obtain ⟨y, rfl, p2⟩ := repA_1 r
  exact ⟨x, y, rfl, p1, p2⟩
theorem di_rng1 {a : Expr} {p pos : Pos} (hg : Gl X "range") (hm : X.mg "range" = none) (ha : DA X A [a] fr) (hs : starEach [a] X.env = [(false, eval a X.env)] := by rfl) : DI X A tg (.Call (.Name "range" p) [a] [] pos) (fRng1 fr) :=
  pi_weak (pi_range1 hg hm ha hs) fun σ H R ⟨F, G, en, Ψ, k, h, q⟩ => ⟨F, G, en, _, k, h, fun d e1 v G1 H1 z k1 s1 r1 => by
    obtain ⟨j, rfl, j1, j2, z⟩ := z
    obtain ⟨x, rfl, p1⟩ := repA_1 r1
    cases rep_int.mp p1
    exact ⟨j, rfl, j1, j2, q _ _ G1 H1 _ z k1 s1 yl_rng⟩⟩
theorem di_rng2 {a b : Expr} {p pos : Pos} (hg : Gl X "range") (hm : X.mg "range" = none) (ha : DA X A [a, b] fr) (hs : starEach [a, b] X.env = [(false, eval a X.env), (false, eval b X.env)] := by rfl) (hs2 : starEach [b] X.env = [(false, eval b X.env)] := by rfl) :
    DI X A tg (.Call (.Name "range" p) [a, b] [] pos) (fRng2 fr) :=
  pi_weak (pi_range2 hg hm ha hs hs2) fun σ H R ⟨F, G, en, Ψ, k, h, q⟩ => ⟨F, G, en, _, k, h, fun d e1 v G1 H1 z k1 s1 r1 => by
    obtain ⟨i, j, rfl, hb, z⟩ := z
    obtain ⟨x, y, rfl, p1, p2⟩ := repA_2 r1
    cases rep_int.mp p1
    cases rep_int.mp p2
    exact ⟨i, j, rfl, hb, q _ _ G1 H1 _ z k1 s1 yl_rng⟩⟩
end

/-! ### comprehensions -/
def wipeE (en : En) : List Nat → En
  | [] => en
  | v :: vs => st (wipeE en vs) v .un
section
variable {K : PySem.W.Frag} {A : Am} {F G H : Hp} {σ : L2.St} {en : En}
theorem EnvOk.wiped (k : EnvOk K A F G H σ en) : ∀ vs : List Nat, EnvOk K A F G H (wipe σ vs) (wipeE en vs)
  | [] => k
  | v :: vs => by unfold wipe wipeE; exact (EnvOk.wiped k vs).forget
theorem st_st {en : En} : ∀ {i : Nat} {a b : EV}, st (st en i a) i b = st en i b := by
  induction en with
  | nil => intro i a b; rfl
  | cons e r ih =>
    intro i a b
    cases i with
    | zero => rfl
    | succ i => simp only [st, ih]
theorem st_comm {en : En} : ∀ {i j : Nat} {a b : EV}, i ≠ j → st (st en i a) j b = st (st en j b) i a := by
  induction en with
  | nil => intro i j a b _; rfl
  | cons e r ih =>
    intro i j a b h
    cases i with
    | zero =>
      cases j with
      | zero => exact absurd rfl h
      | succ j => rfl
    | succ i =>
      cases j with
      | zero => rfl
      | succ j => simp only [st]; rw [ih (fun z => h (by rw [z]))]
theorem wipeE_wipeE (en : En) (vs : List Nat) : wipeE (wipeE en vs) vs = wipeE en vs := by
  have aux : ∀ (ws us : List Nat), (∀ w ∈ us, w ∈ ws) → wipeE (wipeE en ws) us = wipeE en ws := by
    intro ws us
    induction us with
    | nil => intro _; rfl
    | cons u us ih =>
      intro h
      show st (wipeE (wipeE en ws) us) u .un = wipeE en ws
      rw [ih fun w hw => h w (List.mem_cons_of_mem _ hw)]
      have : ∀ (ws : List Nat) (en : En), u ∈ ws → st (wipeE en ws) u .un = wipeE en ws := by
        intro ws
        induction ws with
        | nil => intro _ h; cases h
        | cons w ws ih2 =>
          intro en hm
          unfold wipeE
          by_cases hw : w = u
          · subst hw; rw [st_st]
          · rw [st_comm hw, ih2 en (by
              rcases List.mem_cons.mp hm with z | z
              · exact absurd z.symm hw
              · exact z)]
      exact this ws en (h u List.mem_cons_self)
  exact aux vs vs fun w h => h
theorem EnvOk.unwipe {vs : List Nat} (k : EnvOk K A F G H (wipe σ vs) en) : EnvOk K A F G H σ en := by
  obtain ⟨c, x⟩ := k.ex
  refine ⟨k.ok, by rw [← k.len, wipe_length], c, fun i d h => ?_, fun i o h => ?_, x.inj⟩
  · obtain ⟨v, e1, e2⟩ := x.dat i d h
    exact ⟨v, (wipe_some e1).1, e2⟩
  · obtain ⟨e1, e2⟩ := x.cel i o h
    exact ⟨(wipe_some e1).1, e2⟩
theorem wipe_wipe (σ : L2.St) (vs : List Nat) : wipe (wipe σ vs) vs = wipe σ vs := by
  have aux : ∀ (ws us : List Nat), (∀ w ∈ us, w ∈ ws) → wipe (wipe σ ws) us = wipe σ ws := by
    intro ws us
    induction us with
    | nil => intro _; rfl
    | cons u us ih =>
      intro h
      show (wipe (wipe σ ws) us).set u none = wipe σ ws
      rw [ih fun w hw => h w (List.mem_cons_of_mem _ hw)]
      have : ∀ (ws : List Nat) (σ : L2.St), u ∈ ws → (wipe σ ws).set u none = wipe σ ws := by
        intro ws
        induction ws with
        | nil => intro _ h; cases h
        | cons w ws ih2 =>
          intro σ hm
          unfold wipe
          by_cases hw : w = u
          · subst hw; rw [List.set_set]
          · rw [List.set_comm _ _ hw, ih2 σ (by
              rcases List.mem_cons.mp hm with z | z
              · exact absurd z.symm hw
              · exact z)]
      exact this ws σ (h u List.mem_cons_self)
  exact aux vs vs fun w h => h
/-- a temporary object, kept by the frame -/
theorem EnvOk.tmpAdd {Dd : Addr} {u : HO} (k : EnvOk K A F G H σ en) (h : H Dd = none) : EnvOk K A (upd F Dd u) G (upd H Dd u) σ en ∧ G Dd = none ∧ F Dd = none := by
  have sg : Same G (upd H Dd u) := k.ok.gh.trans (same_new h)
  have k1 := k.grow (Grow.tmp (o := u) h) sg
  obtain ⟨c, x⟩ := k1.ex
  have nA : ∀ q ∈ A, q.1 ≠ Dd := fun q hq z => by
    obtain ⟨_, _, _, e, _⟩ := k.ok.am q hq
    rw [z, h] at e; cases e
  have nC : ∀ i o, gt en i = .cel o → c i ≠ Dd := fun i o e z => by
    obtain ⟨a, u2, e1, e2, _⟩ := k.slot e
    obtain ⟨f1, _⟩ := x.cel i o e
    rw [e1] at f1
    have : a = c i := by injection f1 with f1; injection f1 with f1; injection f1
    rw [this, z, h] at e2; cases e2
  refine ⟨⟨⟨sg, fun b w hb => ?_, fun q hq => ?_, k1.ok.am⟩, k1.len, c, x.dat, fun i o e => ?_, x.inj⟩, k.ok.gh.free h, k.ok.fh.free h⟩
  · by_cases hbd : b = Dd
    · subst hbd; rw [upd_same] at hb ⊢; exact hb
    · rw [upd_ne hbd] at hb ⊢; exact k.ok.fh _ _ hb
  · rw [upd_ne (nA q hq)]; exact k.ok.fa q hq
  · obtain ⟨e1, e2, e3, e4, e5⟩ := x.cel i o e
    exact ⟨e1, e2, e3, by rw [upd_ne (nC i o e)]; exact e4, e5⟩
theorem EnvOk.tmpSet {Dd : Addr} {u u' : HO} (k : EnvOk K A (upd F Dd u) G H σ en) (hG : G Dd = none) : EnvOk K A (upd F Dd u') G (upd H Dd u') σ en := by
  obtain ⟨c, x⟩ := k.ex
  have nA : ∀ q ∈ A, q.1 ≠ Dd := fun q hq z => by
    have := k.ok.fa q hq
    rw [z, upd_same] at this; cases this
  have nC : ∀ i o, gt en i = .cel o → c i ≠ Dd := fun i o e z => by
    obtain ⟨_, _, _, e4, _⟩ := x.cel i o e
    rw [z, upd_same] at e4; cases e4
  refine ⟨⟨fun b w hb => ?_, fun b w hb => ?_, fun q hq => ?_, fun q hq => ?_⟩, k.len, c, x.dat, fun i o e => ?_, x.inj⟩
  · rw [upd_ne (fun z => by subst z; rw [hG] at hb; cases hb)]; exact k.ok.gh _ _ hb
  · by_cases hbd : b = Dd
    · subst hbd; rw [upd_same] at hb ⊢; exact hb
    · have := k.ok.fh b w
      rw [upd_ne hbd] at hb this ⊢
      exact this hb
  · have := k.ok.fa q hq
    rw [upd_ne (nA q hq)] at this ⊢; exact this
  · obtain ⟨a1, o1, u1, a2, a3, a4⟩ := k.ok.am q hq
    exact ⟨a1, o1, u1, by rw [upd_ne (nA q hq)]; exact a2, a3, a4⟩
  · obtain ⟨e1, ⟨u1, e2, e2'⟩, e3, e4, e5⟩ := x.cel i o e
    rw [upd_ne (nC i o e)] at e4
    exact ⟨e1, ⟨u1, by rw [upd_ne (nC i o e)]; exact e2, e2'⟩, e3, by rw [upd_ne (nC i o e)]; exact e4, e5⟩
theorem EnvOk.tmpFrz {Dd : Addr} {u : HO} (k : EnvOk K A (upd F Dd u) G H σ en) (hG : G Dd = none) (hF : F Dd = none) : EnvOk K A F (upd G Dd u) H σ en := by
  obtain ⟨c, x⟩ := k.ex
  have hD : H Dd = some u := k.ok.fh _ _ upd_same
  have sg : Same G (upd G Dd u) := same_new hG
  have nA : ∀ q ∈ A, q.1 ≠ Dd := fun q hq z => by
    have := k.ok.fa q hq
    rw [z, upd_same] at this; cases this
  have nC : ∀ i o, gt en i = .cel o → c i ≠ Dd := fun i o e z => by
    obtain ⟨_, _, _, e4, _⟩ := x.cel i o e
    rw [z, upd_same] at e4; cases e4
  refine ⟨⟨fun b w hb => ?_, fun b w hb => ?_, fun q hq => ?_, fun q hq => ?_⟩, k.len, c, fun i d e => ?_, fun i o e => ?_, x.inj⟩
  · by_cases hbd : b = Dd
    · subst hbd; rw [upd_same] at hb; cases hb; exact hD
    · rw [upd_ne hbd] at hb; exact k.ok.gh _ _ hb
  · refine k.ok.fh b w ?_
    rw [upd_ne (fun z => by subst z; rw [hF] at hb; cases hb)]; exact hb
  · have := k.ok.fa q hq
    rw [upd_ne (nA q hq)] at this; exact this
  · obtain ⟨a1, o1, u1, a2, a3, a4⟩ := k.ok.am q hq
    exact ⟨by rw [upd_ne (nA q hq)]; exact a1, o1, u1, a2, a3.mono sg, a4⟩
  · obtain ⟨v, e1, e2⟩ := x.dat i d e
    exact ⟨v, e1, e2.mono sg⟩
  · obtain ⟨e1, ⟨u1, e2, e2'⟩, e3, e4, e5⟩ := x.cel i o e
    rw [upd_ne (nC i o e)] at e4
    exact ⟨e1, ⟨u1, e2, e2'.mono sg⟩, by rw [upd_ne (nC i o e)]; exact e3, e4, e5⟩
end
/-- what a comprehension asks behind its source -/
def LcGoal (g : FG) (ft : FT) (fe : FE) (vs : List Nat) (e1 : En) (items : List D) (Φ : D → En → Prop) : Prop := ∃ I : Nat → List D → Prop, I 0 [] ∧
  (∀ k x acc, items[k]? = some x → I k acc → acc.length < 100000 ∧ g x (wipeE e1 vs) fun e2 => ft e2 fun b e3 =>
    if b = true then fe e3 fun d e4 => wipeE e4 vs = wipeE e1 vs ∧ I (k + 1) (acc ++ [d]) else wipeE e3 vs = wipeE e1 vs ∧ I (k + 1) acc) ∧ ∀ acc, I items.length acc → Φ (.lst acc) (wipeE e1 vs)
def fLc (fi : FI) (g : FG) (ft : FT) (fe : FE) (vs : List Nat) : FE := fun en Φ => fi en fun items e1 => LcGoal g ft fe vs e1 items Φ
theorem le_lc {K : PySem.W.Frag} {A : Am} {fi : FI} {g : FG} {ft : FT} {fe : FE} {vs : List Nat} {σ : L2.St} {H : Hp} {Q : VK} (h : LE K A (fLc fi g ft fe vs) σ H Q) : tLc (LI K A fi) (LG K A vs g) (LT K A ft) (LE K A fe) vs σ H Q := by
  obtain ⟨F, G, en, Ψ, k, h, q⟩ := h
  refine ⟨F, G, en, _, k, h, fun items e1 G1 H1 J hI k1 s1 Y Dd hD => ?_⟩
  obtain ⟨I, i0, it, id⟩ := hI
  obtain ⟨k2, gD, fD⟩ := k1.tmpAdd (u := .lst []) hD
  refine ⟨fun i m H' => ∃ G' acc xs, I i acc ∧ EnvOk K A (upd F Dd (.lst xs)) G' H' σ (wipeE e1 vs) ∧ Step F G1 G' ∧ G' Dd = none ∧ RepA K G' acc xs ∧ i + m = items.length,
    ⟨items.length, G1, [], [], i0, (k2.wiped vs).unwipe, Step.refl _ _, gD, .nil, by omega⟩, fun i m H2 w => ?_⟩
  obtain ⟨G2, acc, xs, ia, k3, s3, g3, ra, hm⟩ := w
  by_cases hi : i < items.length
  · refine .inr ⟨Y.go G2 H2 i s3.g k3.ok.gh hi, fun H' => ∃ G' acc xs, I (i + 1) acc ∧ EnvOk K A (upd F Dd (.lst xs)) G' H' σ (wipeE e1 vs) ∧ Step F G1 G' ∧ G' Dd = none ∧ RepA K G' acc xs,
      fun H' ⟨G', acc, xs, a, b, c, d, e⟩ => ⟨m - 1, by omega, G', acc, xs, a, b, c, d, e, by omega⟩, fun x H' hy => ?_⟩
    obtain ⟨G4, g4, s4, r4⟩ := Y.yl G2 H2 i x H' _ s3.g k3.ok.gh (List.getElem?_eq_getElem hi) hy
    have k4 := k3.grow g4 s4
    obtain ⟨hlen, hturn⟩ := it i _ acc (List.getElem?_eq_getElem hi) ia
    have k4' : EnvOk K A (upd F Dd (.lst xs)) G4 H' (wipe σ vs) (wipeE e1 vs) := by
      have := k4.wiped vs
      have ee : wipeE (wipeE e1 vs) vs = wipeE e1 vs := wipeE_wipeE e1 vs
      rw [ee] at this
      exact this
    have st4 := g4.step k3.ok.fh
    refine ⟨_, G4, _, _, _, k4', r4, hturn, fun e5 σ5 G5 H5 h5 k5 s5 w5 => ?_⟩
    have w5' : wipe σ5 vs = wipe σ vs := by rw [w5, wipe_wipe]
    refine ⟨w5', _, G5, e5, _, k5, h5, fun b e6 G6 H6 h6 k6 s6 => ?_⟩
    cases b with
    | true =>
      rw [if_pos rfl]
      refine ⟨_, G6, e6, _, k6, h6, fun d e7 v G7 H7 h7 k7 s7 r7 => ?_⟩
      obtain ⟨we, i7⟩ := h7
      have hstep : Step (upd F Dd (.lst xs)) G2 G7 := ((st4.trans s5).trans s6).trans s7
      have hDD : H7 Dd = some (.lst xs) := k7.ok.fh _ _ upd_same
      have hGD : G7 Dd = none := by rw [hstep.f Dd _ upd_same]; exact g3
      refine ⟨xs, hDD, by rw [ra.len]; exact Nat.lt_of_lt_of_le hlen (by decide), G7, acc ++ [d], xs ++ [v], i7, ?_, ⟨s3.g.trans hstep.g, fun a u hu => ?_⟩, hGD, (ra.mono hstep.g).app (.cons r7 .nil)⟩
      · have kk := (k7.wiped vs)
        rw [we, w5'] at kk
        exact (kk.unwipe).tmpSet hGD
      · rw [← s3.f a u hu]
        refine hstep.f a u ?_
        rw [upd_ne (fun z => by subst z; rw [fD] at hu; cases hu)]
        exact hu
    | false =>
      rw [if_neg Bool.false_ne_true]
      obtain ⟨we, i7⟩ := h6
      have hstep : Step (upd F Dd (.lst xs)) G2 G6 := (st4.trans s5).trans s6
      refine ⟨G6, acc, xs, i7, ?_, ⟨s3.g.trans hstep.g, fun a u hu => ?_⟩, by rw [hstep.f Dd _ upd_same]; exact g3, ra.mono hstep.g⟩
      · have kk := (k6.wiped vs)
        rw [we, w5'] at kk
        exact kk.unwipe
      · rw [← s3.f a u hu]
        refine hstep.f a u ?_
        rw [upd_ne (fun z => by subst z; rw [fD] at hu; cases hu)]
        exact hu
  · have hil : i = items.length := by omega
    subst hil
    refine .inl ⟨Y.sp G2 H2 _ s3.g k3.ok.gh (Nat.le_refl _), ?_⟩
    have kf := k3.tmpFrz g3 fD
    have sg : Same G2 (upd G2 Dd (.lst xs)) := same_new g3
    exact q _ _ (.ref Dd) (upd G2 Dd (.lst xs)) H2 (id acc ia) kf ((s1.trans s3).trans ⟨sg, fun a u hu => upd_ne (fun z => by subst z; rw [fD] at hu; cases hu)⟩)
      (rep_lst.mpr ⟨Dd, xs, rfl, upd_same, ra.mono sg⟩)
abbrev DTs (X : Cx) (A : Am) (ifs : List Expr) (f : FT) : Prop := PTs X ifs (LT X.K A f)
theorem pts_weak {X : Cx} {e : List Expr} {t t' : TT} (h : PTs X e t) (k : ∀ σ H Q, t' σ H Q → t σ H Q) : PTs X e t' := ⟨fun pins s σ H Q I q => h.run pins s σ H Q I (k σ H Q q)⟩
def fYes : FT := fun en Φ => Φ true en
section
variable {X : Cx} {A : Am}
theorem dts_nil : DTs X A [] fYes := pts_weak pts_nil fun σ H Q ⟨F, G, en, Ψ, k, h, q⟩ => q true en G H h k (Step.refl _ _)
theorem dts_one {c : Expr} {ft : FT} (h : DT X A c ft) : DTs X A [c] ft := pts_one h
theorem de_lc {elt tg iter : Expr} {ifs : List Expr} {scope : Scope} {own : List (Str × Nat)} {pos : Pos} {fi : FI} {g : FG} {ft : FT} {fe : FE} (hc : X.calm = true) (hN : X.N.Nodup) (hi : DI X A tg iter fi) (ok : BlkOk X.N X.env.scope scope own)
    (hg : ∀ (s : Shared) (H : Hp) (C : Addr) (cl : List (Str × Addr)) (fp : List Addr), DG (X.blk s H scope (compEnvC scope cl C X.env) fp) A (own.map (·.2)) tg g) (ht : ∀ (s : Shared) (H : Hp) (C : Addr) (cl : List (Str × Addr)) (fp : List Addr), DTs (X.blk s H scope (compEnvC scope cl C X.env) fp) A ifs ft)
    (he : ∀ (s : Shared) (H : Hp) (C : Addr) (cl : List (Str × Addr)) (fp : List Addr), DE (X.blk s H scope (compEnvC scope cl C X.env) fp) A elt fe) (hs : ∀ x, foldedSetIterable iter X.env x = pure x := by intro _; rfl) :
    DE X A (.ListComp elt [⟨tg, iter, ifs, 0⟩] scope pos) (fLc fi g ft fe (own.map (·.2))) := pe_weak (pe_lc hc hN hi ok hg ht he hs) fun _ _ _ h => le_lc h
theorem ds_setLc {i : Nat} {y : Str} {py : Pos} {elt tg iter : Expr} {ifs : List Expr} {scope : Scope} {own : List (Str × Nat)} {pos spos : Pos} {fi : FI} {g : FG} {ft : FT} {fe : FE} (hc : X.calm = true) (hN : X.N.Nodup) (hy : X.N[i]? = some y) (hyl : X.env.scope.names.lookup y = some .local)
    (hsw : swapsWith (.ListComp elt [⟨tg, iter, ifs, 0⟩] scope pos) (some (.Name y py)) spos.line X.env = pure true) (hi : DI X A tg iter fi) (ok : BlkOk X.N X.env.scope scope own)
    (hg : ∀ (s : Shared) (H : Hp) (C : Addr) (cl : List (Str × Addr)) (fp : List Addr), DG (X.blk s H scope (compEnvC scope cl C X.env) fp) A (own.map (·.2)) tg g) (ht : ∀ (s : Shared) (H : Hp) (C : Addr) (cl : List (Str × Addr)) (fp : List Addr), DTs (X.blk s H scope (compEnvC scope cl C X.env) fp) A ifs ft)
    (he : ∀ (s : Shared) (H : Hp) (C : Addr) (cl : List (Str × Addr)) (fp : List Addr), DE (X.blk s H scope (compEnvC scope cl C X.env) fp) A elt fe) (hs : ∀ x, foldedSetIterable iter X.env x = pure x := by intro _; rfl) :
    DS X A (.Assign [.Name y py] (.ListComp elt [⟨tg, iter, ifs, 0⟩] scope pos) spos) (fAsg (fLc fi g ft fe (own.map (·.2))) (gN i)) :=
  ps_weak (ps_setLc hc hN hy hyl hsw hi ok hg ht he hs) fun Dd σ H ⟨F, G, en, Ψ, k, h, q1, _⟩ => by
    show tLc _ _ _ _ _ σ H fun x H1 => gName i x σ H1 Dd.nx
    refine le_lc ⟨F, G, en, _, k, h, fun d e1 v G1 H1 z k1 s1 r1 => ?_⟩
    exact q1 _ _ G1 H1 z (k1.put r1) s1
end
end Dz

namespace Dz
open PySem PySem.Spec PyProof.Rows L2

/-! ### calls of own defs -/
abbrev PD := Am → List D → (D → Prop) → Prop
/-- the frame of a call: all but the ambient -/
def minus (A : Am) (H : Hp) : Hp := fun a => if (A.any fun q => q.1 == a) = true then none else H a
theorem minus_in {A : Am} {H : Hp} {q : Addr × (HD → Prop)} (h : q ∈ A) : minus A H q.1 = none := by
  unfold minus
  rw [if_pos]
  rw [List.any_eq_true]
  exact ⟨q, h, by simp⟩
theorem minus_out {A : Am} {H : Hp} {a : Addr} (h : ∀ q ∈ A, q.1 ≠ a) : minus A H a = H a := by
  unfold minus
  rw [if_neg]
  intro z
  rw [List.any_eq_true] at z
  obtain ⟨q, h1, h2⟩ := z
  exact h q h1 (by simpa using h2)
theorem minus_same {A : Am} {H : Hp} : Same (minus A H) H := fun a u h => by
  unfold minus at h
  split at h
  · cases h
  · exact h
def spD (K : PySem.W.Frag) (pd : PD) : Sp := fun vs H Q _ => ∃ (A : Am) (G : Hp) (ds : List D) (Ψ : D → Prop), StOk K A (minus A H) G H ∧ RepA K G ds vs ∧ pd A ds Ψ ∧
  ∀ d v G' H', Ψ d → StOk K A (minus A H) G' H' → Step (minus A H) G G' → Rep K G' d v → Q v H'
section
variable {K : PySem.W.Frag} {A : Am} {F G H G' H' : Hp} {σ : L2.St} {en : En}
theorem StOk.call (k : StOk K A F G H) : StOk K A (minus A H) G H := ⟨k.gh, minus_same, fun q hq => minus_in hq, k.am⟩
theorem frame_minus (k : StOk K A F G H) {a : Addr} {u : HO} (h : F a = some u) : minus A H a = some u := by
  rw [minus_out]
  · exact k.fh _ _ h
  · intro q hq z
    subst z
    rw [k.fa q hq] at h; cases h
theorem EnvOk.called (k : EnvOk K A F G H σ en) (k' : StOk K A (minus A H) G' H') (s : Step (minus A H) G G') : EnvOk K A F G' H' σ en ∧ Step F G G' := by
  have sF : Step F G G' := ⟨s.g, fun a u h => s.f a u (frame_minus k.ok h)⟩
  obtain ⟨c, x⟩ := k.ex
  refine ⟨⟨⟨k'.gh, fun a u h => k'.fh _ _ (frame_minus k.ok h), k.ok.fa, k'.am⟩, k.len, c, fun i d e => ?_, fun i o e => ?_, x.inj⟩, sF⟩
  · obtain ⟨v, e1, e2⟩ := x.dat i d e
    exact ⟨v, e1, e2.mono s.g⟩
  · obtain ⟨e1, ⟨u, e2, e3⟩, e4, e5, e6⟩ := x.cel i o e
    have hm : minus A H (c i) = some u := by rw [minus_out e6]; exact e2
    exact ⟨e1, ⟨u, k'.fh _ _ hm, e3.mono s.g⟩, (s.f _ _ hm).trans e4, e5, e6⟩
end
def fCall (pd : PD) (A : Am) (fr : FA) : FE := fun en Φ => fr en fun ds e => pd A ds fun d => Φ d e
section
variable {X : Cx} {A : Am} {k : Nat} {f : Addr} {fd : FuncData} {ps : List Str} {pd : PD} {x : Str} {p pos : Pos} {e : Expr} {es : List Expr} {fr : FA}
theorem le_call {E : XK} {σ : L2.St} {H : Hp} {Q : VK} {K : PySem.W.Frag} (h : LE K A (fCall pd A fr) σ H Q) : tCall (spD K pd) [] E (LA K A fr) σ H Q := by
  obtain ⟨F, G, en, Ψ, k, h, q⟩ := h
  refine ⟨F, G, en, _, k, h, fun ds e1 vs G1 H1 hp k1 s1 r1 => ?_⟩
  show spD K pd (vs ++ []) H1 Q E
  rw [List.append_nil]
  refine ⟨A, G1, ds, _, k1.ok.call, r1, hp, fun d v G2 H2 hd k2 s2 r2 => ?_⟩
  obtain ⟨k3, s3⟩ := k1.called k2 s2
  exact q d e1 v G2 H2 hd k3 (s1.trans s3) r2
theorem de_call (Fk : FnOk X.prog X.w X.K X.mg X.base CX0 k f fd ps (spD X.K pd)) (hr : Room k X.A) (hg : Gl X x) (hm : X.mg x = some (.ref f)) (hk : PySem.W.keepIn X.K (.ref f) = true) (hb : Binds X.K fd ps [])
    (ha : DA X A (e :: es) fr) (hdb : (x == ("__debug__" : Str)) = false := by decide) (he : starEach (e :: es) X.env = (false, eval e X.env) :: starEach es X.env := by rfl) (hpl : (backTo pos (starEach es X.env)).any (·.1) = false := by rfl) :
    DE X A (.Call (.Name x p) (e :: es) [] pos) (fCall pd A fr) := pe_weak (pe_call Fk hr hg hm hk hb .nil pass0 ha hdb he hpl) fun _ _ _ h => le_call h
theorem de_call0 (Fk : FnOk X.prog X.w X.K X.mg X.base CX0 k f fd ps (spD X.K pd)) (hr : Room k X.A) (hg : Gl X x) (hm : X.mg x = some (.ref f)) (hk : PySem.W.keepIn X.K (.ref f) = true) (hb : Binds X.K fd ps [])
    (hdb : (x == ("__debug__" : Str)) = false := by decide) : DE X A (.Call (.Name x p) [] [] pos) (fCall pd A fNil) := pe_weak (pe_call0 Fk hr hg hm hk hb .nil pass0 hdb) fun σ H Q h => by
      obtain ⟨F, G, en, Ψ, k, h, q⟩ := h
      show spD X.K pd ([] ++ []) H Q E0
      refine ⟨A, G, [], _, k.ok.call, .nil, h, fun d v G2 H2 hd k2 s2 r2 => ?_⟩
      obtain ⟨k3, s3⟩ := k.called k2 s2
      exact q d en v G2 H2 hd k3 s3 r2
end
/-- the entry of a body -/
theorem gt_dat : ∀ {ds : List D} {m i : Nat} {e : EV}, gt (ds.map EV.dat ++ List.replicate m EV.un) i = e → e ≠ .un → ∃ d, e = .dat d ∧ ds[i]? = some d
  | [], 0, i, e, h, hn => by simp [gt] at h; exact absurd h.symm hn
  | [], m + 1, 0, e, h, hn => by
    rw [List.map_nil, List.nil_append, List.replicate_succ] at h
    exact absurd h.symm hn
  | [], m + 1, i + 1, e, h, hn => by
    rw [List.map_nil, List.nil_append, List.replicate_succ] at h
    exact gt_dat (ds := []) (m := m) (i := i) h hn
  | d :: ds, m, 0, e, h, hn => ⟨d, h.symm, rfl⟩
  | d :: ds, m, i + 1, e, h, hn => by
    obtain ⟨d', h1, h2⟩ := gt_dat (ds := ds) (m := m) (i := i) (e := e) h hn
    exact ⟨d', h1, by simpa using h2⟩
theorem EnvOk.start {K : PySem.W.Frag} {A : Am} {F G H : Hp} {ds : List D} {vs : List V} {N : List Str} (k : StOk K A F G H) (r : RepA K G ds vs) : EnvOk K A F G H (start N vs) (ds.map EV.dat ++ List.replicate (N.length - ds.length) EV.un) := by
  have hl := r.len
  refine ⟨k, ?_, fun _ => 0, fun i d e => ?_, fun i o e => ?_, fun i j o u e => ?_⟩
  · unfold L2.start
    simp only [List.length_append, List.length_map, List.length_replicate, hl]
  · obtain ⟨d', h1, h2⟩ := gt_dat e (by intro z; cases z)
    cases h1
    obtain ⟨v, e1, e2⟩ := r.get h2
    refine ⟨v, ?_, e2⟩
    unfold L2.start
    have hi : i < vs.length := (List.getElem?_eq_some_iff.mp e1).1
    rw [List.getElem?_append_left (by rw [List.length_map]; exact hi), List.getElem?_map, e1]
    rfl
  · obtain ⟨d', h1, _⟩ := gt_dat e (by intro z; cases z)
    cases h1
  · obtain ⟨d', h1, _⟩ := gt_dat e (by intro z; cases z)
    cases h1
section
variable {P : Program} {w : World} {K : PySem.W.Frag} {mg : Str → Option Value} {base : Heap}
theorem fn_dz {x qual : Str} {s0 : Stmt} {f : Addr} {fd : FuncData} {N ps : List Str} {k : Nat} {pd : PD} {fb : Am → FS} (Fk : Fun K x qual s0 f fd) (S : FnScope N ps (defScope s0)) (hlen : ∀ A ds Ψ, pd A ds Ψ → ds.length = ps.length)
    (hb : ∀ (A : Am) (cdv : Value) (Ar : Around) (outer : List PySem.Env) (s : Shared) (H : Hp) (E : XK), Room k (Ar.deeper (envOfC qual (defScope s0) s.heap.objs.size f cdv)) → DSs (cxOf CX0 P w K mg base N qual (defScope s0) f cdv Ar outer s H E).nox A (defBody s0) (fb A))
    (hm : ∀ A ds Ψ, pd A ds Ψ → fb A (ds.map EV.dat ++ List.replicate (N.length - ds.length) EV.un) { nx := fun _ => Ψ .non, rt := Ψ }) : FnOk P w K mg base CX0 (k + 1) f fd ps (spD K pd) := by
  refine Fk.ok S (fun vs H Q E h => ?_) (fun cdv A outer s H vs Q E hr h => ?_)
  · obtain ⟨A, G, ds, Ψ, _, r, hp, _⟩ := h
    rw [r.len]
    exact hlen A ds Ψ hp
  · obtain ⟨Am', G, ds, Ψ, k0, r, hp, q⟩ := h
    refine ⟨_, hb Am' cdv A outer s H E hr, minus Am' H, G, _, _, EnvOk.start k0 r, hm Am' ds Ψ hp, fun e σ' G' H' hn k1 s1 => ?_, fun d v G' H' hd k1 s1 r1 => ?_, fun _ _ _ _ z => z.elim, fun _ _ _ _ z => z.elim⟩
    · exact q .non .non G' H' hn k1.ok s1 (rep_non.mpr rfl)
    · exact q d v G' H' hd k1 s1 r1
end

/-! ### changing lists and dicts of one's own -/
abbrev FN := En → (HD → En → Prop) → Prop
def LN (K : PySem.W.Frag) (A : Am) (f : FN) : TE := fun σ H Q => ∃ (F G : Hp) (en : En) (Ψ : HD → En → Prop), EnvOk K A F G H σ en ∧ f en Ψ ∧
  ∀ o en' p G' H', Ψ o en' → EnvOk K A F G' H' (σ ++ [some (.ref p)]) (en' ++ [.cel o]) → Step F G G' → Q (.ref p) H'
abbrev DN (X : Cx) (A : Am) (e : Expr) (f : FN) : Prop := PE X e (LN X.K A f)
section
variable {X : Cx} {A : Am} {e a b : Expr} {es : List Expr} {pos : Pos} {fa fb : FE} {fn : FN} {fr : FA}
def nLst (fr : FA) : FN := fun en Φ => fr en fun xs e => xs.length ≤ 100000 ∧ Φ (.lst xs) e
theorem dn_lst (h : DA X A es fr) : DN X A (.List es pos) (nLst fr) := pe_weak (pe_lst h) fun σ H Q ⟨F, G, en, Ψ, k, h, q⟩ =>
  ⟨F, G, en, _, k, h, fun xs e1 vs G1 H1 hb k1 s1 r1 => ⟨by rw [r1.len]; exact sz_of hb.1, fun p hp => q _ _ p G1 _ hb.2 (k1.newcell hp ⟨vs, rfl, r1⟩) s1⟩⟩
def nDct : FN := fun en Φ => Φ (.dct [] []) en
theorem dn_dct : DN X A (.Dict [] [] pos) nDct := pe_weak pe_dnewK fun σ H Q ⟨F, G, en, Ψ, k, h, q⟩ => fun p hp => q _ _ p G _ h (k.newcell hp ⟨[], rfl, .nil, rfl⟩) (Step.refl _ _)
def fSetN (i : Nat) (fn : FN) : FS := fun en Ψ => fn en fun o e => Ψ.nx (st e i (.cel o))
theorem ds_setN {i : Nat} {x : Str} {px : Pos} (hN : X.N.Nodup) (hi : X.N[i]? = some x) (hx : Loc X.env.scope x) (he : DN X A e fn) (hf : X.fn x = true ∨ X.env.scope.names.lookup x = some .local := by first | exact .inl rfl | exact .inr rfl | assumption)
    (hs : swapsWithSole [.Name x px] e pos.line X.env = pure false := by rfl) (hw : swappedStores [.Name x px] e X.env = pure none := by rfl) : DS X A (.Assign [.Name x px] e pos) (fSetN i fn) :=
  ps_weak (ps_asg he (pg_name hN hi hx hf) hs hw) fun Dd σ H ⟨F, G, en, Ψ, k, h, q1, _⟩ => ⟨F, G, en, _, k, h, fun o e1 p G1 H1 z k1 s1 => q1 _ _ G1 H1 z k1.move s1⟩
/-- a slot's value as it is -/
theorem slot_var {K : PySem.W.Frag} {F G H : Hp} {σ : L2.St} {en : En} {i : Nat} {o : HD} {Q : VK} (k : EnvOk K A F G H σ en) (eg : gt en i = .cel o) (h : ∀ p u, σ[i]? = some (some (.ref p)) → H p = some u → RepO K G o u → Q (.ref p) H) : tVar i σ H Q := by
  obtain ⟨p, u, e1, e2, e3⟩ := k.slot eg
  exact ⟨.ref p, e1, h p u e1 e2 e3⟩
/-- x.append(e), x a changing list -/
def fApp (i : Nat) (fa : FE) : FS := fun en Ψ => ∃ l, gt en i = .cel (.lst l) ∧ fa en fun d e => ∃ l', gt e i = .cel (.lst l') ∧ l'.length < 100000 ∧ Ψ.nx (st e i (.cel (.lst (l' ++ [d]))))
theorem ds_append {i : Nat} {x : Str} {px apos cpos : Pos} (hN : X.N[i]? = some x) (hv : Vis X.env.scope x) (he : DE X A e fa)
    (hd : (x == ("__debug__" : Str)) = false := by decide) (hcd : (x == ("__classdict__" : Str)) = false := by decide)
    (hbase : attributeBase (.Name x px) "append" X.env (eval (.Name x px) X.env) = eval (.Name x px) X.env := by rfl)
    (hfew : ((backTo cpos (starEach [e] X.env)).all (fun x => !x.1) && (backToKw cpos (keywordEach [] X.env)).all (fun x => x.1.isSome)
      && decide (([e] : List Expr).length + ([] : List Keyword).length + (if ([] : List Keyword).isEmpty then 0 else 1) < 30)) = true := by rfl)
    (hline : (apos.endLine == cpos.line) = true := by rfl) (hs : starEach [e] X.env = (false, eval e X.env) :: starEach [] X.env := by rfl) (hplain : (backTo cpos (starEach [] X.env)).any (·.1) = false := by rfl)
    (hsw : swapsWith (.Call (.Attribute (.Name x px) "append" apos) [e] [] cpos) none pos.line X.env = pure false := by rfl) :
    DS X A (.Expr (.Call (.Attribute (.Name x px) "append" apos) [e] [] cpos) pos) (fApp i fa) :=
  ps_weak (ps_expr (pe_bm PySem.F.plainAttrs_list PySem.F.slot_list_append PySem.F.type_list_append mt_append (pv i hN hv hd hcd) (pa_cons he pa_nil hs) hbase hfew hline hs hplain) hsw) fun Dd σ H ⟨F, G, en, Ψ, k, h, q1, _⟩ => by
    obtain ⟨l, eg, h⟩ := h
    obtain ⟨p, u, e1, e2, e3⟩ := k.slot eg
    obtain ⟨xs, eu, ra⟩ := e3
    subst eu
    refine ⟨.ref p, e1, .inl ⟨rfl, xs, .inl (.inl e2)⟩, F, G, en, _, k, h, fun d ee v G1 H1 z k1 s1 r1 => ?_⟩
    obtain ⟨l', eg', hl, z⟩ := z
    obtain ⟨p', u', f1, f2, f3⟩ := k1.slot eg'
    rw [e1] at f1
    have ep : p = p' := by injection f1 with f1; injection f1 with f1; injection f1
    subst ep
    obtain ⟨ys, eu, rb⟩ := f3
    subst eu
    refine ⟨p, ys, v, rfl, rfl, f2, by rw [rb.len]; exact Nat.lt_of_lt_of_le hl (by decide), ?_⟩
    exact q1 _ _ G1 _ z (k1.alter (u' := .lst (ys ++ [v])) eg' e1 ⟨_, rfl, rb.app (.cons r1 .nil)⟩) s1
/-- x[k] = e, x a changing dict -/
def mapAt : List Key → List D → Key → D → List D
  | k' :: ks, d :: l, k, v => (if k' = k then v else d) :: mapAt ks l k v
  | _, _, _, _ => []
def hasK (ks : List Key) (k : Key) : Bool := ks.any fun k' => decide (k' = k)
def putKd (ks : List Key) (l : List D) (k : Key) (v : D) : List D := if hasK ks k = true then mapAt ks l k v else l ++ [v]
def putKs (ks : List Key) (k : Key) : List Key := if hasK ks k = true then ks else ks ++ [k]
def keyD : D → Option Key
  | .int i => some (.inl i)
  | .str x => some (.inr x)
  | _ => none
theorem keyD_rep {K : PySem.W.Frag} {G : Hp} {d : D} {k : Key} {v : V} (h : keyD d = some k) (r : Rep K G d v) : v = kV k := by
  cases d <;> try (cases h; done)
  · cases h; exact rep_int.mp r
  · cases h; exact rep_str.mp r
theorem any_zip {k : Key} : ∀ {ks : List Key} {xs : List V}, ks.length = xs.length → ((ks.zip xs).any fun kv => decide (kv.1 = k)) = hasK ks k
  | [], [], _ => rfl
  | [], _ :: _, h => by cases h
  | _ :: _, [], h => by cases h
  | k' :: ks, x :: xs, h => by
    have ih := any_zip (k := k) (ks := ks) (xs := xs) (by simpa using h)
    unfold hasK at ih ⊢
    simp only [List.zip_cons_cons, List.any_cons, ih]
theorem map_zip {K : PySem.W.Frag} {G : Hp} {k : Key} {v : V} {d : D} (hd : Rep K G d v) : ∀ {ks : List Key} {l : List D} {xs : List V}, ks.length = l.length → RepA K G l xs →
    ∃ ys, (ks.zip xs).map (fun kv => if kv.1 = k then (kv.1, v) else kv) = ks.zip ys ∧ RepA K G (mapAt ks l k d) ys ∧ (mapAt ks l k d).length = l.length
  | [], [], xs, _, r => by
    unfold RepA at r
    subst r
    exact ⟨[], rfl, .nil, rfl⟩
  | [], _ :: _, _, h, _ => by cases h
  | _ :: _, [], _, h, _ => by cases h
  | k' :: ks, d' :: l, xs, h, r => by
    unfold RepA at r
    obtain ⟨x, t, rfl, r1, r2⟩ := r
    have h' : ks.length = l.length := by simpa using h
    obtain ⟨ys, e1, e2, e3⟩ := map_zip (k := k) hd h' r2
    unfold mapAt
    simp only [List.zip_cons_cons, List.map_cons, e1, List.length_cons, e3]
    by_cases hk : k' = k
    · simp only [if_pos hk]
      exact ⟨v :: ys, rfl, .cons hd e2, trivial⟩
    · simp only [if_neg hk]
      exact ⟨x :: ys, rfl, .cons r1 e2, trivial⟩
theorem putK_zip {K : PySem.W.Frag} {G : Hp} {k : Key} {v : V} {d : D} (hd : Rep K G d v) {ks : List Key} {l : List D} {xs : List V} (h : ks.length = l.length) (r : RepA K G l xs) :
    ∃ ys, putK (ks.zip xs) k v = (putKs ks k).zip ys ∧ RepA K G (putKd ks l k d) ys ∧ (putKs ks k).length = (putKd ks l k d).length := by
  have hx : ks.length = xs.length := h.trans r.len.symm
  unfold putK putKs putKd
  rw [any_zip hx]
  by_cases hk : hasK ks k = true
  · simp only [hk, if_true]
    obtain ⟨ys, e1, e2, e3⟩ := map_zip (k := k) hd h r
    exact ⟨ys, e1, e2, by rw [e3]; exact h⟩
  · simp only [if_neg hk]
    refine ⟨xs ++ [v], ?_, r.app (.cons hd .nil), by simp only [List.length_append, h, List.length_singleton]⟩
    rw [List.zip_append hx]
    rfl
def fPutD (i : Nat) (fk fv : FE) : FS := fun en Ψ => fv en fun dv e1 => ∃ ks l, gt e1 i = .cel (.dct ks l) ∧ fk e1 fun dk e2 => ∃ k, keyD dk = some k ∧ ∃ ks' l', gt e2 i = .cel (.dct ks' l') ∧ ks'.length < 100000 ∧ Ψ.nx (st e2 i (.cel (.dct (putKs ks' k) (putKd ks' l' k dv))))
theorem ds_putD {i : Nat} {x : Str} {px pos' : Pos} {kx : Expr} {fk fv : FE} (hu : X.A.units + 1 < cLine) (hN : X.N[i]? = some x) (hv : Vis X.env.scope x) (hk : DE X A kx fk) (he : DE X A e fv)
    (hd : (x == ("__debug__" : Str)) = false := by decide) (hcd : (x == ("__classdict__" : Str)) = false := by decide) (hs : swapsWith e (some (.Subscript (.Name x px) kx pos')) pos.line X.env = pure false := by rfl) :
    DS X A (.Assign [.Subscript (.Name x px) kx pos'] e pos) (fPutD i fk fv) := ps_weak (ps_dput hu (pv i hN hv hd hcd) hk he hs) fun Dd σ H ⟨F, G, en, Ψ, k, h, q1, _⟩ => by
  refine ⟨F, G, en, _, k, h, fun dv e1 v G1 H1 z k1 s1 r1 => ?_⟩
  obtain ⟨ks, l, eg, z⟩ := z
  obtain ⟨p, u, f1, f2, f3⟩ := k1.slot eg
  refine ⟨.ref p, f1, F, G1, e1, _, k1, z, fun dk e2 kv G2 H2 z k2 s2 r2 => ?_⟩
  obtain ⟨key, hkey, ks', l', eg', hl, z⟩ := z
  have ek := keyD_rep hkey r2
  subst ek
  obtain ⟨p', u', g1, g2, g3⟩ := k2.slot eg'
  rw [f1] at g1
  have ep : p = p' := by injection g1 with g1; injection g1 with g1; injection g1
  subst ep
  obtain ⟨ys, eu, rb, hlen⟩ := g3
  subst eu
  obtain ⟨zs, e3, e4, e5⟩ := putK_zip (k := key) (r1.mono s2.g) hlen rb
  refine ⟨p, upd H2 p (.dK (putK (ks'.zip ys) key v)), rfl, .inl ⟨_, key, g2, rfl, ?_, rfl⟩, ?_⟩
  · rw [List.length_zip]
    exact Nat.lt_of_le_of_lt (Nat.min_le_left _ _) (Nat.lt_of_lt_of_le hl (by decide))
  · rw [e3]
    exact q1 _ _ G2 _ z (k2.alter (u' := .dK ((putKs ks' key).zip zs)) eg' f1 ⟨zs, rfl, e4, e5⟩) (s1.trans s2)

/-! ### t[::-1]; split -/
def rRevD : R1D := fun x Φ => match x with
  | .tup l => Φ (.tup l.reverse)
  | _ => False
def fRev (fa : FE) : FE := fun en Φ => fa en fun x e1 => rRevD x fun z => Φ z e1
theorem de_revT {k : Nat} {p1 p2 p3 : Pos} (he : DE X A e fa) : DE X A (.Subscript e (.Slice none none (some (.UnaryOp .USub (.Constant (.int 1) k p1) p2)) p3) pos) (fRev fa) := pe_weak (pe_revT he) fun σ H Q ⟨F, G, en, Ψ, k, h, q⟩ =>
  ⟨F, G, en, _, k, h, fun d e1 v G1 H1 z k1 s1 r1 => by
    unfold rRevD at z
    cases d with
    | tup l =>
      obtain ⟨p, xs, rfl, sq, ra⟩ := rep_tup.mp r1
      refine ⟨p, xs, rfl, sqt_mono k1.ok.gh sq, fun p' hp => ?_⟩
      have g : Grow G1 H1 (upd G1 p' (.tup xs.reverse)) (upd H1 p' (.tup xs.reverse)) := Grow.new k1.ok.gh hp
      exact q _ e1 _ _ _ z (k1.grow g (same_upd2 k1.ok.gh)) (s1.trans (g.step k1.ok.fh)) (rep_tup.mpr ⟨p', _, rfl, .inl (.inl upd_same), (ra.rev).mono g.g⟩)
    | _ => exact z.elim⟩
def fSplit (fa fb : FE) : FE := fun en Φ => fa en fun x e1 => ∃ a, x = .str a ∧ fb e1 fun y e2 => ∃ b, y = .str b ∧ (b.length == 0) = false ∧ a.length + 2 ≤ sizeLine ∧ Φ (.lst ((Txt.split a b).map D.str)) e2
theorem de_split {o : Expr} {apos : Pos} (ho : DE X A o fa) (he : DE X A e fb) (hs : starEach [e] X.env = [(false, eval e X.env)] := by rfl) (hbase : attributeBase o "split" X.env (eval o X.env) = eval o X.env := by rfl) (hline : (apos.endLine == pos.line) = true := by rfl) :
    DE X A (.Call (.Attribute o "split" apos) [e] [] pos) (fSplit fa fb) := pe_weak (pe_split ho he hs hbase hline) fun σ H Q ⟨F, G, en, Ψ, k, h, q⟩ =>
  ⟨F, G, en, _, k, h, fun d e1 v G1 H1 z k1 s1 r1 => by
    obtain ⟨a, rfl, z⟩ := z
    cases rep_str.mp r1
    refine ⟨⟨a, rfl⟩, F, G1, e1, _, k1, z, fun d2 e2 v2 G2 H2 z2 k2 s2 r2 => ?_⟩
    obtain ⟨b, rfl, h1, h2, z2⟩ := z2
    cases rep_str.mp r2
    refine ⟨a, b, rfl, rfl, h1, h2, fun p hp => ?_⟩
    have g : Grow G2 H2 (upd G2 p (.lst ((Txt.split a b).map V.str))) (upd H2 p (.lst ((Txt.split a b).map V.str))) := Grow.new k2.ok.gh hp
    exact q _ e2 _ _ _ z2 (k2.grow g (same_upd2 k2.ok.gh)) ((s1.trans s2).trans (g.step k2.ok.fh)) (rep_lst.mpr ⟨p, _, rfl, upd_same, repA_strs _⟩)⟩
/-- truth -/
def truD : D → Option Bool
  | .non => some false
  | .bl b => some b
  | .int i => some (i != 0)
  | .tup l => some (!l.isEmpty)
  | .lst l => some (!l.isEmpty)
  | .fro l => some (!l.isEmpty)
  | _ => none
theorem empty_of {K : PySem.W.Frag} {G : Hp} {l : List D} {xs : List V} (r : RepA K G l xs) : xs.isEmpty = l.isEmpty := by
  have := r.len
  cases l <;> cases xs <;> simp_all
def fTru (fa : FE) : FT := fun en Φ => fa en fun x e => ∃ k, truD x = some k ∧ Φ k e
theorem truV_of {K : PySem.W.Frag} {G H : Hp} (gh : Same G H) : ∀ {x : D} {v : V} {k : Bool}, truD x = some k → Rep K G x v → TruV K v H k
  | .non, v, k, h, r => by cases h; rw [rep_non.mp r]; rfl
  | .bl b, v, k, h, r => by cases h; rw [rep_bl.mp r]; rfl
  | .int b, v, k, h, r => by cases h; rw [rep_int.mp r]; rfl
  | .tup l, v, k, h, r => by
    cases h
    obtain ⟨p, xs, rfl, sq, ra⟩ := rep_tup.mp r
    exact .inr (.inl ⟨xs, sqt_mono gh sq, by rw [empty_of ra]⟩)
  | .lst l, v, k, h, r => by
    cases h
    obtain ⟨p, xs, rfl, sq, ra⟩ := rep_lst.mp r
    exact .inl ⟨xs, .inl (.inl (gh _ _ sq)), by rw [empty_of ra]⟩
  | .fro l, v, k, h, r => by
    cases h
    obtain ⟨p, xs, rfl, sq, ra⟩ := rep_fro.mp r
    exact .inl ⟨xs, gh.seq sq, by rw [empty_of ra]⟩
  | .str _, _, _, h, _ => by cases h
  | .dct _ _, _, _, h, _ => by cases h
  | .ins _ _ _, _, _, h, _ => by cases h
  | .tok _, _, _, h, _ => by cases h
  | .ty _, _, _, h, _ => by cases h
theorem dt_truth (ha : DE X A a fa) (he : ∀ whole, isTrue a X.env whole = (do let v ← whole; standAt a.pos; holding [v] (truthy v)) := by intro _; rfl) : DT X A a (fTru fa) := pt_weak (pt_truth ha he) fun σ H Q ⟨F, G, en, Ψ, k, h, q⟩ =>
  ⟨F, G, en, _, k, h, fun d e1 v G1 H1 z k1 s1 r1 => by
    obtain ⟨b, hb, z⟩ := z
    exact ⟨b, truV_of k1.ok.gh hb r1, q b e1 G1 H1 z k1 s1⟩⟩
end
end Dz

namespace Dz
open PySem PySem.Spec PyProof.Rows L2

/-! ### by truth -/
section
variable {X : Cx} {A : Am} {e a b : Expr} {es : List Expr} {pos : Pos} {fa fb : FE} {fr : FA}
def fNotT (fa : FE) : FE := fun en Φ => fa en fun x e1 => ∃ k, truD x = some k ∧ Φ (.bl (!k)) e1
theorem de_notT (ha : DE X A a fa) : DE X A (.UnaryOp .Not a pos) (fNotT fa) := pe_weak (pe_notT ha) fun σ H Q ⟨F, G, en, Ψ, k, h, q⟩ =>
  ⟨F, G, en, _, k, h, fun d e1 v G1 H1 z k1 s1 r1 => by
    obtain ⟨b, hb, z⟩ := z
    exact ⟨b, truV_of k1.ok.gh hb r1, q _ e1 _ G1 H1 z k1 s1 (rep_bl.mpr rfl)⟩⟩
def fAndT (fa fb : FE) : FE := fun en Φ => fa en fun x e1 => ∃ k, truD x = some k ∧ if k = true then fb e1 Φ else Φ x e1
def fOrT (fa fb : FE) : FE := fun en Φ => fa en fun x e1 => ∃ k, truD x = some k ∧ if k = true then Φ x e1 else fb e1 Φ
theorem de_andT {rest : List Expr} (ha : DE X A a fa) (hb : DE X A (.BoolOp .And (b :: rest) pos) fb) : DE X A (.BoolOp .And (a :: b :: rest) pos) (fAndT fa fb) := pe_weak (pe_andT ha hb) fun σ H Q ⟨F, G, en, Ψ, k, h, q⟩ =>
  ⟨F, G, en, _, k, h, fun d e1 v G1 H1 z k1 s1 r1 => by
    obtain ⟨b, hb, z⟩ := z
    refine ⟨b, truV_of k1.ok.gh hb r1, ?_⟩
    cases b with
    | true => exact ⟨F, G1, e1, _, k1, z, fun y e2 v2 G2 H2 hr k2 s2 r2 => q y e2 v2 G2 H2 hr k2 (s1.trans s2) r2⟩
    | false => exact q _ e1 _ G1 H1 z k1 s1 r1⟩
theorem de_orT {rest : List Expr} (ha : DE X A a fa) (hb : DE X A (.BoolOp .Or (b :: rest) pos) fb) : DE X A (.BoolOp .Or (a :: b :: rest) pos) (fOrT fa fb) := pe_weak (pe_orT ha hb) fun σ H Q ⟨F, G, en, Ψ, k, h, q⟩ =>
  ⟨F, G, en, _, k, h, fun d e1 v G1 H1 z k1 s1 r1 => by
    obtain ⟨b, hb, z⟩ := z
    refine ⟨b, truV_of k1.ok.gh hb r1, ?_⟩
    cases b with
    | false => exact ⟨F, G1, e1, _, k1, z, fun y e2 v2 G2 H2 hr k2 s2 r2 => q y e2 v2 G2 H2 hr k2 (s1.trans s2) r2⟩
    | true => exact q _ e1 _ G1 H1 z k1 s1 r1⟩
end

/-! ### the draw: a list of the script and a number that goes up -/
def drawOk (ns : List Int) : HD → Prop := fun o => ∃ n : Int, o = .lst [.fro (ns.map D.int), .int n]
structure DrawIn (A : Am) (p : Addr) (ns : List Int) : Prop where
  mem : (p, drawOk ns) ∈ A
  one : ∀ q ∈ A, q.1 = p → q = (p, drawOk ns)
  few : ns.length ≤ 63
theorem EnvOk.amb {K : PySem.W.Frag} {A : Am} {F G H : Hp} {σ : L2.St} {en : En} {p : Addr} {ns : List Int} {o : HD} {u : HO} (k : EnvOk K A F G H σ en) (d : DrawIn A p ns) (r : RepO K G o u) (ho : drawOk ns o) : EnvOk K A F G (upd H p u) σ en := by
  obtain ⟨c, x⟩ := k.ex
  obtain ⟨gp, _⟩ := k.ok.am _ d.mem
  have fp := k.ok.fa _ d.mem
  refine ⟨⟨fun b w hb => ?_, fun b w hb => ?_, k.ok.fa, fun q hq => ?_⟩, k.len, c, x.dat, fun i o e => ?_, x.inj⟩
  · rw [upd_ne (fun z => by subst z; rw [gp] at hb; cases hb)]; exact k.ok.gh _ _ hb
  · rw [upd_ne (fun z => by subst z; rw [fp] at hb; cases hb)]; exact k.ok.fh _ _ hb
  · obtain ⟨a1, o1, u1, a2, a3, a4⟩ := k.ok.am q hq
    by_cases hqp : q.1 = p
    · have e := d.one q hq hqp
      subst e
      exact ⟨a1, o, u, upd_same, r, ho⟩
    · exact ⟨a1, o1, u1, by rw [upd_ne hqp]; exact a2, a3, a4⟩
  · obtain ⟨e1, ⟨u1, e2, e3⟩, e4, e5, e6⟩ := x.cel i o e
    exact ⟨e1, ⟨u1, by rw [upd_ne (fun z => e6 _ d.mem z.symm)]; exact e2, e3⟩, e4, e5, e6⟩
theorem EnvOk.draw {K : PySem.W.Frag} {A : Am} {F G H : Hp} {σ : L2.St} {en : En} {p : Addr} {ns : List Int} (k : EnvOk K A F G H σ en) (d : DrawIn A p ns) :
    ∃ (x : V) (n : Int), H p = some (.lst [x, .int n]) ∧ Rep K G (.fro (ns.map D.int)) x := by
  obtain ⟨_, o, u, e, r, n, ho⟩ := k.ok.am _ d.mem
  subst ho
  obtain ⟨xs, rfl, ra⟩ := r
  obtain ⟨x, y, rfl, p1, p2⟩ := repA_2 ra
  cases rep_int.mp p2
  exact ⟨x, n, e, p1⟩
def fDrawIx (A : Am) (i : Nat) (k : Int) : FE := fun en Φ => ∃ p ns, gt en i = .dat (.tok p) ∧ DrawIn A p ns ∧ ((k = 0 ∧ Φ (.fro (ns.map D.int)) en) ∨ (k = 1 ∧ ∀ n : Int, Φ (.int n) en))
section
variable {X : Cx} {A : Am} {pos : Pos}
theorem de_drawIx (i : Nat) {k : Int} {x : Str} {px pk : Pos} {j} (hN : X.N[i]? = some x := by rfl) (hv : Vis X.env.scope x := by first | exact Or.inl rfl | exact Or.inr (Or.inl rfl) | exact Or.inr (Or.inr rfl)) (hd : (x == ("__debug__" : Str)) = false := by decide)
    (hcd : (x == ("__classdict__" : Str)) = false := by decide) : DE X A (.Subscript (.Name x px) (.Constant (.int k) j pk) pos) (fDrawIx A i k) := pe_weak (pe_ix ix_list (pv i hN hv hd hcd) pe_int (fun _ _ => rfl)) fun σ H Q ⟨F, G, en, Ψ, k0, h, q⟩ => by
  obtain ⟨p, ns, eg, d, h⟩ := h
  obtain ⟨c, sl⟩ := k0.ex
  obtain ⟨v, e1, e2⟩ := sl.dat i _ eg
  cases rep_tok.mp e2
  obtain ⟨y, n, hp, ry⟩ := k0.draw d
  rcases h with ⟨rfl, h⟩ | ⟨rfl, h⟩
  · exact ⟨.ref p, e1, p, _, 0, y, rfl, rfl, .inl (.inl hp), rfl, q _ en _ G H h k0 (Step.refl _ _) ry⟩
  · exact ⟨.ref p, e1, p, _, 1, .int n, rfl, rfl, .inl (.inl hp), rfl, q _ en _ G H (h n) k0 (Step.refl _ _) (rep_int.mpr rfl)⟩
def rGetL (K : PySem.W.Frag) : V → V → Hp → VK → Prop := fun o i H Q => ∃ p xs k v, o = .ref p ∧ i = .int k ∧ SqL K H p xs ∧ 0 ≤ k ∧ xs[k.toNat]? = some v ∧ Q v H
theorem get_list : PGet X (rGetL X.K) := by
  intro pins s σ H o i ov iv Q I ro ri ⟨p, xs, k, v, eo, ei, hq, h0, hx, q⟩
  subst eo
  subst ei
  obtain rfl : ov = Value.ref p := ro
  obtain ⟨t, rfl⟩ := (show ∃ t, iv = Value.int k t from ri)
  obtain ⟨its, r, pl, hz⟩ := I.list hq
  obtain ⟨w, ew, rw'⟩ := r.get hx
  have hk : k.toNat < its.length := (List.getElem?_eq_some_iff.mp ew).1
  have hl := r.length
  have hn := line63
  exact wpAny_getItem_list pl.isList h0 (by omega) (by simpa using ew) ⟨v, H, I, rw', q⟩
def fDrawInc (A : Am) (i : Nat) : FS := fun en Ψ => ∃ p ns, gt en i = .dat (.tok p) ∧ DrawIn A p ns ∧ Ψ.nx en
theorem ds_drawInc (i : Nat) {x : Str} {px pk tpos p1 : Pos} {j j2} (hN : X.N[i]? = some x := by rfl) (hv : Vis X.env.scope x := by first | exact Or.inl rfl | exact Or.inr (Or.inl rfl) | exact Or.inr (Or.inr rfl)) (hd : (x == ("__debug__" : Str)) = false := by decide)
    (hcd : (x == ("__classdict__" : Str)) = false := by decide) : DS X A (.AugAssign (.Subscript (.Name x px) (.Constant (.int 1) j pk) tpos) .Add (.Constant (.int 1) j2 p1) pos) (fDrawInc A i) :=
  ps_weak (ps_augS (pv i hN hv hd hcd) pe_int get_list pe_int ip_add set_list) fun Dd σ H ⟨F, G, en, Ψ, k0, h, q1, _⟩ => by
    obtain ⟨p, ns, eg, d, h⟩ := h
    obtain ⟨c, sl⟩ := k0.ex
    obtain ⟨v, e1, e2⟩ := sl.dat i _ eg
    cases rep_tok.mp e2
    obtain ⟨y, n, hp, ry⟩ := k0.draw d
    refine ⟨.ref p, e1, p, [y, .int n], 1, .int n, rfl, rfl, .inl (.inl hp), by decide, rfl, n, 1, rfl, rfl, p, [y, .int n], 1, 1, rfl, rfl, hp, rfl, ?_⟩
    exact q1 en σ G _ h (k0.amb (o := .lst [.fro (ns.map D.int), .int (n + 1)]) d ⟨_, rfl, .cons ry (.cons (rep_int.mpr rfl) .nil)⟩ ⟨_, rfl⟩) (Step.refl _ _)
end
theorem de_constI {X : Cx} {A : Am} {x : Str} {pos : Pos} {i : Int} (hg : Gl X x) (hm : ∃ t, X.mg x = some (.int i t)) (hd : (x == ("__debug__" : Str)) = false := by decide) : DE X A (.Name x pos) (fC (.int i)) := by
  obtain ⟨t, hm⟩ := hm
  exact de_glob (v := .int i) hg hm ⟨t, rfl⟩ (fun _ => rep_int.mpr rfl) hd
/-- the facts of an own def -/
structure Own (P : Program) (w : World) (K : PySem.W.Frag) (mg : Str → Option Value) (base : Heap) (x : Str) (k : Nat) (ps : List Str) (pd : PD) : Prop where
  ex : ∃ (f : Addr) (fd : FuncData), FnOk P w K mg base CX0 k f fd ps (spD K pd) ∧ mg x = some (.ref f) ∧ PySem.W.keepIn K (.ref f) = true ∧ Binds K fd ps []
section
variable {X : Cx} {A : Am} {k : Nat} {ps : List Str} {pd : PD} {x : Str} {p pos : Pos} {e : Expr} {es : List Expr} {fr : FA}
theorem de_own (O : Own X.prog X.w X.K X.mg X.base x k ps pd) (hr : Room k X.A) (hg : Gl X x) (ha : DA X A (e :: es) fr) (hdb : (x == ("__debug__" : Str)) = false := by decide)
    (he : starEach (e :: es) X.env = (false, eval e X.env) :: starEach es X.env := by rfl) (hpl : (backTo pos (starEach es X.env)).any (·.1) = false := by rfl) : DE X A (.Call (.Name x p) (e :: es) [] pos) (fCall pd A fr) := by
  obtain ⟨f, fd, h1, h2, h3, h4⟩ := O.ex
  exact de_call h1 hr hg h2 h3 h4 ha hdb he hpl
theorem de_own0 (O : Own X.prog X.w X.K X.mg X.base x k ps pd) (hr : Room k X.A) (hg : Gl X x) (hdb : (x == ("__debug__" : Str)) = false := by decide) : DE X A (.Call (.Name x p) [] [] pos) (fCall pd A fNil) := by
  obtain ⟨f, fd, h1, h2, h3, h4⟩ := O.ex
  exact de_call0 h1 hr hg h2 h3 h4 hdb
end
theorem Own.mk' {P : Program} {w : World} {K : PySem.W.Frag} {mg : Str → Option Value} {base : Heap} {x : Str} {k : Nat} {ps : List Str} {pd : PD} {f : Addr} {fd : FuncData} (h1 : FnOk P w K mg base CX0 k f fd ps (spD K pd)) (h2 : mg x = some (.ref f)) (h3 : PySem.W.keepIn K (.ref f) = true) (h4 : Binds K fd ps []) : Own P w K mg base x k ps pd := ⟨f, fd, h1, h2, h3, h4⟩
end Dz

namespace Dz
open PySem PySem.Spec PyProof.Rows L2
/-! ### forms of comprehensions, loops and draws that one uses -/
section
variable {g : FG} {ft : FT} {fe : FE} {vs : List Nat} {e1 : En} {items : List D} {Φ : D → En → Prop}
/-- each item gives the value h -/
theorem lc_map {α : Type} (xs : List α) (enc h : α → D) (hi : items = xs.map enc) (hl : xs.length ≤ 99999)
    (turn : ∀ x ∈ xs, ∀ (J : List D → Prop) (Kk : List D → Prop) (acc : List D), (J (acc ++ [h x])) → g (enc x) (wipeE e1 vs) fun e2 => ft e2 fun b e3 =>
      if b = true then fe e3 fun d e4 => wipeE e4 vs = wipeE e1 vs ∧ J (acc ++ [d]) else wipeE e3 vs = wipeE e1 vs ∧ Kk acc)
    (done : Φ (.lst (xs.map h)) (wipeE e1 vs)) : LcGoal g ft fe vs e1 items Φ := by
  subst hi
  refine ⟨fun k acc => acc = (xs.take k).map h, rfl, fun k x acc hx ha => ?_, fun acc ha => ?_⟩
  · subst ha
    rw [List.getElem?_map] at hx
    cases hk : xs[k]? with
    | none => rw [hk] at hx; cases hx
    | some y =>
      rw [hk] at hx
      have ex : enc y = x := Option.some.inj hx
      subst ex
      have hm : y ∈ xs := List.mem_of_getElem? hk
      refine ⟨?_, turn y hm (fun acc' => acc' = (xs.take (k + 1)).map h) (fun acc' => acc' = (xs.take (k + 1)).map h) _ ?_⟩
      · rw [List.length_map, List.length_take]
        have := Nat.min_le_right k xs.length
        omega
      · rw [List.take_add_one, hk, List.map_append]
        rfl
  · subst ha
    rw [List.length_map, List.take_length]
    exact done
/-- the items that pass, with their values -/
theorem lc_filter {α : Type} (xs : List α) (enc h : α → D) (p : α → Bool) (hi : items = xs.map enc) (hl : xs.length ≤ 99999)
    (turn : ∀ x ∈ xs, ∀ (J : List D → Prop) (acc : List D), (p x = true → J (acc ++ [h x])) → (p x = false → J acc) → g (enc x) (wipeE e1 vs) fun e2 => ft e2 fun b e3 =>
      if b = true then fe e3 fun d e4 => wipeE e4 vs = wipeE e1 vs ∧ J (acc ++ [d]) else wipeE e3 vs = wipeE e1 vs ∧ J acc)
    (done : Φ (.lst ((xs.filter p).map h)) (wipeE e1 vs)) : LcGoal g ft fe vs e1 items Φ := by
  subst hi
  refine ⟨fun k acc => acc = ((xs.take k).filter p).map h, rfl, fun k x acc hx ha => ?_, fun acc ha => ?_⟩
  · subst ha
    rw [List.getElem?_map] at hx
    cases hk : xs[k]? with
    | none => rw [hk] at hx; cases hx
    | some y =>
      rw [hk] at hx
      have ex : enc y = x := Option.some.inj hx
      subst ex
      have hm : y ∈ xs := List.mem_of_getElem? hk
      refine ⟨?_, turn y hm (fun acc' => acc' = ((xs.take (k + 1)).filter p).map h) _ (fun hp => ?_) (fun hp => ?_)⟩
      · rw [List.length_map]
        have h1 := List.length_filter_le p (xs.take k)
        rw [List.length_take] at h1
        have := Nat.min_le_right k xs.length
        omega
      · rw [List.take_add_one, hk, List.filter_append, List.map_append]
        simp [hp]
      · rw [List.take_add_one, hk, List.filter_append]
        simp [hp]
  · subst ha
    rw [List.length_map, List.take_length]
    exact done
/-- each item gives some value with P (a draw) -/
theorem lc_any (Pq : D → Prop) (hl : items.length ≤ 99999)
    (turn : ∀ x ∈ items, ∀ (J : List D → Prop) (Kk : List D → Prop) (acc : List D), (∀ d, Pq d → J (acc ++ [d])) → g x (wipeE e1 vs) fun e2 => ft e2 fun b e3 =>
      if b = true then fe e3 fun d e4 => wipeE e4 vs = wipeE e1 vs ∧ J (acc ++ [d]) else wipeE e3 vs = wipeE e1 vs ∧ Kk acc)
    (done : ∀ acc, acc.length = items.length → (∀ d ∈ acc, Pq d) → Φ (.lst acc) (wipeE e1 vs)) : LcGoal g ft fe vs e1 items Φ := by
  refine ⟨fun k acc => acc.length = k ∧ k ≤ items.length ∧ ∀ d ∈ acc, Pq d, ⟨rfl, Nat.zero_le _, fun d h => nomatch h⟩, fun k x acc hx ha => ?_, fun acc ha => done acc ha.1 ha.2.2⟩
  have hk : k < items.length := (List.getElem?_eq_some_iff.mp hx).1
  refine ⟨by omega, turn x (List.mem_of_getElem? hx) (fun acc' => acc'.length = k + 1 ∧ k + 1 ≤ items.length ∧ ∀ d ∈ acc', Pq d) (fun acc' => acc'.length = k + 1 ∧ k + 1 ≤ items.length ∧ ∀ d ∈ acc', Pq d) acc fun d hd => ⟨by rw [List.length_append, ha.1]; rfl, hk, fun y hy => ?_⟩⟩
  rcases List.mem_append.mp hy with hy | hy
  · exact ha.2.2 y hy
  · rw [List.mem_singleton.mp hy]; exact hd
/-- each item keeps the list or grows it by a value with P (a drawn test) -/
theorem lc_some (Pq : D → Prop) (hl : items.length ≤ 99999)
    (turn : ∀ x ∈ items, ∀ (J : List D → Prop) (acc : List D), (∀ d, Pq d → J (acc ++ [d])) → J acc → g x (wipeE e1 vs) fun e2 => ft e2 fun b e3 =>
      if b = true then fe e3 fun d e4 => wipeE e4 vs = wipeE e1 vs ∧ J (acc ++ [d]) else wipeE e3 vs = wipeE e1 vs ∧ J acc)
    (done : ∀ acc, acc.length ≤ items.length → (∀ d ∈ acc, Pq d) → Φ (.lst acc) (wipeE e1 vs)) : LcGoal g ft fe vs e1 items Φ := by
  refine ⟨fun k acc => acc.length ≤ k ∧ k ≤ items.length ∧ ∀ d ∈ acc, Pq d, ⟨Nat.le_refl _, Nat.zero_le _, fun d h => nomatch h⟩, fun k x acc hx ha => ?_, fun acc ha => done acc ha.1 ha.2.2⟩
  have hk : k < items.length := (List.getElem?_eq_some_iff.mp hx).1
  refine ⟨by omega, turn x (List.mem_of_getElem? hx) (fun acc' => acc'.length ≤ k + 1 ∧ k + 1 ≤ items.length ∧ ∀ d ∈ acc', Pq d) acc (fun d hd => ⟨by rw [List.length_append]; show acc.length + 1 ≤ k + 1; omega, hk, fun y hy => ?_⟩) ⟨by omega, hk, ha.2.2⟩⟩
  rcases List.mem_append.mp hy with hy | hy
  · exact ha.2.2 y hy
  · rw [List.mem_singleton.mp hy]; exact hd
end
section
variable {g : FG} {fe : FE} {vs : List Nat} {e1 : En} {items : List D} {Φ : D → En → Prop}
theorem yes_eq {X Y : En → Prop} : (fun e2 => fYes e2 fun b e3 => if b = true then X e3 else Y e3) = X := funext fun e2 => by
  show (if true = true then X e2 else Y e2) = X e2
  rw [if_pos rfl]
/-- the same without tests -/
theorem lc_map0 {α : Type} (xs : List α) (enc h : α → D) (hi : items = xs.map enc) (hl : xs.length ≤ 99999)
    (turn : ∀ x ∈ xs, ∀ (J : List D → Prop) (acc : List D), (J (acc ++ [h x])) → g (enc x) (wipeE e1 vs) fun e2 => fe e2 fun d e4 => wipeE e4 vs = wipeE e1 vs ∧ J (acc ++ [d]))
    (done : Φ (.lst (xs.map h)) (wipeE e1 vs)) : LcGoal g fYes fe vs e1 items Φ := lc_map xs enc h hi hl (fun x hx J Kk acc hJ => by rw [yes_eq]; exact turn x hx J acc hJ) done
theorem lc_any0 (Pq : D → Prop) (hl : items.length ≤ 99999)
    (turn : ∀ x ∈ items, ∀ (J : List D → Prop) (acc : List D), (∀ d, Pq d → J (acc ++ [d])) → g x (wipeE e1 vs) fun e2 => fe e2 fun d e4 => wipeE e4 vs = wipeE e1 vs ∧ J (acc ++ [d]))
    (done : ∀ acc, acc.length = items.length → (∀ d ∈ acc, Pq d) → Φ (.lst acc) (wipeE e1 vs)) : LcGoal g fYes fe vs e1 items Φ := lc_any Pq hl (fun x hx J Kk acc hJ => by rw [yes_eq]; exact turn x hx J acc hJ) done
end
/-! ### some data -/
theorem plL_ints {n : Nat} : ∀ ns : List Int, plL n (ns.map D.int) = true
  | [] => by unfold plL; rfl
  | a :: r => by
    rw [List.map_cons]
    unfold plL plD
    exact plL_ints r
theorem pl_fro_ints (n : Nat) (ns : List Int) : plD (n + 1) (.fro (ns.map D.int)) = true := by
  unfold plD
  exact plL_ints ns
theorem eqL_nil {l : List D} : eqL l [] = l.isEmpty := by
  cases l <;> (unfold eqL; rfl)
/-! ### the drawn numbers -/
/-- _law_number: some int from 0 on -/
def pdNumber : PD := fun _ ds Φ => ∃ (ns : List Int) (i : Int), ds = [.fro (ns.map D.int), .int i] ∧ ns.length ≤ 63 ∧ ∀ r : Int, 0 ≤ r → Φ (.int r)
/-- _law_take: any int from 0 to below many -/
def pdTake : PD := fun A ds Φ => ∃ (p : Addr) (ns : List Int) (m : Int), ds = [.tok p, .int m] ∧ DrawIn A p ns ∧ 0 < m ∧ ∀ r : Int, 0 ≤ r → r < m → Φ (.int r)
/-- _law_pick: any item -/
def pdPick : PD := fun A ds Φ => ∃ (p : Addr) (ns : List Int) (l : List D), (ds = [.tok p, .lst l] ∨ ds = [.tok p, .tup l]) ∧ DrawIn A p ns ∧ l ≠ [] ∧ ∀ d ∈ l, Φ d
end Dz

namespace Dz
open PySem PySem.Spec PyProof.Rows L2
/-! ### list(..) of a written dict with text keys -/
def keyTxt : Value → Option Str
  | .str z _ => some z
  | _ => none
def KKeys (K : PySem.W.Frag) (w : World) (a : Addr) (ks : List Str) : Prop := ∃ es n, KDict K w a es n ∧ es.toList.map (fun e => keyTxt e.key) = ks.map some ∧ ks.length ≤ 1000
def rListKD (a : Addr) (ks : List Str) : RAD := fun xs Φ => match xs with
  | [.tok b] => a = b ∧ Φ (.lst (ks.map D.str))
  | _ => False
theorem keyTxt_rel {v : Value} {z : Str} (h : keyTxt v = some z) : RelV (.str z) v := by
  cases v <;> try (cases h; done)
  cases h
  exact ⟨_, rfl⟩
theorem callD_listK {X : Cx} {a : Addr} {ks : List Str} (T : KKeys X.K X.w a ks) (hc : X.calm = true) : CallR X (.type "list") (LRA X.K (rListKD a ks)) := by
  intro pins s σ H xs us Q I r ⟨G, ds, Ψ, gh, r1, h, q⟩
  unfold rListKD at h
  split at h
  · obtain ⟨rfl, h⟩ := h
    obtain ⟨x, rfl, p1⟩ := repA_1 r1
    cases rep_tok.mp p1
    obtain ⟨u, eu, rx⟩ := vals1 r
    subst eu
    obtain rfl : u = Value.ref a := rx
    obtain ⟨es, n, kd, hks, hl⟩ := T
    have hat : s.heap.get? a = some ⟨.type "dict", none, .dict es n, #[]⟩ := I.kIn _ _ kd.at_
    have hsz : es.size = ks.length := by
      have := congrArg List.length hks
      rw [List.length_map, List.length_map] at this
      rw [← this]; simp
    refine PySem.W.kdl_call (kdl_raw (o := ⟨.type "dict", none, .dict es n, #[]⟩) kd.low ⟨rfl, rfl, rfl⟩ rfl) (I.ok.hd hc) hat (by rw [hsz]; exact Nat.le_trans hl (by decide)) fun h' tk acc' c' hkeep hS hacc => ?_
    have hp := I.hok.fresh (Nat.le_refl s.heap.objs.size)
    have g : Grow G H (upd G s.heap.objs.size (.lst (ks.map V.str))) (upd H s.heap.objs.size (.lst (ks.map V.str))) := Grow.new gh hp
    refine ⟨.ref s.heap.objs.size, upd H s.heap.objs.size (.lst (ks.map V.str)), I.laid hkeep (Nat.le_refl _) (show ObjOk X.prog X.w _ _ _ (.lst (ks.map V.str)) from ⟨?_, acc'.toList, c', ?_, ?_⟩), rfl, q _ _ _ _ h g (same_upd2 gh) (rep_lst.mpr ⟨_, _, rfl, upd_same, repA_strs ks⟩)⟩
    · rw [List.length_map]; exact Nat.le_trans hl (by decide)
    · have el : acc'.toList.length = acc'.size := by simp
      refine vals_of_at (by rw [List.length_map, el, hacc.1, hsz]) fun j x w h1 h2 => ?_
      obtain ⟨en, hen, hw⟩ := hacc.2 j w (by rw [← Array.getElem?_toList]; exact h2)
      rw [List.getElem?_map] at h1
      cases hk : ks[j]? with
      | none => rw [hk] at h1; cases h1
      | some z =>
        rw [hk] at h1
        have ez : V.str z = x := Option.some.inj h1
        subst ez
        have e2 : (es.toList.map fun e => keyTxt e.key)[j]? = some (some z) := by
          rw [hks, List.getElem?_map, hk]; rfl
        rw [List.getElem?_map, Array.getElem?_toList, hen] at e2
        have e3 : keyTxt en.key = some z := Option.some.inj e2
        rw [hw]
        exact keyTxt_rel e3
    · rw [Array.toArray_toList]; exact hS
  · exact h.elim
end Dz

namespace Dz
open PySem PySem.Spec PyProof.Rows L2
/-! ### the law's own def: draw = [script, 0], then the rest -/
def spLaw (K : PySem.W.Frag) : Sp := fun vs H Q _ => ∃ (a : Addr) (ns : List Int), vs = [.ref a] ∧ SqL K H a (ns.map V.int) ∧ ns.length ≤ 63 ∧ ∀ H', Q (.bl true) H'
theorem pss_ex {X : Cx} {ss : List Stmt} {fb : Am → FS} (h : ∀ A, DSs X A ss (fb A)) : PSs X ss (fun Dd σ H => ∃ A, LS X.K A (fb A) Dd σ H) := ⟨fun pins s σ H Dd I ⟨A, q⟩ => (h A).run pins s σ H Dd I q⟩
section
variable {P : Program} {w : World} {K : PySem.W.Frag} {mg : Str → Option Value} {base : Heap}
theorem law_dz {s0 : Stmt} {f : Addr} {fd : FuncData} {N : List Str} {k : Nat} {fb : Am → FS} {p1 p2 p3 p4 p5 : Pos} {rest : List Stmt} (Fk : Fun K "law" "law" s0 f fd) (S : FnScope N ["script"] (defScope s0))
    (hb0 : defBody s0 = .Assign [.Name "draw" p1] (.List [.Name "script" p2, .Constant (.int 0) 0 p3] p4) p5 :: rest)
    (h1 : ∀ (cdv : Value) (Ar : Around) (outer : List PySem.Env) (s : Shared) (H : Hp) (E : XK), PS (cxOf CX0 P w K mg base N "law" (defScope s0) f cdv Ar outer s H E).nox (.Assign [.Name "draw" p1] (.List [.Name "script" p2, .Constant (.int 0) 0 p3] p4) p5) (tAsg (tLst (tCons (tVar 0) (tCons (tC (.int 0)) tNil))) (gName 1)))
    (hn : 2 ≤ N.length)
    (hb : ∀ (A : Am) (cdv : Value) (Ar : Around) (outer : List PySem.Env) (s : Shared) (H : Hp) (E : XK), Room k (Ar.deeper (envOfC "law" (defScope s0) s.heap.objs.size f cdv)) → DSs (cxOf CX0 P w K mg base N "law" (defScope s0) f cdv Ar outer s H E).nox A rest (fb A))
    (hm : ∀ A p ns, DrawIn A p ns → fb A ([EV.dat (.fro (ns.map D.int)), EV.dat (.tok p)] ++ List.replicate (N.length - 2) EV.un) { nx := fun _ => False, rt := fun d => d = .bl true }) : FnOk P w K mg base CX0 (k + 1) f fd ["script"] (spLaw K) := by
  refine Fk.ok S (fun vs H Q E h => ?_) (fun cdv A outer s H vs Q E hr h => ?_)
  · obtain ⟨a, ns, rfl, _⟩ := h
    rfl
  · obtain ⟨a, ns, rfl, hS, hlen, q⟩ := h
    rw [hb0]
    refine ⟨_, pss_cons (h1 cdv A outer s H E) (pss_ex fun A' => hb A' cdv A outer s H E hr), ?_⟩
    refine ⟨.ref a, ?_, (by show 2 ≤ sizeLine; decide), fun p hp => ?_⟩
    · unfold L2.start; rfl
    · have hd : DrawIn [(p, drawOk ns)] p ns := ⟨List.mem_cons_self, fun z hz _ => List.mem_singleton.mp hz, hlen⟩
      have gH : Same H (upd H p (.lst [.ref a, .int 0])) := same_new hp
      have hro : Rep K H (.fro (ns.map D.int)) (.ref a) := rep_fro.mpr ⟨a, _, rfl, hS, RepA.ints ns⟩
      have k0 : StOk K [(p, drawOk ns)] (minus [(p, drawOk ns)] (upd H p (.lst [.ref a, .int 0]))) H (upd H p (.lst [.ref a, .int 0])) := ⟨gH, minus_same, fun z hz => minus_in hz, fun z hz => by
        rw [List.mem_singleton.mp hz]
        exact ⟨hp, .lst [.fro (ns.map D.int), .int 0], _, upd_same, ⟨_, rfl, .cons hro (.cons (rep_int.mpr rfl) .nil)⟩, 0, rfl⟩⟩
      have k1 : EnvOk K [(p, drawOk ns)] (minus [(p, drawOk ns)] (upd H p (.lst [.ref a, .int 0]))) H (upd H p (.lst [.ref a, .int 0])) (start N [.ref a]) ([EV.dat (.fro (ns.map D.int))] ++ List.replicate (N.length - 1) EV.un) := EnvOk.start (ds := [.fro (ns.map D.int)]) k0 (.cons hro .nil)
      have k2 := k1.put (i := 1) (d := .tok p) (v := .ref p) (rep_tok.mpr rfl)
      have ee : st ([EV.dat (.fro (ns.map D.int))] ++ List.replicate (N.length - 1) EV.un) 1 (.dat (.tok p)) = [EV.dat (.fro (ns.map D.int)), EV.dat (.tok p)] ++ List.replicate (N.length - 2) EV.un := by
        obtain ⟨m, hm2⟩ : ∃ m, N.length = m + 2 := ⟨N.length - 2, by omega⟩
        rw [hm2]
        rfl
      rw [ee] at k2
      exact ⟨_, _, H, _, _, k2, hm _ p ns hd, fun _ _ _ _ z => z.elim, fun d v G' H' z _ _ r => by
        have z : d = .bl true := z
        subst z
        cases rep_bl.mp r
        exact q H', fun _ _ _ _ z => z.elim, fun _ _ _ _ z => z.elim⟩
end
/-- a, b, c = e1, e2, e3 -/
def fPar3 (i j l : Nat) (fr : FA) : FS := fun en Ψ => fr en fun xs e => match xs with
  | [x, y, z] => Ψ.nx (st (st (st e i (.dat x)) j (.dat y)) l (.dat z))
  | _ => False
theorem ds_par3 {X : Cx} {A : Am} {i j l : Nat} {x y z : Str} {a b c : Expr} {fr : FA} {px py pz pt pos : Pos} {kt k2 pt2} (hc : X.calm = true) (hN : X.N.Nodup) (hi : X.N[i]? = some x) (hj : X.N[j]? = some y) (hl : X.N[l]? = some z) (hij : i ≠ j) (hil : i ≠ l) (hjl : j ≠ l)
    (hx : X.env.scope.names.lookup x = some .local) (hy : X.env.scope.names.lookup y = some .local) (hz : X.env.scope.names.lookup z = some .local) (ha : DA X A [a, b, c] fr)
    (hw : swappedStores [.Tuple [.Name x px, .Name y py, .Name z pz] kt pt] (.Tuple [a, b, c] k2 pt2) X.env = pure (some [x, y, z]) := by rfl)
    (hs : swapsWithSole [.Tuple [.Name x px, .Name y py, .Name z pz] kt pt] (.Tuple [a, b, c] k2 pt2) pos.line X.env = pure false := by rfl) :
    DS X A (.Assign [.Tuple [.Name x px, .Name y py, .Name z pz] kt pt] (.Tuple [a, b, c] k2 pt2) pos) (fPar3 i j l fr) := ps_weak (ps_par3 hc hN hi hj hl hij hil hjl hx hy hz ha hw hs) fun Dd σ H ⟨F, G, en, Ψ, k, h, q1, _⟩ =>
  ⟨F, G, en, _, k, h, fun d e1 v G1 H1 z k1 s1 r1 => by
    match d, z with
    | [d1, d2, d3], z =>
      unfold RepA at r1
      obtain ⟨v1, r, rfl, p1, r1⟩ := r1
      obtain ⟨v2, v3, rfl, p2, p3⟩ := repA_2 r1
      exact ⟨v1, v2, v3, rfl, q1 _ _ G1 H1 z (((k1.put p1).put p2).put p3) s1⟩⟩
/-! ### items at a drawn place -/
theorem atI_in {α : Type} {l : List α} {r : Int} (h0 : 0 ≤ r) (h1 : r < l.length) : ∃ d, d ∈ l ∧ atI l r = some d := by
  have hr : r.toNat < l.length := by omega
  refine ⟨l[r.toNat], List.getElem_mem hr, ?_⟩
  unfold atI ixN
  rw [if_pos h0, if_pos h1]
  show l[r.toNat]? = _
  exact List.getElem?_eq_getElem hr
end Dz

namespace Dz
open PySem PySem.Spec PyProof.Rows L2
/-! ### two sorted arrangements of the same texts are one -/
theorem cps_trans : ∀ (a b c : List Nat), ltCps b a = false → ltCps c b = false → ltCps c a = false
  | [], _, [], _, _ => rfl
  | [], _, _ :: _, _, _ => rfl
  | x :: a, [], c, h1, _ => by simp [ltCps] at h1
  | x :: a, y :: b, [], _, h2 => by simp [ltCps] at h2
  | x :: a, y :: b, z :: c, h1, h2 => by
    simp only [ltCps, Bool.or_eq_false_iff, decide_eq_false_iff_not, Bool.and_eq_false_iff, beq_eq_false_iff_ne] at h1 h2 ⊢
    refine ⟨by omega, ?_⟩
    by_cases h : z = x
    · refine .inr ?_
      have e1 : y = x := by omega
      have e2 : z = y := by omega
      rcases h1.2 with q | q
      · exact absurd e1 q
      · rcases h2.2 with q' | q'
        · exact absurd e2 q'
        · exact cps_trans a b c q q'
    · exact .inl h
theorem cps_anti : ∀ (a b : List Nat), ltCps a b = false → ltCps b a = false → a = b
  | [], [], _, _ => rfl
  | [], _ :: _, h, _ => by simp [ltCps] at h
  | _ :: _, [], _, h => by simp [ltCps] at h
  | x :: a, y :: b, h1, h2 => by
    simp only [ltCps, Bool.or_eq_false_iff, decide_eq_false_iff_not, Bool.and_eq_false_iff, beq_eq_false_iff_ne] at h1 h2
    have e : x = y := by omega
    subst e
    rcases h1.2 with q | q
    · exact absurd rfl q
    · rcases h2.2 with q' | q'
      · exact absurd rfl q'
      · rw [cps_anti a b q q']
def leS (a b : Str) : Prop := ltCps b.cps.toList a.cps.toList = false
theorem leS_anti {a b : Str} (h1 : leS a b) (h2 : leS b a) : a = b := by
  have e := cps_anti _ _ h2 h1
  cases a; cases b
  simp only at e
  congr
  exact Array.toList_inj.mp e
theorem rising_pw : ∀ {l : List Str} {p : Str}, risingS p l = true → (p :: l).Pairwise leS
  | [], p, _ => List.pairwise_singleton _ _
  | x :: r, p, h => by
    have h : (!ltCps x.cps.toList p.cps.toList && risingS x r) = true := h
    rw [Bool.and_eq_true, Bool.not_eq_true'] at h
    have ih := rising_pw h.2
    refine List.pairwise_cons.mpr ⟨fun y hy => ?_, ih⟩
    rcases List.mem_cons.mp hy with e | hy
    · rw [e]; exact h.1
    · exact cps_trans _ _ _ h.1 ((List.pairwise_cons.mp ih).1 y hy)
theorem sorted_pw : ∀ {l : List Str}, sortedS l = true → l.Pairwise leS
  | [], _ => List.Pairwise.nil
  | _ :: _, h => rising_pw h
theorem pw_unique : ∀ {l m : List Str}, l.Perm m → l.Pairwise leS → m.Pairwise leS → l = m
  | [], m, p, _, _ => (List.Perm.nil_eq p)
  | x :: l, [], p, _, _ => absurd p.length_eq (by simp)
  | x :: l, y :: m, p, h1, h2 => by
    have e : x = y := by
      have hx : x ∈ y :: m := p.mem_iff.mp List.mem_cons_self
      have hy : y ∈ x :: l := p.mem_iff.mpr List.mem_cons_self
      rcases List.mem_cons.mp hx with e | hx
      · exact e
      · rcases List.mem_cons.mp hy with e | hy
        · exact e.symm
        · exact leS_anti ((List.pairwise_cons.mp h1).1 y hy) ((List.pairwise_cons.mp h2).1 x hx)
    subst e
    rw [pw_unique (List.Perm.cons_inv p) (List.pairwise_cons.mp h1).2 (List.pairwise_cons.mp h2).2]
theorem sorted_unique {l m n : List Str} (h1 : l.Perm n) (h2 : m.Perm n) (s1 : sortedS l = true) (s2 : sortedS m = true) : l = m := pw_unique (h1.trans h2.symm) (sorted_pw s1) (sorted_pw s2)
/-! ### equal to itself -/
mutual
theorem eqD_refl : ∀ (n : Nat) (d : D), plD n d = true → eqD d d = true
  | _, .non, _ => by unfold eqD; rfl
  | _, .bl b, _ => by unfold eqD; exact beq_self_eq_true b
  | _, .int b, _ => by unfold eqD; exact beq_self_eq_true b
  | _, .str b, _ => by unfold eqD; exact beq_self_eq_true b
  | n, .tup l, h => by
    obtain ⟨m, _, h⟩ := pl_tup h
    unfold eqD
    exact eqL_refl m l h
  | n, .lst l, h => by
    obtain ⟨m, _, h⟩ := pl_lst h
    unfold eqD
    exact eqL_refl m l h
  | n, .fro l, h => by
    obtain ⟨m, _, h⟩ := pl_fro h
    unfold eqD
    exact eqL_refl m l h
  | _, .dct _ _, h => by unfold plD at h; cases h
  | _, .ins _ _ _, h => by unfold plD at h; cases h
  | _, .tok _, h => by unfold plD at h; cases h
  | _, .ty _, h => by unfold plD at h; cases h
theorem eqL_refl : ∀ (n : Nat) (l : List D), plL n l = true → eqL l l = true
  | _, [], _ => by unfold eqL; rfl
  | n, x :: l, h => by
    unfold plL at h
    rw [Bool.and_eq_true] at h
    unfold eqL
    rw [eqD_refl n x h.1, eqL_refl n l h.2]; rfl
end
theorem plL_strs {n : Nat} : ∀ {zs : List Str}, (∀ z ∈ zs, PyData.strOk z = true) → plL n (zs.map D.str) = true
  | [], _ => by unfold plL; rfl
  | z :: r, h => by
    rw [List.map_cons]
    unfold plL plD
    rw [h z List.mem_cons_self, plL_strs fun y hy => h y (List.mem_cons_of_mem _ hy)]; rfl
theorem pl_lst_strs {n : Nat} {zs : List Str} (h : ∀ z ∈ zs, PyData.strOk z = true) : plD (n + 1) (.lst (zs.map D.str)) = true := by
  unfold plD
  exact plL_strs h
end Dz

namespace K02
open PySem PySem.Spec PyProof.Rows L2 Dz
def topS (i : Nat) : Stmt := PySem.Challenge.pw_allstitches_k02_whole_kinds.main.body.getD i (.Pass ⟨0, 0, 0, 0⟩)

/-! ### the kinds -/
structure Kd where
  takes : Nat
  makes : Nat
  back : Str
  mirror : Str
def kindL : List (Str × Nat × Nat × Str × Str) := [("k", 1, 1, "p", "k"), ("p", 1, 1, "k", "p"), ("ktbl", 1, 1, "ptbl", "ktbl"), ("ptbl", 1, 1, "ktbl", "ptbl"), ("sl", 1, 1, "slf", "sl"), ("slf", 1, 1, "sl", "slf"), ("yo", 0, 1, "yo", "yo"), ("co", 0, 1, "co", "co"), ("bo", 1, 0, "bo", "bo"), ("kfb", 1, 2, "pfb", "kfb"), ("pfb", 1, 2, "kfb", "pfb"), ("m1l", 0, 1, "m1lp", "m1r"), ("m1r", 0, 1, "m1rp", "m1l"), ("m1lp", 0, 1, "m1l", "m1rp"), ("m1rp", 0, 1, "m1r", "m1lp"), ("k2tog", 2, 1, "p2tog", "ssk"), ("ssk", 2, 1, "ssp", "k2tog"), ("p2tog", 2, 1, "k2tog", "ssp"), ("ssp", 2, 1, "ssk", "p2tog"), ("cdd", 3, 1, "cddp", "cdd"), ("cddp", 3, 1, "cdd", "cddp"), ("c2f", 2, 2, "c2fw", "c2b"), ("c2b", 2, 2, "c2bw", "c2f"), ("c2fw", 2, 2, "c2f", "c2bw"), ("c2bw", 2, 2, "c2b", "c2fw"), ("c4f", 4, 4, "c4fw", "c4b"), ("c4b", 4, 4, "c4bw", "c4f"), ("c4fw", 4, 4, "c4f", "c4bw"), ("c4bw", 4, 4, "c4b", "c4fw")]
def findL : List (Str × Nat × Nat × Str × Str) → Str → Option Kd
  | [], _ => none
  | (k, a, b, c, d) :: r, z => if k = z then some ⟨a, b, c, d⟩ else findL r z
def kindRow (z : Str) : Option Kd := findL kindL z
def kdD (r : Kd) : D := .tup [.int r.takes, .int r.makes, .str r.back, .str r.mirror]
def strange : List Str := ["K", "", "yarn", "k2"]
def kindTab (z : Str) : Option (Option D) := match kindRow z with
  | some r => some (some (kdD r))
  | none => if z ∈ strange then some none else none
def names0 : List Str := kindL.map (·.1)
structure Txt (w : World) (K : PySem.W.Frag) (mg : Str → Option Value) (kd : Addr) : Prop where
  mg_KINDS : mg "KINDS" = some (.ref kd)
  tab_KINDS : KTab K w kd kindTab
  keys_KINDS : KKeys K w kd names0
  mg_MOST_BEFORE : ∃ t, mg "MOST_BEFORE" = some (.int 60 t)
  mg_MOST_GROUP : ∃ t, mg "MOST_GROUP" = some (.int 30 t)
  mg_MOST_AFTER : ∃ t, mg "MOST_AFTER" = some (.int 60 t)
  mg_isinstance : mg "isinstance" = none
  mg_str : mg "str" = none
  mg_tuple : mg "tuple" = none
  mg_len : mg "len" = none
  mg_all : mg "all" = none
  mg_any : mg "any" = none
  mg_sum : mg "sum" = none
  mg_sorted : mg "sorted" = none
  mg_list : mg "list" = none
  mg_int : mg "int" = none
  mg_abs : mg "abs" = none
  mg_range : mg "range" = none

/-! ### what the defs give -/
def isKindD : D → Bool
  | .str z => (kindRow z).isSome
  | _ => false
def okKind (d : D) : Bool := (tyN d).isSome && match d with
  | .str z => (kindTab z).isSome
  | _ => true
def yarnB (z : Str) : Bool := z.length == 1 && (!decide (z.cps.toList < ("a" : Str).cps.toList) && !decide (("z" : Str).cps.toList < z.cps.toList))
def isYarnD : D → Bool
  | .str z => yarnB z
  | _ => false
def okYarn (d : D) : Bool := (tyN d).isSome && match d with
  | .str z => decide (z.length ≤ 1000)
  | _ => true
def isCellD : D → Bool
  | .tup [a, b] => isKindD a && isYarnD b
  | _ => false
def okCell (d : D) : Bool := (tyN d).isSome && match d with
  | .tup [a, b] => okKind a && okYarn b
  | _ => true
def isWordD : D → Bool
  | .tup l => l.all isCellD
  | _ => false
def okWord (d : D) : Bool := (tyN d).isSome && match d with
  | .tup l => l.all okCell && decide (l.length ≤ 1000)
  | _ => true
def pd_is_kind : PD := fun _ ds Φ => ∃ d, ds = [d] ∧ okKind d = true ∧ Φ (.bl (isKindD d))
def pd_is_yarn : PD := fun _ ds Φ => ∃ d, ds = [d] ∧ okYarn d = true ∧ Φ (.bl (isYarnD d))
def pd_is_cell : PD := fun _ ds Φ => ∃ d, ds = [d] ∧ okCell d = true ∧ Φ (.bl (isCellD d))
def pd_is_word : PD := fun _ ds Φ => ∃ d, ds = [d] ∧ okWord d = true ∧ Φ (.bl (isWordD d))
theorem eqD_ii {i j : Int} : eqD (.int i) (.int j) = (i == j) := by unfold eqD; rfl
/-! ### words -/
abbrev Wd := List (Str × Str)
def encC (c : Str × Str) : D := .tup [.str c.1, .str c.2]
def Good (ws : Wd) : Prop := ws.length ≤ 100 ∧ ∀ c ∈ ws, (kindRow c.1).isSome = true
def tk (z : Str) : Int := match kindRow z with | some r => r.takes | none => 0
def mk' (z : Str) : Int := match kindRow z with | some r => r.makes | none => 0
def bk (z : Str) : Str := match kindRow z with | some r => r.back | none => z
def mi (z : Str) : Str := match kindRow z with | some r => r.mirror | none => z
def pd_takes : PD := fun _ ds Φ => ∃ ws, Good ws ∧ ds = [.tup (ws.map encC)] ∧ Φ (.int ((ws.map fun c => tk c.1).sum))
def pd_makes : PD := fun _ ds Φ => ∃ ws, Good ws ∧ ds = [.tup (ws.map encC)] ∧ Φ (.int ((ws.map fun c => mk' c.1).sum))
def pd_behind : PD := fun _ ds Φ => ∃ ws, Good ws ∧ ds = [.tup (ws.map encC)] ∧ Φ (.tup ((ws.reverse.map fun c => (bk c.1, c.2)).map encC))
def pd_mirrored_word : PD := fun _ ds Φ => ∃ ws, Good ws ∧ ds = [.tup (ws.map encC)] ∧ Φ (.tup ((ws.reverse.map fun c => (mi c.1, c.2)).map encC))
def dKeys : List Key := kindL.map fun r => Sum.inr r.1
def dVals : List D := kindL.map fun r => kdD ⟨r.2.1, r.2.2.1, r.2.2.2.1, r.2.2.2.2⟩
def kinds0 : D := .dct dKeys dVals
def pd_law_takes : PD := fun _ ds Φ => ∃ ws, Good ws ∧ ds = [.tup (ws.map encC), kinds0] ∧ Φ (.int ((ws.map fun c => tk c.1).sum))
def pd_law_makes : PD := fun _ ds Φ => ∃ ws, Good ws ∧ ds = [.tup (ws.map encC), kinds0] ∧ Φ (.int ((ws.map fun c => mk' c.1).sum))
def pd_law_back : PD := fun _ ds Φ => ∃ ws, Good ws ∧ ds = [.tup (ws.map encC), kinds0] ∧ Φ (.tup ((ws.reverse.map fun c => (bk c.1, c.2)).map encC))
def pd_law_mirror : PD := fun _ ds Φ => ∃ ws, Good ws ∧ ds = [.tup (ws.map encC), kinds0] ∧ Φ (.tup ((ws.reverse.map fun c => (mi c.1, c.2)).map encC))
theorem getK_L (z : Str) : ∀ L : List (Str × Nat × Nat × Str × Str), getK (L.map fun r => Sum.inr r.1) (L.map fun r => kdD ⟨r.2.1, r.2.2.1, r.2.2.2.1, r.2.2.2.2⟩) (Sum.inr z) = (findL L z).map kdD
  | [] => rfl
  | (k, a, b, c, d) :: r => by
    simp only [List.map_cons, getK, findL]
    by_cases h : k = z
    · subst h; simp
    · have h' : ¬ (Sum.inr k : Key) = Sum.inr z := fun q => h (Sum.inr.inj q)
      rw [if_neg h, if_neg h']
      exact getK_L z r
theorem getK_kinds {z : Str} {r : Kd} (h : kindRow z = some r) : getK dKeys dVals (Sum.inr z) = some (kdD r) := by
  have := getK_L z kindL
  unfold dKeys dVals
  rw [this]
  show (kindRow z).map kdD = _
  rw [h]; rfl
theorem tab_of {z : Str} {r : Kd} (h : kindRow z = some r) : kindTab z = some (some (kdD r)) := by unfold kindTab; rw [h]
theorem some_of {z : Str} (h : (kindRow z).isSome = true) : ∃ r, kindRow z = some r := Option.isSome_iff_exists.mp h
theorem tk_eq {z : Str} {r : Kd} (h : kindRow z = some r) : tk z = r.takes := by unfold tk; rw [h]
theorem mk_eq {z : Str} {r : Kd} (h : kindRow z = some r) : mk' z = r.makes := by unfold mk'; rw [h]
theorem bk_eq {z : Str} {r : Kd} (h : kindRow z = some r) : bk z = r.back := by unfold bk; rw [h]
theorem mi_eq {z : Str} {r : Kd} (h : kindRow z = some r) : mi z = r.mirror := by unfold mi; rw [h]
theorem map_ints {α : Type} (ws : List α) (f : α → Int) : ws.map (fun c => D.int (f c)) = (ws.map f).map D.int := by rw [List.map_map]; rfl

def unC : D → Str × Str
  | .tup [.str a, .str b] => (a, b)
  | _ => ("", "")
def takesD (l : List D) : Int := ((l.map unC).map fun c => tk c.1).sum
def isRowD : D → Bool
  | .tup [.tup a, .tup b, .tup c] => (a.all isCellD && (b.all isCellD && c.all isCellD)) && ((decide (a.length ≤ 60) && (decide (b.length ≤ 30) && decide (c.length ≤ 60))) && (if b.isEmpty then c.isEmpty else decide (0 < takesD b)))
  | _ => false
def okRow (d : D) : Bool := (tyN d).isSome && match d with
  | .tup [a, b, c] => okWord a && (okWord b && okWord c)
  | _ => true
abbrev pd_law_number : PD := pdNumber
abbrev pd_law_take : PD := pdTake
abbrev pd_law_pick : PD := pdPick
def pd_is_row : PD := fun _ ds Φ => ∃ d, ds = [d] ∧ okRow d = true ∧ Φ (.bl (isRowD d))
theorem cell_un {d : D} (h : isCellD d = true) : d = encC (unC d) ∧ (kindRow (unC d).1).isSome = true := by
  cases d with
  | tup l =>
    match l, h with
    | [a, b], h =>
      have h : (isKindD a && isYarnD b) = true := h
      rw [Bool.and_eq_true] at h
      cases a with
      | str x =>
        cases b with
        | str y => exact ⟨rfl, h.1⟩
        | _ => exact absurd h.2 (by unfold isYarnD; exact Bool.false_ne_true)
      | _ => exact absurd h.1 (by unfold isKindD; exact Bool.false_ne_true)
    | [], h => cases h
    | [_], h => cases h
    | _ :: _ :: _ :: _, h => cases h
  | _ => cases h
theorem word_un : ∀ {l : List D}, l.all isCellD = true → l = (l.map unC).map encC ∧ ∀ c ∈ l.map unC, (kindRow c.1).isSome = true
  | [], _ => ⟨rfl, fun c h => nomatch h⟩
  | d :: l, h => by
    rw [List.all_cons, Bool.and_eq_true] at h
    obtain ⟨h1, h2⟩ := cell_un h.1
    obtain ⟨h3, h4⟩ := word_un h.2
    refine ⟨?_, fun c hc => ?_⟩
    · rw [List.map_cons, List.map_cons, ← h1, ← h3]
    · rw [List.map_cons] at hc
      rcases List.mem_cons.mp hc with e | hc
      · rw [e]; exact h2
      · exact h4 c hc
theorem isW_tup {d : D} (h : isWordD d = true) : ∃ l, d = .tup l ∧ l.all isCellD = true := by
  cases d with
  | tup l => exact ⟨l, rfl, h⟩
  | _ => cases h

section
variable {P : Program} {w : World} {K : PySem.W.Frag} {mg : Str → Option Value} {base : Heap} {kd : Addr}
abbrev s_is_kind : Stmt := topS 2
theorem sc_is_kind : FnScope ["thing"] ["thing"] (defScope s_is_kind) := ⟨rfl, rfl, rfl, by decide +kernel, rfl, by decide +kernel, by decide +kernel⟩
theorem ok_is_kind {f : Addr} {fd : FuncData} (F : Fun K "is_kind" "is_kind" s_is_kind f fd) (T : Txt w K mg kd)  : FnOk P w K mg base CX0 1 f fd ["thing"] (spD K pd_is_kind) :=
  fn_dz F sc_is_kind (fun A ds Ψ h => by
      obtain ⟨d, rfl, _⟩ := h; rfl) (fun A cdv Ar outer s H E hr =>
    (dss_one (ds_ret (de_andT (de_callB callD_isi rfl T.mg_isinstance (by decide +kernel) (da_cons (de_var 0) (da_cons (de_bltn (v := .ty "str") (d := .ty "str") rfl T.mg_str (by decide +kernel) rfl (fun _ => rep_ty.mpr rfl)) da_nil))) (de_one (de_cmp (opd_ink T.tab_KINDS) (de_var 0) (de_glob (v := .ref kd) (d := .tok kd) rfl T.mg_KINDS rfl (fun _ => rep_tok.mpr rfl)) (by rfl)))))))
    (fun A ds Ψ h => by
      obtain ⟨d, rfl, ok, h⟩ := h
      cases d with
      | str z =>
        refine ⟨by decide, _, rfl, true, rfl, ?_⟩
        unfold okKind at ok
        unfold isKindD at h
        have hz : (kindTab z).isSome = true := ok
        obtain ⟨r, hr⟩ := Option.isSome_iff_exists.mp hz
        refine iteT ⟨rfl, r, hr, ?_⟩
        have e : r.isSome = (kindRow z).isSome := by
          unfold kindTab at hr
          cases q : kindRow z with
          | some k => rw [q] at hr; cases hr; rfl
          | none =>
            rw [q] at hr
            simp only at hr
            split at hr
            · cases hr; rfl
            · cases hr
        rw [e]
        exact h
      | _ =>
        first
          | exact ⟨by decide, _, rfl, false, rfl, iteF h⟩
          | (unfold okKind at ok; cases ok))

abbrev s_is_yarn : Stmt := topS 3
theorem sc_is_yarn : FnScope ["thing"] ["thing"] (defScope s_is_yarn) := ⟨rfl, rfl, rfl, by decide +kernel, rfl, by decide +kernel, by decide +kernel⟩
theorem ok_is_yarn {f : Addr} {fd : FuncData} (F : Fun K "is_yarn" "is_yarn" s_is_yarn f fd) (T : Txt w K mg kd)  : FnOk P w K mg base CX0 1 f fd ["thing"] (spD K pd_is_yarn) :=
  fn_dz F sc_is_yarn (fun A ds Ψ h => by
      obtain ⟨d, rfl, _⟩ := h; rfl) (fun A cdv Ar outer s H E hr =>
    (dss_one (ds_ret (de_andT (de_callB callD_isi rfl T.mg_isinstance (by decide +kernel) (da_cons (de_var 0) (da_cons (de_bltn (v := .ty "str") (d := .ty "str") rfl T.mg_str (by decide +kernel) rfl (fun _ => rep_ty.mpr rfl)) da_nil))) (de_andT (de_cmp (opd_eq hr.units) (de_callB callD_len rfl T.mg_len (by decide +kernel) (da_cons (de_var 0) da_nil)) de_int) (de_one (de_chain opd_le opd_le de_str (de_var 0) de_str)))))))
    (fun A ds Ψ h => by
      obtain ⟨d, rfl, ok, h⟩ := h
      cases d with
      | str z =>
        refine ⟨by decide, _, rfl, true, rfl, ?_⟩
        have hz : z.length ≤ 1000 := of_decide_eq_true ok
        refine iteT ⟨Nat.le_trans hz (by decide), rfl, rfl, _, rfl, ?_⟩
        have h : Ψ (.bl (z.length == 1 && (!decide (z.cps.toList < ("a" : Str).cps.toList) && !decide (("z" : Str).cps.toList < z.cps.toList)))) := h
        have e1 : (((z.length : Nat) : Int) == 1) = (z.length == 1) := by
          rw [Bool.eq_iff_iff, beq_iff_eq, beq_iff_eq]; omega
        rw [eqD_ii, e1]
        cases c : z.length == 1 with
        | false => rw [c] at h; exact iteF h
        | true =>
          rw [c] at h
          refine iteT ⟨_, rfl, ?_⟩
          cases c2 : !decide (z.cps.toList < ("a" : Str).cps.toList) with
          | false => rw [c2] at h; exact iteF h
          | true => rw [c2] at h; exact iteT h
      | _ =>
        first
          | exact ⟨by decide, _, rfl, false, rfl, iteF h⟩
          | (unfold okYarn at ok; cases ok))

abbrev s_is_cell : Stmt := topS 4
theorem sc_is_cell : FnScope ["thing"] ["thing"] (defScope s_is_cell) := ⟨rfl, rfl, rfl, by decide +kernel, rfl, by decide +kernel, by decide +kernel⟩
theorem ok_is_cell {f : Addr} {fd : FuncData} (F : Fun K "is_cell" "is_cell" s_is_cell f fd) (T : Txt w K mg kd) (G_is_kind : Own P w K mg base "is_kind" 1 ["thing"] pd_is_kind) (G_is_yarn : Own P w K mg base "is_yarn" 1 ["thing"] pd_is_yarn) : FnOk P w K mg base CX0 2 f fd ["thing"] (spD K pd_is_cell) :=
  fn_dz F sc_is_cell (fun A ds Ψ h => by
      obtain ⟨d, rfl, _⟩ := h; rfl) (fun A cdv Ar outer s H E hr =>
    (dss_one (ds_ret (de_andT (de_callB callD_isi rfl T.mg_isinstance (by decide +kernel) (da_cons (de_var 0) (da_cons (de_bltn (v := .ty "tuple") (d := .ty "tuple") rfl T.mg_tuple (by decide +kernel) rfl (fun _ => rep_ty.mpr rfl)) da_nil))) (de_andT (de_cmp (opd_eq hr.units) (de_callB callD_len rfl T.mg_len (by decide +kernel) (da_cons (de_var 0) da_nil)) de_int) (de_andT (de_own G_is_kind (hr.mono (by decide)) rfl (da_cons (de_ix (ixd hr.units) (de_var 0) de_int) da_nil)) (de_one (de_own G_is_yarn (hr.mono (by decide)) rfl (da_cons (de_ix (ixd hr.units) (de_var 0) de_int) da_nil)))))))))
    (fun A ds Ψ h => by
      obtain ⟨d, rfl, ok, h⟩ := h
      cases d with
      | tup l =>
        refine ⟨by decide, _, rfl, true, rfl, iteT ⟨rfl, rfl, _, rfl, ?_⟩⟩
        match l, ok, h with
        | [], ok, h => exact iteF h
        | [a], ok, h => exact iteF h
        | [a, b], ok, h =>
          unfold okCell at ok
          have ok' : (okKind a && okYarn b) = true := ok
          rw [Bool.and_eq_true] at ok'
          refine iteT ⟨_, rfl, a, rfl, ok'.1, _, rfl, ?_⟩
          have h : Ψ (.bl (isKindD a && isYarnD b)) := h
          cases c : isKindD a with
          | false => rw [c] at h; exact iteF h
          | true => rw [c] at h; exact iteT ⟨_, rfl, b, rfl, ok'.2, h⟩
        | a :: b :: c :: r, ok, h =>
          have e : eqD (.int ((a :: b :: c :: r).length : Nat)) (.int 2) = false := by
            rw [eqD_ii]
            simp only [List.length_cons]
            rw [beq_eq_false_iff_ne]
            omega
          rw [e]
          exact iteF h
      | _ =>
        first
          | exact ⟨by decide, _, rfl, false, rfl, iteF h⟩
          | (unfold okCell at ok; cases ok))

abbrev s_is_word : Stmt := topS 5
theorem sc_is_word : FnScope ["thing", "cell"] ["thing"] (defScope s_is_word) := ⟨rfl, rfl, rfl, by decide +kernel, rfl, by decide +kernel, by decide +kernel⟩
theorem ok_is_word {f : Addr} {fd : FuncData} (F : Fun K "is_word" "is_word" s_is_word f fd) (T : Txt w K mg kd) (G_is_cell : Own P w K mg base "is_cell" 2 ["thing"] pd_is_cell) : FnOk P w K mg base CX0 3 f fd ["thing"] (spD K pd_is_word) :=
  fn_dz F sc_is_word (fun A ds Ψ h => by
      obtain ⟨d, rfl, _⟩ := h; rfl) (fun A cdv Ar outer s H E hr =>
    (dss_one (ds_ret (de_andT (de_callB callD_isi rfl T.mg_isinstance (by decide +kernel) (da_cons (de_var 0) (da_cons (de_bltn (v := .ty "tuple") (d := .ty "tuple") rfl T.mg_tuple (by decide +kernel) rfl (fun _ => rep_ty.mpr rfl)) da_nil))) (de_one (de_callB (callD_all rfl) rfl T.mg_all (by decide +kernel) (da_cons (de_lc rfl sc_is_word.nd (di_seq (de_var 0)) (blkOk_by (own := [("cell", 1)]) (N := ["thing", "cell"]) (sc := defScope s_is_word) (by decide +kernel)) (fun _ _ _ _ _ => (dg_name (i := 1) sc_is_word.nd rfl (Or.inl rfl))) (fun _ _ _ _ _ => dts_nil) (fun _ _ _ _ _ => (de_own G_is_cell (hr.mono (by decide)) rfl (da_cons (de_var 1) da_nil)))) da_nil)))))))
    (fun A ds Ψ h => by
      obtain ⟨d, rfl, ok, h⟩ := h
      cases d with
      | tup l =>
        unfold okWord at ok
        have ok' : (l.all okCell && decide (l.length ≤ 1000)) = true := ok
        rw [Bool.and_eq_true] at ok'
        have hl : l.length ≤ 1000 := of_decide_eq_true ok'.2
        refine ⟨by decide, _, rfl, true, rfl, iteT ⟨l, rfl, ?_⟩⟩
        refine lc_map0 (α := D) l id (fun c => .bl (isCellD c)) (List.map_id l).symm (by omega) (fun x hx J acc hJ => ?_) ?_
        · exact ⟨x, rfl, List.all_eq_true.mp ok'.1 x hx, rfl, hJ⟩
        · refine ⟨l.map isCellD, by rw [List.map_map]; rfl, ?_⟩
          have e : (l.map isCellD).all id = l.all isCellD := by rw [List.all_map]; rfl
          rw [e]
          exact h
      | _ =>
        first
          | exact ⟨by decide, _, rfl, false, rfl, iteF h⟩
          | (unfold okWord at ok; cases ok))

abbrev s_takes : Stmt := topS 6
theorem sc_takes : FnScope ["word", "kind", "_"] ["word"] (defScope s_takes) := ⟨rfl, rfl, rfl, by decide +kernel, rfl, by decide +kernel, by decide +kernel⟩
theorem ok_takes {f : Addr} {fd : FuncData} (F : Fun K "takes" "takes" s_takes f fd) (T : Txt w K mg kd)  : FnOk P w K mg base CX0 1 f fd ["word"] (spD K pd_takes) :=
  fn_dz F sc_takes (fun A ds Ψ h => by
      obtain ⟨ws, _, rfl, _⟩ := h; rfl) (fun A cdv Ar outer s H E hr =>
    (dss_one (ds_ret (de_callB (callD_sum rfl) rfl T.mg_sum (by decide +kernel) (da_cons (de_lc rfl sc_takes.nd (di_seq (de_var 0)) (blkOk_by (own := [("kind", 1), ("_", 2)]) (N := ["word", "kind", "_"]) (sc := defScope s_takes) (by decide +kernel)) (fun _ _ _ _ _ => (dg_tup (n := 2) rfl (dgs_cons (dg_name (i := 1) sc_takes.nd rfl (Or.inl rfl)) (dgs_cons (dg_name (i := 2) sc_takes.nd rfl (Or.inl rfl)) dgs_nil)))) (fun _ _ _ _ _ => dts_nil) (fun _ _ _ _ _ => (de_ix (ixd hr.units) (de_ix (ixk T.tab_KINDS) (de_glob (v := .ref kd) (d := .tok kd) rfl T.mg_KINDS rfl (fun _ => rep_tok.mpr rfl)) (de_var 1)) de_int))) da_nil)))))
    (fun A ds Ψ h => by
      obtain ⟨ws, gw, rfl, h⟩ := h
      refine ⟨_, rfl, ?_⟩
      refine lc_map0 ws encC (fun c => .int (tk c.1)) rfl (Nat.le_trans gw.1 (by decide)) (fun c hc J acc hJ => ?_) ?_
      · obtain ⟨r, hr⟩ := some_of (gw.2 c hc)
        refine ⟨rfl, rfl, rfl, kdD r, tab_of hr, _, rfl, rfl, ?_⟩
        rw [tk_eq hr] at hJ
        exact hJ
      · exact ⟨ws.map fun c => tk c.1, by rw [map_ints], h⟩)

abbrev s_makes : Stmt := topS 7
theorem sc_makes : FnScope ["word", "kind", "_"] ["word"] (defScope s_makes) := ⟨rfl, rfl, rfl, by decide +kernel, rfl, by decide +kernel, by decide +kernel⟩
theorem ok_makes {f : Addr} {fd : FuncData} (F : Fun K "makes" "makes" s_makes f fd) (T : Txt w K mg kd)  : FnOk P w K mg base CX0 1 f fd ["word"] (spD K pd_makes) :=
  fn_dz F sc_makes (fun A ds Ψ h => by
      obtain ⟨ws, _, rfl, _⟩ := h; rfl) (fun A cdv Ar outer s H E hr =>
    (dss_one (ds_ret (de_callB (callD_sum rfl) rfl T.mg_sum (by decide +kernel) (da_cons (de_lc rfl sc_makes.nd (di_seq (de_var 0)) (blkOk_by (own := [("kind", 1), ("_", 2)]) (N := ["word", "kind", "_"]) (sc := defScope s_makes) (by decide +kernel)) (fun _ _ _ _ _ => (dg_tup (n := 2) rfl (dgs_cons (dg_name (i := 1) sc_makes.nd rfl (Or.inl rfl)) (dgs_cons (dg_name (i := 2) sc_makes.nd rfl (Or.inl rfl)) dgs_nil)))) (fun _ _ _ _ _ => dts_nil) (fun _ _ _ _ _ => (de_ix (ixd hr.units) (de_ix (ixk T.tab_KINDS) (de_glob (v := .ref kd) (d := .tok kd) rfl T.mg_KINDS rfl (fun _ => rep_tok.mpr rfl)) (de_var 1)) de_int))) da_nil)))))
    (fun A ds Ψ h => by
      obtain ⟨ws, gw, rfl, h⟩ := h
      refine ⟨_, rfl, ?_⟩
      refine lc_map0 ws encC (fun c => .int (mk' c.1)) rfl (Nat.le_trans gw.1 (by decide)) (fun c hc J acc hJ => ?_) ?_
      · obtain ⟨r, hr⟩ := some_of (gw.2 c hc)
        refine ⟨rfl, rfl, rfl, kdD r, tab_of hr, _, rfl, rfl, ?_⟩
        rw [mk_eq hr] at hJ
        exact hJ
      · exact ⟨ws.map fun c => mk' c.1, by rw [map_ints], h⟩)

abbrev s_behind : Stmt := topS 8
theorem sc_behind : FnScope ["word", "kind", "yarn"] ["word"] (defScope s_behind) := ⟨rfl, rfl, rfl, by decide +kernel, rfl, by decide +kernel, by decide +kernel⟩
theorem ok_behind {f : Addr} {fd : FuncData} (F : Fun K "behind" "behind" s_behind f fd) (T : Txt w K mg kd)  : FnOk P w K mg base CX0 1 f fd ["word"] (spD K pd_behind) :=
  fn_dz F sc_behind (fun A ds Ψ h => by
      obtain ⟨ws, _, rfl, _⟩ := h; rfl) (fun A cdv Ar outer s H E hr =>
    (dss_one (ds_ret (de_callTy callD_tuple rfl T.mg_tuple (by decide +kernel) (da_cons (de_lc rfl sc_behind.nd (di_seq (de_revT (de_var 0))) (blkOk_by (own := [("kind", 1), ("yarn", 2)]) (N := ["word", "kind", "yarn"]) (sc := defScope s_behind) (by decide +kernel)) (fun _ _ _ _ _ => (dg_tup (n := 2) rfl (dgs_cons (dg_name (i := 1) sc_behind.nd rfl (Or.inl rfl)) (dgs_cons (dg_name (i := 2) sc_behind.nd rfl (Or.inl rfl)) dgs_nil)))) (fun _ _ _ _ _ => dts_nil) (fun _ _ _ _ _ => (de_tup (da_cons (de_ix (ixd hr.units) (de_ix (ixk T.tab_KINDS) (de_glob (v := .ref kd) (d := .tok kd) rfl T.mg_KINDS rfl (fun _ => rep_tok.mpr rfl)) (de_var 1)) de_int) (da_cons (de_var 2) da_nil))))) da_nil)))))
    (fun A ds Ψ h => by
      obtain ⟨ws, gw, rfl, h⟩ := h
      refine ⟨_, rfl, ?_⟩
      refine lc_map0 ws.reverse encC (fun c => encC (bk c.1, c.2)) (by rw [List.map_reverse]) (by rw [List.length_reverse]; exact Nat.le_trans gw.1 (by decide)) (fun c hc J acc hJ => ?_) ?_
      · obtain ⟨r, hr⟩ := some_of (gw.2 c (List.mem_reverse.mp hc))
        refine ⟨rfl, rfl, rfl, kdD r, tab_of hr, _, rfl, (by show 2 ≤ 100000; decide), rfl, ?_⟩
        rw [bk_eq hr] at hJ
        exact hJ
      · rw [List.map_map] at h
        exact h)

abbrev s_mirrored_word : Stmt := topS 9
theorem sc_mirrored_word : FnScope ["word", "kind", "yarn"] ["word"] (defScope s_mirrored_word) := ⟨rfl, rfl, rfl, by decide +kernel, rfl, by decide +kernel, by decide +kernel⟩
theorem ok_mirrored_word {f : Addr} {fd : FuncData} (F : Fun K "mirrored_word" "mirrored_word" s_mirrored_word f fd) (T : Txt w K mg kd)  : FnOk P w K mg base CX0 1 f fd ["word"] (spD K pd_mirrored_word) :=
  fn_dz F sc_mirrored_word (fun A ds Ψ h => by
      obtain ⟨ws, _, rfl, _⟩ := h; rfl) (fun A cdv Ar outer s H E hr =>
    (dss_one (ds_ret (de_callTy callD_tuple rfl T.mg_tuple (by decide +kernel) (da_cons (de_lc rfl sc_mirrored_word.nd (di_seq (de_revT (de_var 0))) (blkOk_by (own := [("kind", 1), ("yarn", 2)]) (N := ["word", "kind", "yarn"]) (sc := defScope s_mirrored_word) (by decide +kernel)) (fun _ _ _ _ _ => (dg_tup (n := 2) rfl (dgs_cons (dg_name (i := 1) sc_mirrored_word.nd rfl (Or.inl rfl)) (dgs_cons (dg_name (i := 2) sc_mirrored_word.nd rfl (Or.inl rfl)) dgs_nil)))) (fun _ _ _ _ _ => dts_nil) (fun _ _ _ _ _ => (de_tup (da_cons (de_ix (ixd hr.units) (de_ix (ixk T.tab_KINDS) (de_glob (v := .ref kd) (d := .tok kd) rfl T.mg_KINDS rfl (fun _ => rep_tok.mpr rfl)) (de_var 1)) de_int) (da_cons (de_var 2) da_nil))))) da_nil)))))
    (fun A ds Ψ h => by
      obtain ⟨ws, gw, rfl, h⟩ := h
      refine ⟨_, rfl, ?_⟩
      refine lc_map0 ws.reverse encC (fun c => encC (mi c.1, c.2)) (by rw [List.map_reverse]) (by rw [List.length_reverse]; exact Nat.le_trans gw.1 (by decide)) (fun c hc J acc hJ => ?_) ?_
      · obtain ⟨r, hr⟩ := some_of (gw.2 c (List.mem_reverse.mp hc))
        refine ⟨rfl, rfl, rfl, kdD r, tab_of hr, _, rfl, (by show 2 ≤ 100000; decide), rfl, ?_⟩
        rw [mi_eq hr] at hJ
        exact hJ
      · rw [List.map_map] at h
        exact h)

abbrev s_is_row : Stmt := topS 14
theorem sc_is_row : FnScope ["thing", "before", "group", "after", "word"] ["thing"] (defScope s_is_row) := ⟨rfl, rfl, rfl, by decide +kernel, rfl, by decide +kernel, by decide +kernel⟩
theorem ok_is_row {f : Addr} {fd : FuncData} (F : Fun K "is_row" "is_row" s_is_row f fd) (T : Txt w K mg kd) (G_is_word : Own P w K mg base "is_word" 3 ["thing"] pd_is_word) (G_takes : Own P w K mg base "takes" 1 ["word"] pd_takes) : FnOk P w K mg base CX0 4 f fd ["thing"] (spD K pd_is_row) :=
  fn_dz F sc_is_row (fun A ds Ψ h => by
      obtain ⟨d, rfl, _⟩ := h; rfl) (fun A cdv Ar outer s H E hr =>
    (dss_cons (ds_if (PW.pt (dw_or (dt_not (dt_truth (de_callB callD_isi rfl T.mg_isinstance (by decide +kernel) (da_cons (de_var 0) (da_cons (de_bltn (v := .ty "tuple") (d := .ty "tuple") rfl T.mg_tuple (by decide +kernel) rfl (fun _ => rep_ty.mpr rfl)) da_nil))) (by intro _; rfl))) (dw_or1 (dt_cmp (opd_ne hr.units) (de_callB callD_len rfl T.mg_len (by decide +kernel) (da_cons (de_var 0) da_nil)) de_int))))
      (dss_one (ds_ret de_bl))
      dss_nil)
    (dss_cons (ds_if (dt_not (dt_truth (de_callB (callD_all rfl) rfl T.mg_all (by decide +kernel) (da_cons (de_lc rfl sc_is_row.nd (di_seq (de_var 0)) (blkOk_by (own := [("word", 4)]) (N := ["thing", "before", "group", "after", "word"]) (sc := defScope s_is_row) (by decide +kernel)) (fun _ _ _ _ _ => (dg_name (i := 4) sc_is_row.nd rfl (Or.inl rfl))) (fun _ _ _ _ _ => dts_nil) (fun _ _ _ _ _ => (de_own G_is_word (hr.mono (by decide)) rfl (da_cons (de_var 4) da_nil)))) da_nil)) (by intro _; rfl)))
      (dss_one (ds_ret de_bl))
      dss_nil)
    (dss_cons (ds_asg (vs := [0, 1, 2, 3, 4]) (de_var 0) (dg_tup (n := 3) rfl (dgs_cons (dg_name (i := 1) sc_is_row.nd rfl (Or.inl rfl)) (dgs_cons (dg_name (i := 2) sc_is_row.nd rfl (Or.inl rfl)) (dgs_cons (dg_name (i := 3) sc_is_row.nd rfl (Or.inl rfl)) dgs_nil)))))
    (dss_cons (ds_if (PW.pt (dw_or (dt_cmp opd_gt (de_callB callD_len rfl T.mg_len (by decide +kernel) (da_cons (de_var 1) da_nil)) (de_constI rfl T.mg_MOST_BEFORE)) (dw_or (dt_cmp opd_gt (de_callB callD_len rfl T.mg_len (by decide +kernel) (da_cons (de_var 2) da_nil)) (de_constI rfl T.mg_MOST_GROUP)) (dw_or1 (dt_cmp opd_gt (de_callB callD_len rfl T.mg_len (by decide +kernel) (da_cons (de_var 3) da_nil)) (de_constI rfl T.mg_MOST_AFTER))))))
      (dss_one (ds_ret de_bl))
      dss_nil)
    (dss_cons (ds_if (dt_not (dt_truth (de_var 2) (by intro _; rfl)))
      (dss_one (ds_ret (de_notT (de_var 3))))
      dss_nil)
    (dss_one (ds_ret (de_cmp opd_gt (de_own G_takes (hr.mono (by decide)) rfl (da_cons (de_var 2) da_nil)) de_int)))))))))
    (fun A ds Ψ h => by
      obtain ⟨d, rfl, ok, h⟩ := h
      cases d with
      | tup l =>
        refine ⟨by decide, _, rfl, true, rfl, iteF ⟨rfl, rfl, _, rfl, ?_⟩⟩
        by_cases hl : l.length = 3
        · match l, hl with
          | [a, b, c], hl =>
            refine iteF ?_
            unfold okRow at ok
            have ok' : (okWord a && (okWord b && okWord c)) = true := ok
            rw [Bool.and_eq_true, Bool.and_eq_true] at ok'
            refine ⟨_, rfl, ?_⟩
            refine lc_map0 (α := D) [a, b, c] id (fun d => .bl (isWordD d)) rfl (by simp) (fun x hx J acc hJ => ?_) ?_
            · refine ⟨x, rfl, ?_, rfl, hJ⟩
              simp only [List.mem_cons, List.not_mem_nil, or_false] at hx
              rcases hx with rfl | rfl | rfl
              · exact ok'.1
              · exact ok'.2.1
              · exact ok'.2.2
            · refine ⟨[isWordD a, isWordD b, isWordD c], rfl, _, rfl, ?_⟩
              cases hw : [isWordD a, isWordD b, isWordD c].all id with
              | false =>
                refine iteT ?_
                have e : isRowD (.tup [a, b, c]) = false := by
                  cases a with
                  | tup a =>
                    cases b with
                    | tup b =>
                      cases c with
                      | tup c =>
                        have hw : (isWordD (.tup a) && (isWordD (.tup b) && (isWordD (.tup c) && true))) = false := hw
                        rw [Bool.and_true] at hw
                        have hw : (a.all isCellD && (b.all isCellD && c.all isCellD)) = false := hw
                        unfold isRowD
                        simp only [hw, Bool.false_and]
                      | _ => rfl
                    | _ => rfl
                  | _ => rfl
                rw [e] at h
                exact h
              | true =>
                refine iteF ?_
                have hw' : isWordD a = true ∧ isWordD b = true ∧ isWordD c = true := by
                  have hw : (isWordD a && (isWordD b && (isWordD c && true))) = true := hw
                  rw [Bool.and_eq_true, Bool.and_eq_true, Bool.and_true] at hw
                  exact hw
                obtain ⟨a, rfl, ha⟩ := isW_tup hw'.1
                obtain ⟨b, rfl, hb⟩ := isW_tup hw'.2.1
                obtain ⟨c, rfl, hc⟩ := isW_tup hw'.2.2
                have hR : isRowD (.tup [.tup a, .tup b, .tup c]) = ((decide (a.length ≤ 60) && (decide (b.length ≤ 30) && decide (c.length ≤ 60))) && (if b.isEmpty then c.isEmpty else decide (0 < takesD b))) := by
                  unfold isRowD
                  simp only [ha, hb, hc, Bool.true_and]
                rw [hR] at h
                refine ⟨rfl, rfl, _, rfl, ?_⟩
                by_cases h1 : a.length ≤ 60
                · rw [decide_eq_false (by omega)]
                  refine iteF ⟨_, rfl, ?_⟩
                  by_cases h2 : b.length ≤ 30
                  · rw [decide_eq_false (by omega)]
                    refine iteF ⟨_, rfl, ?_⟩
                    by_cases h3 : c.length ≤ 60
                    · rw [decide_eq_false (by omega)]
                      refine iteF ⟨_, rfl, ?_⟩
                      rw [decide_eq_true h1, decide_eq_true h2, decide_eq_true h3, Bool.true_and, Bool.true_and, Bool.true_and] at h
                      cases hb0 : b.isEmpty with
                      | true =>
                        rw [hb0, if_pos rfl] at h
                        refine iteT ⟨_, rfl, ?_⟩
                        show Ψ (.bl (!(!c.isEmpty)))
                        rw [Bool.not_not]
                        exact h
                      | false =>
                        rw [hb0, if_neg Bool.false_ne_true] at h
                        refine iteF ?_
                        obtain ⟨w1, w2⟩ := word_un hb
                        exact ⟨b.map unC, ⟨by rw [List.length_map]; omega, w2⟩, by rw [← w1], h⟩
                    · rw [decide_eq_true (by omega)]
                      rw [decide_eq_false h3, Bool.and_false, Bool.and_false, Bool.false_and] at h
                      exact iteT h
                  · rw [decide_eq_true (by omega)]
                    rw [decide_eq_false h2, Bool.false_and, Bool.and_false, Bool.false_and] at h
                    exact iteT h
                · rw [decide_eq_true (by omega)]
                  rw [decide_eq_false h1, Bool.false_and, Bool.false_and] at h
                  exact iteT h
        · have e1 : eqD (.int (l.length : Nat)) (.int 3) = false := by
            rw [eqD_ii, beq_eq_false_iff_ne]
            omega
          rw [e1]
          refine iteT ?_
          have e2 : isRowD (.tup l) = false := by
            unfold isRowD
            split
            · rename_i a b c heq
              have heq : l = [.tup a, .tup b, .tup c] := by injection heq
              exact absurd (by rw [heq]; rfl) hl
            · rfl
          rw [e2] at h
          exact h
      | _ =>
        first
          | exact ⟨by decide, _, rfl, false, rfl, iteT h⟩
          | (unfold okRow at ok; cases ok))

abbrev s_law_number : Stmt := topS 16
theorem sc_law_number : FnScope ["script", "index", "cell", "blend"] ["script", "index"] (defScope s_law_number) := ⟨rfl, rfl, rfl, by decide +kernel, rfl, by decide +kernel, by decide +kernel⟩
theorem ok_law_number {f : Addr} {fd : FuncData} (F : Fun K "_law_number" "_law_number" s_law_number f fd) (T : Txt w K mg kd)  : FnOk P w K mg base CX0 1 f fd ["script", "index"] (spD K pd_law_number) :=
  fn_dz F sc_law_number (fun A ds Ψ h => by
      obtain ⟨ns, i, rfl, _⟩ := h; rfl) (fun A cdv Ar outer s H E hr =>
    (dss_cons (ds_if (dt_cmp (opd_eq hr.units) (de_var 0) (de_lst da_nil))
      (dss_one (ds_ret (de_callTy callD_int rfl T.mg_int (by decide +kernel) (da_cons (de_op opd_mod (de_op opd_add (de_op opd_mul (de_var 1) de_int) de_int) de_int) da_nil))))
      dss_nil)
    (dss_cons (ds_asg (vs := [0, 1, 2, 3]) (de_ix (ixd hr.units) (de_var 0) (de_op opd_mod (de_var 1) (de_callB callD_len rfl T.mg_len (by decide +kernel) (da_cons (de_var 0) da_nil)))) (dg_name (i := 2) sc_law_number.nd rfl (Or.inl rfl)))
    (dss_cons (ds_if (dt_cmp opd_ge (de_callB callD_abs rfl T.mg_abs (by decide +kernel) (da_cons (de_var 2) da_nil)) (de_op opd_pow de_int de_int))
      (dss_one (ds_asg (vs := [0, 1, 2, 3]) (de_op opd_mod (de_var 2) (de_op opd_pow de_int de_int)) (dg_name (i := 2) sc_law_number.nd rfl (Or.inl rfl))))
      dss_nil)
    (dss_cons (ds_asg (vs := [0, 1, 2, 3]) (de_op opd_mod (de_op opd_add (de_op opd_mul (de_op opd_add (de_var 2) (de_op opd_mul de_int (de_var 1))) de_int) (de_op opd_mul de_int (de_callB callD_len rfl T.mg_len (by decide +kernel) (da_cons (de_var 0) da_nil)))) de_int) (dg_name (i := 3) sc_law_number.nd rfl (Or.inl rfl)))
    (dss_one (ds_ret (de_callTy callD_int rfl T.mg_int (by decide +kernel) (da_cons (de_op opd_mod (de_op opd_add (de_op opd_mul (de_op opd_mod (de_op opd_mul (de_var 3) de_int) de_int) de_int) (de_var 1)) de_int) da_nil)))))))))
    (fun A ds Ψ h => by
      obtain ⟨ns, i, rfl, hl, h⟩ := h
      refine ⟨Nat.zero_le _, pl_fro_ints 11 ns, rfl, _, rfl, ?_⟩
      cases ns with
      | nil => exact iteT ⟨.inr ⟨by decide, by decide⟩, by decide, h _ (Int.emod_nonneg _ (by decide))⟩
      | cons n r =>
        refine iteF ⟨?_, ?_⟩
        · show (0 : Int) < (((n :: r).map D.int).length : Nat)
          simp only [List.length_map, List.length_cons]
          omega
        · have hpos : (0 : Int) < (((n :: r).map D.int).length : Nat) := by
            simp only [List.length_map, List.length_cons]
            omega
          obtain ⟨d, hd, e⟩ := atI_in (l := (n :: r).map D.int) (Int.emod_nonneg i (Int.ne_of_gt hpos)) (Int.emod_lt_of_pos i hpos)
          obtain ⟨c, _, rfl⟩ := List.mem_map.mp hd
          refine ⟨_, e, ⟨by decide, by decide, by decide⟩, _, rfl, ?_⟩
          refine ite2 (fun _ => ⟨⟨by decide, by decide, by decide⟩, by decide, ?_⟩) (fun _ => ?_)
          all_goals exact ⟨.inl ⟨by decide, by decide⟩, .inr ⟨by decide, by decide⟩, .inl ⟨by decide, by decide⟩, by decide, .inr ⟨by decide, by decide⟩, by decide, .inr ⟨by decide, by decide⟩, by decide, h _ (Int.emod_nonneg _ (by decide))⟩)

end
end K02

namespace Dz
open PySem PySem.Spec PyProof.Rows L2
open PySem.Builtin.Str
def spStep (x y : Str) (hi limit : Nat) (u : Array Nat × Nat) (i : Nat) : Array Nat × Nat := if ((u.1.size < limit ∧ u.2 ≤ i) ∧ i + y.length ≤ hi) ∧ subAt x y i = true then (u.1.push i, i + y.length) else u
theorem sp_fold (x y : Str) (hi limit : Nat) : ∀ (l : List Nat) (u : Array Nat × Nat), (forIn l u (PySem.StrLaws.occBody x y hi limit)).run = l.foldl (spStep x y hi limit) u
  | [], u => rfl
  | a :: l, u => by
    rw [List.forIn_cons, List.foldl_cons]
    unfold PySem.StrLaws.occBody spStep
    split
    · exact sp_fold x y hi limit l _
    · exact sp_fold x y hi limit l _
/-- the places of c, d side by side, from place i on, free from f on -/
def spWalk (c d : Nat) : List Nat → Nat → Nat → List Nat
  | [], _, _ => []
  | a :: r, i, f => if f ≤ i ∧ (a :: r).take 2 = [c, d] then i :: spWalk c d r (i + 1) (i + 2) else spWalk c d r (i + 1) f
theorem sp_at (x : Str) (c d : Nat) (i : Nat) : subAt x ⟨#[c, d]⟩ i = true ↔ (x.cps.toList.drop i).take 2 = [c, d] := by
  unfold subAt
  have e : (x.cps.extract i (i + Str.length ⟨#[c, d]⟩)).toList = (x.cps.toList.drop i).take 2 := by
    rw [Array.toList_extract, List.extract_eq_take_drop]
    show List.take (i + 2 - i) _ = _
    rw [Nat.add_sub_cancel_left]
  rw [← e]
  constructor
  · intro h
    have h := eq_of_beq h
    rw [h]
  · intro h
    have : x.cps.extract i (i + Str.length ⟨#[c, d]⟩) = #[c, d] := Array.toList_inj.mp h
    rw [this]
    exact beq_self_eq_true _
theorem sp_walk (x : Str) (c d : Nat) (hi : Nat) : ∀ (r : List Nat) (i : Nat) (A : Array Nat) (f : Nat), x.cps.toList.drop i = r → i + r.length = hi → A.size ≤ i →
    ((List.range' i (r.length + 1)).foldl (spStep x ⟨#[c, d]⟩ hi (hi + 1)) (A, f)).1.toList = A.toList ++ spWalk c d r i f
  | [], i, A, f, hd, hl, hA => by
    have e : List.range' i (([] : List Nat).length + 1) = [i] := rfl
    rw [e, List.foldl_cons, List.foldl_nil]
    unfold spStep spWalk
    rw [if_neg (fun z => by
      have h2 : i + 2 ≤ hi := z.1.2
      simp only [List.length_nil] at hl
      omega), List.append_nil]
  | a :: r, i, A, f, hd, hl, hA => by
    have e : List.range' i ((a :: r).length + 1) = i :: List.range' (i + 1) (r.length + 1) := rfl
    have hd2 : x.cps.toList.drop (i + 1) = r := by
      rw [← List.drop_drop, hd]
      rfl
    rw [List.length_cons] at hl
    rw [e, List.foldl_cons]
    unfold spWalk
    by_cases h : f ≤ i ∧ (a :: r).take 2 = [c, d]
    · rw [if_pos h]
      have hs : subAt x ⟨#[c, d]⟩ i = true := (sp_at x c d i).mpr (by rw [hd]; exact h.2)
      have h2 : i + 2 ≤ hi := by
        cases r with
        | nil => cases h.2
        | cons b r => rw [List.length_cons] at hl; omega
      have es : spStep x ⟨#[c, d]⟩ hi (hi + 1) (A, f) i = (A.push i, i + 2) := by
        unfold spStep
        exact if_pos ⟨⟨⟨by show A.size < hi + 1; omega, h.1⟩, h2⟩, hs⟩
      rw [es, sp_walk x c d hi r (i + 1) (A.push i) (i + 2) hd2 (by omega) (by rw [Array.size_push]; omega), Array.toList_push, List.append_assoc]
      rfl
    · rw [if_neg h]
      have es : spStep x ⟨#[c, d]⟩ hi (hi + 1) (A, f) i = (A, f) := by
        unfold spStep
        refine if_neg fun z => h ⟨z.1.1.2, ?_⟩
        have := (sp_at x c d i).mp z.2
        rw [hd] at this
        exact this
      rw [es, sp_walk x c d hi r (i + 1) A f hd2 (by omega) (by omega)]
theorem sp_occ (x : Str) (c d : Nat) (L : List Nat) (h : x.cps.toList = L) : occurrences x ⟨#[c, d]⟩ 0 x.length (x.length + 1) = spWalk c d L 0 0 := by
  have hl : x.length = L.length := by
    rw [← h]
    exact (Array.length_toList).symm
  rw [PySem.StrLaws.occ_eq, sp_fold]
  have := sp_walk x c d x.length L 0 #[] 0 (by rw [List.drop_zero]; exact h) (by omega) (by show 0 ≤ 0; omega)
  rw [hl] at this ⊢
  exact this
def spParts (L : List Nat) (cuts : List Nat) : List Str := ((0 :: cuts.map (· + 2)).zip (cuts ++ [L.length])).map fun p => ⟨((L.drop p.1).take (p.2 - p.1)).toArray⟩
theorem sp_parts (x : Str) (L : List Nat) (h : x.cps.toList = L) (cuts : List Nat) : partsBetween x cuts 2 = spParts L cuts := by
  have hl : x.length = L.length := by
    rw [← h]
    exact (Array.length_toList).symm
  unfold partsBetween spParts
  rw [hl]
  refine List.map_congr_left fun p hp => ?_
  apply Str.ext'
  apply Array.toList_inj.mp
  show (strSub x p.1 p.2).cps.toList = _
  rw [PySem.StrLaws.strSub_toList, h]
theorem sp_kind (x : Str) (h : x.cps.toList.all (fun z => decide (z < 256)) = true) : PySem.Builtin.Str.strKind x = 1 := by
  unfold PySem.Builtin.Str.strKind
  have e : x.cps.all (fun z => decide (z < 256)) = true := by rw [← Array.all_toList]; exact h
  rw [if_pos e]
theorem sp_split (x : Str) (L : List Nat) (h : x.cps.toList = L) (hk : 2 ≤ L.length) (hk2 : L.all (fun z => decide (z < 256)) = true) (hs : (", " : Str) = ⟨#[44, 32]⟩) (hn : (spWalk 44 32 L 0 0).isEmpty = false) : Txt.split x ", " = spParts L (spWalk 44 32 L 0 0) := by
  have hl : x.length = L.length := by
    rw [← h]
    exact (Array.length_toList).symm
  have k1 : PySem.Builtin.Str.strKind x = 1 := sp_kind x (by rw [h]; exact hk2)
  have k2 : PySem.Builtin.Str.strKind (⟨#[44, 32]⟩ : Str) = 1 := sp_kind _ (by decide)
  have k3 : Str.length (⟨#[44, 32]⟩ : Str) = 2 := rfl
  unfold Txt.split
  rw [hs, k1, k2, k3, hl]
  have e : (decide (L.length < 2) || decide (1 < 1)) = false := by
    rw [decide_eq_false (by omega), decide_eq_false (by omega)]
    rfl
  rw [e, if_neg Bool.false_ne_true]
  have q := sp_occ x 44 32 L h
  rw [hl] at q
  rw [q, hn, if_neg Bool.false_ne_true]
  exact sp_parts x L h _
end Dz

namespace K02
open PySem PySem.Spec PyProof.Rows L2 Dz

def tableT : Str := "k 1 1 p k, p 1 1 k p, ktbl 1 1 ptbl ktbl, ptbl 1 1 ktbl ptbl, sl 1 1 slf sl, slf 1 1 sl slf, yo 0 1 yo yo, co 0 1 co co, bo 1 0 bo bo, kfb 1 2 pfb kfb, pfb 1 2 kfb pfb, m1l 0 1 m1lp m1r, m1r 0 1 m1rp m1l, m1lp 0 1 m1l m1rp, m1rp 0 1 m1r m1lp, k2tog 2 1 p2tog ssk, ssk 2 1 ssp k2tog, p2tog 2 1 k2tog ssp, ssp 2 1 ssk p2tog, cdd 3 1 cddp cdd, cddp 3 1 cdd cddp, c2f 2 2 c2fw c2b, c2b 2 2 c2bw c2f, c2fw 2 2 c2f c2bw, c2bw 2 2 c2b c2fw, c4f 4 4 c4fw c4b, c4b 4 4 c4bw c4f, c4fw 4 4 c4f c4bw, c4bw 4 4 c4b c4fw"
def textL : List Str := ["k 1 1 p k", "p 1 1 k p", "ktbl 1 1 ptbl ktbl", "ptbl 1 1 ktbl ptbl", "sl 1 1 slf sl", "slf 1 1 sl slf", "yo 0 1 yo yo", "co 0 1 co co", "bo 1 0 bo bo", "kfb 1 2 pfb kfb", "pfb 1 2 kfb pfb", "m1l 0 1 m1lp m1r", "m1r 0 1 m1rp m1l", "m1lp 0 1 m1l m1rp", "m1rp 0 1 m1r m1lp", "k2tog 2 1 p2tog ssk", "ssk 2 1 ssp k2tog", "p2tog 2 1 k2tog ssp", "ssp 2 1 ssk p2tog", "cdd 3 1 cddp cdd", "cddp 3 1 cdd cddp", "c2f 2 2 c2fw c2b", "c2b 2 2 c2bw c2f", "c2fw 2 2 c2f c2bw", "c2bw 2 2 c2b c2fw", "c4f 4 4 c4fw c4b", "c4b 4 4 c4bw c4f", "c4fw 4 4 c4f c4bw", "c4bw 4 4 c4b c4fw"]
def tableL : List Nat := [107, 32, 49, 32, 49, 32, 112, 32, 107, 44, 32, 112, 32, 49, 32, 49, 32, 107, 32, 112, 44, 32, 107, 116, 98, 108, 32, 49, 32, 49, 32, 112, 116, 98, 108, 32, 107, 116, 98, 108, 44, 32, 112, 116, 98, 108, 32, 49, 32, 49, 32, 107, 116, 98, 108, 32, 112, 116, 98, 108, 44, 32, 115, 108, 32, 49, 32, 49, 32, 115, 108, 102, 32, 115, 108, 44, 32, 115, 108, 102, 32, 49, 32, 49, 32, 115, 108, 32, 115, 108, 102, 44, 32, 121, 111, 32, 48, 32, 49, 32, 121, 111, 32, 121, 111, 44, 32, 99, 111, 32, 48, 32, 49, 32, 99, 111, 32, 99, 111, 44, 32, 98, 111, 32, 49, 32, 48, 32, 98, 111, 32, 98, 111, 44, 32, 107, 102, 98, 32, 49, 32, 50, 32, 112, 102, 98, 32, 107, 102, 98, 44, 32, 112, 102, 98, 32, 49, 32, 50, 32, 107, 102, 98, 32, 112, 102, 98, 44, 32, 109, 49, 108, 32, 48, 32, 49, 32, 109, 49, 108, 112, 32, 109, 49, 114, 44, 32, 109, 49, 114, 32, 48, 32, 49, 32, 109, 49, 114, 112, 32, 109, 49, 108, 44, 32, 109, 49, 108, 112, 32, 48, 32, 49, 32, 109, 49, 108, 32, 109, 49, 114, 112, 44, 32, 109, 49, 114, 112, 32, 48, 32, 49, 32, 109, 49, 114, 32, 109, 49, 108, 112, 44, 32, 107, 50, 116, 111, 103, 32, 50, 32, 49, 32, 112, 50, 116, 111, 103, 32, 115, 115, 107, 44, 32, 115, 115, 107, 32, 50, 32, 49, 32, 115, 115, 112, 32, 107, 50, 116, 111, 103, 44, 32, 112, 50, 116, 111, 103, 32, 50, 32, 49, 32, 107, 50, 116, 111, 103, 32, 115, 115, 112, 44, 32, 115, 115, 112, 32, 50, 32, 49, 32, 115, 115, 107, 32, 112, 50, 116, 111, 103, 44, 32, 99, 100, 100, 32, 51, 32, 49, 32, 99, 100, 100, 112, 32, 99, 100, 100, 44, 32, 99, 100, 100, 112, 32, 51, 32, 49, 32, 99, 100, 100, 32, 99, 100, 100, 112, 44, 32, 99, 50, 102, 32, 50, 32, 50, 32, 99, 50, 102, 119, 32, 99, 50, 98, 44, 32, 99, 50, 98, 32, 50, 32, 50, 32, 99, 50, 98, 119, 32, 99, 50, 102, 44, 32, 99, 50, 102, 119, 32, 50, 32, 50, 32, 99, 50, 102, 32, 99, 50, 98, 119, 44, 32, 99, 50, 98, 119, 32, 50, 32, 50, 32, 99, 50, 98, 32, 99, 50, 102, 119, 44, 32, 99, 52, 102, 32, 52, 32, 52, 32, 99, 52, 102, 119, 32, 99, 52, 98, 44, 32, 99, 52, 98, 32, 52, 32, 52, 32, 99, 52, 98, 119, 32, 99, 52, 102, 44, 32, 99, 52, 102, 119, 32, 52, 32, 52, 32, 99, 52, 102, 32, 99, 52, 98, 119, 44, 32, 99, 52, 98, 119, 32, 52, 32, 52, 32, 99, 52, 98, 32, 99, 52, 102, 119]
theorem table_list : tableT.cps.toList = tableL := by decide +kernel
theorem table_few : 2 ≤ tableL.length := by decide +kernel
theorem table_low : tableL.all (fun z => decide (z < 256)) = true := by decide +kernel
theorem table_cuts : (spWalk 44 32 tableL 0 0).isEmpty = false := by decide +kernel
theorem table_parts : spParts tableL (spWalk 44 32 tableL 0 0) = textL := by decide +kernel
theorem split_table : Txt.split tableT ", " = textL := (sp_split tableT tableL table_list table_few table_low (by decide +kernel) table_cuts).trans table_parts
/-- a row of the table, read -/
def readRow (t : Str) : Option (Str × Int × Int × Str × Str) := match Txt.split t " " with
  | [a, b, c, d, e] => match PySem.intText? b, PySem.intText? c with
    | some m, some n => if b.length ≤ 640 ∧ c.length ≤ 640 then some (a, m, n, d, e) else none
    | _, _ => none
  | _ => none
theorem read_all : textL.map readRow = kindL.map fun r => some (r.1, (r.2.1 : Int), (r.2.2.1 : Int), r.2.2.2.1, r.2.2.2.2) := by decide +kernel
theorem fit_all : textL.all (fun t => decide (t.length ≤ 1000)) = true := by decide +kernel
theorem fresh_all : ∀ k ∈ List.range 29, (kindL[k]?.any fun r => !hasK (dKeys.take k) (Sum.inr r.1)) = true := by decide +kernel
theorem keys_len : dKeys.length = 29 := by decide +kernel
theorem kinds_len : kindL.length = 29 := by decide +kernel
theorem texts_len : textL.length = 29 := by decide +kernel

theorem read_row {t : Str} {r : Str × Int × Int × Str × Str} (h : readRow t = some r) : ∃ b c, Txt.split t " " = [r.1, b, c, r.2.2.2.1, r.2.2.2.2] ∧ PySem.intText? b = some r.2.1 ∧ PySem.intText? c = some r.2.2.1 ∧ b.length ≤ 640 ∧ c.length ≤ 640 := by
  unfold readRow at h
  split at h
  · rename_i a b c d e hs
    split at h
    · rename_i m n h1 h2
      split at h
      · rename_i hz
        cases h
        exact ⟨b, c, hs, h1, h2, hz.1, hz.2⟩
      · cases h
    · cases h
  · cases h
def pd_law_kinds : PD := fun _ ds Φ => ds = [] ∧ Φ kinds0
def Drawn (names : List Str) : Prop := names ≠ [] ∧ ∀ z ∈ names, (kindRow z).isSome = true
/-- a word of the drawn kinds, of the yarns a, b, z -/
def Word3 (ws : Wd) : Prop := ws.length ≤ 10 ∧ ∀ c ∈ ws, (kindRow c.1).isSome = true ∧ c.2 ∈ (["a", "b", "z"] : List Str)
def pd_law_any_word : PD := fun A ds Φ => ∃ (p : Addr) (ns : List Int) (names : List Str), ds = [.tok p, .lst (names.map D.str)] ∧ DrawIn A p ns ∧ Drawn names ∧ ∀ ws, Word3 ws → Φ (.tup (ws.map encC))
def strangeL : List D := [.tup [.str "k"], .tup [.str "k", .str "a", .str "a"], .lst [.str "k", .str "a"], .tup [.str "K", .str "a"], .tup [.str "k", .str "A"], .tup [.str "k", .str ""], .tup [.str "k", .str "ab"], .tup [.str "k", .int 1], .tup [.int 1, .str "a"], .tup [.str "", .str "a"], .non, .str "k", .tup [.str "k", .non], .tup [.str "k2", .str "a"], .tup [.str "k", .str "-"]]
def pd_law_strange : PD := fun _ ds Φ => ds = [] ∧ Φ (.lst strangeL)
def pd_law_rows : PD := fun A ds Φ => ∃ (p : Addr) (ns : List Int), ds = [.tok p] ∧ DrawIn A p ns ∧ ∀ l, l ≠ [] → (∀ d ∈ l, ∃ x b, d = .tup [x, .bl b] ∧ okRow x = true ∧ isRowD x = b) → Φ (.lst l)

section
variable {P : Program} {w : World} {K : PySem.W.Frag} {mg : Str → Option Value} {base : Heap} {kd : Addr}
abbrev s_law_take : Stmt := topS 17
theorem sc_law_take : FnScope ["draw", "many"] ["draw", "many"] (defScope s_law_take) := ⟨rfl, rfl, rfl, by decide +kernel, rfl, by decide +kernel, by decide +kernel⟩
theorem ok_law_take {f : Addr} {fd : FuncData} (F : Fun K "_law_take" "_law_take" s_law_take f fd) (T : Txt w K mg kd) (G_law_number : Own P w K mg base "_law_number" 1 ["script", "index"] pdNumber) : FnOk P w K mg base CX0 2 f fd ["draw", "many"] (spD K pd_law_take) :=
  fn_dz F sc_law_take (fun A ds Ψ h => by
      obtain ⟨p, ns, m, rfl, _⟩ := h; rfl) (fun A cdv Ar outer s H E hr =>
    (dss_cons (ds_drawInc 0)
    (dss_one (ds_ret (de_op opd_mod (de_callTy callD_int rfl T.mg_int (by decide +kernel) (da_cons (de_own G_law_number (hr.mono (by decide)) rfl (da_cons (de_drawIx 0) (da_cons (de_callTy callD_int rfl T.mg_int (by decide +kernel) (da_cons (de_drawIx 0) da_nil)) da_nil))) da_nil)) (de_var 1))))))
    (fun A ds Ψ h => by
      obtain ⟨p, ns, m, rfl, d, hm, h⟩ := h
      exact ⟨p, ns, rfl, d, p, ns, rfl, d, .inl ⟨rfl, p, ns, rfl, d, .inr ⟨rfl, fun n => ⟨ns, n, rfl, d.few, fun r hr => ⟨hm, h _ (Int.emod_nonneg r (Int.ne_of_gt hm)) (Int.emod_lt_of_pos r hm)⟩⟩⟩⟩⟩)

abbrev s_law_pick : Stmt := topS 18
theorem sc_law_pick : FnScope ["draw", "items"] ["draw", "items"] (defScope s_law_pick) := ⟨rfl, rfl, rfl, by decide +kernel, rfl, by decide +kernel, by decide +kernel⟩
theorem ok_law_pick {f : Addr} {fd : FuncData} (F : Fun K "_law_pick" "_law_pick" s_law_pick f fd) (T : Txt w K mg kd) (G_law_take : Own P w K mg base "_law_take" 2 ["draw", "many"] pdTake) : FnOk P w K mg base CX0 3 f fd ["draw", "items"] (spD K pd_law_pick) :=
  fn_dz F sc_law_pick (fun A ds Ψ h => by
      obtain ⟨p, ns, l, rfl | rfl, _⟩ := h <;> rfl) (fun A cdv Ar outer s H E hr =>
    (dss_one (ds_ret (de_ix (ixd hr.units) (de_var 1) (de_own G_law_take (hr.mono (by decide)) rfl (da_cons (de_var 0) (da_cons (de_callB callD_len rfl T.mg_len (by decide +kernel) (da_cons (de_var 1) da_nil)) da_nil)))))))
    (fun A ds Ψ h => by
      obtain ⟨p, ns, l, e, d, hl, h⟩ := h
      have hpos : (0 : Int) < (l.length : Nat) := by
        cases l with
        | nil => exact absurd rfl hl
        | cons a r => simp only [List.length_cons]; omega
      rcases e with rfl | rfl
      all_goals
        refine ⟨p, ns, _, rfl, d, hpos, fun r h0 h1 => ?_⟩
        obtain ⟨x, hx, e⟩ := atI_in h0 h1
        exact ⟨x, e, h x hx⟩)

abbrev s_law_kinds : Stmt := topS 19
theorem sc_law_kinds : FnScope ["found", "table", "told", "row"] [] (defScope s_law_kinds) := ⟨rfl, rfl, rfl, by decide +kernel, rfl, by decide +kernel, by decide +kernel⟩
theorem ok_law_kinds {f : Addr} {fd : FuncData} (F : Fun K "_law_kinds" "_law_kinds" s_law_kinds f fd) (T : Txt w K mg kd)  : FnOk P w K mg base CX0 1 f fd [] (spD K pd_law_kinds) :=
  fn_dz F sc_law_kinds (fun A ds Ψ h => by
      obtain ⟨rfl, _⟩ := h; rfl) (fun A cdv Ar outer s H E hr =>
    (dss_cons (ds_setN (i := 0) sc_law_kinds.nd rfl (Or.inl rfl) dn_dct)
    (dss_cons (ds_asg (vs := [0, 1, 2, 3]) de_str (dg_name (i := 1) sc_law_kinds.nd rfl (Or.inl rfl)))
    (dss_cons (ds_for (vs := [0, 1, 2, 3]) PassesOwn.never rfl (di_seq (de_split (de_var 1) de_str)) (dg_name (i := 2) sc_law_kinds.nd rfl (Or.inl rfl))
      (dss_cons (ds_asg (vs := [0, 1, 2, 3]) (de_split (de_var 2) de_str) (dg_name (i := 3) sc_law_kinds.nd rfl (Or.inl rfl)))
      (dss_one (ds_putD (i := 0) (hu_of hr) rfl (Or.inl rfl) (de_ix (ixd hr.units) (de_var 3) de_int) (de_tup (da_cons (de_callTy callD_int rfl T.mg_int (by decide +kernel) (da_cons (de_ix (ixd hr.units) (de_var 3) de_int) da_nil)) (da_cons (de_callTy callD_int rfl T.mg_int (by decide +kernel) (da_cons (de_ix (ixd hr.units) (de_var 3) de_int) da_nil)) (da_cons (de_ix (ixd hr.units) (de_var 3) de_int) (da_cons (de_ix (ixd hr.units) (de_var 3) de_int) da_nil)))))))))
    (dss_one (ds_ret (de_var 0)))))))
    (fun A ds Ψ h => by
      obtain ⟨rfl, h⟩ := h
      have e : (Txt.split tableT ", ").map D.str = textL.map D.str := by rw [split_table]
      refine ⟨tableT, rfl, (", " : Str), rfl, by decide +kernel, by decide +kernel, _, rfl, ?_⟩
      rw [show ((Txt.split tableT ", ").map D.str) = textL.map D.str from e]
      refine ⟨fun k en => ∃ x y, en = [.cel (.dct (dKeys.take k) (dVals.take k)), .dat (.str tableT), x, y], ⟨.un, .un, rfl⟩, ?_, ?_⟩
      · rintro k x en hx ⟨y1, y2, rfl⟩
        have hk : k < 29 := by
          have := (List.getElem?_eq_some_iff.mp hx).1
          rw [List.length_map, texts_len] at this
          exact this
        rw [List.getElem?_map] at hx
        obtain ⟨t, ht⟩ : ∃ t, textL[k]? = some t := ⟨textL[k]'(by rw [texts_len]; exact hk), List.getElem?_eq_getElem _⟩
        obtain ⟨r, hr⟩ : ∃ r, kindL[k]? = some r := ⟨kindL[k]'(by rw [kinds_len]; exact hk), List.getElem?_eq_getElem _⟩
        rw [ht] at hx
        have ex : D.str t = x := Option.some.inj hx
        subst ex
        have hread : readRow t = some (r.1, (r.2.1 : Int), (r.2.2.1 : Int), r.2.2.2.1, r.2.2.2.2) := by
          have e1 : (textL.map readRow)[k]? = (kindL.map fun r => some (r.1, (r.2.1 : Int), (r.2.2.1 : Int), r.2.2.2.1, r.2.2.2.2))[k]? := by rw [read_all]
          rw [List.getElem?_map, List.getElem?_map, ht, hr] at e1
          exact Option.some.inj e1
        obtain ⟨b, c, hs, hb, hc, hb2, hc2⟩ := read_row hread
        have hfit : t.length ≤ 1000 := of_decide_eq_true (List.all_eq_true.mp fit_all t (List.mem_of_getElem? ht))
        refine ⟨t, rfl, (" " : Str), rfl, by decide +kernel, Nat.le_trans (Nat.add_le_add_right hfit 2) (by decide), ?_⟩
        rw [hs]
        refine ⟨.str b, rfl, _, hb, hb2, .str c, rfl, _, hc, hc2, _, rfl, _, rfl, (by show 4 ≤ 100000; decide), _, _, rfl, _, rfl, _, rfl, _, _, rfl, ?_, ?_⟩
        · rw [List.length_take, keys_len]
          omega
        · have hfr : hasK (dKeys.take k) (Sum.inr r.1) = false := by
            have := fresh_all k (List.mem_range.mpr hk)
            rw [hr] at this
            simpa using this
          refine ⟨.dat (.str t), .dat (.lst ([r.1, b, c, r.2.2.2.1, r.2.2.2.2].map D.str)), ?_⟩
          have e1 : putKs (dKeys.take k) (Sum.inr r.1) = dKeys.take (k + 1) := by
            unfold putKs
            rw [hfr, if_neg Bool.false_ne_true, List.take_add_one]
            have : dKeys[k]? = some (Sum.inr r.1) := by
              unfold dKeys
              rw [List.getElem?_map, hr]; rfl
            rw [this]; rfl
          have e2 : putKd (dKeys.take k) (dVals.take k) (Sum.inr r.1) (.tup [.int r.2.1, .int r.2.2.1, .str r.2.2.2.1, .str r.2.2.2.2]) = dVals.take (k + 1) := by
            unfold putKd
            rw [hfr, if_neg Bool.false_ne_true, List.take_add_one]
            have : dVals[k]? = some (kdD ⟨r.2.1, r.2.2.1, r.2.2.2.1, r.2.2.2.2⟩) := by
              unfold dVals
              rw [List.getElem?_map, hr]; rfl
            rw [this]; rfl
          show [EV.cel (.dct (putKs (dKeys.take k) (Sum.inr r.1)) (putKd (dKeys.take k) (dVals.take k) (Sum.inr r.1) (.tup [.int r.2.1, .int r.2.2.1, .str r.2.2.2.1, .str r.2.2.2.2]))), _, _, _] = _
          rw [e1, e2]
      · rintro en ⟨y1, y2, rfl⟩
        rw [List.length_map, texts_len]
        have e1 : dKeys.take 29 = dKeys := List.take_of_length_le (by rw [keys_len]; exact Nat.le_refl _)
        have e2 : dVals.take 29 = dVals := List.take_of_length_le (by unfold dVals; rw [List.length_map, kinds_len]; exact Nat.le_refl _)
        show Ψ (.dct (dKeys.take 29) (dVals.take 29))
        rw [e1, e2]
        exact h)

abbrev s_law_takes : Stmt := topS 20
theorem sc_law_takes : FnScope ["word", "kinds", "kind", "yarn"] ["word", "kinds"] (defScope s_law_takes) := ⟨rfl, rfl, rfl, by decide +kernel, rfl, by decide +kernel, by decide +kernel⟩
theorem ok_law_takes {f : Addr} {fd : FuncData} (F : Fun K "_law_takes" "_law_takes" s_law_takes f fd) (T : Txt w K mg kd)  : FnOk P w K mg base CX0 1 f fd ["word", "kinds"] (spD K pd_law_takes) :=
  fn_dz F sc_law_takes (fun A ds Ψ h => by
      obtain ⟨ws, _, rfl, _⟩ := h; rfl) (fun A cdv Ar outer s H E hr =>
    (dss_one (ds_ret (de_callB (callD_sum rfl) rfl T.mg_sum (by decide +kernel) (da_cons (de_lc rfl sc_law_takes.nd (di_seq (de_var 0)) (blkOk_by (own := [("kind", 2), ("yarn", 3)]) (N := ["word", "kinds", "kind", "yarn"]) (sc := defScope s_law_takes) (by decide +kernel)) (fun _ _ _ _ _ => (dg_tup (n := 2) rfl (dgs_cons (dg_name (i := 2) sc_law_takes.nd rfl (Or.inl rfl)) (dgs_cons (dg_name (i := 3) sc_law_takes.nd rfl (Or.inl rfl)) dgs_nil)))) (fun _ _ _ _ _ => dts_nil) (fun _ _ _ _ _ => (de_ix (ixd hr.units) (de_ix (ixd hr.units) (de_var 1) (de_var 2)) de_int))) da_nil)))))
    (fun A ds Ψ h => by
      obtain ⟨ws, gw, rfl, h⟩ := h
      refine ⟨_, rfl, ?_⟩
      refine lc_map0 ws encC (fun c => .int (tk c.1)) rfl (Nat.le_trans gw.1 (by decide)) (fun c hc J acc hJ => ?_) ?_
      · obtain ⟨r, hr⟩ := some_of (gw.2 c hc)
        refine ⟨rfl, rfl, kdD r, getK_kinds hr, _, rfl, rfl, ?_⟩
        rw [tk_eq hr] at hJ
        exact hJ
      · exact ⟨ws.map fun c => tk c.1, by rw [map_ints], h⟩)

abbrev s_law_makes : Stmt := topS 21
theorem sc_law_makes : FnScope ["word", "kinds", "kind", "yarn"] ["word", "kinds"] (defScope s_law_makes) := ⟨rfl, rfl, rfl, by decide +kernel, rfl, by decide +kernel, by decide +kernel⟩
theorem ok_law_makes {f : Addr} {fd : FuncData} (F : Fun K "_law_makes" "_law_makes" s_law_makes f fd) (T : Txt w K mg kd)  : FnOk P w K mg base CX0 1 f fd ["word", "kinds"] (spD K pd_law_makes) :=
  fn_dz F sc_law_makes (fun A ds Ψ h => by
      obtain ⟨ws, _, rfl, _⟩ := h; rfl) (fun A cdv Ar outer s H E hr =>
    (dss_one (ds_ret (de_callB (callD_sum rfl) rfl T.mg_sum (by decide +kernel) (da_cons (de_lc rfl sc_law_makes.nd (di_seq (de_var 0)) (blkOk_by (own := [("kind", 2), ("yarn", 3)]) (N := ["word", "kinds", "kind", "yarn"]) (sc := defScope s_law_makes) (by decide +kernel)) (fun _ _ _ _ _ => (dg_tup (n := 2) rfl (dgs_cons (dg_name (i := 2) sc_law_makes.nd rfl (Or.inl rfl)) (dgs_cons (dg_name (i := 3) sc_law_makes.nd rfl (Or.inl rfl)) dgs_nil)))) (fun _ _ _ _ _ => dts_nil) (fun _ _ _ _ _ => (de_ix (ixd hr.units) (de_ix (ixd hr.units) (de_var 1) (de_var 2)) de_int))) da_nil)))))
    (fun A ds Ψ h => by
      obtain ⟨ws, gw, rfl, h⟩ := h
      refine ⟨_, rfl, ?_⟩
      refine lc_map0 ws encC (fun c => .int (mk' c.1)) rfl (Nat.le_trans gw.1 (by decide)) (fun c hc J acc hJ => ?_) ?_
      · obtain ⟨r, hr⟩ := some_of (gw.2 c hc)
        refine ⟨rfl, rfl, kdD r, getK_kinds hr, _, rfl, rfl, ?_⟩
        rw [mk_eq hr] at hJ
        exact hJ
      · exact ⟨ws.map fun c => mk' c.1, by rw [map_ints], h⟩)

abbrev s_law_back : Stmt := topS 22
theorem sc_law_back : FnScope ["word", "kinds", "kind", "yarn"] ["word", "kinds"] (defScope s_law_back) := ⟨rfl, rfl, rfl, by decide +kernel, rfl, by decide +kernel, by decide +kernel⟩
theorem ok_law_back {f : Addr} {fd : FuncData} (F : Fun K "_law_back" "_law_back" s_law_back f fd) (T : Txt w K mg kd)  : FnOk P w K mg base CX0 1 f fd ["word", "kinds"] (spD K pd_law_back) :=
  fn_dz F sc_law_back (fun A ds Ψ h => by
      obtain ⟨ws, _, rfl, _⟩ := h; rfl) (fun A cdv Ar outer s H E hr =>
    (dss_one (ds_ret (de_callTy callD_tuple rfl T.mg_tuple (by decide +kernel) (da_cons (de_lc rfl sc_law_back.nd (di_seq (de_revT (de_var 0))) (blkOk_by (own := [("kind", 2), ("yarn", 3)]) (N := ["word", "kinds", "kind", "yarn"]) (sc := defScope s_law_back) (by decide +kernel)) (fun _ _ _ _ _ => (dg_tup (n := 2) rfl (dgs_cons (dg_name (i := 2) sc_law_back.nd rfl (Or.inl rfl)) (dgs_cons (dg_name (i := 3) sc_law_back.nd rfl (Or.inl rfl)) dgs_nil)))) (fun _ _ _ _ _ => dts_nil) (fun _ _ _ _ _ => (de_tup (da_cons (de_ix (ixd hr.units) (de_ix (ixd hr.units) (de_var 1) (de_var 2)) de_int) (da_cons (de_var 3) da_nil))))) da_nil)))))
    (fun A ds Ψ h => by
      obtain ⟨ws, gw, rfl, h⟩ := h
      refine ⟨_, rfl, ?_⟩
      refine lc_map0 ws.reverse encC (fun c => encC (bk c.1, c.2)) (by rw [List.map_reverse]) (by rw [List.length_reverse]; exact Nat.le_trans gw.1 (by decide)) (fun c hc J acc hJ => ?_) ?_
      · obtain ⟨r, hr⟩ := some_of (gw.2 c (List.mem_reverse.mp hc))
        refine ⟨rfl, rfl, kdD r, getK_kinds hr, _, rfl, (by show 2 ≤ 100000; decide), rfl, ?_⟩
        rw [bk_eq hr] at hJ
        exact hJ
      · rw [List.map_map] at h
        exact h)

abbrev s_law_mirror : Stmt := topS 23
theorem sc_law_mirror : FnScope ["word", "kinds", "kind", "yarn"] ["word", "kinds"] (defScope s_law_mirror) := ⟨rfl, rfl, rfl, by decide +kernel, rfl, by decide +kernel, by decide +kernel⟩
theorem ok_law_mirror {f : Addr} {fd : FuncData} (F : Fun K "_law_mirror" "_law_mirror" s_law_mirror f fd) (T : Txt w K mg kd)  : FnOk P w K mg base CX0 1 f fd ["word", "kinds"] (spD K pd_law_mirror) :=
  fn_dz F sc_law_mirror (fun A ds Ψ h => by
      obtain ⟨ws, _, rfl, _⟩ := h; rfl) (fun A cdv Ar outer s H E hr =>
    (dss_one (ds_ret (de_callTy callD_tuple rfl T.mg_tuple (by decide +kernel) (da_cons (de_lc rfl sc_law_mirror.nd (di_seq (de_revT (de_var 0))) (blkOk_by (own := [("kind", 2), ("yarn", 3)]) (N := ["word", "kinds", "kind", "yarn"]) (sc := defScope s_law_mirror) (by decide +kernel)) (fun _ _ _ _ _ => (dg_tup (n := 2) rfl (dgs_cons (dg_name (i := 2) sc_law_mirror.nd rfl (Or.inl rfl)) (dgs_cons (dg_name (i := 3) sc_law_mirror.nd rfl (Or.inl rfl)) dgs_nil)))) (fun _ _ _ _ _ => dts_nil) (fun _ _ _ _ _ => (de_tup (da_cons (de_ix (ixd hr.units) (de_ix (ixd hr.units) (de_var 1) (de_var 2)) de_int) (da_cons (de_var 3) da_nil))))) da_nil)))))
    (fun A ds Ψ h => by
      obtain ⟨ws, gw, rfl, h⟩ := h
      refine ⟨_, rfl, ?_⟩
      refine lc_map0 ws.reverse encC (fun c => encC (mi c.1, c.2)) (by rw [List.map_reverse]) (by rw [List.length_reverse]; exact Nat.le_trans gw.1 (by decide)) (fun c hc J acc hJ => ?_) ?_
      · obtain ⟨r, hr⟩ := some_of (gw.2 c (List.mem_reverse.mp hc))
        refine ⟨rfl, rfl, kdD r, getK_kinds hr, _, rfl, (by show 2 ≤ 100000; decide), rfl, ?_⟩
        rw [mi_eq hr] at hJ
        exact hJ
      · rw [List.map_map] at h
        exact h)

abbrev s_law_any_word : Stmt := topS 24
theorem sc_law_any_word : FnScope ["draw", "names", "at"] ["draw", "names"] (defScope s_law_any_word) := ⟨rfl, rfl, rfl, by decide +kernel, rfl, by decide +kernel, by decide +kernel⟩
theorem ok_law_any_word {f : Addr} {fd : FuncData} (F : Fun K "_law_any_word" "_law_any_word" s_law_any_word f fd) (T : Txt w K mg kd) (G_law_take : Own P w K mg base "_law_take" 2 ["draw", "many"] pdTake) (G_law_pick : Own P w K mg base "_law_pick" 3 ["draw", "items"] pdPick) : FnOk P w K mg base CX0 4 f fd ["draw", "names"] (spD K pd_law_any_word) :=
  fn_dz F sc_law_any_word (fun A ds Ψ h => by
      obtain ⟨p, ns, names, rfl, _⟩ := h; rfl) (fun A cdv Ar outer s H E hr =>
    (dss_one (ds_ret (de_callTy callD_tuple rfl T.mg_tuple (by decide +kernel) (da_cons (de_lc rfl sc_law_any_word.nd (di_rng1 rfl T.mg_range (da_cons (de_own G_law_take (hr.mono (by decide)) rfl (da_cons (de_var 0) (da_cons de_int da_nil))) da_nil)) (blkOk_by (own := [("at", 2)]) (N := ["draw", "names", "at"]) (sc := defScope s_law_any_word) (by decide +kernel)) (fun _ _ _ _ _ => (dg_name (i := 2) sc_law_any_word.nd rfl (Or.inl rfl))) (fun _ _ _ _ _ => dts_nil) (fun _ _ _ _ _ => (de_tup (da_cons (de_own G_law_pick (hr.mono (by decide)) rfl (da_cons (de_var 0) (da_cons (de_var 1) da_nil))) (da_cons (de_own G_law_pick (hr.mono (by decide)) rfl (da_cons (de_var 0) (da_cons (de_lst (da_cons de_str (da_cons de_str (da_cons de_str da_nil)))) da_nil))) da_nil))))) da_nil)))))
    (fun A ds Ψ h => by
      obtain ⟨p, ns, names, rfl, d, dn, h⟩ := h
      refine ⟨p, ns, 7, rfl, d, by decide, fun r h0 h7 => ⟨r, rfl, by omega, by omega, ?_⟩⟩
      have hn : names.map D.str ≠ [] := fun e => dn.1 (List.map_eq_nil_iff.mp e)
      refine lc_any0 (fun x => ∃ c : Str × Str, x = encC c ∧ (kindRow c.1).isSome = true ∧ c.2 ∈ (["a", "b", "z"] : List Str)) (by rw [rngD_len]; omega) (fun x hx J acc hJ => ?_) (fun acc hl ha => ?_)
      · refine ⟨p, ns, _, .inl rfl, d, hn, fun k hk => ?_⟩
        obtain ⟨z, hz, rfl⟩ := List.mem_map.mp hk
        refine ⟨(by show 3 ≤ 100000; decide), p, ns, _, .inl rfl, d, (fun e => nomatch e), fun y hy => ⟨(by show 2 ≤ 100000; decide), rfl, ?_⟩⟩
        have hy : y ∈ (["a", "b", "z"] : List Str).map D.str := hy
        obtain ⟨t, ht, rfl⟩ := List.mem_map.mp hy
        exact hJ _ ⟨(z, t), rfl, dn.2 z hz, ht⟩
      · rw [rngD_len] at hl
        have key : ∀ l : List D, (∀ x ∈ l, ∃ c : Str × Str, x = encC c ∧ (kindRow c.1).isSome = true ∧ c.2 ∈ (["a", "b", "z"] : List Str)) → ∃ ws : Wd, l = ws.map encC ∧ ∀ c ∈ ws, (kindRow c.1).isSome = true ∧ c.2 ∈ (["a", "b", "z"] : List Str) := by
          intro l
          induction l with
          | nil => exact fun _ => ⟨[], rfl, fun c h => nomatch h⟩
          | cons x l ih =>
            intro hx
            obtain ⟨c, e1, e2⟩ := hx x List.mem_cons_self
            obtain ⟨ws, e3, e4⟩ := ih fun y hy => hx y (List.mem_cons_of_mem _ hy)
            exact ⟨c :: ws, by rw [e1, e3]; rfl, fun y hy => by
              rcases List.mem_cons.mp hy with z | z
              · rw [z]; exact e2
              · exact e4 y z⟩
        obtain ⟨ws, e1, e2⟩ := key acc ha
        subst e1
        rw [List.length_map] at hl
        exact h ws ⟨by omega, e2⟩)

abbrev s_law_strange : Stmt := topS 25
theorem sc_law_strange : FnScope [] [] (defScope s_law_strange) := ⟨rfl, rfl, rfl, by decide +kernel, rfl, by decide +kernel, by decide +kernel⟩
theorem ok_law_strange {f : Addr} {fd : FuncData} (F : Fun K "_law_strange" "_law_strange" s_law_strange f fd) (T : Txt w K mg kd)  : FnOk P w K mg base CX0 1 f fd [] (spD K pd_law_strange) :=
  fn_dz F sc_law_strange (fun A ds Ψ h => by
      obtain ⟨rfl, _⟩ := h; rfl) (fun A cdv Ar outer s H E hr =>
    (dss_one (ds_ret (de_lst (da_cons (de_tup (da_cons de_str da_nil)) (da_cons (de_tup (da_cons de_str (da_cons de_str (da_cons de_str da_nil)))) (da_cons (de_lst (da_cons de_str (da_cons de_str da_nil))) (da_cons (de_tup (da_cons de_str (da_cons de_str da_nil))) (da_cons (de_tup (da_cons de_str (da_cons de_str da_nil))) (da_cons (de_tup (da_cons de_str (da_cons de_str da_nil))) (da_cons (de_tup (da_cons de_str (da_cons de_str da_nil))) (da_cons (de_tup (da_cons de_str (da_cons de_int da_nil))) (da_cons (de_tup (da_cons de_int (da_cons de_str da_nil))) (da_cons (de_tup (da_cons de_str (da_cons de_str da_nil))) (da_cons de_non (da_cons de_str (da_cons (de_tup (da_cons de_str (da_cons de_non da_nil))) (da_cons (de_tup (da_cons de_str (da_cons de_str da_nil))) (da_cons (de_tup (da_cons de_str (da_cons de_str da_nil))) da_nil)))))))))))))))))))
    (fun A ds Ψ h => by
      obtain ⟨rfl, h⟩ := h
      have z1 : 1 ≤ 100000 := by decide
      have z2 : 2 ≤ 100000 := by decide
      have z3 : 3 ≤ 100000 := by decide
      have z15 : 15 ≤ 100000 := by decide
      exact ⟨z1, z3, z2, z2, z2, z2, z2, z2, z2, z2, z2, z2, z2, z15, h⟩)

end
end K02

namespace K02
open PySem PySem.Spec PyProof.Rows L2 Dz

/-! ### facts of the table -/
theorem row_mem {z : Str} (h : (kindRow z).isSome = true) : z ∈ names0 := by
  have key : ∀ L : List (Str × Nat × Nat × Str × Str), (findL L z).isSome = true → z ∈ L.map (·.1) := by
    intro L
    induction L with
    | nil => intro h; cases h
    | cons r L ih =>
      obtain ⟨k, a, b, c, d⟩ := r
      intro h
      unfold findL at h
      by_cases e : k = z
      · rw [List.map_cons, e]; exact List.mem_cons_self
      · rw [if_neg e] at h
        exact List.mem_cons_of_mem _ (ih h)
  exact key kindL h
def tabOk (z : Str) : Bool := (kindRow (bk z)).isSome && ((kindRow (mi z)).isSome && (decide (bk (bk z) = z) && (decide (mi (mi z) = z) && (decide (bk (mi z) = mi (bk z)) && (PyData.strOk z && (kindRow z).isSome)))))
theorem tab_all : names0.all tabOk = true := by decide +kernel
structure TabOk (z : Str) : Prop where
  b : (kindRow (bk z)).isSome = true
  m : (kindRow (mi z)).isSome = true
  bb : bk (bk z) = z
  mm : mi (mi z) = z
  bm : bk (mi z) = mi (bk z)
  so : PyData.strOk z = true
theorem tab_ok {z : Str} (h : (kindRow z).isSome = true) : TabOk z := by
  have := List.all_eq_true.mp tab_all z (row_mem h)
  unfold tabOk at this
  simp only [Bool.and_eq_true, decide_eq_true_eq] at this
  exact ⟨this.1, this.2.1, this.2.2.1, this.2.2.2.1, this.2.2.2.2.1, this.2.2.2.2.2.1⟩
theorem yarn_ok {y : Str} (h : y ∈ (["a", "b", "z"] : List Str)) : PyData.strOk y = true := by
  have : (["a", "b", "z"] : List Str).all PyData.strOk = true := by decide +kernel
  exact List.all_eq_true.mp this y h
def Strs (ws : Wd) : Prop := ∀ c ∈ ws, PyData.strOk c.1 = true ∧ PyData.strOk c.2 = true
theorem plL_words {n : Nat} : ∀ {ws : Wd}, Strs ws → plL (n + 1) (ws.map encC) = true
  | [], _ => by unfold plL; rfl
  | c :: r, h => by
    rw [List.map_cons]
    unfold plL
    rw [plL_words fun y hy => h y (List.mem_cons_of_mem _ hy), Bool.and_true]
    unfold encC plD plL plD plL plD plL
    obtain ⟨h1, h2⟩ := h c List.mem_cons_self
    rw [h1, h2]; rfl
theorem pl_word {n : Nat} {ws : Wd} (h : Strs ws) : plD (n + 2) (.tup (ws.map encC)) = true := by
  unfold plD
  exact plL_words h
def backW (ws : Wd) : Wd := ws.reverse.map fun c => (bk c.1, c.2)
def mirrW (ws : Wd) : Wd := ws.reverse.map fun c => (mi c.1, c.2)
theorem Word3.good {ws : Wd} (h : Word3 ws) : Good ws := ⟨by have := h.1; omega, fun c hc => (h.2 c hc).1⟩
theorem Word3.strs {ws : Wd} (h : Word3 ws) : Strs ws := fun c hc => ⟨(tab_ok (h.2 c hc).1).so, yarn_ok (h.2 c hc).2⟩
theorem Word3.back {ws : Wd} (h : Word3 ws) : Word3 (backW ws) := ⟨by unfold backW; rw [List.length_map, List.length_reverse]; exact h.1, fun c hc => by
  obtain ⟨c', hc', rfl⟩ := List.mem_map.mp hc
  have := h.2 c' (List.mem_reverse.mp hc')
  exact ⟨(tab_ok this.1).b, this.2⟩⟩
theorem Word3.mirr {ws : Wd} (h : Word3 ws) : Word3 (mirrW ws) := ⟨by unfold mirrW; rw [List.length_map, List.length_reverse]; exact h.1, fun c hc => by
  obtain ⟨c', hc', rfl⟩ := List.mem_map.mp hc
  have := h.2 c' (List.mem_reverse.mp hc')
  exact ⟨(tab_ok this.1).m, this.2⟩⟩
theorem map_self {α : Type} {f : α → α} : ∀ {l : List α}, (∀ x ∈ l, f x = x) → l.map f = l
  | [], _ => rfl
  | x :: l, h => by rw [List.map_cons, h x List.mem_cons_self, map_self fun y hy => h y (List.mem_cons_of_mem _ hy)]
theorem back_back {ws : Wd} (h : Word3 ws) : backW (backW ws) = ws := by
  unfold backW
  rw [← List.map_reverse, List.reverse_reverse, List.map_map]
  exact map_self fun c hc => Prod.ext (tab_ok (h.2 c hc).1).bb rfl
theorem mirr_mirr {ws : Wd} (h : Word3 ws) : mirrW (mirrW ws) = ws := by
  unfold mirrW
  rw [← List.map_reverse, List.reverse_reverse, List.map_map]
  exact map_self fun c hc => Prod.ext (tab_ok (h.2 c hc).1).mm rfl
theorem back_mirr {ws : Wd} (h : Word3 ws) : backW (mirrW ws) = mirrW (backW ws) := by
  unfold backW mirrW
  rw [← List.map_reverse, ← List.map_reverse, List.reverse_reverse, List.map_map, List.map_map]
  exact List.map_congr_left fun c hc => Prod.ext (tab_ok (h.2 c hc).1).bm rfl
theorem strange_all : strangeL.all (fun x => okCell x && !isCellD x) = true := by decide +kernel
theorem eqD_bb {a b : Bool} : eqD (.bl a) (.bl b) = (a == b) := by unfold eqD; rfl
theorem neSelf {d : D} (h : plD 12 d = true) : (!eqD d d) = false := by rw [eqD_refl 12 d h]; rfl
section
variable {P : Program} {w : World} {K : PySem.W.Frag} {mg : Str → Option Value} {base : Heap} {kd : Addr}
abbrev s_law_rows : Stmt := topS 26
theorem sc_law_rows : FnScope ["draw", "k", "yo", "many"] ["draw"] (defScope s_law_rows) := ⟨rfl, rfl, rfl, by decide +kernel, rfl, by decide +kernel, by decide +kernel⟩
theorem ok_law_rows {f : Addr} {fd : FuncData} (F : Fun K "_law_rows" "_law_rows" s_law_rows f fd) (T : Txt w K mg kd) (G_law_take : Own P w K mg base "_law_take" 2 ["draw", "many"] pdTake) : FnOk P w K mg base CX0 4 f fd ["draw"] (spD K pd_law_rows) :=
  fn_dz F sc_law_rows (fun A ds Ψ h => by
      obtain ⟨p, ns, rfl, _⟩ := h; rfl) (fun A cdv Ar outer s H E hr =>
    (dss_cons (ds_par3 (i := 1) (j := 2) (l := 3) rfl sc_law_rows.nd rfl rfl rfl (by decide) (by decide) (by decide) rfl rfl rfl (da_cons (de_tup (da_cons de_str (da_cons de_str da_nil))) (da_cons (de_tup (da_cons de_str (da_cons de_str da_nil))) (da_cons (de_op opd_add de_int (de_own G_law_take (hr.mono (by decide)) rfl (da_cons (de_var 0) (da_cons de_int da_nil)))) da_nil))))
    (dss_one (ds_ret (de_lst (da_cons (de_tup (da_cons (de_tup (da_cons (de_tup da_nil) (da_cons (de_tup da_nil) (da_cons (de_tup da_nil) da_nil)))) (da_cons de_bl da_nil))) (da_cons (de_tup (da_cons (de_tup (da_cons (de_op opd_mul (de_tup (da_cons (de_var 1) da_nil)) de_int) (da_cons (de_op opd_mul (de_tup (da_cons (de_var 1) da_nil)) de_int) (da_cons (de_op opd_mul (de_tup (da_cons (de_var 1) da_nil)) de_int) da_nil)))) (da_cons de_bl da_nil))) (da_cons (de_tup (da_cons (de_tup (da_cons (de_op opd_mul (de_tup (da_cons (de_var 1) da_nil)) de_int) (da_cons (de_tup da_nil) (da_cons (de_tup da_nil) da_nil)))) (da_cons de_bl da_nil))) (da_cons (de_tup (da_cons (de_tup (da_cons (de_tup da_nil) (da_cons (de_op opd_mul (de_tup (da_cons (de_var 1) da_nil)) de_int) (da_cons (de_tup da_nil) da_nil)))) (da_cons de_bl da_nil))) (da_cons (de_tup (da_cons (de_tup (da_cons (de_tup da_nil) (da_cons (de_tup (da_cons (de_var 1) da_nil)) (da_cons (de_op opd_mul (de_tup (da_cons (de_var 1) da_nil)) de_int) da_nil)))) (da_cons de_bl da_nil))) (da_cons (de_tup (da_cons (de_tup (da_cons (de_tup (da_cons (de_var 1) da_nil)) (da_cons (de_tup da_nil) (da_cons (de_tup (da_cons (de_var 1) da_nil)) da_nil)))) (da_cons de_bl da_nil))) (da_cons (de_tup (da_cons (de_tup (da_cons (de_tup da_nil) (da_cons (de_tup (da_cons (de_var 2) da_nil)) (da_cons (de_tup da_nil) da_nil)))) (da_cons de_bl da_nil))) (da_cons (de_tup (da_cons (de_tup (da_cons (de_tup da_nil) (da_cons (de_op opd_mul (de_tup (da_cons (de_var 2) da_nil)) (de_var 3)) (da_cons (de_tup (da_cons (de_var 1) da_nil)) da_nil)))) (da_cons de_bl da_nil))) (da_cons (de_tup (da_cons (de_tup (da_cons (de_tup da_nil) (da_cons (de_tup (da_cons (de_var 2) (da_cons (de_var 1) da_nil))) (da_cons (de_tup da_nil) da_nil)))) (da_cons de_bl da_nil))) (da_cons (de_tup (da_cons (de_tup (da_cons (de_tup (da_cons (de_var 1) da_nil)) (da_cons (de_tup (da_cons (de_var 1) da_nil)) da_nil))) (da_cons de_bl da_nil))) (da_cons (de_tup (da_cons (de_tup (da_cons (de_tup (da_cons (de_var 1) da_nil)) (da_cons (de_tup (da_cons (de_var 1) da_nil)) (da_cons (de_tup da_nil) (da_cons (de_tup da_nil) da_nil))))) (da_cons de_bl da_nil))) (da_cons (de_tup (da_cons (de_lst (da_cons (de_tup (da_cons (de_var 1) da_nil)) (da_cons (de_tup (da_cons (de_var 1) da_nil)) (da_cons (de_tup da_nil) da_nil)))) (da_cons de_bl da_nil))) (da_cons (de_tup (da_cons (de_tup (da_cons (de_lst (da_cons (de_var 1) da_nil)) (da_cons (de_tup (da_cons (de_var 1) da_nil)) (da_cons (de_tup da_nil) da_nil)))) (da_cons de_bl da_nil))) (da_cons (de_tup (da_cons (de_tup (da_cons (de_tup (da_cons (de_var 1) da_nil)) (da_cons (de_lst (da_cons (de_var 1) da_nil)) (da_cons (de_tup da_nil) da_nil)))) (da_cons de_bl da_nil))) (da_cons (de_tup (da_cons (de_tup (da_cons (de_var 1) (da_cons (de_tup (da_cons (de_var 1) da_nil)) (da_cons (de_tup da_nil) da_nil)))) (da_cons de_bl da_nil))) (da_cons (de_tup (da_cons (de_tup (da_cons (de_tup (da_cons (de_tup (da_cons de_str (da_cons de_str (da_cons de_str da_nil)))) da_nil)) (da_cons (de_tup da_nil) (da_cons (de_tup da_nil) da_nil)))) (da_cons de_bl da_nil))) (da_cons (de_tup (da_cons de_non (da_cons de_bl da_nil))) (da_cons (de_tup (da_cons de_str (da_cons de_bl da_nil))) (da_cons (de_tup (da_cons (de_tup da_nil) (da_cons de_bl da_nil))) da_nil))))))))))))))))))))))))
    (fun A ds Ψ h => by
      obtain ⟨p, ns, rfl, d, h⟩ := h
      refine ⟨Nat.le_of_ble_eq_true rfl, Nat.le_of_ble_eq_true rfl, p, ns, 3, rfl, d, by decide, fun r h0 h3 => ?_⟩
      have hr : r = 0 ∨ r = 1 ∨ r = 2 := by omega
      rcases hr with rfl | rfl | rfl
      all_goals
        repeat first
          | refine ⟨List.cons_ne_nil _ _, ?_⟩
          | refine ⟨Nat.le_of_ble_eq_true rfl, ?_⟩
          | refine ⟨(by decide : (1 : Int) ≤ _), ?_⟩
          | refine ⟨(by decide : _ ≤ (1000 : Int)), ?_⟩
        refine h _ (List.cons_ne_nil _ _) ?_
        repeat refine List.forall_mem_cons.mpr ⟨⟨_, _, rfl, by decide +kernel, by decide +kernel⟩, ?_⟩
        exact fun d h => nomatch h)

end
end K02

namespace K02
open PySem PySem.Spec PyProof.Rows L2 Dz

theorem iteFe {b : Bool} {A B : Prop} (h : b = false) (q : B) : if b = true then A else B := by
  rw [h]
  exact iteF q
section
variable {P : Program} {w : World} {K : PySem.W.Frag} {mg : Str → Option Value} {base : Heap} {kd : Addr}
abbrev s_law : Stmt := topS 27
theorem sc_law : FnScope ["script", "draw", "kinds", "names", "turn", "word", "thing", "is_one", "words", "name"] ["script"] (defScope s_law) := ⟨rfl, rfl, rfl, by decide +kernel, rfl, by decide +kernel, by decide +kernel⟩
theorem ok_law {f : Addr} {fd : FuncData} (F : Fun K "law" "law" s_law f fd) (T : Txt w K mg kd) (G_is_kind : Own P w K mg base "is_kind" 1 ["thing"] pd_is_kind) (G_is_cell : Own P w K mg base "is_cell" 2 ["thing"] pd_is_cell) (G_is_row : Own P w K mg base "is_row" 4 ["thing"] pd_is_row) (G_takes : Own P w K mg base "takes" 1 ["word"] pd_takes) (G_makes : Own P w K mg base "makes" 1 ["word"] pd_makes) (G_behind : Own P w K mg base "behind" 1 ["word"] pd_behind) (G_mirrored_word : Own P w K mg base "mirrored_word" 1 ["word"] pd_mirrored_word) (G_law_kinds : Own P w K mg base "_law_kinds" 1 [] pd_law_kinds) (G_law_takes : Own P w K mg base "_law_takes" 1 ["word", "kinds"] pd_law_takes) (G_law_makes : Own P w K mg base "_law_makes" 1 ["word", "kinds"] pd_law_makes) (G_law_back : Own P w K mg base "_law_back" 1 ["word", "kinds"] pd_law_back) (G_law_mirror : Own P w K mg base "_law_mirror" 1 ["word", "kinds"] pd_law_mirror) (G_law_any_word : Own P w K mg base "_law_any_word" 4 ["draw", "names"] pd_law_any_word) (G_law_strange : Own P w K mg base "_law_strange" 1 [] pd_law_strange) (G_law_rows : Own P w K mg base "_law_rows" 4 ["draw"] pd_law_rows) (G_law_pick : Own P w K mg base "_law_pick" 3 ["draw", "items"] pdPick) : FnOk P w K mg base CX0 5 f fd ["script"] (spLaw K) :=
  law_dz (rest := (defBody s_law).tail) F sc_law rfl (fun cdv Ar outer s H E => ps_set (i := 1) sc_law.nd rfl (Or.inl rfl) (pe_lst (pa_cons (pv 0) (pa_cons pe_int pa_nil)))) (by decide) (fun A cdv Ar outer s H E hr =>
    (dss_cons (ds_asg (vs := [0, 1, 2, 3, 4, 5, 6, 7, 8, 9]) (de_own0 G_law_kinds (hr.mono (by decide)) rfl) (dg_name (i := 2) sc_law.nd rfl (Or.inr rfl)))
    (dss_cons (ds_asg (vs := [0, 1, 2, 3, 4, 5, 6, 7, 8, 9]) (de_callB callD_sortedS rfl T.mg_sorted (by decide +kernel) (da_cons (de_callTy (callD_list rfl) rfl T.mg_list (by decide +kernel) (da_cons (de_var 2) da_nil)) da_nil)) (dg_name (i := 3) sc_law.nd rfl (Or.inl rfl)))
    (dss_cons (ds_if (PW.pt (dw_or (dt_cmp (opd_ne hr.units) (de_callB callD_sortedS rfl T.mg_sorted (by decide +kernel) (da_cons (de_callTy (callD_listK T.keys_KINDS rfl) rfl T.mg_list (by decide +kernel) (da_cons (de_glob (v := .ref kd) (d := .tok kd) rfl T.mg_KINDS rfl (fun _ => rep_tok.mpr rfl)) da_nil)) da_nil)) (de_var 3)) (dw_or1 (dt_truth (de_callB (callD_any rfl) rfl T.mg_any (by decide +kernel) (da_cons (de_lc rfl sc_law.nd (di_seq (de_var 3)) (blkOk_by (own := [("name", 9)]) (N := ["script", "draw", "kinds", "names", "turn", "word", "thing", "is_one", "words", "name"]) (sc := defScope s_law) (by decide +kernel)) (fun _ _ _ _ _ => (dg_name (i := 9) sc_law.nd rfl (Or.inl rfl))) (fun _ _ _ _ _ => dts_nil) (fun _ _ _ _ _ => (de_cmp (opd_ne hr.units) (de_ix (ixk T.tab_KINDS) (de_glob (v := .ref kd) (d := .tok kd) rfl T.mg_KINDS rfl (fun _ => rep_tok.mpr rfl)) (de_var 9)) (de_ix (ixd hr.units) (de_var 2) (de_var 9))))) da_nil)) (by intro _; rfl)))))
      (dss_one (ds_ret de_bl))
      dss_nil)
    (dss_cons (ds_for (vs := [0, 1, 2, 3, 4, 5, 6, 7, 8, 9]) PassesOwn.never rfl (di_rng1 rfl T.mg_range (da_cons de_int da_nil)) (dg_name (i := 4) sc_law.nd rfl (Or.inl rfl))
      (dss_cons (ds_asg (vs := [0, 1, 2, 3, 4, 5, 6, 7, 8, 9]) (de_own G_law_any_word (hr.mono (by decide)) rfl (da_cons (de_var 1) (da_cons (de_var 3) da_nil))) (dg_name (i := 5) sc_law.nd rfl (Or.inl rfl)))
      (dss_cons (ds_if (PW.pt (dw_or (dt_cmp (opd_ne hr.units) (de_own G_takes (hr.mono (by decide)) rfl (da_cons (de_var 5) da_nil)) (de_own G_law_takes (hr.mono (by decide)) rfl (da_cons (de_var 5) (da_cons (de_var 2) da_nil)))) (dw_or1 (dt_cmp (opd_ne hr.units) (de_own G_makes (hr.mono (by decide)) rfl (da_cons (de_var 5) da_nil)) (de_own G_law_makes (hr.mono (by decide)) rfl (da_cons (de_var 5) (da_cons (de_var 2) da_nil)))))))
        (dss_one (ds_ret de_bl))
        dss_nil)
      (dss_cons (ds_if (PW.pt (dw_or (dt_cmp (opd_ne hr.units) (de_own G_behind (hr.mono (by decide)) rfl (da_cons (de_var 5) da_nil)) (de_own G_law_back (hr.mono (by decide)) rfl (da_cons (de_var 5) (da_cons (de_var 2) da_nil)))) (dw_or1 (dt_cmp (opd_ne hr.units) (de_own G_mirrored_word (hr.mono (by decide)) rfl (da_cons (de_var 5) da_nil)) (de_own G_law_mirror (hr.mono (by decide)) rfl (da_cons (de_var 5) (da_cons (de_var 2) da_nil)))))))
        (dss_one (ds_ret de_bl))
        dss_nil)
      (dss_cons (ds_if (PW.pt (dw_or (dt_cmp (opd_ne hr.units) (de_own G_behind (hr.mono (by decide)) rfl (da_cons (de_own G_behind (hr.mono (by decide)) rfl (da_cons (de_var 5) da_nil)) da_nil)) (de_var 5)) (dw_or (dt_cmp (opd_ne hr.units) (de_own G_mirrored_word (hr.mono (by decide)) rfl (da_cons (de_own G_mirrored_word (hr.mono (by decide)) rfl (da_cons (de_var 5) da_nil)) da_nil)) (de_var 5)) (dw_or1 (dt_cmp (opd_ne hr.units) (de_own G_behind (hr.mono (by decide)) rfl (da_cons (de_own G_mirrored_word (hr.mono (by decide)) rfl (da_cons (de_var 5) da_nil)) da_nil)) (de_own G_mirrored_word (hr.mono (by decide)) rfl (da_cons (de_own G_behind (hr.mono (by decide)) rfl (da_cons (de_var 5) da_nil)) da_nil)))))))
        (dss_one (ds_ret de_bl))
        dss_nil)
      (dss_cons (ds_asg (vs := [0, 1, 2, 3, 4, 5, 6, 7, 8, 9]) (de_own G_law_pick (hr.mono (by decide)) rfl (da_cons (de_var 1) (da_cons (de_own G_law_rows (hr.mono (by decide)) rfl (da_cons (de_var 1) da_nil)) da_nil))) (dg_tup (n := 2) rfl (dgs_cons (dg_name (i := 6) sc_law.nd rfl (Or.inl rfl)) (dgs_cons (dg_name (i := 7) sc_law.nd rfl (Or.inl rfl)) dgs_nil))))
      (dss_one (ds_if (PW.pt (dw_or (dt_cmp (opd_ne hr.units) (de_own G_is_row (hr.mono (by decide)) rfl (da_cons (de_var 6) da_nil)) (de_var 7)) (dw_or (dt_truth (de_own G_is_cell (hr.mono (by decide)) rfl (da_cons (de_own G_law_pick (hr.mono (by decide)) rfl (da_cons (de_var 1) (da_cons (de_own0 G_law_strange (hr.mono (by decide)) rfl) da_nil))) da_nil)) (by intro _; rfl)) (dw_or1 (dt_not (dt_truth (de_own G_is_cell (hr.mono (by decide)) rfl (da_cons (de_tup (da_cons (de_own G_law_pick (hr.mono (by decide)) rfl (da_cons (de_var 1) (da_cons (de_var 3) da_nil))) (da_cons de_str da_nil))) da_nil)) (by intro _; rfl)))))))
        (dss_one (ds_ret de_bl))
        dss_nil))))))))
    (dss_cons (ds_setLc (i := 8) rfl sc_law.nd rfl rfl (sw_true rfl rfl rfl (by decide +kernel)) (di_seq (de_tup (da_cons de_str (da_cons de_str (da_cons de_str (da_cons de_non (da_cons de_int (da_cons de_str (da_cons de_str (da_cons (de_tup (da_cons de_str da_nil)) da_nil)))))))))) (blkOk_by (own := [("thing", 6)]) (N := ["script", "draw", "kinds", "names", "turn", "word", "thing", "is_one", "words", "name"]) (sc := defScope s_law) (by decide +kernel)) (fun _ _ _ _ _ => (dg_name (i := 6) sc_law.nd rfl (Or.inl rfl))) (fun _ _ _ _ _ => dts_nil) (fun _ _ _ _ _ => (de_own G_is_kind (hr.mono (by decide)) rfl (da_cons (de_var 6) da_nil))))
    (dss_one (ds_ret (de_cmp (opd_eq hr.units) (de_var 8) (de_lst (da_cons de_bl (da_cons de_bl (da_cons de_bl (da_cons de_bl (da_cons de_bl (da_cons de_bl (da_cons de_bl (da_cons de_bl da_nil))))))))))))))))))
    (fun A p ns d => by
      refine ⟨rfl, names0, ?_, by decide +kernel, fun ys hp hs => ?_⟩
      · unfold dKeys names0
        rw [List.map_map, List.map_map]
        rfl
      have hso : ∀ z ∈ ys, PyData.strOk z = true := fun z hz => by
        have : names0.all PyData.strOk = true := by decide +kernel
        exact List.all_eq_true.mp this z (hp.mem_iff.mp hz)
      have hrow : ∀ z ∈ ys, (kindRow z).isSome = true := fun z hz => by
        have : names0.all (fun z => (kindRow z).isSome) = true := by decide +kernel
        exact List.all_eq_true.mp this z (hp.mem_iff.mp hz)
      have hne : ys ≠ [] := fun e => by
        rw [e] at hp
        exact absurd hp.length_eq (by decide +kernel)
      have hlen : ys.length ≤ 100 := by
        rw [hp.length_eq]
        decide +kernel
      have hpl : plD 12 (.lst (ys.map D.str)) = true := pl_lst_strs hso
      refine ⟨rfl, names0, rfl, by decide +kernel, fun zs hp2 hs2 => ?_⟩
      have e : zs = ys := sorted_unique hp2 hp hs2 hs
      subst e
      refine ⟨hpl, hpl, _, rfl, ?_⟩
      refine iteFe (neSelf hpl) ⟨_, rfl, ?_⟩
      refine lc_map0 zs D.str (fun _ => .bl false) rfl (by omega) (fun z hz J acc hJ => ?_) ?_
      · obtain ⟨r, hr⟩ := some_of (hrow z hz)
        have hz := tab_ok (hrow z hz)
        have hk : plD 12 (kdD r) = true := by
          have h1 : PyData.strOk r.back = true := by
            have := (tab_ok hz.b).so
            rw [bk_eq hr] at this
            exact this
          have h2 : PyData.strOk r.mirror = true := by
            have := (tab_ok hz.m).so
            rw [mi_eq hr] at this
            exact this
          unfold kdD plD plL plD plL plD plL plD plL plD plL
          rw [h1, h2]; rfl
        refine ⟨rfl, kdD r, tab_of hr, kdD r, getK_kinds hr, hk, hk, rfl, ?_⟩
        rw [neSelf hk]
        exact hJ
      · refine ⟨zs.map fun _ => false, by rw [List.map_map]; rfl, _, rfl, ?_⟩
        have e : (zs.map fun _ => false).any id = false := by
          rw [List.any_map]
          exact List.any_eq_false.mpr fun x _ => Bool.false_ne_true
        rw [e]
        refine iteF ⟨5, rfl, by decide, by decide, ?_⟩
        refine ⟨fun _ en => ∃ a b c e x y, en = [.dat (.fro (ns.map D.int)), .dat (.tok p), .dat kinds0, .dat (.lst (zs.map D.str)), a, b, c, e, x, y], ⟨_, _, _, _, _, _, rfl⟩, ?_, ?_⟩
        · rintro k x en hx ⟨a, b, c, e, x1, y, rfl⟩
          refine ⟨p, ns, zs, rfl, d, ⟨hne, hrow⟩, fun ws hw => ?_⟩
          have hB := hw.back
          have hM := hw.mirr
          have gw := hw.good
          refine ⟨ws, gw, rfl, ws, gw, rfl, rfl, rfl, _, rfl, ?_⟩
          refine iteFe (neSelf rfl) ⟨ws, gw, rfl, ws, gw, rfl, rfl, rfl, _, rfl, ?_⟩
          refine iteFe (neSelf rfl) ⟨ws, gw, rfl, ws, gw, rfl, pl_word hB.strs, pl_word hB.strs, _, rfl, ?_⟩
          refine iteFe (neSelf (pl_word hB.strs)) ⟨ws, gw, rfl, ws, gw, rfl, pl_word hM.strs, pl_word hM.strs, _, rfl, ?_⟩
          have eBB : ((backW ws).reverse.map fun c => (bk c.1, c.2)) = ws := back_back hw
          have eMM : ((mirrW ws).reverse.map fun c => (mi c.1, c.2)) = ws := mirr_mirr hw
          have eBM : ((mirrW ws).reverse.map fun c => (bk c.1, c.2)) = mirrW (backW ws) := back_mirr hw
          refine iteFe (neSelf (pl_word hM.strs)) ⟨ws, gw, rfl, backW ws, hB.good, rfl, ?_⟩
          rw [eBB]
          refine ⟨pl_word hw.strs, pl_word hw.strs, _, rfl, ?_⟩
          refine iteFe (neSelf (pl_word hw.strs)) ⟨ws, gw, rfl, mirrW ws, hM.good, rfl, ?_⟩
          rw [eMM]
          refine ⟨pl_word hw.strs, pl_word hw.strs, _, rfl, ?_⟩
          refine iteFe (neSelf (pl_word hw.strs)) ⟨ws, gw, rfl, mirrW ws, hM.good, rfl, ?_⟩
          rw [eBM]
          refine ⟨ws, gw, rfl, backW ws, hB.good, rfl, ?_⟩
          show rNeDD (.tup ((mirrW (backW ws)).map encC)) (.tup ((mirrW (backW ws)).map encC)) _
          refine ⟨pl_word hB.mirr.strs, pl_word hB.mirr.strs, _, rfl, ?_⟩
          refine iteFe (neSelf (pl_word hB.mirr.strs)) ⟨p, ns, rfl, d, fun l hl hall => ⟨p, ns, l, .inl rfl, d, hl, fun row hrow2 => ?_⟩⟩
          obtain ⟨thing, one, rfl, ok, hone⟩ := hall row hrow2
          refine ⟨rfl, rfl, thing, rfl, ok, ?_⟩
          rw [hone]
          refine ⟨rfl, rfl, _, rfl, ?_⟩
          refine iteFe (neSelf rfl) ⟨rfl, p, ns, strangeL, .inl rfl, d, List.cons_ne_nil _ _, fun s hs3 => ?_⟩
          have hst := List.all_eq_true.mp strange_all s hs3
          rw [Bool.and_eq_true, Bool.not_eq_true'] at hst
          refine ⟨s, rfl, hst.1, _, rfl, ?_⟩
          rw [hst.2]
          refine iteF ⟨p, ns, _, .inl rfl, d, (fun e => hne (List.map_eq_nil_iff.mp e)), fun q hq => ?_⟩
          obtain ⟨z, hz, rfl⟩ := List.mem_map.mp hq
          obtain ⟨r, hr⟩ := some_of (hrow z hz)
          have c1 : okCell (.tup [.str z, .str "q"]) = true := by
            have h1 : okKind (.str z) = true := by
              show (true && (kindTab z).isSome) = true
              rw [tab_of hr]; rfl
            show (true && (okKind (.str z) && okYarn (.str "q"))) = true
            rw [h1]
            decide +kernel
          have c2 : isCellD (.tup [.str z, .str "q"]) = true := by
            show ((kindRow z).isSome && yarnB "q") = true
            rw [hr]
            show yarnB "q" = true
            decide +kernel
          refine ⟨Nat.le_of_ble_eq_true rfl, _, rfl, c1, _, rfl, ?_⟩
          rw [c2]
          exact iteF ⟨_, _, _, _, _, _, rfl⟩
        · rintro en ⟨a, b, c, e, x1, y, rfl⟩
          refine ⟨Nat.le_of_ble_eq_true rfl, Nat.le_of_ble_eq_true rfl, _, rfl, ?_⟩
          refine lc_map0 [.str "k", .str "K", .str "", .non, .int 3, .str "c4bw", .str "yarn", .tup [.str "k"]] id (fun d => .bl (isKindD d)) rfl (Nat.le_of_ble_eq_true rfl) (fun x hx J acc hJ => ?_) ?_
          · have ok8 : ([.str "k", .str "K", .str "", .non, .int 3, .str "c4bw", .str "yarn", .tup [.str "k"]] : List D).all okKind = true := by decide +kernel
            exact ⟨x, rfl, List.all_eq_true.mp ok8 x hx, rfl, hJ⟩
          · refine ⟨Nat.le_of_ble_eq_true rfl, rfl, rfl, ?_⟩
            show D.bl (eqD (.lst ([.str "k", .str "K", .str "", .non, .int 3, .str "c4bw", .str "yarn", .tup [.str "k"]].map fun d => .bl (isKindD d))) (.lst [.bl true, .bl false, .bl false, .bl false, .bl false, .bl true, .bl false, .bl false])) = .bl true
            have e8 : eqD (.lst ([.str "k", .str "K", .str "", .non, .int 3, .str "c4bw", .str "yarn", .tup [.str "k"]].map fun d => .bl (isKindD d))) (.lst [.bl true, .bl false, .bl false, .bl false, .bl false, .bl true, .bl false, .bl false]) = true := by decide +kernel
            rw [e8])

end
end K02

namespace K02
open PySem PySem.Spec PyProof.Rows L2 Dz

/-! ### the end -/
/-- what stands at a key of the written table -/
def KT (K : PySem.W.Frag) (kd : Addr) (r : Str × Nat × Nat × Str × Str) : Prop := ∃ (a : Addr) (o : Obj) (its : Array Value) (n : Nat), PySem.W.nsIn K kd r.1 = some (some (.ref a)) ∧ K.lookup a = some o ∧ o.cls = .type "tuple" ∧ o.data = .seq its n ∧ its.size ≤ sizeLine ∧
  Vals [.int r.2.1, .int r.2.2.1, .str r.2.2.2.1, .str r.2.2.2.2] its.toList
def KTs (K : PySem.W.Frag) (kd : Addr) : List (Str × Nat × Nat × Str × Str) → Prop
  | [] => True
  | r :: l => KT K kd r ∧ KTs K kd l
theorem kts_cons {K : PySem.W.Frag} {kd : Addr} {z b c : Str} {i j : Nat} {L : List (Str × Nat × Nat × Str × Str)} {a : Addr} {o : Obj} {its : Array Value} {n : Nat} (h1 : PySem.W.nsIn K kd z = some (some (.ref a))) (h2 : K.lookup a = some o) (h3 : o.cls = .type "tuple") (h4 : o.data = .seq its n) (h5 : its.size ≤ sizeLine)
    (h6 : Vals [.int i, .int j, .str b, .str c] its.toList) (r : KTs K kd L) : KTs K kd ((z, i, j, b, c) :: L) := ⟨⟨a, o, its, n, h1, h2, h3, h4, h5, h6⟩, r⟩
theorem kts_get {K : PySem.W.Frag} {kd : Addr} {z : Str} {d : Kd} : ∀ {L : List (Str × Nat × Nat × Str × Str)}, KTs K kd L → findL L z = some d → ∃ u v, PySem.W.nsIn K kd z = some (some u) ∧ RelV v u ∧ ∀ G, Rep K G (kdD d) v
  | [], _, h => by cases h
  | (k, a, b, c, e) :: r, ⟨h1, h2⟩, h => by
    unfold findL at h
    by_cases hk : k = z
    · rw [if_pos hk] at h
      cases h
      subst hk
      obtain ⟨p, o, its, n, e1, e2, e3, e4, e5, e6⟩ := h1
      refine ⟨.ref p, .ref p, e1, rfl, fun G => rep_tup.mpr ⟨p, _, rfl, .inr ⟨o, its, n, e2, e3, e4, e5, e6⟩, ?_⟩⟩
      exact .cons (rep_int.mpr rfl) (.cons (rep_int.mpr rfl) (.cons (rep_str.mpr rfl) (.cons (rep_str.mpr rfl) .nil)))
    · rw [if_neg hk] at h
      exact kts_get h2 h
theorem tab_mk {w : World} {K : PySem.W.Frag} {kd : Addr} {es : Array DictEntry} {n : Nat} (D : KDict K w kd es n) (h : KTs K kd kindL) (hs : ∀ z ∈ strange, PySem.W.nsIn K kd z = some none) : KTab K w kd kindTab where
  dk := ⟨es, n, D⟩
  non := fun z hz => by
    unfold kindTab at hz
    cases q : kindRow z with
    | some r => rw [q] at hz; cases hz
    | none =>
      rw [q] at hz
      simp only at hz
      split at hz
      · rename_i hm; exact hs z hm
      · cases hz
  som := fun z d hz => by
    unfold kindTab at hz
    cases q : kindRow z with
    | some r =>
      rw [q] at hz
      cases hz
      exact kts_get h q
    | none =>
      rw [q] at hz
      simp only at hz
      split at hz <;> cases hz
theorem all_mk {l : PySem.W.OpenLaw} {w : World} {K : PySem.W.Frag} {h : Heap} {mg : Str → Option Value} {fa : Addr} (X : K.In h) (G : h.Ns mainGlobals mg) (hfa : mg "law" = some (.ref fa))
    {f0 : Addr} {od0 an0 : Option Addr} {sl0 : Array (Option Value)} {oc0 kV0 dc0 pm0 cd0 ct0 : Value}
    {f1 : Addr} {od1 an1 : Option Addr} {sl1 : Array (Option Value)} {oc1 kV1 dc1 pm1 cd1 ct1 : Value}
    {f2 : Addr} {od2 an2 : Option Addr} {sl2 : Array (Option Value)} {oc2 kV2 dc2 pm2 cd2 ct2 : Value}
    {f3 : Addr} {od3 an3 : Option Addr} {sl3 : Array (Option Value)} {oc3 kV3 dc3 pm3 cd3 ct3 : Value}
    {f4 : Addr} {od4 an4 : Option Addr} {sl4 : Array (Option Value)} {oc4 kV4 dc4 pm4 cd4 ct4 : Value}
    {f5 : Addr} {od5 an5 : Option Addr} {sl5 : Array (Option Value)} {oc5 kV5 dc5 pm5 cd5 ct5 : Value}
    {f6 : Addr} {od6 an6 : Option Addr} {sl6 : Array (Option Value)} {oc6 kV6 dc6 pm6 cd6 ct6 : Value}
    {f7 : Addr} {od7 an7 : Option Addr} {sl7 : Array (Option Value)} {oc7 kV7 dc7 pm7 cd7 ct7 : Value}
    {f8 : Addr} {od8 an8 : Option Addr} {sl8 : Array (Option Value)} {oc8 kV8 dc8 pm8 cd8 ct8 : Value}
    {f9 : Addr} {od9 an9 : Option Addr} {sl9 : Array (Option Value)} {oc9 kV9 dc9 pm9 cd9 ct9 : Value}
    {f10 : Addr} {od10 an10 : Option Addr} {sl10 : Array (Option Value)} {oc10 kV10 dc10 pm10 cd10 ct10 : Value}
    {f11 : Addr} {od11 an11 : Option Addr} {sl11 : Array (Option Value)} {oc11 kV11 dc11 pm11 cd11 ct11 : Value}
    {f12 : Addr} {od12 an12 : Option Addr} {sl12 : Array (Option Value)} {oc12 kV12 dc12 pm12 cd12 ct12 : Value}
    {f13 : Addr} {od13 an13 : Option Addr} {sl13 : Array (Option Value)} {oc13 kV13 dc13 pm13 cd13 ct13 : Value}
    {f14 : Addr} {od14 an14 : Option Addr} {sl14 : Array (Option Value)} {oc14 kV14 dc14 pm14 cd14 ct14 : Value}
    {f15 : Addr} {od15 an15 : Option Addr} {sl15 : Array (Option Value)} {oc15 kV15 dc15 pm15 cd15 ct15 : Value}
    {f16 : Addr} {od16 an16 : Option Addr} {sl16 : Array (Option Value)} {oc16 kV16 dc16 pm16 cd16 ct16 : Value}
    {f17 : Addr} {od17 an17 : Option Addr} {sl17 : Array (Option Value)} {oc17 kV17 dc17 pm17 cd17 ct17 : Value}
    {f18 : Addr} {od18 an18 : Option Addr} {sl18 : Array (Option Value)} {oc18 kV18 dc18 pm18 cd18 ct18 : Value}
    {f19 : Addr} {od19 an19 : Option Addr} {sl19 : Array (Option Value)} {oc19 kV19 dc19 pm19 cd19 ct19 : Value}
    {f20 : Addr} {od20 an20 : Option Addr} {sl20 : Array (Option Value)} {oc20 kV20 dc20 pm20 cd20 ct20 : Value}
    (a0 : PySem.W.nsIn K mainGlobals "is_kind" = some (some (.ref f0))) (l0 : K.lookup f0 = some ⟨oc0, od0, .func (PySem.W.fnOf "is_kind" "is_kind" (defArgs s_is_kind) (defBody s_is_kind) (defScope s_is_kind) .none kV0 dc0 pm0 an0 cd0 ct0), sl0⟩) (c0 : PySem.W.codeIn K cd0 "is_kind" = true) (k0 : PySem.W.keepIn K (.ref f0) = true)
    (a1 : PySem.W.nsIn K mainGlobals "is_yarn" = some (some (.ref f1))) (l1 : K.lookup f1 = some ⟨oc1, od1, .func (PySem.W.fnOf "is_yarn" "is_yarn" (defArgs s_is_yarn) (defBody s_is_yarn) (defScope s_is_yarn) .none kV1 dc1 pm1 an1 cd1 ct1), sl1⟩) (c1 : PySem.W.codeIn K cd1 "is_yarn" = true) (k1 : PySem.W.keepIn K (.ref f1) = true)
    (a2 : PySem.W.nsIn K mainGlobals "is_cell" = some (some (.ref f2))) (l2 : K.lookup f2 = some ⟨oc2, od2, .func (PySem.W.fnOf "is_cell" "is_cell" (defArgs s_is_cell) (defBody s_is_cell) (defScope s_is_cell) .none kV2 dc2 pm2 an2 cd2 ct2), sl2⟩) (c2 : PySem.W.codeIn K cd2 "is_cell" = true) (k2 : PySem.W.keepIn K (.ref f2) = true)
    (a3 : PySem.W.nsIn K mainGlobals "is_word" = some (some (.ref f3))) (l3 : K.lookup f3 = some ⟨oc3, od3, .func (PySem.W.fnOf "is_word" "is_word" (defArgs s_is_word) (defBody s_is_word) (defScope s_is_word) .none kV3 dc3 pm3 an3 cd3 ct3), sl3⟩) (c3 : PySem.W.codeIn K cd3 "is_word" = true) (k3 : PySem.W.keepIn K (.ref f3) = true)
    (a4 : PySem.W.nsIn K mainGlobals "takes" = some (some (.ref f4))) (l4 : K.lookup f4 = some ⟨oc4, od4, .func (PySem.W.fnOf "takes" "takes" (defArgs s_takes) (defBody s_takes) (defScope s_takes) .none kV4 dc4 pm4 an4 cd4 ct4), sl4⟩) (c4 : PySem.W.codeIn K cd4 "takes" = true) (k4 : PySem.W.keepIn K (.ref f4) = true)
    (a5 : PySem.W.nsIn K mainGlobals "makes" = some (some (.ref f5))) (l5 : K.lookup f5 = some ⟨oc5, od5, .func (PySem.W.fnOf "makes" "makes" (defArgs s_makes) (defBody s_makes) (defScope s_makes) .none kV5 dc5 pm5 an5 cd5 ct5), sl5⟩) (c5 : PySem.W.codeIn K cd5 "makes" = true) (k5 : PySem.W.keepIn K (.ref f5) = true)
    (a6 : PySem.W.nsIn K mainGlobals "behind" = some (some (.ref f6))) (l6 : K.lookup f6 = some ⟨oc6, od6, .func (PySem.W.fnOf "behind" "behind" (defArgs s_behind) (defBody s_behind) (defScope s_behind) .none kV6 dc6 pm6 an6 cd6 ct6), sl6⟩) (c6 : PySem.W.codeIn K cd6 "behind" = true) (k6 : PySem.W.keepIn K (.ref f6) = true)
    (a7 : PySem.W.nsIn K mainGlobals "mirrored_word" = some (some (.ref f7))) (l7 : K.lookup f7 = some ⟨oc7, od7, .func (PySem.W.fnOf "mirrored_word" "mirrored_word" (defArgs s_mirrored_word) (defBody s_mirrored_word) (defScope s_mirrored_word) .none kV7 dc7 pm7 an7 cd7 ct7), sl7⟩) (c7 : PySem.W.codeIn K cd7 "mirrored_word" = true) (k7 : PySem.W.keepIn K (.ref f7) = true)
    (a8 : PySem.W.nsIn K mainGlobals "is_row" = some (some (.ref f8))) (l8 : K.lookup f8 = some ⟨oc8, od8, .func (PySem.W.fnOf "is_row" "is_row" (defArgs s_is_row) (defBody s_is_row) (defScope s_is_row) .none kV8 dc8 pm8 an8 cd8 ct8), sl8⟩) (c8 : PySem.W.codeIn K cd8 "is_row" = true) (k8 : PySem.W.keepIn K (.ref f8) = true)
    (a9 : PySem.W.nsIn K mainGlobals "_law_number" = some (some (.ref f9))) (l9 : K.lookup f9 = some ⟨oc9, od9, .func (PySem.W.fnOf "_law_number" "_law_number" (defArgs s_law_number) (defBody s_law_number) (defScope s_law_number) .none kV9 dc9 pm9 an9 cd9 ct9), sl9⟩) (c9 : PySem.W.codeIn K cd9 "_law_number" = true) (k9 : PySem.W.keepIn K (.ref f9) = true)
    (a10 : PySem.W.nsIn K mainGlobals "_law_take" = some (some (.ref f10))) (l10 : K.lookup f10 = some ⟨oc10, od10, .func (PySem.W.fnOf "_law_take" "_law_take" (defArgs s_law_take) (defBody s_law_take) (defScope s_law_take) .none kV10 dc10 pm10 an10 cd10 ct10), sl10⟩) (c10 : PySem.W.codeIn K cd10 "_law_take" = true) (k10 : PySem.W.keepIn K (.ref f10) = true)
    (a11 : PySem.W.nsIn K mainGlobals "_law_pick" = some (some (.ref f11))) (l11 : K.lookup f11 = some ⟨oc11, od11, .func (PySem.W.fnOf "_law_pick" "_law_pick" (defArgs s_law_pick) (defBody s_law_pick) (defScope s_law_pick) .none kV11 dc11 pm11 an11 cd11 ct11), sl11⟩) (c11 : PySem.W.codeIn K cd11 "_law_pick" = true) (k11 : PySem.W.keepIn K (.ref f11) = true)
    (a12 : PySem.W.nsIn K mainGlobals "_law_kinds" = some (some (.ref f12))) (l12 : K.lookup f12 = some ⟨oc12, od12, .func (PySem.W.fnOf "_law_kinds" "_law_kinds" (defArgs s_law_kinds) (defBody s_law_kinds) (defScope s_law_kinds) .none kV12 dc12 pm12 an12 cd12 ct12), sl12⟩) (c12 : PySem.W.codeIn K cd12 "_law_kinds" = true) (k12 : PySem.W.keepIn K (.ref f12) = true)
    (a13 : PySem.W.nsIn K mainGlobals "_law_takes" = some (some (.ref f13))) (l13 : K.lookup f13 = some ⟨oc13, od13, .func (PySem.W.fnOf "_law_takes" "_law_takes" (defArgs s_law_takes) (defBody s_law_takes) (defScope s_law_takes) .none kV13 dc13 pm13 an13 cd13 ct13), sl13⟩) (c13 : PySem.W.codeIn K cd13 "_law_takes" = true) (k13 : PySem.W.keepIn K (.ref f13) = true)
    (a14 : PySem.W.nsIn K mainGlobals "_law_makes" = some (some (.ref f14))) (l14 : K.lookup f14 = some ⟨oc14, od14, .func (PySem.W.fnOf "_law_makes" "_law_makes" (defArgs s_law_makes) (defBody s_law_makes) (defScope s_law_makes) .none kV14 dc14 pm14 an14 cd14 ct14), sl14⟩) (c14 : PySem.W.codeIn K cd14 "_law_makes" = true) (k14 : PySem.W.keepIn K (.ref f14) = true)
    (a15 : PySem.W.nsIn K mainGlobals "_law_back" = some (some (.ref f15))) (l15 : K.lookup f15 = some ⟨oc15, od15, .func (PySem.W.fnOf "_law_back" "_law_back" (defArgs s_law_back) (defBody s_law_back) (defScope s_law_back) .none kV15 dc15 pm15 an15 cd15 ct15), sl15⟩) (c15 : PySem.W.codeIn K cd15 "_law_back" = true) (k15 : PySem.W.keepIn K (.ref f15) = true)
    (a16 : PySem.W.nsIn K mainGlobals "_law_mirror" = some (some (.ref f16))) (l16 : K.lookup f16 = some ⟨oc16, od16, .func (PySem.W.fnOf "_law_mirror" "_law_mirror" (defArgs s_law_mirror) (defBody s_law_mirror) (defScope s_law_mirror) .none kV16 dc16 pm16 an16 cd16 ct16), sl16⟩) (c16 : PySem.W.codeIn K cd16 "_law_mirror" = true) (k16 : PySem.W.keepIn K (.ref f16) = true)
    (a17 : PySem.W.nsIn K mainGlobals "_law_any_word" = some (some (.ref f17))) (l17 : K.lookup f17 = some ⟨oc17, od17, .func (PySem.W.fnOf "_law_any_word" "_law_any_word" (defArgs s_law_any_word) (defBody s_law_any_word) (defScope s_law_any_word) .none kV17 dc17 pm17 an17 cd17 ct17), sl17⟩) (c17 : PySem.W.codeIn K cd17 "_law_any_word" = true) (k17 : PySem.W.keepIn K (.ref f17) = true)
    (a18 : PySem.W.nsIn K mainGlobals "_law_strange" = some (some (.ref f18))) (l18 : K.lookup f18 = some ⟨oc18, od18, .func (PySem.W.fnOf "_law_strange" "_law_strange" (defArgs s_law_strange) (defBody s_law_strange) (defScope s_law_strange) .none kV18 dc18 pm18 an18 cd18 ct18), sl18⟩) (c18 : PySem.W.codeIn K cd18 "_law_strange" = true) (k18 : PySem.W.keepIn K (.ref f18) = true)
    (a19 : PySem.W.nsIn K mainGlobals "_law_rows" = some (some (.ref f19))) (l19 : K.lookup f19 = some ⟨oc19, od19, .func (PySem.W.fnOf "_law_rows" "_law_rows" (defArgs s_law_rows) (defBody s_law_rows) (defScope s_law_rows) .none kV19 dc19 pm19 an19 cd19 ct19), sl19⟩) (c19 : PySem.W.codeIn K cd19 "_law_rows" = true) (k19 : PySem.W.keepIn K (.ref f19) = true)
    (a20 : PySem.W.nsIn K mainGlobals "law" = some (some (.ref f20))) (l20 : K.lookup f20 = some ⟨oc20, od20, .func (PySem.W.fnOf "law" "law" (defArgs s_law) (defBody s_law) (defScope s_law) .none kV20 dc20 pm20 an20 cd20 ct20), sl20⟩) (c20 : PySem.W.codeIn K cd20 "law" = true) (k20 : PySem.W.keepIn K (.ref f20) = true)
    (z0 : PySem.W.nsIn K mainGlobals "isinstance" = some none)
    (z1 : PySem.W.nsIn K mainGlobals "str" = some none)
    (z2 : PySem.W.nsIn K mainGlobals "tuple" = some none)
    (z3 : PySem.W.nsIn K mainGlobals "len" = some none)
    (z4 : PySem.W.nsIn K mainGlobals "all" = some none)
    (z5 : PySem.W.nsIn K mainGlobals "any" = some none)
    (z6 : PySem.W.nsIn K mainGlobals "sum" = some none)
    (z7 : PySem.W.nsIn K mainGlobals "sorted" = some none)
    (z8 : PySem.W.nsIn K mainGlobals "list" = some none)
    (z9 : PySem.W.nsIn K mainGlobals "int" = some none)
    (z10 : PySem.W.nsIn K mainGlobals "abs" = some none)
    (z11 : PySem.W.nsIn K mainGlobals "range" = some none)
    {kd : Addr} {es : Array DictEntry} {n : Nat} {t1 t2 t3 : Tok} (y0 : PySem.W.nsIn K mainGlobals "KINDS" = some (some (.ref kd))) (y1 : K.lookup kd = some ⟨.type "dict", none, .dict es n, #[]⟩) (y2 : PySem.W.KeysLit w.params es.toList) (y3 : (kd == sysModules) = false)
    (y4 : es.toList.map (fun e => keyTxt e.key) = names0.map some) (y5 : KTs K kd kindL) (y6 : PySem.W.nsIn K kd "K" = some none) (y7 : PySem.W.nsIn K kd "" = some none) (y8 : PySem.W.nsIn K kd "yarn" = some none) (y9 : PySem.W.nsIn K kd "k2" = some none)
    (x1 : PySem.W.nsIn K mainGlobals "MOST_BEFORE" = some (some (.int 60 t1))) (x2 : PySem.W.nsIn K mainGlobals "MOST_GROUP" = some (some (.int 30 t2))) (x3 : PySem.W.nsIn K mainGlobals "MOST_AFTER" = some (some (.int 60 t3))) :
    ∃ fd : FuncData, (∀ (s : Shared) (v : Value), BindsTo s fd ⟨[v], []⟩ [("script", v)]) ∧ ∀ base : Heap, K.In base → base.Ns mainGlobals mg → FnOk l.prog w K mg base CX0 5 fa fd ["script"] (spLaw K) := by
  have e := hfa.symm.trans (PySem.W.mg_of X G a20)
  cases e
  have KD : KDict K w kd es n := ⟨y1, y2, y3⟩
  have T : Txt w K mg kd := ⟨PySem.W.mg_of X G y0, tab_mk KD y5 (by
      intro z hz
      simp only [strange, List.mem_cons, List.not_mem_nil, or_false] at hz
      rcases hz with rfl | rfl | rfl | rfl
      · exact y6
      · exact y7
      · exact y8
      · exact y9), ⟨es, n, KD, y4, by decide +kernel⟩, ⟨_, PySem.W.mg_of X G x1⟩, ⟨_, PySem.W.mg_of X G x2⟩, ⟨_, PySem.W.mg_of X G x3⟩, PySem.W.mg_none_of X G z0, PySem.W.mg_none_of X G z1, PySem.W.mg_none_of X G z2, PySem.W.mg_none_of X G z3, PySem.W.mg_none_of X G z4, PySem.W.mg_none_of X G z5, PySem.W.mg_none_of X G z6, PySem.W.mg_none_of X G z7, PySem.W.mg_none_of X G z8, PySem.W.mg_none_of X G z9, PySem.W.mg_none_of X G z10, PySem.W.mg_none_of X G z11⟩
  have F0 := fun_mk (st := s_is_kind) l0 c0 k0
  have b0 := F0.binds (ps := ["thing"]) fun _ _ _ _ _ _ us hl => match us, hl with | [_], _ => rfl
  have F1 := fun_mk (st := s_is_yarn) l1 c1 k1
  have b1 := F1.binds (ps := ["thing"]) fun _ _ _ _ _ _ us hl => match us, hl with | [_], _ => rfl
  have F2 := fun_mk (st := s_is_cell) l2 c2 k2
  have b2 := F2.binds (ps := ["thing"]) fun _ _ _ _ _ _ us hl => match us, hl with | [_], _ => rfl
  have F3 := fun_mk (st := s_is_word) l3 c3 k3
  have b3 := F3.binds (ps := ["thing"]) fun _ _ _ _ _ _ us hl => match us, hl with | [_], _ => rfl
  have F4 := fun_mk (st := s_takes) l4 c4 k4
  have b4 := F4.binds (ps := ["word"]) fun _ _ _ _ _ _ us hl => match us, hl with | [_], _ => rfl
  have F5 := fun_mk (st := s_makes) l5 c5 k5
  have b5 := F5.binds (ps := ["word"]) fun _ _ _ _ _ _ us hl => match us, hl with | [_], _ => rfl
  have F6 := fun_mk (st := s_behind) l6 c6 k6
  have b6 := F6.binds (ps := ["word"]) fun _ _ _ _ _ _ us hl => match us, hl with | [_], _ => rfl
  have F7 := fun_mk (st := s_mirrored_word) l7 c7 k7
  have b7 := F7.binds (ps := ["word"]) fun _ _ _ _ _ _ us hl => match us, hl with | [_], _ => rfl
  have F8 := fun_mk (st := s_is_row) l8 c8 k8
  have b8 := F8.binds (ps := ["thing"]) fun _ _ _ _ _ _ us hl => match us, hl with | [_], _ => rfl
  have F9 := fun_mk (st := s_law_number) l9 c9 k9
  have b9 := F9.binds (ps := ["script", "index"]) fun _ _ _ _ _ _ us hl => match us, hl with | [_, _], _ => rfl
  have F10 := fun_mk (st := s_law_take) l10 c10 k10
  have b10 := F10.binds (ps := ["draw", "many"]) fun _ _ _ _ _ _ us hl => match us, hl with | [_, _], _ => rfl
  have F11 := fun_mk (st := s_law_pick) l11 c11 k11
  have b11 := F11.binds (ps := ["draw", "items"]) fun _ _ _ _ _ _ us hl => match us, hl with | [_, _], _ => rfl
  have F12 := fun_mk (st := s_law_kinds) l12 c12 k12
  have b12 := F12.binds (ps := []) fun _ _ _ _ _ _ us hl => match us, hl with | [], _ => rfl
  have F13 := fun_mk (st := s_law_takes) l13 c13 k13
  have b13 := F13.binds (ps := ["word", "kinds"]) fun _ _ _ _ _ _ us hl => match us, hl with | [_, _], _ => rfl
  have F14 := fun_mk (st := s_law_makes) l14 c14 k14
  have b14 := F14.binds (ps := ["word", "kinds"]) fun _ _ _ _ _ _ us hl => match us, hl with | [_, _], _ => rfl
  have F15 := fun_mk (st := s_law_back) l15 c15 k15
  have b15 := F15.binds (ps := ["word", "kinds"]) fun _ _ _ _ _ _ us hl => match us, hl with | [_, _], _ => rfl
  have F16 := fun_mk (st := s_law_mirror) l16 c16 k16
  have b16 := F16.binds (ps := ["word", "kinds"]) fun _ _ _ _ _ _ us hl => match us, hl with | [_, _], _ => rfl
  have F17 := fun_mk (st := s_law_any_word) l17 c17 k17
  have b17 := F17.binds (ps := ["draw", "names"]) fun _ _ _ _ _ _ us hl => match us, hl with | [_, _], _ => rfl
  have F18 := fun_mk (st := s_law_strange) l18 c18 k18
  have b18 := F18.binds (ps := []) fun _ _ _ _ _ _ us hl => match us, hl with | [], _ => rfl
  have F19 := fun_mk (st := s_law_rows) l19 c19 k19
  have b19 := F19.binds (ps := ["draw"]) fun _ _ _ _ _ _ us hl => match us, hl with | [_], _ => rfl
  have F20 := fun_mk (st := s_law) l20 c20 k20
  refine ⟨PySem.W.fnOf "law" "law" (defArgs s_law) (defBody s_law) (defScope s_law) .none kV20 dc20 pm20 an20 cd20 ct20, fun s v => .of_eq rfl, fun base _ _ => ?_⟩
  have G0 : Own l.prog w K mg base "is_kind" 1 _ pd_is_kind := Own.mk' (ok_is_kind F0 T ) (PySem.W.mg_of X G a0) k0 b0
  have G1 : Own l.prog w K mg base "is_yarn" 1 _ pd_is_yarn := Own.mk' (ok_is_yarn F1 T ) (PySem.W.mg_of X G a1) k1 b1
  have G2 : Own l.prog w K mg base "is_cell" 2 _ pd_is_cell := Own.mk' (ok_is_cell F2 T G0 G1) (PySem.W.mg_of X G a2) k2 b2
  have G3 : Own l.prog w K mg base "is_word" 3 _ pd_is_word := Own.mk' (ok_is_word F3 T G2) (PySem.W.mg_of X G a3) k3 b3
  have G4 : Own l.prog w K mg base "takes" 1 _ pd_takes := Own.mk' (ok_takes F4 T ) (PySem.W.mg_of X G a4) k4 b4
  have G5 : Own l.prog w K mg base "makes" 1 _ pd_makes := Own.mk' (ok_makes F5 T ) (PySem.W.mg_of X G a5) k5 b5
  have G6 : Own l.prog w K mg base "behind" 1 _ pd_behind := Own.mk' (ok_behind F6 T ) (PySem.W.mg_of X G a6) k6 b6
  have G7 : Own l.prog w K mg base "mirrored_word" 1 _ pd_mirrored_word := Own.mk' (ok_mirrored_word F7 T ) (PySem.W.mg_of X G a7) k7 b7
  have G8 : Own l.prog w K mg base "is_row" 4 _ pd_is_row := Own.mk' (ok_is_row F8 T G3 G4) (PySem.W.mg_of X G a8) k8 b8
  have G9 : Own l.prog w K mg base "_law_number" 1 _ pd_law_number := Own.mk' (ok_law_number F9 T ) (PySem.W.mg_of X G a9) k9 b9
  have G10 : Own l.prog w K mg base "_law_take" 2 _ pd_law_take := Own.mk' (ok_law_take F10 T G9) (PySem.W.mg_of X G a10) k10 b10
  have G11 : Own l.prog w K mg base "_law_pick" 3 _ pd_law_pick := Own.mk' (ok_law_pick F11 T G10) (PySem.W.mg_of X G a11) k11 b11
  have G12 : Own l.prog w K mg base "_law_kinds" 1 _ pd_law_kinds := Own.mk' (ok_law_kinds F12 T ) (PySem.W.mg_of X G a12) k12 b12
  have G13 : Own l.prog w K mg base "_law_takes" 1 _ pd_law_takes := Own.mk' (ok_law_takes F13 T ) (PySem.W.mg_of X G a13) k13 b13
  have G14 : Own l.prog w K mg base "_law_makes" 1 _ pd_law_makes := Own.mk' (ok_law_makes F14 T ) (PySem.W.mg_of X G a14) k14 b14
  have G15 : Own l.prog w K mg base "_law_back" 1 _ pd_law_back := Own.mk' (ok_law_back F15 T ) (PySem.W.mg_of X G a15) k15 b15
  have G16 : Own l.prog w K mg base "_law_mirror" 1 _ pd_law_mirror := Own.mk' (ok_law_mirror F16 T ) (PySem.W.mg_of X G a16) k16 b16
  have G17 : Own l.prog w K mg base "_law_any_word" 4 _ pd_law_any_word := Own.mk' (ok_law_any_word F17 T G10 G11) (PySem.W.mg_of X G a17) k17 b17
  have G18 : Own l.prog w K mg base "_law_strange" 1 _ pd_law_strange := Own.mk' (ok_law_strange F18 T ) (PySem.W.mg_of X G a18) k18 b18
  have G19 : Own l.prog w K mg base "_law_rows" 4 _ pd_law_rows := Own.mk' (ok_law_rows F19 T G10) (PySem.W.mg_of X G a19) k19 b19
  exact ok_law F20 T G0 G2 G8 G4 G5 G6 G7 G12 G13 G14 G15 G16 G17 G18 G19 G11
end K02
open PySem PySem.W PyProof.Rows
set_option maxRecDepth 100000 in
set_option maxHeartbeats 0 in
theorem PySem.Challenge.cw_allstitches_k02_whole_kinds_holds : PySem.Challenge.rw_allstitches_k02_whole_kinds.Holds := by
  w_on; o_law; k_head; (case hw => w_witness2)
  k_fill
  refine L2.walk_of (l := PySem.Challenge.rw_allstitches_k02_whole_kinds) (n := 63) (k := 5) (x := "script") (CX := fun _ => L2.CX0) (sp := fun w => Dz.spLaw _) rfl (by decide) rfl ⟨rfl, by decide, by decide⟩ (fun w h Y => PySem.W.kIn_of Y) ?F (fun _ _ a ns hl _ hS => ⟨a, ns, rfl, hS, hl, fun _ => rfl⟩) (fun _ _ _ _ _ h => h)
  case F =>
    intro w mg fa h KX G hmg
    refine' K02.all_mk KX G hmg ?a0 ?l0 ?c0 ?k0 ?a1 ?l1 ?c1 ?k1 ?a2 ?l2 ?c2 ?k2 ?a3 ?l3 ?c3 ?k3 ?a4 ?l4 ?c4 ?k4 ?a5 ?l5 ?c5 ?k5 ?a6 ?l6 ?c6 ?k6 ?a7 ?l7 ?c7 ?k7 ?a8 ?l8 ?c8 ?k8 ?a9 ?l9 ?c9 ?k9 ?a10 ?l10 ?c10 ?k10 ?a11 ?l11 ?c11 ?k11 ?a12 ?l12 ?c12 ?k12 ?a13 ?l13 ?c13 ?k13 ?a14 ?l14 ?c14 ?k14 ?a15 ?l15 ?c15 ?k15 ?a16 ?l16 ?c16 ?k16 ?a17 ?l17 ?c17 ?k17 ?a18 ?l18 ?c18 ?k18 ?a19 ?l19 ?c19 ?k19 ?a20 ?l20 ?c20 ?k20 ?z0 ?z1 ?z2 ?z3 ?z4 ?z5 ?z6 ?z7 ?z8 ?z9 ?z10 ?z11 ?y0 ?y1 ?y2 ?y3 ?y4 ?y5 ?y6 ?y7 ?y8 ?y9 ?x1 ?x2 ?x3
    (case a0 => k_is)
    (case l0 => k_is)
    (case c0 => k_is)
    (case k0 => k_is)
    (case a1 => k_is)
    (case l1 => k_is)
    (case c1 => k_is)
    (case k1 => k_is)
    (case a2 => k_is)
    (case l2 => k_is)
    (case c2 => k_is)
    (case k2 => k_is)
    (case a3 => k_is)
    (case l3 => k_is)
    (case c3 => k_is)
    (case k3 => k_is)
    (case a4 => k_is)
    (case l4 => k_is)
    (case c4 => k_is)
    (case k4 => k_is)
    (case a5 => k_is)
    (case l5 => k_is)
    (case c5 => k_is)
    (case k5 => k_is)
    (case a6 => k_is)
    (case l6 => k_is)
    (case c6 => k_is)
    (case k6 => k_is)
    (case a7 => k_is)
    (case l7 => k_is)
    (case c7 => k_is)
    (case k7 => k_is)
    (case a8 => k_is)
    (case l8 => k_is)
    (case c8 => k_is)
    (case k8 => k_is)
    (case a9 => k_is)
    (case l9 => k_is)
    (case c9 => k_is)
    (case k9 => k_is)
    (case a10 => k_is)
    (case l10 => k_is)
    (case c10 => k_is)
    (case k10 => k_is)
    (case a11 => k_is)
    (case l11 => k_is)
    (case c11 => k_is)
    (case k11 => k_is)
    (case a12 => k_is)
    (case l12 => k_is)
    (case c12 => k_is)
    (case k12 => k_is)
    (case a13 => k_is)
    (case l13 => k_is)
    (case c13 => k_is)
    (case k13 => k_is)
    (case a14 => k_is)
    (case l14 => k_is)
    (case c14 => k_is)
    (case k14 => k_is)
    (case a15 => k_is)
    (case l15 => k_is)
    (case c15 => k_is)
    (case k15 => k_is)
    (case a16 => k_is)
    (case l16 => k_is)
    (case c16 => k_is)
    (case k16 => k_is)
    (case a17 => k_is)
    (case l17 => k_is)
    (case c17 => k_is)
    (case k17 => k_is)
    (case a18 => k_is)
    (case l18 => k_is)
    (case c18 => k_is)
    (case k18 => k_is)
    (case a19 => k_is)
    (case l19 => k_is)
    (case c19 => k_is)
    (case k19 => k_is)
    (case a20 => k_is)
    (case l20 => k_is)
    (case c20 => k_is)
    (case k20 => k_is)
    (case z0 => k_is)
    (case z1 => k_is)
    (case z2 => k_is)
    (case z3 => k_is)
    (case z4 => k_is)
    (case z5 => k_is)
    (case z6 => k_is)
    (case z7 => k_is)
    (case z8 => k_is)
    (case z9 => k_is)
    (case z10 => k_is)
    (case z11 => k_is)
    (case y0 => k_is)
    (case y1 => k_is)
    (case y2 => exact ⟨⟨_, _, rfl, rfl⟩, ⟨⟨_, _, rfl, rfl⟩, ⟨⟨_, _, rfl, rfl⟩, ⟨⟨_, _, rfl, rfl⟩, ⟨⟨_, _, rfl, rfl⟩, ⟨⟨_, _, rfl, rfl⟩, ⟨⟨_, _, rfl, rfl⟩, ⟨⟨_, _, rfl, rfl⟩, ⟨⟨_, _, rfl, rfl⟩, ⟨⟨_, _, rfl, rfl⟩, ⟨⟨_, _, rfl, rfl⟩, ⟨⟨_, _, rfl, rfl⟩, ⟨⟨_, _, rfl, rfl⟩, ⟨⟨_, _, rfl, rfl⟩, ⟨⟨_, _, rfl, rfl⟩, ⟨⟨_, _, rfl, rfl⟩, ⟨⟨_, _, rfl, rfl⟩, ⟨⟨_, _, rfl, rfl⟩, ⟨⟨_, _, rfl, rfl⟩, ⟨⟨_, _, rfl, rfl⟩, ⟨⟨_, _, rfl, rfl⟩, ⟨⟨_, _, rfl, rfl⟩, ⟨⟨_, _, rfl, rfl⟩, ⟨⟨_, _, rfl, rfl⟩, ⟨⟨_, _, rfl, rfl⟩, ⟨⟨_, _, rfl, rfl⟩, ⟨⟨_, _, rfl, rfl⟩, ⟨⟨_, _, rfl, rfl⟩, ⟨⟨_, _, rfl, rfl⟩, trivial⟩⟩⟩⟩⟩⟩⟩⟩⟩⟩⟩⟩⟩⟩⟩⟩⟩⟩⟩⟩⟩⟩⟩⟩⟩⟩⟩⟩⟩)
    (case y3 => rfl)
    (case y4 => rfl)
    (case y5 => 
      refine' K02.kts_cons ?n0 ?l0 ?c0 ?d0 ?s0 ?v0 ?_
      (case n0 => k_is); (case l0 => k_is); (case c0 => rfl); (case d0 => rfl); (case s0 => (show 4 ≤ sizeLine; decide)); (case v0 => exact .cons ⟨_, rfl⟩ (.cons ⟨_, rfl⟩ (.cons ⟨_, rfl⟩ (.cons ⟨_, rfl⟩ .nil))))
      refine' K02.kts_cons ?n1 ?l1 ?c1 ?d1 ?s1 ?v1 ?_
      (case n1 => k_is); (case l1 => k_is); (case c1 => rfl); (case d1 => rfl); (case s1 => (show 4 ≤ sizeLine; decide)); (case v1 => exact .cons ⟨_, rfl⟩ (.cons ⟨_, rfl⟩ (.cons ⟨_, rfl⟩ (.cons ⟨_, rfl⟩ .nil))))
      refine' K02.kts_cons ?n2 ?l2 ?c2 ?d2 ?s2 ?v2 ?_
      (case n2 => k_is); (case l2 => k_is); (case c2 => rfl); (case d2 => rfl); (case s2 => (show 4 ≤ sizeLine; decide)); (case v2 => exact .cons ⟨_, rfl⟩ (.cons ⟨_, rfl⟩ (.cons ⟨_, rfl⟩ (.cons ⟨_, rfl⟩ .nil))))
      refine' K02.kts_cons ?n3 ?l3 ?c3 ?d3 ?s3 ?v3 ?_
      (case n3 => k_is); (case l3 => k_is); (case c3 => rfl); (case d3 => rfl); (case s3 => (show 4 ≤ sizeLine; decide)); (case v3 => exact .cons ⟨_, rfl⟩ (.cons ⟨_, rfl⟩ (.cons ⟨_, rfl⟩ (.cons ⟨_, rfl⟩ .nil))))
      refine' K02.kts_cons ?n4 ?l4 ?c4 ?d4 ?s4 ?v4 ?_
      (case n4 => k_is); (case l4 => k_is); (case c4 => rfl); (case d4 => rfl); (case s4 => (show 4 ≤ sizeLine; decide)); (case v4 => exact .cons ⟨_, rfl⟩ (.cons ⟨_, rfl⟩ (.cons ⟨_, rfl⟩ (.cons ⟨_, rfl⟩ .nil))))
      refine' K02.kts_cons ?n5 ?l5 ?c5 ?d5 ?s5 ?v5 ?_
      (case n5 => k_is); (case l5 => k_is); (case c5 => rfl); (case d5 => rfl); (case s5 => (show 4 ≤ sizeLine; decide)); (case v5 => exact .cons ⟨_, rfl⟩ (.cons ⟨_, rfl⟩ (.cons ⟨_, rfl⟩ (.cons ⟨_, rfl⟩ .nil))))
      refine' K02.kts_cons ?n6 ?l6 ?c6 ?d6 ?s6 ?v6 ?_
      (case n6 => k_is); (case l6 => k_is); (case c6 => rfl); (case d6 => rfl); (case s6 => (show 4 ≤ sizeLine; decide)); (case v6 => exact .cons ⟨_, rfl⟩ (.cons ⟨_, rfl⟩ (.cons ⟨_, rfl⟩ (.cons ⟨_, rfl⟩ .nil))))
      refine' K02.kts_cons ?n7 ?l7 ?c7 ?d7 ?s7 ?v7 ?_
      (case n7 => k_is); (case l7 => k_is); (case c7 => rfl); (case d7 => rfl); (case s7 => (show 4 ≤ sizeLine; decide)); (case v7 => exact .cons ⟨_, rfl⟩ (.cons ⟨_, rfl⟩ (.cons ⟨_, rfl⟩ (.cons ⟨_, rfl⟩ .nil))))
      refine' K02.kts_cons ?n8 ?l8 ?c8 ?d8 ?s8 ?v8 ?_
      (case n8 => k_is); (case l8 => k_is); (case c8 => rfl); (case d8 => rfl); (case s8 => (show 4 ≤ sizeLine; decide)); (case v8 => exact .cons ⟨_, rfl⟩ (.cons ⟨_, rfl⟩ (.cons ⟨_, rfl⟩ (.cons ⟨_, rfl⟩ .nil))))
      refine' K02.kts_cons ?n9 ?l9 ?c9 ?d9 ?s9 ?v9 ?_
      (case n9 => k_is); (case l9 => k_is); (case c9 => rfl); (case d9 => rfl); (case s9 => (show 4 ≤ sizeLine; decide)); (case v9 => exact .cons ⟨_, rfl⟩ (.cons ⟨_, rfl⟩ (.cons ⟨_, rfl⟩ (.cons ⟨_, rfl⟩ .nil))))
      refine' K02.kts_cons ?n10 ?l10 ?c10 ?d10 ?s10 ?v10 ?_
      (case n10 => k_is); (case l10 => k_is); (case c10 => rfl); (case d10 => rfl); (case s10 => (show 4 ≤ sizeLine; decide)); (case v10 => exact .cons ⟨_, rfl⟩ (.cons ⟨_, rfl⟩ (.cons ⟨_, rfl⟩ (.cons ⟨_, rfl⟩ .nil))))
      refine' K02.kts_cons ?n11 ?l11 ?c11 ?d11 ?s11 ?v11 ?_
      (case n11 => k_is); (case l11 => k_is); (case c11 => rfl); (case d11 => rfl); (case s11 => (show 4 ≤ sizeLine; decide)); (case v11 => exact .cons ⟨_, rfl⟩ (.cons ⟨_, rfl⟩ (.cons ⟨_, rfl⟩ (.cons ⟨_, rfl⟩ .nil))))
      refine' K02.kts_cons ?n12 ?l12 ?c12 ?d12 ?s12 ?v12 ?_
      (case n12 => k_is); (case l12 => k_is); (case c12 => rfl); (case d12 => rfl); (case s12 => (show 4 ≤ sizeLine; decide)); (case v12 => exact .cons ⟨_, rfl⟩ (.cons ⟨_, rfl⟩ (.cons ⟨_, rfl⟩ (.cons ⟨_, rfl⟩ .nil))))
      refine' K02.kts_cons ?n13 ?l13 ?c13 ?d13 ?s13 ?v13 ?_
      (case n13 => k_is); (case l13 => k_is); (case c13 => rfl); (case d13 => rfl); (case s13 => (show 4 ≤ sizeLine; decide)); (case v13 => exact .cons ⟨_, rfl⟩ (.cons ⟨_, rfl⟩ (.cons ⟨_, rfl⟩ (.cons ⟨_, rfl⟩ .nil))))
      refine' K02.kts_cons ?n14 ?l14 ?c14 ?d14 ?s14 ?v14 ?_
      (case n14 => k_is); (case l14 => k_is); (case c14 => rfl); (case d14 => rfl); (case s14 => (show 4 ≤ sizeLine; decide)); (case v14 => exact .cons ⟨_, rfl⟩ (.cons ⟨_, rfl⟩ (.cons ⟨_, rfl⟩ (.cons ⟨_, rfl⟩ .nil))))
      refine' K02.kts_cons ?n15 ?l15 ?c15 ?d15 ?s15 ?v15 ?_
      (case n15 => k_is); (case l15 => k_is); (case c15 => rfl); (case d15 => rfl); (case s15 => (show 4 ≤ sizeLine; decide)); (case v15 => exact .cons ⟨_, rfl⟩ (.cons ⟨_, rfl⟩ (.cons ⟨_, rfl⟩ (.cons ⟨_, rfl⟩ .nil))))
      refine' K02.kts_cons ?n16 ?l16 ?c16 ?d16 ?s16 ?v16 ?_
      (case n16 => k_is); (case l16 => k_is); (case c16 => rfl); (case d16 => rfl); (case s16 => (show 4 ≤ sizeLine; decide)); (case v16 => exact .cons ⟨_, rfl⟩ (.cons ⟨_, rfl⟩ (.cons ⟨_, rfl⟩ (.cons ⟨_, rfl⟩ .nil))))
      refine' K02.kts_cons ?n17 ?l17 ?c17 ?d17 ?s17 ?v17 ?_
      (case n17 => k_is); (case l17 => k_is); (case c17 => rfl); (case d17 => rfl); (case s17 => (show 4 ≤ sizeLine; decide)); (case v17 => exact .cons ⟨_, rfl⟩ (.cons ⟨_, rfl⟩ (.cons ⟨_, rfl⟩ (.cons ⟨_, rfl⟩ .nil))))
      refine' K02.kts_cons ?n18 ?l18 ?c18 ?d18 ?s18 ?v18 ?_
      (case n18 => k_is); (case l18 => k_is); (case c18 => rfl); (case d18 => rfl); (case s18 => (show 4 ≤ sizeLine; decide)); (case v18 => exact .cons ⟨_, rfl⟩ (.cons ⟨_, rfl⟩ (.cons ⟨_, rfl⟩ (.cons ⟨_, rfl⟩ .nil))))
      refine' K02.kts_cons ?n19 ?l19 ?c19 ?d19 ?s19 ?v19 ?_
      (case n19 => k_is); (case l19 => k_is); (case c19 => rfl); (case d19 => rfl); (case s19 => (show 4 ≤ sizeLine; decide)); (case v19 => exact .cons ⟨_, rfl⟩ (.cons ⟨_, rfl⟩ (.cons ⟨_, rfl⟩ (.cons ⟨_, rfl⟩ .nil))))
      refine' K02.kts_cons ?n20 ?l20 ?c20 ?d20 ?s20 ?v20 ?_
      (case n20 => k_is); (case l20 => k_is); (case c20 => rfl); (case d20 => rfl); (case s20 => (show 4 ≤ sizeLine; decide)); (case v20 => exact .cons ⟨_, rfl⟩ (.cons ⟨_, rfl⟩ (.cons ⟨_, rfl⟩ (.cons ⟨_, rfl⟩ .nil))))
      refine' K02.kts_cons ?n21 ?l21 ?c21 ?d21 ?s21 ?v21 ?_
      (case n21 => k_is); (case l21 => k_is); (case c21 => rfl); (case d21 => rfl); (case s21 => (show 4 ≤ sizeLine; decide)); (case v21 => exact .cons ⟨_, rfl⟩ (.cons ⟨_, rfl⟩ (.cons ⟨_, rfl⟩ (.cons ⟨_, rfl⟩ .nil))))
      refine' K02.kts_cons ?n22 ?l22 ?c22 ?d22 ?s22 ?v22 ?_
      (case n22 => k_is); (case l22 => k_is); (case c22 => rfl); (case d22 => rfl); (case s22 => (show 4 ≤ sizeLine; decide)); (case v22 => exact .cons ⟨_, rfl⟩ (.cons ⟨_, rfl⟩ (.cons ⟨_, rfl⟩ (.cons ⟨_, rfl⟩ .nil))))
      refine' K02.kts_cons ?n23 ?l23 ?c23 ?d23 ?s23 ?v23 ?_
      (case n23 => k_is); (case l23 => k_is); (case c23 => rfl); (case d23 => rfl); (case s23 => (show 4 ≤ sizeLine; decide)); (case v23 => exact .cons ⟨_, rfl⟩ (.cons ⟨_, rfl⟩ (.cons ⟨_, rfl⟩ (.cons ⟨_, rfl⟩ .nil))))
      refine' K02.kts_cons ?n24 ?l24 ?c24 ?d24 ?s24 ?v24 ?_
      (case n24 => k_is); (case l24 => k_is); (case c24 => rfl); (case d24 => rfl); (case s24 => (show 4 ≤ sizeLine; decide)); (case v24 => exact .cons ⟨_, rfl⟩ (.cons ⟨_, rfl⟩ (.cons ⟨_, rfl⟩ (.cons ⟨_, rfl⟩ .nil))))
      refine' K02.kts_cons ?n25 ?l25 ?c25 ?d25 ?s25 ?v25 ?_
      (case n25 => k_is); (case l25 => k_is); (case c25 => rfl); (case d25 => rfl); (case s25 => (show 4 ≤ sizeLine; decide)); (case v25 => exact .cons ⟨_, rfl⟩ (.cons ⟨_, rfl⟩ (.cons ⟨_, rfl⟩ (.cons ⟨_, rfl⟩ .nil))))
      refine' K02.kts_cons ?n26 ?l26 ?c26 ?d26 ?s26 ?v26 ?_
      (case n26 => k_is); (case l26 => k_is); (case c26 => rfl); (case d26 => rfl); (case s26 => (show 4 ≤ sizeLine; decide)); (case v26 => exact .cons ⟨_, rfl⟩ (.cons ⟨_, rfl⟩ (.cons ⟨_, rfl⟩ (.cons ⟨_, rfl⟩ .nil))))
      refine' K02.kts_cons ?n27 ?l27 ?c27 ?d27 ?s27 ?v27 ?_
      (case n27 => k_is); (case l27 => k_is); (case c27 => rfl); (case d27 => rfl); (case s27 => (show 4 ≤ sizeLine; decide)); (case v27 => exact .cons ⟨_, rfl⟩ (.cons ⟨_, rfl⟩ (.cons ⟨_, rfl⟩ (.cons ⟨_, rfl⟩ .nil))))
      refine' K02.kts_cons ?n28 ?l28 ?c28 ?d28 ?s28 ?v28 ?_
      (case n28 => k_is); (case l28 => k_is); (case c28 => rfl); (case d28 => rfl); (case s28 => (show 4 ≤ sizeLine; decide)); (case v28 => exact .cons ⟨_, rfl⟩ (.cons ⟨_, rfl⟩ (.cons ⟨_, rfl⟩ (.cons ⟨_, rfl⟩ .nil))))
      exact trivial)
    (case y6 => k_is)
    (case y7 => k_is)
    (case y8 => k_is)
    (case y9 => k_is)
    (case x1 => k_is)
    (case x2 => k_is)
    (case x3 => k_is)
