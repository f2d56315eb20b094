import PyProof.Rows.All
import Wide.All
import OpenK.AllK
import Wide.FinOn
import HandS.ForMost
import HandS.IsInst
import HandS.More
import HandS.TupMul
import HandS.Flow
import HandS.Lambda
import HandS.TupAny
import HandS.Conv
import HandS.Style
import HandS.Exc
import HandS.TryOnly
import HandS.ExcOwn
import HandS.WordsExc
import HandS.RaiseMore
import HandS.FStr
import HandS.Property
import KE.KOpsOwn
import HandS.Small
import HandS.Zip
import HandS.Iter
import HandS.Codes
import HandS.Gcd
import KE.KMathG
import KE.KTupTruth
import HandS.ExcIs
import HandS.EndOwn
import PyProof.InstNe
import HandS.SortInts
import HandS.SortKw
import KE.DatumOrd
import KE.GoesMore
import PyProof.EnumMake
import PyProof.Draws
import HandS.Defaults
import HandS.ExcInit
import HandS.ExcField
import HandS.TryMany
import HandS.CallSlots
import PyProof.StrLawsChain
import PyProof.StrBlockL
import HandS.SetFor
import HandS.Strs
import PySem.Challenge.RW_allstitches_k57_whole_spread
set_option Elab.async false
set_option linter.all false
set_option maxRecDepth 100000
set_option maxHeartbeats 4000000
namespace Dz
open PySem PySem.Spec PyProof.Rows L2

/-! ### data -/
inductive D where
  | non | bl (b : Bool) | int (i : Int) | str (x : Str)
  | tup (l : List D) | lst (l : List D) | fro (l : List D)
  | dct (ks : List Key) (l : List D)
  | ins (C : Addr) (ns : List Str) (l : List D)
  | tok (a : Addr) | ty (n : String) | rng (lo hi : Int)

mutual
def Rep (K : PySem.W.Frag) (G : Hp) : D → V → Prop
  | .non, v => v = .non
  | .bl b, v => v = .bl b
  | .int i, v => v = .int i
  | .str x, v => v = .str x
  | .tup l, v => ∃ a xs, v = .ref a ∧ SqT K G a xs ∧ RepA K G l xs
  | .lst l, v => ∃ a xs, v = .ref a ∧ G a = some (.lst xs) ∧ RepA K G l xs
  | .fro l, v => ∃ a xs, v = .ref a ∧ SqL K G a xs ∧ RepA K G l xs
  | .dct ks l, v => ∃ a xs, v = .ref a ∧ G a = some (.dK (ks.zip xs)) ∧ RepA K G l xs ∧ ks.length = l.length
  | .ins C ns l, v => ∃ a dx xs, v = .ref a ∧ G a = some (.ins C dx (ns.zip xs)) ∧ RepA K G l xs ∧ ns.length = l.length
  | .tok a, v => v = .ref a
  | .ty n, v => v = .ty n
  | .rng lo hi, v => ∃ a, v = .ref a ∧ G a = some (.rng lo hi)
def RepA (K : PySem.W.Frag) (G : Hp) : List D → List V → Prop
  | [], xs => xs = []
  | d :: l, xs => ∃ x r, xs = x :: r ∧ Rep K G d x ∧ RepA K G l r
end

section
variable {K : PySem.W.Frag} {G G' H H' F : Hp}
theorem sqt_mono {a : Addr} {xs : List V} (e : Same G G') (h : SqT K G a xs) : SqT K G' a xs := by
  rcases h with (h | ⟨o, h⟩) | h
  · exact .inl (.inl (e _ _ h))
  · exact .inl (.inr ⟨o, e _ _ h⟩)
  · exact .inr h
mutual
theorem Rep.mono (e : Same G G') : ∀ (d : D) (v : V), Rep K G d v → Rep K G' d v
  | .non, _, h => by unfold Rep at h ⊢; exact h
  | .bl _, _, h => by unfold Rep at h ⊢; exact h
  | .int _, _, h => by unfold Rep at h ⊢; exact h
  | .str _, _, h => by unfold Rep at h ⊢; exact h
  | .tup l, v, h => by
    unfold Rep at h ⊢
    obtain ⟨a, xs, rfl, s, r⟩ := h
    exact ⟨a, xs, rfl, sqt_mono e s, RepA.mono e l xs r⟩
  | .lst l, v, h => by
    unfold Rep at h ⊢
    obtain ⟨a, xs, rfl, s, r⟩ := h
    exact ⟨a, xs, rfl, e _ _ s, RepA.mono e l xs r⟩
  | .fro l, v, h => by
    unfold Rep at h ⊢
    obtain ⟨a, xs, rfl, s, r⟩ := h
    exact ⟨a, xs, rfl, e.seq s, RepA.mono e l xs r⟩
  | .dct ks l, v, h => by
    unfold Rep at h ⊢
    obtain ⟨a, xs, rfl, s, r, q⟩ := h
    exact ⟨a, xs, rfl, e _ _ s, RepA.mono e l xs r, q⟩
  | .ins C ns l, v, h => by
    unfold Rep at h ⊢
    obtain ⟨a, dx, xs, rfl, s, r, q⟩ := h
    exact ⟨a, dx, xs, rfl, e _ _ s, RepA.mono e l xs r, q⟩
  | .tok _, _, h => by unfold Rep at h ⊢; exact h
  | .ty _, _, h => by unfold Rep at h ⊢; exact h
  | .rng _ _, _, h => by
    unfold Rep at h ⊢
    obtain ⟨a, e1, e2⟩ := h
    exact ⟨a, e1, e _ _ e2⟩
theorem RepA.mono (e : Same G G') : ∀ (l : List D) (xs : List V), RepA K G l xs → RepA K G' l xs
  | [], _, h => by unfold RepA at h ⊢; exact h
  | d :: l, _, h => by
    unfold RepA at h ⊢
    obtain ⟨x, r, rfl, h1, h2⟩ := h
    exact ⟨x, r, rfl, Rep.mono e d x h1, RepA.mono e l r h2⟩
end
theorem RepA.nil : RepA K G [] [] := by unfold RepA; rfl
theorem RepA.cons {d : D} {x : V} {l : List D} {xs : List V} (h : Rep K G d x) (t : RepA K G l xs) : RepA K G (d :: l) (x :: xs) := by
  unfold RepA
  exact ⟨x, xs, rfl, h, t⟩
theorem RepA.len : ∀ {l : List D} {xs : List V}, RepA K G l xs → xs.length = l.length
  | [], _, h => by unfold RepA at h; subst h; rfl
  | d :: l, _, h => by
    unfold RepA at h
    obtain ⟨x, r, rfl, _, h2⟩ := h
    simp only [List.length_cons, RepA.len h2]
theorem RepA.get : ∀ {l : List D} {xs : List V} {i : Nat} {d : D}, RepA K G l xs → l[i]? = some d → ∃ x, xs[i]? = some x ∧ Rep K G d x
  | [], _, _, _, _, e => by simp at e
  | d :: l, _, 0, d', h, e => by
    unfold RepA at h
    obtain ⟨x, r, rfl, h1, h2⟩ := h
    simp at e; subst e
    exact ⟨x, rfl, h1⟩
  | d :: l, _, i + 1, d', h, e => by
    unfold RepA at h
    obtain ⟨x, r, rfl, h1, h2⟩ := h
    obtain ⟨y, e1, e2⟩ := RepA.get (i := i) h2 (by simpa using e)
    exact ⟨y, by simpa using e1, e2⟩
theorem RepA.get' {l : List D} {xs : List V} {i : Nat} {x : V} (h : RepA K G l xs) (e : xs[i]? = some x) : ∃ d, l[i]? = some d ∧ Rep K G d x := by
  have hl := h.len
  have hi : i < xs.length := (List.getElem?_eq_some_iff.mp e).1
  have hi' : i < l.length := by omega
  obtain ⟨y, e1, e2⟩ := h.get (List.getElem?_eq_getElem hi')
  rw [e] at e1
  cases e1
  exact ⟨_, List.getElem?_eq_getElem hi', e2⟩
theorem RepA.app : ∀ {l m : List D} {xs ys : List V}, RepA K G l xs → RepA K G m ys → RepA K G (l ++ m) (xs ++ ys)
  | [], _, _, _, h, t => by unfold RepA at h; subst h; exact t
  | d :: l, _, _, _, h, t => by
    unfold RepA at h
    obtain ⟨x, r, rfl, h1, h2⟩ := h
    exact .cons h1 (RepA.app h2 t)
theorem RepA.take : ∀ {l : List D} {xs : List V} (n : Nat), RepA K G l xs → RepA K G (l.take n) (xs.take n)
  | _, _, 0, _ => by simp only [List.take_zero]; exact .nil
  | [], _, n + 1, h => by unfold RepA at h; subst h; simp only [List.take_nil]; exact .nil
  | d :: l, _, n + 1, h => by
    unfold RepA at h
    obtain ⟨x, r, rfl, h1, h2⟩ := h
    simp only [List.take_succ_cons]
    exact .cons h1 (RepA.take n h2)
theorem RepA.drop : ∀ {l : List D} {xs : List V} (n : Nat), RepA K G l xs → RepA K G (l.drop n) (xs.drop n)
  | _, _, 0, h => h
  | [], _, n + 1, h => by unfold RepA at h; subst h; simp only [List.drop_nil]; exact .nil
  | d :: l, _, n + 1, h => by
    unfold RepA at h
    obtain ⟨x, r, rfl, h1, h2⟩ := h
    simp only [List.drop_succ_cons]
    exact RepA.drop n h2
theorem RepA.rev : ∀ {l : List D} {xs : List V}, RepA K G l xs → RepA K G l.reverse xs.reverse
  | [], _, h => by unfold RepA at h; subst h; simp only [List.reverse_nil]; exact .nil
  | d :: l, _, h => by
    unfold RepA at h
    obtain ⟨x, r, rfl, h1, h2⟩ := h
    simp only [List.reverse_cons]
    exact RepA.app (RepA.rev h2) (.cons h1 .nil)
theorem RepA.set {d : D} {x : V} (hd : Rep K G d x) : ∀ {l : List D} {xs : List V} (i : Nat), RepA K G l xs → RepA K G (l.set i d) (xs.set i x)
  | [], _, _, h => by unfold RepA at h; subst h; simp only [List.set_nil]; exact .nil
  | e :: l, _, 0, h => by
    unfold RepA at h
    obtain ⟨x', r, rfl, h1, h2⟩ := h
    exact .cons hd h2
  | e :: l, _, i + 1, h => by
    unfold RepA at h
    obtain ⟨x', r, rfl, h1, h2⟩ := h
    exact .cons h1 (RepA.set hd i h2)
theorem RepA.rep {d : D} {x : V} (h : Rep K G d x) : ∀ n : Nat, RepA K G (List.replicate n d) (List.replicate n x)
  | 0 => .nil
  | n + 1 => by rw [List.replicate_succ, List.replicate_succ]; exact .cons h (RepA.rep h n)
theorem RepA.ints : ∀ (ns : List Int), RepA K G (ns.map D.int) (ns.map V.int)
  | [] => .nil
  | n :: r => .cons (by unfold Rep; rfl) (RepA.ints r)
theorem repA_ints_inv : ∀ {ns : List Int} {xs : List V}, RepA K G (ns.map D.int) xs → xs = ns.map V.int
  | [], _, h => by simp only [List.map_nil] at h; unfold RepA at h; exact h
  | n :: r, _, h => by
    simp only [List.map_cons] at h
    unfold RepA at h
    obtain ⟨x, t, rfl, h1, h2⟩ := h
    unfold Rep at h1
    subst h1
    rw [repA_ints_inv h2]; rfl
theorem repA_strs_inv : ∀ {ns : List Str} {xs : List V}, RepA K G (ns.map D.str) xs → xs = ns.map V.str
  | [], _, h => by simp only [List.map_nil] at h; unfold RepA at h; exact h
  | n :: r, _, h => by
    simp only [List.map_cons] at h
    unfold RepA at h
    obtain ⟨x, t, rfl, h1, h2⟩ := h
    unfold Rep at h1
    subst h1
    rw [repA_strs_inv h2]; rfl
theorem repA_strs : ∀ (ns : List Str), RepA K G (ns.map D.str) (ns.map V.str)
  | [] => .nil
  | n :: r => .cons (by unfold Rep; rfl) (repA_strs r)
theorem repA_bls_inv : ∀ {ns : List Bool} {xs : List V}, RepA K G (ns.map D.bl) xs → xs = ns.map V.bl
  | [], _, h => by simp only [List.map_nil] at h; unfold RepA at h; exact h
  | n :: r, _, h => by
    simp only [List.map_cons] at h
    unfold RepA at h
    obtain ⟨x, t, rfl, h1, h2⟩ := h
    unfold Rep at h1
    subst h1
    rw [repA_bls_inv h2]; rfl
theorem rep_int {i : Int} {v : V} : Rep K G (.int i) v ↔ v = .int i := by unfold Rep; exact Iff.rfl
theorem rep_bl {i : Bool} {v : V} : Rep K G (.bl i) v ↔ v = .bl i := by unfold Rep; exact Iff.rfl
theorem rep_str {i : Str} {v : V} : Rep K G (.str i) v ↔ v = .str i := by unfold Rep; exact Iff.rfl
theorem rep_non {v : V} : Rep K G .non v ↔ v = .non := by unfold Rep; exact Iff.rfl
theorem rep_tok {a : Addr} {v : V} : Rep K G (.tok a) v ↔ v = .ref a := by unfold Rep; exact Iff.rfl
theorem rep_rng {lo hi : Int} {v : V} : Rep K G (.rng lo hi) v ↔ ∃ a, v = .ref a ∧ G a = some (.rng lo hi) := by unfold Rep; exact Iff.rfl
theorem rep_ty {a : String} {v : V} : Rep K G (.ty a) v ↔ v = .ty a := by unfold Rep; exact Iff.rfl
theorem rep_tup {l : List D} {v : V} : Rep K G (.tup l) v ↔ ∃ a xs, v = .ref a ∧ SqT K G a xs ∧ RepA K G l xs := by conv => lhs; unfold Rep
theorem rep_lst {l : List D} {v : V} : Rep K G (.lst l) v ↔ ∃ a xs, v = .ref a ∧ G a = some (.lst xs) ∧ RepA K G l xs := by conv => lhs; unfold Rep
theorem rep_fro {l : List D} {v : V} : Rep K G (.fro l) v ↔ ∃ a xs, v = .ref a ∧ SqL K G a xs ∧ RepA K G l xs := by conv => lhs; unfold Rep
theorem rep_dct {ks : List Key} {l : List D} {v : V} : Rep K G (.dct ks l) v ↔ ∃ a xs, v = .ref a ∧ G a = some (.dK (ks.zip xs)) ∧ RepA K G l xs ∧ ks.length = l.length := by conv => lhs; unfold Rep
theorem rep_ins {C : Addr} {ns : List Str} {l : List D} {v : V} : Rep K G (.ins C ns l) v ↔ ∃ a dx xs, v = .ref a ∧ G a = some (.ins C dx (ns.zip xs)) ∧ RepA K G l xs ∧ ns.length = l.length := by conv => lhs; unfold Rep
end

/-! ### changing objects -/
inductive HD where
  | lst (l : List D) | dct (ks : List Key) (l : List D) | ins (C dx : Addr) (ns : List Str) (l : List D)
  | me (p C dx : Addr) (ns : List Str) (l : List D)
  | tab (q : Str)
/-- where it stands, if that is told -/
def HD.pl : HD → Addr → Prop
  | .me p _ _ _ _, a => a = p
  | .tab _, _ => False
  | _, _ => True
def RepO (K : PySem.W.Frag) (G : Hp) : HD → HO → Prop
  | .lst l, o => ∃ xs, o = .lst xs ∧ RepA K G l xs
  | .dct ks l, o => ∃ xs, o = .dK (ks.zip xs) ∧ RepA K G l xs ∧ ks.length = l.length
  | .ins C dx ns l, o => ∃ xs, o = .ins C dx (ns.zip xs) ∧ RepA K G l xs ∧ ns.length = l.length
  | .me _ C dx ns l, o => ∃ xs, o = .ins C dx (ns.zip xs) ∧ RepA K G l xs ∧ ns.length = l.length
  | .tab q, o => ∃ ps : Array Value, o = .tbl ps ∧ TriplesOk ps.toList ∧ ∀ (pos : Pos) (cv : Value), codeAmong pos ps.toList = some cv → ∃ c, cv = .ref c ∧ G c = some (LamX.CodeO c q)
def HD.d : HD → D
  | .lst l => .lst l
  | .dct ks l => .dct ks l
  | .ins C _ ns l => .ins C ns l
  | .me _ C _ ns l => .ins C ns l
  | .tab _ => .non
section
variable {K : PySem.W.Frag} {G G' H H' F : Hp}
theorem RepO.mono (e : Same G G') : ∀ {o : HD} {u : HO}, RepO K G o u → RepO K G' o u
  | .lst _, _, ⟨xs, a, b⟩ => ⟨xs, a, b.mono e⟩
  | .dct _ _, _, ⟨xs, a, b, c⟩ => ⟨xs, a, b.mono e, c⟩
  | .ins _ _ _ _, _, ⟨xs, a, b, c⟩ => ⟨xs, a, b.mono e, c⟩
  | .me _ _ _ _ _, _, ⟨xs, a, b, c⟩ => ⟨xs, a, b.mono e, c⟩
  | .tab _, _, ⟨ps, a, b, c⟩ => ⟨ps, a, b, fun pos cv h => let ⟨x, y, z⟩ := c pos cv h; ⟨x, y, e _ _ z⟩⟩
theorem RepO.rep {a : Addr} : ∀ {o : HD} {u : HO}, RepO K G o u → G a = some u → o.pl a → Rep K G o.d (.ref a)
  | .lst _, _, ⟨xs, e, b⟩, h, _ => by subst e; exact rep_lst.mpr ⟨a, xs, rfl, h, b⟩
  | .dct _ _, _, ⟨xs, e, b, c⟩, h, _ => by subst e; exact rep_dct.mpr ⟨a, xs, rfl, h, b, c⟩
  | .ins _ dx _ _, _, ⟨xs, e, b, c⟩, h, _ => by subst e; exact rep_ins.mpr ⟨a, dx, xs, rfl, h, b, c⟩
  | .me _ _ dx _ _, _, ⟨xs, e, b, c⟩, h, _ => by subst e; exact rep_ins.mpr ⟨a, dx, xs, rfl, h, b, c⟩
  | .tab _, _, _, _, hp => hp.elim
end
theorem RepO.nt {K : PySem.W.Frag} {G : Hp} {a : Addr} : ∀ {o : HD} {u : HO}, RepO K G o u → o.pl a → ∀ ps, u ≠ .tbl ps
  | .lst _, _, ⟨_, e, _⟩, _, _ => by subst e; intro z; cases z
  | .dct _ _, _, ⟨_, e, _⟩, _, _ => by subst e; intro z; cases z
  | .ins _ _ _ _, _, ⟨_, e, _⟩, _, _ => by subst e; intro z; cases z
  | .me _ _ _ _ _, _, ⟨_, e, _⟩, _, _ => by subst e; intro z; cases z
  | .tab _, _, _, hp, _ => hp.elim
/-- the ambient: changing objects that all know, each with what is true of it -/
abbrev AQ := List (Addr × (HD → Prop))
/-- .. and where the body began: what the frame held, and what stood still -/
structure Am where
  q : AQ
  F0 : Hp
  G0 : Hp
def AmbOk (K : PySem.W.Frag) (A : AQ) (G H : Hp) : Prop := ∀ q ∈ A, G q.1 = none ∧ ∃ o u, H q.1 = some u ∧ RepO K G o u ∧ q.2 o

/-- no table of code objects in it -/
def NT (G : Hp) : Prop := ∀ a ps, G a ≠ some (.tbl ps)
/-- only new objects -/
structure Grow (G H G' H' : Hp) : Prop where
  n : NT G → NT G'
  g : Same G G'
  h : Same H H'
  o : ∀ a u, H a = some u → G' a = G a
theorem Grow.refl (G H : Hp) : Grow G H G H := ⟨id, Same.refl G, Same.refl H, fun _ _ _ => rfl⟩
theorem Grow.trans {G H G1 H1 G2 H2 : Hp} (a : Grow G H G1 H1) (b : Grow G1 H1 G2 H2) : Grow G H G2 H2 :=
  ⟨fun z => b.n (a.n z), a.g.trans b.g, a.h.trans b.h, fun p u e => (b.o p u (a.h _ _ e)).trans (a.o p u e)⟩
theorem same_new {H : Hp} {p : Addr} {o : HO} (h : H p = none) : Same H (upd H p o) := fun b x e => by
  rw [upd_ne (ne_of_none e h)]
  exact e
theorem NT.new {G : Hp} {p : Addr} {o : HO} (z : NT G) (hn : ∀ ps, o ≠ .tbl ps) : NT (upd G p o) := fun a ps e => by
  by_cases ha : a = p
  · rw [ha, upd_same] at e
    exact hn ps (Option.some.inj e)
  · rw [upd_ne ha] at e
    exact z a ps e
theorem Grow.new {G H : Hp} {p : Addr} {o : HO} (s : Same G H) (h : H p = none) (hn : ∀ ps, o ≠ .tbl ps := by intro _ z; cases z) : Grow G H (upd G p o) (upd H p o) :=
  ⟨fun z => z.new hn, same_new (s.free h), same_new h, fun a u e => upd_ne (ne_of_none e h)⟩
theorem Grow.tmp {G H : Hp} {p : Addr} {o : HO} (h : H p = none) : Grow G H G (upd H p o) :=
  ⟨id, Same.refl G, same_new h, fun _ _ _ => rfl⟩
theorem same_upd2 {G H : Hp} {p : Addr} {o : HO} (s : Same G H) : Same (upd G p o) (upd H p o) := fun b x e => by
  by_cases hb : b = p
  · subst hb; rw [upd_same] at e ⊢; exact e
  · rw [upd_ne hb] at e ⊢; exact s b x e

/-! ### what a def's names hold -/
inductive EV where
  | un | dat (d : D) | cel (o : HD)
abbrev En := List EV
def gt : En → Nat → EV
  | [], _ => .un
  | e :: _, 0 => e
  | _ :: r, n + 1 => gt r n
def st : En → Nat → EV → En
  | [], _, _ => []
  | _ :: r, 0, v => v :: r
  | e :: r, n + 1, v => e :: st r n v
theorem gt_st {v : EV} : ∀ {en : En} {i j : Nat}, gt (st en i v) j = if j = i ∧ i < en.length then v else gt en j
  | [], i, j => by simp [st, gt]
  | e :: r, 0, 0 => by simp [st, gt]
  | e :: r, 0, j + 1 => by simp [st, gt]
  | e :: r, i + 1, 0 => by simp [st, gt]
  | e :: r, i + 1, j + 1 => by
    simp only [st, gt]
    rw [gt_st (en := r)]
    simp
theorem st_len {v : EV} : ∀ {en : En} {i : Nat}, (st en i v).length = en.length
  | [], _ => rfl
  | _ :: _, 0 => rfl
  | _ :: r, i + 1 => by simp only [st, List.length_cons, st_len]

structure StQ (K : PySem.W.Frag) (A : AQ) (F G H : Hp) : Prop where
  gh : Same G H
  fh : Same F H
  fa : ∀ q ∈ A, F q.1 = none
  am : AmbOk K A G H
/-- from G on, the frame's objects left as they are -/
structure Step (F G G' : Hp) : Prop where
  n : NT G → NT G'
  g : Same G G'
  f : ∀ a u, F a = some u → G' a = G a
theorem Step.refl (F G : Hp) : Step F G G := ⟨id, Same.refl G, fun _ _ _ => rfl⟩
theorem Step.trans {F G G1 G2 : Hp} (a : Step F G G1) (b : Step F G1 G2) : Step F G G2 := ⟨fun z => b.n (a.n z), a.g.trans b.g, fun p u e => (b.f p u e).trans (a.f p u e)⟩
theorem Step.less {F F' G G' : Hp} (a : Step F G G') (s : Same F' F) : Step F' G G' := ⟨a.n, a.g, fun p u e => a.f p u (s _ _ e)⟩
/-- neither a table nor a code object -/
def plainO (u : HO) : Prop := (∀ ps, u ≠ .tbl ps) ∧ ∀ e, u ≠ .ext e
def NE (F : Hp) : Prop := ∀ a u, F a = some u → plainO u
theorem NE.new {F : Hp} {p : Addr} {o : HO} (z : NE F) (hn : plainO o) : NE (upd F p o) := fun a u e => by
  by_cases ha : a = p
  · rw [ha, upd_same] at e
    cases e
    exact hn
  · rw [upd_ne ha] at e
    exact z a u e
structure Fro (F0 F : Hp) : Prop where
  s : Same F0 F
  n : NE F0 → NE F
theorem Fro.refl (F : Hp) : Fro F F := ⟨Same.refl _, id⟩
structure StOk (K : PySem.W.Frag) (A : Am) (F G H : Hp) : Prop where
  st : StQ K A.q F G H
  bz : Fro A.F0 F
  bg : Step A.F0 A.G0 G
theorem StOk.bs {K : PySem.W.Frag} {A : Am} {F G H : Hp} (k : StOk K A F G H) : Same A.F0 F := k.bz.s
theorem StOk.gh {K : PySem.W.Frag} {A : Am} {F G H : Hp} (k : StOk K A F G H) : Same G H := k.st.gh
theorem StOk.fh {K : PySem.W.Frag} {A : Am} {F G H : Hp} (k : StOk K A F G H) : Same F H := k.st.fh
theorem StOk.fa {K : PySem.W.Frag} {A : Am} {F G H : Hp} (k : StOk K A F G H) : ∀ q ∈ A.q, F q.1 = none := k.st.fa
theorem StOk.am {K : PySem.W.Frag} {A : Am} {F G H : Hp} (k : StOk K A F G H) : AmbOk K A.q G H := k.st.am
structure Slots (K : PySem.W.Frag) (A : Am) (F G H : Hp) (σ : L2.St) (en : En) (c : Nat → Addr) : Prop where
  dat : ∀ i d, gt en i = .dat d → ∃ v, σ[i]? = some (some v) ∧ Rep K G d v
  cel : ∀ i o, gt en i = .cel o → σ[i]? = some (some (.ref (c i))) ∧ (∃ u, H (c i) = some u ∧ RepO K G o u) ∧ G (c i) = none ∧ F (c i) = none ∧ ∀ q ∈ A.q, q.1 ≠ c i
  inj : ∀ i j o u, gt en i = .cel o → gt en j = .cel u → c i = c j → i = j
  pl : ∀ i o, gt en i = .cel o → o.pl (c i)
structure EnvOk (K : PySem.W.Frag) (A : Am) (F G H : Hp) (σ : L2.St) (en : En) : Prop where
  ok : StOk K A F G H
  len : σ.length = en.length
  ex : ∃ c, Slots K A F G H σ en c

section
variable {K : PySem.W.Frag} {A : Am} {F G H G' H' : Hp} {σ : L2.St} {en : En}
theorem Grow.step0 (g : Grow G H G' H') (f : Same F H) : Step F G G' := ⟨g.n, g.g, fun a u e => g.o a u (f _ _ e)⟩
theorem StOk.grow (k : StOk K A F G H) (g : Grow G H G' H') (s : Same G' H') : StOk K A F G' H' where
  st := {
    gh := s
    fh := k.fh.trans g.h
    fa := k.fa
    am := fun q hq => by
      obtain ⟨e, o, u, e1, e2, e3⟩ := k.am q hq
      exact ⟨(g.o _ _ e1).trans e, o, u, g.h _ _ e1, e2.mono g.g, e3⟩ }
  bz := k.bz
  bg := k.bg.trans (g.step0 (k.bs.trans k.fh))
theorem EnvOk.grow (k : EnvOk K A F G H σ en) (g : Grow G H G' H') (s : Same G' H') : EnvOk K A F G' H' σ en where
  ok := k.ok.grow g s
  len := k.len
  ex := by
    obtain ⟨c, x⟩ := k.ex
    refine ⟨c, fun i d e => ?_, fun i o e => ?_, x.inj, x.pl⟩
    · obtain ⟨v, e1, e2⟩ := x.dat i d e
      exact ⟨v, e1, e2.mono g.g⟩
    · obtain ⟨e1, ⟨u, e2, e3⟩, e4, e5, e6⟩ := x.cel i o e
      exact ⟨e1, ⟨u, g.h _ _ e2, e3.mono g.g⟩, (g.o _ _ e2).trans e4, e5, e6⟩
theorem Grow.step (g : Grow G H G' H') (f : Same F H) : Step F G G' := ⟨g.n, g.g, fun a u e => g.o a u (f _ _ e)⟩
end
end Dz

namespace Dz
open PySem PySem.Spec PyProof.Rows L2

theorem EnvOk.freeze {K : PySem.W.Frag} {A : Am} {F G H : Hp} {σ : L2.St} {en : En} {i : Nat} {o : HD} (k : EnvOk K A F G H σ en) (e : gt en i = .cel o) :
    ∃ v G', σ[i]? = some (some v) ∧ EnvOk K A F G' H σ (st en i (.dat o.d)) ∧ Step F G G' ∧ Rep K G' o.d v := by
  obtain ⟨c, x⟩ := k.ex
  obtain ⟨e1, ⟨u, e2, e3⟩, e4, e5, e6⟩ := x.cel i o e
  have sg : Same G (upd G (c i) u) := same_new e4
  have hr : Rep K (upd G (c i) u) o.d (.ref (c i)) := (e3.mono sg).rep upd_same (x.pl i o e)
  have hnt : NT G → NT (upd G (c i) u) := fun z => z.new (e3.nt (x.pl i o e))
  refine ⟨.ref (c i), upd G (c i) u, e1, ⟨⟨⟨?_, k.ok.fh, k.ok.fa, ?_⟩, k.ok.bz, k.ok.bg.trans ⟨hnt, sg, fun a w ha => upd_ne (fun z => by subst z; have ha := k.ok.bs _ _ ha; rw [e5] at ha; cases ha)⟩⟩, ?_, c, ?_, ?_, ?_, ?_⟩, ⟨hnt, sg, ?_⟩, hr⟩
  · intro b w hb
    by_cases h : b = c i
    · subst h; rw [upd_same] at hb; cases hb; exact e2
    · rw [upd_ne h] at hb; exact k.ok.gh _ _ hb
  · intro q hq
    obtain ⟨a1, o1, u1, a2, a3, a4⟩ := k.ok.am q hq
    exact ⟨by rw [upd_ne (e6 q hq)]; exact a1, o1, u1, a2, a3.mono sg, a4⟩
  · rw [st_len]; exact k.len
  · intro j d hj
    rw [gt_st] at hj
    split at hj
    · rename_i h
      cases hj
      exact ⟨_, by rw [h.1]; exact e1, hr⟩
    · obtain ⟨v, h1, h2⟩ := x.dat j d hj
      exact ⟨v, h1, h2.mono sg⟩
  · intro j d hj
    rw [gt_st] at hj
    split at hj
    · cases hj
    · rename_i h
      obtain ⟨f1, ⟨u', f2, f3⟩, f4, f5, f6⟩ := x.cel j d hj
      have nj : c j ≠ c i := fun z => by
        have := x.inj j i d o hj e z
        subst this
        have hl : j < en.length := by
          rcases Nat.lt_or_ge j en.length with h' | h'
          · exact h'
          · exact absurd e1 (by rw [List.getElem?_eq_none (by rw [k.len]; exact h')]; intro z; cases z)
        exact h ⟨rfl, hl⟩
      exact ⟨f1, ⟨u', f2, f3.mono sg⟩, by rw [upd_ne nj]; exact f4, f5, f6⟩
  · intro a b p q ha hb hc
    rw [gt_st] at ha hb
    split at ha
    · cases ha
    · split at hb
      · cases hb
      · exact x.inj a b p q ha hb hc
  · intro j q h
    rw [gt_st] at h
    split at h
    · cases h
    · exact x.pl j q h
  · intro a w ha
    exact upd_ne (fun z => by subst z; rw [e5] at ha; cases ha)

/-! ### readings over data -/
abbrev FE := En → (D → En → Prop) → Prop
abbrev FT := En → (Bool → En → Prop) → Prop
abbrev FA := En → (List D → En → Prop) → Prop
def LE (K : PySem.W.Frag) (A : Am) (f : FE) : TE := fun σ H Q => ∃ (F G : Hp) (en : En) (Ψ : D → En → Prop), EnvOk K A F G H σ en ∧ f en Ψ ∧
  ∀ d en' v G' H', Ψ d en' → EnvOk K A F G' H' σ en' → Step F G G' → Rep K G' d v → Q v H'
def LT (K : PySem.W.Frag) (A : Am) (f : FT) : TT := fun σ H Q => ∃ (F G : Hp) (en : En) (Ψ : Bool → En → Prop), EnvOk K A F G H σ en ∧ f en Ψ ∧
  ∀ d en' G' H', Ψ d en' → EnvOk K A F G' H' σ en' → Step F G G' → Q d H'
def LA (K : PySem.W.Frag) (A : Am) (f : FA) : TA := fun σ H Q => ∃ (F G : Hp) (en : En) (Ψ : List D → En → Prop), EnvOk K A F G H σ en ∧ f en Ψ ∧
  ∀ d en' v G' H', Ψ d en' → EnvOk K A F G' H' σ en' → Step F G G' → RepA K G' d v → Q v H'
abbrev DE (X : Cx) (A : Am) (e : Expr) (f : FE) : Prop := PE X e (LE X.K A f)
abbrev DT (X : Cx) (A : Am) (e : Expr) (f : FT) : Prop := PT X e (LT X.K A f)
abbrev DW (X : Cx) (A : Am) (e : Expr) (f : FT) : Prop := PW X e (LT X.K A f)
abbrev DA (X : Cx) (A : Am) (es : List Expr) (f : FA) : Prop := PA X es (LA X.K A f)
theorem pe_weak {X : Cx} {e : Expr} {t t' : TE} (h : PE X e t) (k : ∀ σ H Q, t' σ H Q → t σ H Q) : PE X e t' := ⟨fun pins s σ H Q I q => h.run pins s σ H Q I (k σ H Q q)⟩
theorem pt_weak {X : Cx} {e : Expr} {t t' : TT} (h : PT X e t) (k : ∀ σ H Q, t' σ H Q → t σ H Q) : PT X e t' := ⟨fun pins s σ H Q I q => h.run pins s σ H Q I (k σ H Q q)⟩
theorem pw_weak {X : Cx} {e : Expr} {t t' : TT} (h : PW X e t) (k : ∀ σ H Q, t' σ H Q → t σ H Q) : PW X e t' := ⟨fun w pins s σ H Q I q => h.run w pins s σ H Q I (k σ H Q q)⟩
theorem pa_weak {X : Cx} {e : List Expr} {t t' : TA} (h : PA X e t) (k : ∀ σ H Q, t' σ H Q → t σ H Q) : PA X e t' := ⟨fun p pins s σ H Q I q => h.run p pins s σ H Q I (k σ H Q q)⟩
theorem ps_weak {X : Cx} {e : Stmt} {t t' : TS} (h : PS X e t) (k : ∀ D σ H, t' D σ H → t D σ H) : PS X e t' := ⟨fun pins s σ H D I q => h.run pins s σ H D I (k D σ H q)⟩
theorem pss_weak {X : Cx} {e : List Stmt} {t t' : TS} (h : PSs X e t) (k : ∀ D σ H, t' D σ H → t D σ H) : PSs X e t' := ⟨fun pins s σ H D I q => h.run pins s σ H D I (k D σ H q)⟩
theorem pi_weak {X : Cx} {tg e : Expr} {t t' : TI} (h : PI X tg e t) (k : ∀ σ H Q, t' σ H Q → t σ H Q) : PI X tg e t' := ⟨fun pins s σ H Q I q => h.run pins s σ H Q I (k σ H Q q)⟩

/-! ### operations on values -/
abbrev R1D := D → (D → Prop) → Prop
abbrev R2D := D → D → (D → Prop) → Prop
abbrev RAD := List D → (D → Prop) → Prop
def LR2 (K : PySem.W.Frag) (r : R2D) : R2 := fun x y H Q => ∃ (G : Hp) (dx dy : D) (Ψ : D → Prop), Same G H ∧ Rep K G dx x ∧ Rep K G dy y ∧ r dx dy Ψ ∧ ∀ dz z G' H', Ψ dz → Grow G H G' H' → Same G' H' → Rep K G' dz z → Q z H'
def LR1 (K : PySem.W.Frag) (r : R1D) : V → Hp → VK → Prop := fun x H Q => ∃ (G : Hp) (dx : D) (Ψ : D → Prop), Same G H ∧ Rep K G dx x ∧ r dx Ψ ∧ ∀ dz z G' H', Ψ dz → Grow G H G' H' → Same G' H' → Rep K G' dz z → Q z H'
def LRA (K : PySem.W.Frag) (r : RAD) : List V → Hp → VK → Prop := fun x H Q => ∃ (G : Hp) (dx : List D) (Ψ : D → Prop), Same G H ∧ RepA K G dx x ∧ r dx Ψ ∧ ∀ dz z G' H', Ψ dz → Grow G H G' H' → Same G' H' → Rep K G' dz z → Q z H'
def fVar (i : Nat) : FE := fun en Φ => match gt en i with
  | .dat d => Φ d en
  | .cel o => Φ o.d (st en i (.dat o.d))
  | .un => False
def fC (d : D) : FE := fun en Φ => Φ d en
def fOp (r : R2D) (fa fb : FE) : FE := fun en Φ => fa en fun x e1 => fb e1 fun y e2 => r x y fun z => Φ z e2
def fUn (r : R1D) (fa : FE) : FE := fun en Φ => fa en fun x e1 => r x fun z => Φ z e1
def fCB (r : RAD) (fa : FA) : FE := fun en Φ => fa en fun xs e1 => r xs fun z => Φ z e1
def fNil : FA := fun en Φ => Φ [] en
def fCons (fa : FE) (fr : FA) : FA := fun en Φ => fa en fun x e1 => fr e1 fun xs e2 => Φ (x :: xs) e2

section
variable {X : Cx} {A : Am} {e a b c : Expr} {es : List Expr} {pos : Pos} {fa fb fc : FE} {ft fu : FT} {fr : FA}

theorem le_op {K : PySem.W.Frag} {r : R2D} {σ : L2.St} {H : Hp} {Q : VK} (h : LE K A (fOp r fa fb) σ H Q) : tOp (LR2 K r) (LE K A fa) (LE K A fb) σ H Q := by
  obtain ⟨F, G, en, Ψ, k, h, q⟩ := h
  exact ⟨F, G, en, _, k, h, fun x e1 v1 G1 H1 hb k1 s1 r1 => ⟨F, G1, e1, _, k1, hb, fun y e2 v2 G2 H2 hr k2 s2 r2 =>
    ⟨G2, x, y, _, k2.ok.gh, r1.mono s2.g, r2, hr, fun z w G3 H3 hz g s r3 => q z e2 w G3 H3 hz (k2.grow g s) ((s1.trans s2).trans (g.step k2.ok.fh)) r3⟩⟩⟩
theorem le_un {K : PySem.W.Frag} {r : R1D} {σ : L2.St} {H : Hp} {Q : VK} (h : LE K A (fUn r fa) σ H Q) : tUn (LR1 K r) (LE K A fa) σ H Q := by
  obtain ⟨F, G, en, Ψ, k, h, q⟩ := h
  exact ⟨F, G, en, _, k, h, fun x e1 v1 G1 H1 hb k1 s1 r1 =>
    ⟨G1, x, _, k1.ok.gh, r1, hb, fun z w G3 H3 hz g s r3 => q z e1 w G3 H3 hz (k1.grow g s) (s1.trans (g.step k1.ok.fh)) r3⟩⟩
theorem le_cb {K : PySem.W.Frag} {r : RAD} {σ : L2.St} {H : Hp} {Q : VK} (h : LE K A (fCB r fr) σ H Q) : tCB (LRA K r) (LA K A fr) σ H Q := by
  obtain ⟨F, G, en, Ψ, k, h, q⟩ := h
  exact ⟨F, G, en, _, k, h, fun x e1 v1 G1 H1 hb k1 s1 r1 =>
    ⟨G1, x, _, k1.ok.gh, r1, hb, fun z w G3 H3 hz g s r3 => q z e1 w G3 H3 hz (k1.grow g s) (s1.trans (g.step k1.ok.fh)) r3⟩⟩

theorem de_var (i : Nat) {x : Str} (hN : X.N[i]? = some x := by rfl) (hv : Vis X.env.scope x := by first | exact Or.inl rfl | exact Or.inr (Or.inl rfl) | exact Or.inr (Or.inr rfl)) (hd : (x == ("__debug__" : Str)) = false := by decide)
    (hcd : (x == ("__classdict__" : Str)) = false := by decide) : DE X A (.Name x pos) (fVar i) := pe_weak (pv i hN hv hd hcd) fun σ H Q h => by
  obtain ⟨F, G, en, Ψ, k, h, q⟩ := h
  unfold fVar at h
  cases eg : gt en i with
  | un => rw [eg] at h; exact h.elim
  | dat d =>
    rw [eg] at h
    obtain ⟨c, x⟩ := k.ex
    obtain ⟨v, e1, e2⟩ := x.dat i d eg
    exact ⟨v, e1, q d en v G H h k (Step.refl _ _) e2⟩
  | cel o =>
    rw [eg] at h
    obtain ⟨v, G', e1, k', s', r'⟩ := k.freeze eg
    exact ⟨v, e1, q _ _ v G' H h k' s' r'⟩
theorem le_c {K : PySem.W.Frag} {v : V} {d : D} (hr : ∀ G, Rep K G d v) {σ : L2.St} {H : Hp} {Q : VK} (h : LE K A (fC d) σ H Q) : tC v σ H Q := by
  obtain ⟨F, G, en, Ψ, k, h, q⟩ := h
  exact q d en v G H h k (Step.refl _ _) (hr G)
theorem de_int {i : Int} {j} : DE X A (.Constant (.int i) j pos) (fC (.int i)) := pe_weak pe_int fun _ _ _ h => le_c (fun G => rep_int.mpr rfl) h
theorem de_bl {i : Bool} {j} : DE X A (.Constant (.bool i) j pos) (fC (.bl i)) := pe_weak pe_bl fun _ _ _ h => le_c (fun G => rep_bl.mpr rfl) h
theorem de_non {j} : DE X A (.Constant .none j pos) (fC .non) := pe_weak pe_non fun _ _ _ h => le_c (fun G => rep_non.mpr rfl) h
theorem de_str {i : Str} {j} : DE X A (.Constant (.str i) j pos) (fC (.str i)) := pe_weak pe_str fun _ _ _ h => le_c (fun G => rep_str.mpr rfl) h
/-- a module's constant -/
theorem de_glob {x : Str} {u : Value} {v : V} {d : D} (hg : Gl X x) (hm : X.mg x = some u) (r : RelV v u) (hr : ∀ G, Rep X.K G d v) (hd : (x == ("__debug__" : Str)) = false := by decide) : DE X A (.Name x pos) (fC d) := pe_weak (pe_glob hg hm r hd) fun _ _ _ h => le_c hr h
theorem de_bltn {x : Str} {u : Value} {v : V} {d : D} (hg : Gl X x) (hm : X.mg x = none) (hv : bootBuiltins x = some u) (r : RelV v u) (hr : ∀ G, Rep X.K G d v) (hn : x ≠ "__name__" := by decide) (hd : (x == ("__debug__" : Str)) = false := by decide) : DE X A (.Name x pos) (fC d) :=
  pe_weak (pe_bltn hg hm hv r hn hd) fun _ _ _ h => le_c hr h
theorem de_op {op : Operator} {r : R2D} (ho : OpR X (binaryOp op) (LR2 X.K r)) (ha : DE X A a fa) (hb : DE X A b fb) : DE X A (.BinOp a op b pos) (fOp r fa fb) := pe_weak (pe_op ho ha hb) fun _ _ _ h => le_op h
theorem de_un {op : UnaryOp} {r : R1D} (ho : UnR X (unaryOp op) (LR1 X.K r)) (ha : DE X A a fa) : DE X A (.UnaryOp op a pos) (fUn r fa) := pe_weak (pe_un ho ha) fun _ _ _ h => le_un h
theorem de_cmp {op : CmpOp} {r : R2D} (ho : OpR X (compareOp op) (LR2 X.K r)) (ha : DE X A a fa) (hb : DE X A b fb) (hm : behindInMarks op b = false := by first | exact nobehind _ (by decide) (by decide) | rfl) : DE X A (.Compare a [op] [b] pos) (fOp r fa fb) :=
  pe_weak (pe_cmpR ho ha hb hm) fun _ _ _ h => le_op h
theorem de_ix {r : R2D} (hr : IxR X (LR2 X.K r)) (ha : DE X A a fa) (hb : DE X A b fb) (hs : PlainIx b := by exact fun _ _ => rfl) : DE X A (.Subscript a b pos) (fOp r fa fb) := pe_weak (pe_ix hr ha hb hs) fun _ _ _ h => le_op h
theorem da_nil : DA X A [] fNil := pa_weak pa_nil fun σ H Q h => by
  obtain ⟨F, G, en, Ψ, k, h, q⟩ := h
  exact q [] en [] G H h k (Step.refl _ _) .nil
theorem da_cons (ha : DE X A e fa) (hr : DA X A es fr) (hs : starEach (e :: es) X.env = (false, eval e X.env) :: starEach es X.env := by rfl) : DA X A (e :: es) (fCons fa fr) := pa_weak (pa_cons ha hr hs) fun σ H Q h => by
  obtain ⟨F, G, en, Ψ, k, h, q⟩ := h
  exact ⟨F, G, en, _, k, h, fun x e1 v1 G1 H1 hb k1 s1 r1 => ⟨F, G1, e1, _, k1, hb, fun y e2 v2 G2 H2 hr k2 s2 r2 => q _ e2 _ G2 H2 hr k2 (s1.trans s2) (.cons (r1.mono s2.g) r2)⟩⟩
/-- displays -/
def fTup (fr : FA) : FE := fun en Φ => fr en fun xs e1 => xs.length ≤ 100000 ∧ Φ (.tup xs) e1
def fLst (fr : FA) : FE := fun en Φ => fr en fun xs e1 => xs.length ≤ 100000 ∧ Φ (.lst xs) e1
theorem sz_of {n : Nat} (h : n ≤ 100000) : n ≤ sizeLine := Nat.le_trans h (by decide)
theorem de_tup {x1} (h : DA X A es fr) : DE X A (.Tuple es x1 pos) (fTup fr) := pe_weak (pe_tup h) fun σ H Q h => by
  obtain ⟨F, G, en, Ψ, k, h, q⟩ := h
  exact ⟨F, G, en, _, k, h, fun xs e1 vs G1 H1 hb k1 s1 r1 => ⟨by rw [r1.len]; exact sz_of hb.1, fun p hp => by
    have g : Grow G1 H1 (upd G1 p (.tup vs)) (upd H1 p (.tup vs)) := Grow.new k1.ok.gh hp
    exact q _ e1 _ _ _ hb.2 (k1.grow g (same_upd2 k1.ok.gh)) (s1.trans (g.step k1.ok.fh)) (rep_tup.mpr ⟨p, vs, rfl, .inl (.inl upd_same), r1.mono g.g⟩)⟩⟩
theorem de_lst (h : DA X A es fr) : DE X A (.List es pos) (fLst fr) := pe_weak (pe_lst h) fun σ H Q h => by
  obtain ⟨F, G, en, Ψ, k, h, q⟩ := h
  exact ⟨F, G, en, _, k, h, fun xs e1 vs G1 H1 hb k1 s1 r1 => ⟨by rw [r1.len]; exact sz_of hb.1, fun p hp => by
    have g : Grow G1 H1 (upd G1 p (.lst vs)) (upd H1 p (.lst vs)) := Grow.new k1.ok.gh hp
    exact q _ e1 _ _ _ hb.2 (k1.grow g (same_upd2 k1.ok.gh)) (s1.trans (g.step k1.ok.fh)) (rep_lst.mpr ⟨p, vs, rfl, upd_same, r1.mono g.g⟩)⟩⟩
/-- built-ins by name -/
theorem de_callB {x : Str} {p : Pos} {id : String} {r : RAD} (hc : CallR X (.builtin id) (LRA X.K r)) (hg : Gl X x) (hm : X.mg x = none) (hv : bootBuiltins x = some (.builtin id)) (ha : DA X A (e :: es) fr) (hn : x ≠ "__name__" := by decide) (hdb : (x == ("__debug__" : Str)) = false := by decide)
    (he : starEach (e :: es) X.env = (false, eval e X.env) :: starEach es X.env := by rfl) (hpl : (backTo pos (starEach es X.env)).any (·.1) = false := by rfl) : DE X A (.Call (.Name x p) (e :: es) [] pos) (fCB r fr) :=
  pe_weak (pe_callB hc hg hm hv ha hn hdb he hpl) fun _ _ _ h => le_cb h
theorem de_callTy {x : Str} {p : Pos} {T : String} {r : RAD} (hc : CallR X (.type T) (LRA X.K r)) (hg : Gl X x) (hm : X.mg x = none) (hv : bootBuiltins x = some (.type T)) (ha : DA X A (e :: es) fr) (hn : x ≠ "__name__" := by decide) (hdb : (x == ("__debug__" : Str)) = false := by decide)
    (he : starEach (e :: es) X.env = (false, eval e X.env) :: starEach es X.env := by rfl) (hpl : (backTo pos (starEach es X.env)).any (·.1) = false := by rfl) : DE X A (.Call (.Name x p) (e :: es) [] pos) (fCB r fr) :=
  pe_weak (pe_callTy hc hg hm hv ha hn hdb he hpl) fun _ _ _ h => le_cb h

/-! ### tests -/
def fTest (fa : FE) : FT := fun en Φ => fa en fun x e1 => ∃ k, x = .bl k ∧ Φ k e1
def fTAnd (f g : FT) : FT := fun en Φ => f en fun c e1 => if c = true then g e1 Φ else Φ false e1
def fTOr (f g : FT) : FT := fun en Φ => f en fun c e1 => if c = true then Φ true e1 else g e1 Φ
def fTNot (f : FT) : FT := fun en Φ => f en fun c e1 => Φ (!c) e1
theorem le_test {K : PySem.W.Frag} {σ : L2.St} {H : Hp} {Q : Bool → Hp → Prop} (h : LT K A (fTest fa) σ H Q) : LE K A fa σ H fun x H1 => ∃ k, x = .bl k ∧ Q k H1 := by
  obtain ⟨F, G, en, Ψ, k, h, q⟩ := h
  exact ⟨F, G, en, _, k, h, fun x e1 v1 G1 H1 hb k1 s1 r1 => by
    obtain ⟨b, rfl, hb⟩ := hb
    exact ⟨b, rep_bl.mp r1, q b e1 G1 H1 hb k1 s1⟩⟩
theorem dt_val (h : DE X A e fa) (he : ∀ whole, isTrue e X.env whole = (do let v ← whole; standAt e.pos; holding [v] (truthy v)) := by intro _; rfl) : DT X A e (fTest fa) := pt_weak (pt_val h he) fun σ H Q h => le_test h
theorem dt_cmp {op : CmpOp} {r : R2D} (ho : OpR X (compareOp op) (LR2 X.K r)) (ha : DE X A a fa) (hb : DE X A b fb) (hm : behindInMarks op b = false := by first | exact nobehind _ (by decide) (by decide) | rfl) : DT X A (.Compare a [op] [b] pos) (fTest (fOp r fa fb)) :=
  pt_weak (pt_cmpR ho ha hb hm) fun σ H Q h => by
    obtain ⟨F, G, en, Ψ, k, h, q⟩ := h
    exact ⟨F, G, en, _, k, h, fun x e1 v1 G1 H1 hb k1 s1 r1 => ⟨F, G1, e1, _, k1, hb, fun y e2 v2 G2 H2 hr k2 s2 r2 =>
      ⟨G2, x, y, _, k2.ok.gh, r1.mono s2.g, r2, hr, fun z w G3 H3 hz g s r3 => by
        obtain ⟨b, rfl, hz⟩ := hz
        exact ⟨b, rep_bl.mp r3, q b e2 G3 H3 hz (k2.grow g s) ((s1.trans s2).trans (g.step k2.ok.fh))⟩⟩⟩⟩
theorem dw_and1 (ha : DT X A a ft) : DW X A (.BoolOp .And [a] pos) ft := pw_and1 ha
theorem dw_or1 (ha : DT X A a ft) : DW X A (.BoolOp .Or [a] pos) ft := pw_or1 ha
theorem dw_and {rest : List Expr} (ha : DT X A a ft) (hb : DW X A (.BoolOp .And (b :: rest) pos) fu) : DW X A (.BoolOp .And (a :: b :: rest) pos) (fTAnd ft fu) := pw_weak (pw_and ha hb) fun σ H Q h => by
  obtain ⟨F, G, en, Ψ, k, h, q⟩ := h
  refine ⟨F, G, en, _, k, h, fun x e1 G1 H1 hb k1 s1 => ?_⟩
  cases x with
  | true => exact ⟨F, G1, e1, _, k1, hb, fun y e2 G2 H2 hr k2 s2 => q y e2 G2 H2 hr k2 (s1.trans s2)⟩
  | false => exact q false e1 G1 H1 hb k1 s1
theorem dw_or {rest : List Expr} (ha : DT X A a ft) (hb : DW X A (.BoolOp .Or (b :: rest) pos) fu) : DW X A (.BoolOp .Or (a :: b :: rest) pos) (fTOr ft fu) := pw_weak (pw_or ha hb) fun σ H Q h => by
  obtain ⟨F, G, en, Ψ, k, h, q⟩ := h
  refine ⟨F, G, en, _, k, h, fun x e1 G1 H1 hb k1 s1 => ?_⟩
  cases x with
  | false => exact ⟨F, G1, e1, _, k1, hb, fun y e2 G2 H2 hr k2 s2 => q y e2 G2 H2 hr k2 (s1.trans s2)⟩
  | true => exact q true e1 G1 H1 hb k1 s1
theorem dt_not (ha : DT X A a ft) : DT X A (.UnaryOp .Not a pos) (fTNot ft) := pt_weak (pt_not ha) fun σ H Q h => by
  obtain ⟨F, G, en, Ψ, k, h, q⟩ := h
  exact ⟨F, G, en, _, k, h, fun x e1 G1 H1 hb k1 s1 => q _ e1 G1 H1 hb k1 s1⟩
/-- .. as values -/
def fAndV (fa fb : FE) : FE := fun en Φ => fa en fun x e1 => ∃ c, x = .bl c ∧ if c = true then fb e1 Φ else Φ (.bl false) e1
def fOrV (fa fb : FE) : FE := fun en Φ => fa en fun x e1 => ∃ c, x = .bl c ∧ if c = true then Φ (.bl true) e1 else fb e1 Φ
def fNotV (fa : FE) : FE := fun en Φ => fa en fun x e1 => ∃ c, x = .bl c ∧ Φ (.bl (!c)) e1
def fIf (ft : FT) (fa fb : FE) : FE := fun en Φ => ft en fun c e1 => if c = true then fa e1 Φ else fb e1 Φ
theorem de_one {op} (h : DE X A a fa) : DE X A (.BoolOp op [a] pos) fa := pe_one h
theorem de_and {rest : List Expr} (ha : DE X A a fa) (hb : DE X A (.BoolOp .And (b :: rest) pos) fb) : DE X A (.BoolOp .And (a :: b :: rest) pos) (fAndV fa fb) := pe_weak (pe_and ha hb) fun σ H Q h => by
  obtain ⟨F, G, en, Ψ, k, h, q⟩ := h
  refine ⟨F, G, en, _, k, h, fun x e1 v1 G1 H1 hb k1 s1 r1 => ?_⟩
  obtain ⟨c, rfl, hb⟩ := hb
  refine ⟨c, rep_bl.mp r1, ?_⟩
  cases c with
  | true => exact ⟨F, G1, e1, _, k1, hb, fun y e2 v2 G2 H2 hr k2 s2 r2 => q y e2 v2 G2 H2 hr k2 (s1.trans s2) r2⟩
  | false => exact q _ e1 _ G1 H1 hb k1 s1 (rep_bl.mpr rfl)
theorem de_or {rest : List Expr} (ha : DE X A a fa) (hb : DE X A (.BoolOp .Or (b :: rest) pos) fb) : DE X A (.BoolOp .Or (a :: b :: rest) pos) (fOrV fa fb) := pe_weak (pe_or ha hb) fun σ H Q h => by
  obtain ⟨F, G, en, Ψ, k, h, q⟩ := h
  refine ⟨F, G, en, _, k, h, fun x e1 v1 G1 H1 hb k1 s1 r1 => ?_⟩
  obtain ⟨c, rfl, hb⟩ := hb
  refine ⟨c, rep_bl.mp r1, ?_⟩
  cases c with
  | false => exact ⟨F, G1, e1, _, k1, hb, fun y e2 v2 G2 H2 hr k2 s2 r2 => q y e2 v2 G2 H2 hr k2 (s1.trans s2) r2⟩
  | true => exact q _ e1 _ G1 H1 hb k1 s1 (rep_bl.mpr rfl)
theorem de_not (ha : DE X A a fa) : DE X A (.UnaryOp .Not a pos) (fNotV fa) := pe_weak (pe_not ha) fun σ H Q h => by
  obtain ⟨F, G, en, Ψ, k, h, q⟩ := h
  refine ⟨F, G, en, _, k, h, fun x e1 v1 G1 H1 hb k1 s1 r1 => ?_⟩
  obtain ⟨c, rfl, hb⟩ := hb
  exact ⟨c, rep_bl.mp r1, q _ e1 _ G1 H1 hb k1 s1 (rep_bl.mpr rfl)⟩
theorem de_if (hc : DT X A c ft) (ha : DE X A a fa) (hb : DE X A b fb) : DE X A (.IfExp c a b pos) (fIf ft fa fb) := pe_weak (pe_ifExp hc ha hb) fun σ H Q h => by
  obtain ⟨F, G, en, Ψ, k, h, q⟩ := h
  refine ⟨F, G, en, _, k, h, fun x e1 G1 H1 hb k1 s1 => ?_⟩
  cases x with
  | true => exact ⟨F, G1, e1, _, k1, hb, fun y e2 v2 G2 H2 hr k2 s2 r2 => q y e2 v2 G2 H2 hr k2 (s1.trans s2) r2⟩
  | false => exact ⟨F, G1, e1, _, k1, hb, fun y e2 v2 G2 H2 hr k2 s2 r2 => q y e2 v2 G2 H2 hr k2 (s1.trans s2) r2⟩
/-- chains -/
def fChain (r r' : R2D) (fa fb fc : FE) : FE := fun en Φ => fa en fun x e1 => fb e1 fun y e2 => r x y fun z => ∃ k, z = .bl k ∧ if k = true then fc e2 fun w e3 => r' y w fun z' => Φ z' e3 else Φ (.bl false) e2
theorem de_chain {op op' : CmpOp} {r r' : R2D} (ho : OpR X (compareOp op) (LR2 X.K r)) (ho' : OpR X (compareOp op') (LR2 X.K r')) (ha : DE X A a fa) (hb : DE X A b fb) (hc : DE X A c fc) (hm : lastMarks [op, op'] [b, c] = false := by with_unfolding_all rfl) : DE X A (.Compare a [op, op'] [b, c] pos) (fChain r r' fa fb fc) :=
  pe_weak (pe_chain ho ho' ha hb hc hm) fun σ H Q h => by
    obtain ⟨F, G, en, Ψ, k, h, q⟩ := h
    refine ⟨F, G, en, _, k, h, fun x e1 v1 G1 H1 hb k1 s1 r1 => ⟨F, G1, e1, _, k1, hb, fun y e2 v2 G2 H2 hr k2 s2 r2 =>
      ⟨G2, x, y, _, k2.ok.gh, r1.mono s2.g, r2, hr, fun z w G3 H3 hz g s r3 => ?_⟩⟩⟩
    obtain ⟨b, rfl, hz⟩ := hz
    refine ⟨b, rep_bl.mp r3, ?_⟩
    have k3 := k2.grow g s
    have s3 := (s1.trans s2).trans (g.step k2.ok.fh)
    cases b with
    | false => exact q _ e2 _ G3 H3 hz k3 s3 (rep_bl.mpr rfl)
    | true => exact ⟨F, G3, e2, _, k3, hz, fun w' e4 v4 G4 H4 hw k4 s4 r4 => ⟨G4, y, w', _, k4.ok.gh, (r2.mono g.g).mono s4.g, r4, hw, fun z5 w5 G5 H5 hz5 g5 s5 r5 => q z5 e4 w5 G5 H5 hz5 (k4.grow g5 s5) ((s3.trans s4).trans (g5.step k4.ok.fh)) r5⟩⟩
end
end Dz

namespace Dz
open PySem PySem.Spec PyProof.Rows L2

section
variable {K : PySem.W.Frag} {A : Am} {F G H G' H' : Hp} {σ : L2.St} {en : En}
/-- a slot takes a value -/
theorem EnvOk.put {i : Nat} {d : D} {v : V} (k : EnvOk K A F G H σ en) (r : Rep K G d v) : EnvOk K A F G H (σ.set i (some v)) (st en i (.dat d)) := by
  obtain ⟨c, x⟩ := k.ex
  refine ⟨k.ok, by rw [List.length_set, st_len]; exact k.len, c, fun j d' h => ?_, fun j o h => ?_, fun a b p q ha hb hc => ?_, ?_⟩
  · rw [gt_st] at h
    split at h
    · rename_i hj
      cases h
      refine ⟨v, ?_, r⟩
      rw [hj.1, List.getElem?_set_self (by rw [k.len]; exact hj.2)]
    · rename_i hj
      obtain ⟨w, h1, h2⟩ := x.dat j d' h
      refine ⟨w, ?_, h2⟩
      rw [List.getElem?_set_ne]
      · exact h1
      · intro z
        subst z
        refine hj ⟨rfl, ?_⟩
        rcases Nat.lt_or_ge i en.length with h' | h'
        · exact h'
        · exact absurd h1 (by rw [List.getElem?_eq_none (by rw [k.len]; exact h')]; intro z; cases z)
  · rw [gt_st] at h
    split at h
    · cases h
    · rename_i hj
      obtain ⟨h1, h2⟩ := x.cel j o h
      refine ⟨?_, h2⟩
      rw [List.getElem?_set_ne]
      · exact h1
      · intro z
        subst z
        refine hj ⟨rfl, ?_⟩
        rcases Nat.lt_or_ge i en.length with h' | h'
        · exact h'
        · exact absurd h1 (by rw [List.getElem?_eq_none (by rw [k.len]; exact h')]; intro z; cases z)
  · rw [gt_st] at ha hb
    split at ha
    · cases ha
    · split at hb
      · cases hb
      · exact x.inj a b p q ha hb hc
  · intro j q h
    rw [gt_st] at h
    split at h
    · cases h
    · exact x.pl j q h
/-- a slot is forgotten -/
theorem EnvOk.forget {i : Nat} {o : Option V} (k : EnvOk K A F G H σ en) : EnvOk K A F G H (σ.set i o) (st en i .un) := by
  obtain ⟨c, x⟩ := k.ex
  have lt_of : ∀ {j : Nat} {w : V}, σ[j]? = some (some w) → j < en.length := fun {j w} h1 => by
    rcases Nat.lt_or_ge j en.length with h' | h'
    · exact h'
    · exact absurd h1 (by rw [List.getElem?_eq_none (by rw [k.len]; exact h')]; intro z; cases z)
  refine ⟨k.ok, by rw [List.length_set, st_len]; exact k.len, c, fun j d' h => ?_, fun j o h => ?_, fun a b p q ha hb hc => ?_, ?_⟩
  · rw [gt_st] at h
    split at h
    · cases h
    · rename_i hj
      obtain ⟨w, h1, h2⟩ := x.dat j d' h
      refine ⟨w, ?_, h2⟩
      rw [List.getElem?_set_ne]
      · exact h1
      · intro z
        subst z
        exact hj ⟨rfl, lt_of h1⟩
  · rw [gt_st] at h
    split at h
    · cases h
    · rename_i hj
      obtain ⟨h1, h2⟩ := x.cel j o h
      refine ⟨?_, h2⟩
      rw [List.getElem?_set_ne]
      · exact h1
      · intro z
        subst z
        exact hj ⟨rfl, lt_of h1⟩
  · rw [gt_st] at ha hb
    split at ha
    · cases ha
    · split at hb
      · cases hb
      · exact x.inj a b p q ha hb hc
  · intro j q h
    rw [gt_st] at h
    split at h
    · cases h
    · exact x.pl j q h
/-- a new object in a temporary place -/
theorem gt_app_lt {e : EV} : ∀ {en : En} {i : Nat}, i < en.length → gt (en ++ [e]) i = gt en i
  | [], i, h => by simp at h
  | _ :: r, 0, _ => rfl
  | _ :: r, i + 1, h => by
    simp only [List.cons_append, gt]
    exact gt_app_lt (en := r) (by simpa using h)
theorem gt_app_eq {e : EV} : ∀ {en : En}, gt (en ++ [e]) en.length = e
  | [] => rfl
  | _ :: r => by
    simp only [List.cons_append, List.length_cons, gt]
    exact gt_app_eq (en := r)
theorem gt_ge : ∀ {en : En} {i : Nat}, en.length ≤ i → gt en i = .un
  | [], _, _ => rfl
  | _ :: r, 0, h => by simp at h
  | _ :: r, i + 1, h => by
    simp only [gt]
    exact gt_ge (en := r) (by simpa using h)
theorem EnvOk.newcell {p : Addr} {o : HD} {u : HO} (k : EnvOk K A F G H σ en) (hp : H p = none) (r : RepO K G o u) (hat : o.pl p := by trivial) : EnvOk K A F G (upd H p u) (σ ++ [some (.ref p)]) (en ++ [.cel o]) := by
  have g : Grow G H G (upd H p u) := Grow.tmp hp
  have sg : Same G (upd H p u) := k.ok.gh.trans (same_new hp)
  obtain ⟨c, x⟩ := (k.grow g sg).ex
  have k2 := k.grow g sg
  have lt_of : ∀ {j : Nat} {q : EV}, gt (en ++ [.cel o]) j = q → q ≠ .un → j ≠ en.length → j < en.length := fun {j q} h1 h2 h3 => by
    rcases Nat.lt_or_ge j en.length with h' | h'
    · exact h'
    · refine absurd (gt_ge (en := en ++ [.cel o]) (i := j) ?_) (by rw [h1]; exact h2)
      rw [List.length_append]
      show en.length + 1 ≤ j
      omega
  have get_lt : ∀ {j : Nat}, j < en.length → (σ ++ [some (V.ref p)])[j]? = σ[j]? := fun {j} h => by
    rw [List.getElem?_append_left (by rw [k.len]; exact h)]
  have cfresh : ∀ j, ∀ q, gt en j = .cel q → c j ≠ p := fun j q h z => by
    obtain ⟨c0, x0⟩ := k.ex
    obtain ⟨e1, ⟨u1, e2, _⟩, _⟩ := x0.cel j q h
    obtain ⟨f1, _⟩ := x.cel j q h
    rw [e1] at f1
    have e3 : c0 j = c j := by injection f1 with f1; injection f1 with f1; injection f1
    rw [e3, z] at e2
    rw [hp] at e2; cases e2
  refine ⟨k2.ok, by rw [List.length_append, List.length_append, k.len]; rfl, fun j => if j = en.length then p else c j, fun j d h => ?_, fun j q h => ?_, fun a b q1 q2 ha hb hc => ?_, fun j q h => ?_⟩
  · have hj : j ≠ en.length := fun z => by subst z; rw [gt_app_eq] at h; cases h
    have hl := lt_of h (by intro z; cases z) hj
    rw [gt_app_lt hl] at h
    rw [get_lt hl]
    exact x.dat j d h
  · by_cases hj : j = en.length
    · subst hj
      rw [gt_app_eq] at h
      cases h
      simp only [if_pos]
      refine ⟨?_, ⟨u, upd_same, r⟩, ?_, ?_, fun q hq => ?_⟩
      · rw [List.getElem?_append_right (by rw [k.len]; exact Nat.le_refl _), k.len, Nat.sub_self]; rfl
      · exact k.ok.gh.free hp
      · exact k.ok.fh.free hp
      · intro z
        obtain ⟨_, _, _, e, _⟩ := k.ok.am q hq
        rw [z, hp] at e; cases e
    · have hl := lt_of h (by intro z; cases z) hj
      rw [gt_app_lt hl] at h
      simp only [if_neg hj]
      rw [get_lt hl]
      exact x.cel j q h
  · by_cases h1 : a = en.length
    · by_cases h2 : b = en.length
      · rw [h1, h2]
      · have hl := lt_of hb (by intro z; cases z) h2
        rw [gt_app_lt hl] at hb
        simp only [if_pos h1, if_neg h2] at hc
        exact absurd hc.symm (cfresh b q2 hb)
    · have hl := lt_of ha (by intro z; cases z) h1
      rw [gt_app_lt hl] at ha
      by_cases h2 : b = en.length
      · simp only [if_pos h2, if_neg h1] at hc
        exact absurd hc (cfresh a q1 ha)
      · have hl2 := lt_of hb (by intro z; cases z) h2
        rw [gt_app_lt hl2] at hb
        simp only [if_neg h2, if_neg h1] at hc
        exact x.inj a b q1 q2 ha hb hc
  · by_cases hj : j = en.length
    · subst hj
      rw [gt_app_eq] at h
      cases h
      simp only [if_pos]
      exact hat
    · have hl := lt_of h (by intro z; cases z) hj
      rw [gt_app_lt hl] at h
      simp only [if_neg hj]
      exact x.pl j q h
/-- the temporary place is left, the object moves to a slot -/
theorem EnvOk.move {p : Addr} {o : HD} {i : Nat} (k : EnvOk K A F G H (σ ++ [some (.ref p)]) (en ++ [.cel o])) : EnvOk K A F G H (σ.set i (some (.ref p))) (st en i (.cel o)) := by
  obtain ⟨c, x⟩ := k.ex
  have hlen : σ.length = en.length := by
    have h := k.len
    rw [List.length_append, List.length_append] at h
    exact Nat.add_right_cancel h
  have get_lt : ∀ {j : Nat}, j < en.length → (σ ++ [some (V.ref p)])[j]? = σ[j]? := fun {j} h => by
    rw [List.getElem?_append_left (by rw [hlen]; exact h)]
  have lt_of : ∀ {j : Nat} {q : EV}, gt en j = q → q ≠ .un → j < en.length := fun {j q} h1 h2 => by
    rcases Nat.lt_or_ge j en.length with h' | h'
    · exact h'
    · exact absurd (gt_ge h') (by rw [h1]; exact h2)
  obtain ⟨t1, t2⟩ := x.cel en.length o gt_app_eq
  have cp : c en.length = p := by
    rw [List.getElem?_append_right (by rw [hlen]; exact Nat.le_refl _), hlen, Nat.sub_self] at t1
    have t1 : some (some (V.ref p)) = some (some (V.ref (c en.length))) := t1
    injection t1 with t1; injection t1 with t1; injection t1 with t1; exact t1.symm
  rw [cp] at t2
  refine ⟨k.ok, by rw [List.length_set, st_len]; exact hlen, fun j => if j = i then p else c j, fun j d h => ?_, fun j q h => ?_, fun a b q1 q2 ha hb hc => ?_, fun j q h => ?_⟩
  · rw [gt_st] at h
    split at h
    · cases h
    · rename_i hj
      have hl := lt_of h (by intro z; cases z)
      rw [List.getElem?_set_ne (by intro z; subst z; exact hj ⟨rfl, hl⟩)]
      obtain ⟨v, e1, e2⟩ := x.dat j d (by rw [gt_app_lt hl]; exact h)
      rw [get_lt hl] at e1
      exact ⟨v, e1, e2⟩
  · rw [gt_st] at h
    split at h
    · rename_i hj
      cases h
      have ej := hj.1
      subst ej
      simp only [if_pos]
      exact ⟨by rw [List.getElem?_set_self (by rw [hlen]; exact hj.2)], t2⟩
    · rename_i hj
      have hl := lt_of h (by intro z; cases z)
      have hji : j ≠ i := by intro z; subst z; exact hj ⟨rfl, hl⟩
      rw [List.getElem?_set_ne hji.symm]
      obtain ⟨e1, e2⟩ := x.cel j q (by rw [gt_app_lt hl]; exact h)
      rw [get_lt hl] at e1
      simp only [if_neg hji]
      exact ⟨e1, e2⟩
  · have key : ∀ j q, gt (st en i (.cel o)) j = .cel q → j ≠ i → gt (en ++ [.cel o]) j = .cel q ∧ j < en.length := fun j q h hj => by
      rw [gt_st, if_neg (fun z => hj z.1)] at h
      have hl := lt_of h (by intro z; cases z)
      exact ⟨by rw [gt_app_lt hl]; exact h, hl⟩
    have kei : ∀ q, gt (st en i (.cel o)) i = .cel q → i < en.length := fun q h => by
      rw [gt_st] at h
      split at h
      · rename_i z; exact z.2
      · exact lt_of h (by intro z; cases z)
    by_cases h1 : a = i
    · by_cases h2 : b = i
      · rw [h1, h2]
      · obtain ⟨hb', lb⟩ := key b q2 hb h2
        simp only [if_pos h1, if_neg h2] at hc
        have := x.inj en.length b o q2 gt_app_eq hb' (by rw [cp]; exact hc)
        omega
    · obtain ⟨ha', la⟩ := key a q1 ha h1
      by_cases h2 : b = i
      · simp only [if_pos h2, if_neg h1] at hc
        have := x.inj en.length a o q1 gt_app_eq ha' (by rw [cp]; exact hc.symm)
        omega
      · obtain ⟨hb', lb⟩ := key b q2 hb h2
        simp only [if_neg h2, if_neg h1] at hc
        exact x.inj a b q1 q2 ha' hb' hc
  · rw [gt_st] at h
    split at h
    · rename_i hj
      cases h
      have ej := hj.1
      subst ej
      simp only [if_pos]
      have := x.pl en.length o gt_app_eq
      rw [cp] at this
      exact this
    · rename_i hj
      have hl := lt_of h (by intro z; cases z)
      have hji : j ≠ i := by intro z; subst z; exact hj ⟨rfl, hl⟩
      simp only [if_neg hji]
      exact x.pl j q (by rw [gt_app_lt hl]; exact h)
/-- the object of a slot changes -/
theorem EnvOk.alter {i : Nat} {o o' : HD} {a : Addr} {u' : HO} (k : EnvOk K A F G H σ en) (e : gt en i = .cel o) (ha : σ[i]? = some (some (.ref a))) (r : RepO K G o' u') (hat : o'.pl a := by trivial) : EnvOk K A F G (upd H a u') σ (st en i (.cel o')) := by
  obtain ⟨c, x⟩ := k.ex
  obtain ⟨e1, ⟨u, e2, e3⟩, e4, e5, e6⟩ := x.cel i o e
  have ca : c i = a := by
    rw [ha] at e1
    injection e1 with e1; injection e1 with e1; injection e1 with e1; exact e1.symm
  subst ca
  have hl : i < en.length := by
    rcases Nat.lt_or_ge i en.length with h' | h'
    · exact h'
    · rw [gt_ge h'] at e; cases e
  have sG : Same G (upd H (c i) u') := fun b w hb => by
    rw [upd_ne (fun z => by subst z; rw [e4] at hb; cases hb)]
    exact k.ok.gh _ _ hb
  refine ⟨⟨⟨sG, fun b w hb => ?_, k.ok.fa, fun q hq => ?_⟩, k.ok.bz, k.ok.bg⟩, by rw [st_len]; exact k.len, c, fun j d h => ?_, fun j q h => ?_, fun s t q1 q2 hs ht hc => ?_, fun j q h => ?_⟩
  · rw [upd_ne (fun z => by subst z; rw [e5] at hb; cases hb)]
    exact k.ok.fh _ _ hb
  · obtain ⟨a1, o1, u1, a2, a3, a4⟩ := k.ok.am q hq
    exact ⟨a1, o1, u1, by rw [upd_ne (e6 q hq)]; exact a2, a3, a4⟩
  · rw [gt_st] at h
    split at h
    · cases h
    · exact x.dat j d h
  · rw [gt_st] at h
    split at h
    · rename_i hj
      cases h
      have ej := hj.1
      subst ej
      exact ⟨ha, ⟨u', upd_same, r⟩, e4, e5, e6⟩
    · rename_i hj
      obtain ⟨f1, ⟨u1, f2, f3⟩, f4⟩ := x.cel j q h
      have nj : c j ≠ c i := fun z => by
        have := x.inj j i q o h e z
        exact hj ⟨this, hl⟩
      exact ⟨f1, ⟨u1, by rw [upd_ne nj]; exact f2, f3⟩, f4⟩
  · have key : ∀ j q, gt (st en i (.cel o')) j = .cel q → ∃ q', gt en j = .cel q' := fun j q h => by
      rw [gt_st] at h
      split at h
      · rename_i z; rw [z.1]; exact ⟨o, e⟩
      · exact ⟨q, h⟩
    obtain ⟨p1, h1⟩ := key s q1 hs
    obtain ⟨p2, h2⟩ := key t q2 ht
    exact x.inj s t p1 p2 h1 h2 hc
  · rw [gt_st] at h
    split at h
    · rename_i hj
      cases h
      rw [hj.1]
      exact hat
    · exact x.pl j q h
/-- the frame may grow -/
theorem EnvOk.slot {i : Nat} {o : HD} (k : EnvOk K A F G H σ en) (e : gt en i = .cel o) : ∃ a u, σ[i]? = some (some (.ref a)) ∧ H a = some u ∧ RepO K G o u := by
  obtain ⟨c, x⟩ := k.ex
  obtain ⟨e1, ⟨u, e2, e3⟩, _⟩ := x.cel i o e
  exact ⟨c i, u, e1, e2, e3⟩
end

/-! ### statements -/
structure Ed where
  nx : En → Prop
  rt : D → Prop
  bk : En → Prop := fun _ => False
  ct : En → Prop := fun _ => False
abbrev FS := En → Ed → Prop
def LS (K : PySem.W.Frag) (A : Am) (f : FS) : TS := fun Dd σ H => ∃ (F G : Hp) (en : En) (Ψ : Ed), EnvOk K A F G H σ en ∧ f en Ψ ∧
  (∀ e σ' G' H', Ψ.nx e → EnvOk K A F G' H' σ' e → Step F G G' → Dd.nx σ' H') ∧
  (∀ d v G' H', Ψ.rt d → StOk K A F G' H' → Step F G G' → Rep K G' d v → Dd.rt v H') ∧
  (∀ e σ' G' H', Ψ.bk e → EnvOk K A F G' H' σ' e → Step F G G' → Dd.bk σ' H') ∧
  (∀ e σ' G' H', Ψ.ct e → EnvOk K A F G' H' σ' e → Step F G G' → Dd.ct σ' H')
abbrev DS (X : Cx) (A : Am) (s : Stmt) (f : FS) : Prop := PS X s (LS X.K A f)
abbrev DSs (X : Cx) (A : Am) (s : List Stmt) (f : FS) : Prop := PSs X s (LS X.K A f)
def fNext : FS := fun en Ψ => Ψ.nx en
def fSeq (f g : FS) : FS := fun en Ψ => f en { Ψ with nx := fun e => g e Ψ }
def fDrop (fa : FE) : FS := fun en Ψ => fa en fun _ e => Ψ.nx e
def fRet (fa : FE) : FS := fun en Ψ => fa en fun d _ => Ψ.rt d
def fRetN : FS := fun en Ψ => Ψ.rt .non
def fIfS (ft : FT) (f g : FS) : FS := fun en Ψ => ft en fun c e => if c = true then f e Ψ else g e Ψ
def fBreak : FS := fun en Ψ => Ψ.bk en
def fCont : FS := fun en Ψ => Ψ.ct en
section
variable {X : Cx} {A : Am} {s : Stmt} {ss : List Stmt} {e a b c : Expr} {es : List Expr} {pos : Pos} {fa fb : FE} {ft : FT} {f g h : FS}
theorem dss_nil : DSs X A [] fNext := pss_weak pss_nil fun Dd σ H ⟨F, G, en, Ψ, k, h, q, _⟩ => q en σ G H h k (Step.refl _ _)
theorem dss_cons (h1 : DS X A s f) (h2 : DSs X A ss g) : DSs X A (s :: ss) (fSeq f g) := pss_weak (pss_cons h1 h2) fun Dd σ H ⟨F, G, en, Ψ, k, h, q1, q2, q3, q4⟩ =>
  ⟨F, G, en, _, k, h, fun e σ' G1 H1 hg k1 s1 => ⟨F, G1, e, Ψ, k1, hg, fun e2 σ2 G2 H2 z k2 s2 => q1 e2 σ2 G2 H2 z k2 (s1.trans s2), fun d v G2 H2 z k2 s2 => q2 d v G2 H2 z k2 (s1.trans s2), fun e2 σ2 G2 H2 z k2 s2 => q3 e2 σ2 G2 H2 z k2 (s1.trans s2), fun e2 σ2 G2 H2 z k2 s2 => q4 e2 σ2 G2 H2 z k2 (s1.trans s2)⟩, q2, q3, q4⟩
theorem dss_one (h1 : DS X A s f) : DSs X A [s] f := pss_one h1
theorem ds_pass {p : Pos} : DS X A (.Pass p) fNext := ps_weak ps_pass fun Dd σ H ⟨F, G, en, Ψ, k, h, q, _⟩ => q en σ G H h k (Step.refl _ _)
theorem ds_break {p : Pos} : DS X A (.Break p) fBreak := ps_weak ps_break fun Dd σ H ⟨F, G, en, Ψ, k, h, _, _, q, _⟩ => q en σ G H h k (Step.refl _ _)
theorem ds_cont {p : Pos} : DS X A (.Continue p) fCont := ps_weak ps_continue fun Dd σ H ⟨F, G, en, Ψ, k, h, _, _, _, q⟩ => q en σ G H h k (Step.refl _ _)
theorem ds_expr (he : DE X A e fa) (hs : swapsWith e none pos.line X.env = pure false := by rfl) : DS X A (.Expr e pos) (fDrop fa) := ps_weak (ps_expr he hs) fun Dd σ H ⟨F, G, en, Ψ, k, h, q1, _⟩ =>
  ⟨F, G, en, _, k, h, fun d e1 v G1 H1 z k1 s1 _ => q1 e1 σ G1 H1 z k1 s1⟩
theorem ds_ret (he : DE X A e fa) : DS X A (.Return (some e) pos) (fRet fa) := ps_weak (ps_ret he) fun Dd σ H ⟨F, G, en, Ψ, k, h, _, q2, _⟩ =>
  ⟨F, G, en, _, k, h, fun d e1 v G1 H1 z k1 s1 r1 => q2 d v G1 H1 z k1.ok s1 r1⟩
theorem ds_retN : DS X A (.Return none pos) fRetN := ps_weak ps_retN fun Dd σ H ⟨F, G, en, Ψ, k, h, _, q2, _⟩ => q2 .non .non G H h k.ok (Step.refl _ _) (rep_non.mpr rfl)
theorem ds_if {sa sb : List Stmt} (hc : DT X A c ft) (ha : DSs X A sa f) (hb : DSs X A sb g) : DS X A (.If c sa sb pos) (fIfS ft f g) := ps_weak (ps_if hc ha hb) fun Dd σ H ⟨F, G, en, Ψ, k, h, q1, q2, q3, q4⟩ => by
  refine ⟨F, G, en, _, k, h, fun b e1 G1 H1 hg k1 s1 => ?_⟩
  cases b with
  | true => exact ⟨F, G1, e1, Ψ, k1, hg, fun e2 σ2 G2 H2 z k2 s2 => q1 e2 σ2 G2 H2 z k2 (s1.trans s2), fun d v G2 H2 z k2 s2 => q2 d v G2 H2 z k2 (s1.trans s2), fun e2 σ2 G2 H2 z k2 s2 => q3 e2 σ2 G2 H2 z k2 (s1.trans s2), fun e2 σ2 G2 H2 z k2 s2 => q4 e2 σ2 G2 H2 z k2 (s1.trans s2)⟩
  | false => exact ⟨F, G1, e1, Ψ, k1, hg, fun e2 σ2 G2 H2 z k2 s2 => q1 e2 σ2 G2 H2 z k2 (s1.trans s2), fun d v G2 H2 z k2 s2 => q2 d v G2 H2 z k2 (s1.trans s2), fun e2 σ2 G2 H2 z k2 s2 => q3 e2 σ2 G2 H2 z k2 (s1.trans s2), fun e2 σ2 G2 H2 z k2 s2 => q4 e2 σ2 G2 H2 z k2 (s1.trans s2)⟩

/-! ### targets -/
abbrev FG := D → En → (En → Prop) → Prop
abbrev FGs := List D → En → (En → Prop) → Prop
def LG (K : PySem.W.Frag) (A : Am) (vs : List Nat) (g : FG) : TG := fun v σ H Q => ∃ (F G : Hp) (en : En) (d : D) (Ψ : En → Prop), EnvOk K A F G H σ en ∧ Rep K G d v ∧ g d en Ψ ∧
  ∀ e σ' G' H', Ψ e → EnvOk K A F G' H' σ' e → Step F G G' → wipe σ' vs = wipe σ vs → Q σ' H'
def LGs (K : PySem.W.Frag) (A : Am) (vs : List Nat) (g : FGs) : TGs := fun v σ H Q => ∃ (F G : Hp) (en : En) (d : List D) (Ψ : En → Prop), EnvOk K A F G H σ en ∧ RepA K G d v ∧ g d en Ψ ∧
  ∀ e σ' G' H', Ψ e → EnvOk K A F G' H' σ' e → Step F G G' → wipe σ' vs = wipe σ vs → Q σ' H'
abbrev DG (X : Cx) (A : Am) (vs : List Nat) (t : Expr) (g : FG) : Prop := PG X t (LG X.K A vs g)
abbrev DGs (X : Cx) (A : Am) (vs : List Nat) (t : List Expr) (g : FGs) : Prop := PGs X t (LGs X.K A vs g)
theorem pg_weak {X : Cx} {e : Expr} {t t' : TG} (h : PG X e t) (k : ∀ v σ H Q, t' v σ H Q → t v σ H Q) : PG X e t' := ⟨fun pins s σ H v u Q I r q => h.run pins s σ H v u Q I r (k v σ H Q q)⟩
theorem pgs_weak {X : Cx} {e : List Expr} {t t' : TGs} (h : PGs X e t) (k : ∀ v σ H Q, t' v σ H Q → t v σ H Q) : PGs X e t' := ⟨fun pins s σ H v u Q I r q => h.run pins s σ H v u Q I r (k v σ H Q q)⟩
theorem wipe_set {v : Option V} {i : Nat} : ∀ {vs : List Nat} {σ : L2.St}, i ∈ vs → wipe (σ.set i v) vs = wipe σ vs
  | [], _, h => by simp at h
  | w :: vs, σ, h => by
    unfold wipe
    by_cases hw : i ∈ vs
    · rw [wipe_set hw]
    · have : i = w := by
        rcases List.mem_cons.mp h with z | z
        · exact z
        · exact absurd z hw
      subst this
      clear h
      have aux : ∀ (vs : List Nat) (σ : L2.St), (wipe (σ.set i v) vs).set i none = (wipe σ vs).set i none := fun vs => by
        induction vs with
        | nil => intro σ; unfold wipe; rw [List.set_set]
        | cons x r ih =>
          intro σ
          unfold wipe
          by_cases hx : x = i
          · subst hx; rw [List.set_set, List.set_set, ih]
          · rw [List.set_comm _ _ (by exact hx), ih, List.set_comm _ _ (by exact fun z => hx z.symm)]
      exact aux vs σ
def gN (i : Nat) : FG := fun d en Φ => Φ (st en i (.dat d))
theorem dg_name {i : Nat} {x : Str} {vs : List Nat} (hN : X.N.Nodup) (hi : X.N[i]? = some x) (hx : Loc X.env.scope x) (hm : i ∈ vs := by decide) (hf : X.fn x = true ∨ X.env.scope.names.lookup x = some .local := by first | exact .inl rfl | exact .inr rfl | assumption) : DG X A vs (.Name x pos) (gN i) :=
  pg_weak (pg_name hN hi hx hf) fun v σ H Q ⟨F, G, en, d, Ψ, k, r, h, q⟩ => q _ _ G H h (k.put r) (Step.refl _ _) (wipe_set hm)
def gNl : FGs := fun ds en Φ => ds = [] ∧ Φ en
def gCs (g : FG) (gs : FGs) : FGs := fun ds en Φ => match ds with
  | d :: r => g d en fun e => gs r e Φ
  | [] => False
theorem dgs_nil {vs : List Nat} : DGs X A vs [] gNl := pgs_weak pgs_nil fun v σ H Q ⟨F, G, en, d, Ψ, k, r, h, q⟩ => by
  obtain ⟨rfl, h⟩ := h
  unfold RepA at r
  exact ⟨r, q _ _ G H h k (Step.refl _ _) rfl⟩
theorem dgs_cons {vs : List Nat} {gg : FG} {gs : FGs} (h1 : DG X A vs e gg) (h2 : DGs X A vs es gs) (hs : (assignEach (e :: es) X.env).map (·.2) = assign e X.env :: (assignEach es X.env).map (·.2) := by rfl) : DGs X A vs (e :: es) (gCs gg gs) :=
  pgs_weak (pgs_cons h1 h2 hs) fun v σ H Q ⟨F, G, en, d, Ψ, k, r, h, q⟩ => by
    cases d with
    | nil => exact h.elim
    | cons d0 dr =>
      unfold RepA at r
      obtain ⟨x, xs, rfl, r1, r2⟩ := r
      exact ⟨x, xs, rfl, F, G, en, d0, _, k, r1, h, fun e1 σ1 G1 H1 hh k1 s1 w1 => ⟨F, G1, e1, dr, _, k1, r2.mono s1.g, hh, fun e2 σ2 G2 H2 z k2 s2 w2 => q e2 σ2 G2 H2 z k2 (s1.trans s2) (w2.trans w1)⟩⟩
def gT (n : Nat) (gs : FGs) : FG := fun d en Φ => match d with
  | .tup l => l.length = n ∧ gs l en Φ
  | _ => False
theorem dg_tup {vs : List Nat} {k : Nat} {gs : FGs} {n : Nat} (hc : X.calm = true) (h : DGs X A vs es gs) (hn : (assignEach es X.env).length = n := by rfl) (hst : (assignEach es X.env).findIdx? (·.1) = none := by rfl) : DG X A vs (.Tuple es k pos) (gT n gs) :=
  pg_weak (pg_tup hc h hn hst) fun v σ H Q ⟨F, G, en, d, Ψ, kk, r, h, q⟩ => by
    cases d with
    | tup l =>
      obtain ⟨hl, h⟩ := h
      obtain ⟨a, xs, rfl, sq, ra⟩ := rep_tup.mp r
      exact ⟨a, xs, rfl, sqt_mono kk.ok.gh sq, by rw [ra.len]; exact hl, F, G, en, l, Ψ, kk, ra, h, q⟩
    | _ => exact h.elim
def fAsg (fa : FE) (g : FG) : FS := fun en Ψ => fa en fun d e => g d e Ψ.nx
theorem ds_asg {tg : Expr} {vs : List Nat} {gg : FG} (he : DE X A e fa) (hg : DG X A vs tg gg) (hs : swapsWithSole [tg] e pos.line X.env = pure false := by rfl) (hw : swappedStores [tg] e X.env = pure none := by rfl)
    (h1 : (assignEach [tg] X.env).map (·.2) = [assign tg X.env] := by rfl) : DS X A (.Assign [tg] e pos) (fAsg fa gg) := ps_weak (ps_asg he hg hs hw h1) fun Dd σ H ⟨F, G, en, Ψ, k, h, q1, _⟩ =>
  ⟨F, G, en, _, k, h, fun d e1 v G1 H1 z k1 s1 r1 => ⟨F, G1, e1, d, Ψ.nx, k1, r1, z, fun e2 σ2 G2 H2 z2 k2 s2 _ => q1 e2 σ2 G2 H2 z2 k2 (s1.trans s2)⟩⟩
/-- a, b = e1, e2 -/
def fPar (i j : Nat) (fr : FA) : FS := fun en Ψ => fr en fun xs e => match xs with
  | [x, y] => Ψ.nx (st (st e i (.dat x)) j (.dat y))
  | _ => False
theorem ds_par {i j : Nat} {x y : Str} {fr : FA} {px py pt : Pos} {kt k2 pt2} (hc : X.calm = true) (hN : X.N.Nodup) (hi : X.N[i]? = some x) (hj : X.N[j]? = some y) (hij : i ≠ j)
    (hx : X.env.scope.names.lookup x = some .local) (hy : X.env.scope.names.lookup y = some .local) (ha : DA X A [a, b] fr)
    (hw : swappedStores [.Tuple [.Name x px, .Name y py] kt pt] (.Tuple [a, b] k2 pt2) X.env = pure (some [x, y]) := by rfl)
    (hs : swapsWithSole [.Tuple [.Name x px, .Name y py] kt pt] (.Tuple [a, b] k2 pt2) pos.line X.env = pure false := by rfl) :
    DS X A (.Assign [.Tuple [.Name x px, .Name y py] kt pt] (.Tuple [a, b] k2 pt2) pos) (fPar i j fr) := ps_weak (ps_par hc hN hi hj hij hx hy ha hw hs) fun Dd σ H ⟨F, G, en, Ψ, k, h, q1, _⟩ =>
  ⟨F, G, en, _, k, h, fun d e1 v G1 H1 z k1 s1 r1 => by
    match d, z with
    | [d1, d2], z =>
      unfold RepA at r1
      obtain ⟨v1, r, rfl, p1, r1⟩ := r1
      unfold RepA at r1
      obtain ⟨v2, r, rfl, p2, r1⟩ := r1
      unfold RepA at r1
      subst r1
      exact ⟨v1, v2, rfl, q1 _ _ G1 H1 z ((k1.put p1).put p2) s1⟩⟩
/-- x op= e -/
def fAug (i : Nat) (fe : FE) (r : R2D) : FS := fun en Ψ => match gt en i with
  | .dat x => fe en fun y e => gt e i = .dat x ∧ r x y fun z => Ψ.nx (st e i (.dat z))
  | _ => False
theorem ds_aug {i : Nat} {x : Str} {op : Operator} {r : R2D} {pos' : Pos} (hN : X.N.Nodup) (hi : X.N[i]? = some x) (hx : Loc X.env.scope x) (he : DE X A e fa) (ho : PIp X op (LR2 X.K r))
    (hf : X.fn x = true ∨ X.env.scope.names.lookup x = some .local := by first | exact .inl rfl | exact .inr rfl | assumption) : DS X A (.AugAssign (.Name x pos') op e pos) (fAug i fa r) := ps_weak (ps_aug hN hi hx he ho hf) fun Dd σ H ⟨F, G, en, Ψ, k, h, q1, _⟩ => by
  unfold fAug at h
  cases eg : gt en i with
  | un => rw [eg] at h; exact h.elim
  | cel o => rw [eg] at h; exact h.elim
  | dat d =>
    rw [eg] at h
    obtain ⟨c, sl⟩ := k.ex
    obtain ⟨v, e1, e2⟩ := sl.dat i d eg
    exact ⟨v, e1, F, G, en, _, k, h, fun y ey w G1 H1 hz k1 s1 r1 => ⟨G1, d, y, _, k1.ok.gh, e2.mono s1.g, r1, hz.2, fun z u G2 H2 h2 g2 s2 r2 => q1 _ _ G2 H2 h2 ((k1.grow g2 s2).put r2) (s1.trans (g2.step k1.ok.fh))⟩⟩

/-! ### what a loop walks -/
abbrev FI := En → (List D → En → Prop) → Prop
/-- an iterator that yields these data -/
structure Yl (K : PySem.W.Frag) (J : It) (G : Hp) (items : List D) : Prop where
  go : ∀ G1 H1 k, Same G G1 → Same G1 H1 → k < items.length → J.go k H1
  yl : ∀ G1 H1 k x H2 d, Same G G1 → Same G1 H1 → items[k]? = some d → J.yld k H1 x H2 → ∃ G2, Grow G1 H1 G2 H2 ∧ Same G2 H2 ∧ Rep K G2 d x
  sp : ∀ G1 H1 k, Same G G1 → Same G1 H1 → items.length ≤ k → J.stop k H1
def LI (K : PySem.W.Frag) (A : Am) (f : FI) : TI := fun σ H R => ∃ (F G : Hp) (en : En) (Ψ : List D → En → Prop), EnvOk K A F G H σ en ∧ f en Ψ ∧
  ∀ items e' G' H' J, Ψ items e' → EnvOk K A F G' H' σ e' → Step F G G' → Yl K J G' items → R J H'
abbrev DI (X : Cx) (A : Am) (tg e : Expr) (f : FI) : Prop := PI X tg e (LI X.K A f)
/-- what a for asks behind its source -/
def ForGoal (g : FG) (fb : FS) (e1 : En) (items : List D) (Ψ : Ed) : Prop := ∃ I : Nat → En → Prop, I 0 e1 ∧
  (∀ k x e, items[k]? = some x → I k e → g x e fun e2 => fb e2 { nx := I (k + 1), ct := I (k + 1), bk := Ψ.nx, rt := Ψ.rt }) ∧ ∀ e, I items.length e → Ψ.nx e
def fFor (fi : FI) (g : FG) (fb : FS) : FS := fun en Ψ => fi en fun items e1 => ForGoal g fb e1 items Ψ
theorem ds_for {iter tg : Expr} {body : List Stmt} {fi : FI} {gg : FG} {fb : FS} {vs : List Nat} (hp : PassesOwn (model X.prog X.w) X.A X.env X.xe) (hc : X.calm = true) (hi : DI X A tg iter fi) (hg : DG X A vs tg gg) (hb : DSs X A body fb)
    (hs : ∀ x, foldedSetIterable iter X.env x = pure x := by intro _; rfl) : DS X A (.For tg iter body [] pos) (fFor fi gg fb) := ps_weak (ps_for hp hc hi hg hb hs) fun Dd σ H ⟨F, G, en, Ψ, k, h, q1, q2, q3, q4⟩ =>
  ⟨F, G, en, _, k, h, fun items e1 G1 H1 J hI k1 s1 Y => by
    obtain ⟨I, i0, it, id⟩ := hI
    refine ⟨fun i m σ' H' => ∃ e G', EnvOk X.K A F G' H' σ' e ∧ Step F G1 G' ∧ I i e ∧ i + m = items.length, ⟨items.length, e1, G1, k1, Step.refl _ _, i0, by omega⟩, fun i m σ2 H2 w => ?_⟩
    obtain ⟨e2, G2, k2, s2, ie, hm⟩ := w
    by_cases hi : i < items.length
    · refine .inr ⟨Y.go G2 H2 i s2.g k2.ok.gh hi, fun σ' H' => ∃ e G', EnvOk X.K A F G' H' σ' e ∧ Step F G1 G' ∧ I (i + 1) e, fun σ' H' ⟨e, G', a, b, c⟩ => ⟨m - 1, by omega, e, G', a, b, c, by omega⟩, fun x H' hy => ?_⟩
      obtain ⟨G3, g3, s3, r3⟩ := Y.yl G2 H2 i x H' _ s2.g k2.ok.gh (List.getElem?_eq_getElem hi) hy
      have k3 := k2.grow g3 s3
      have st3 := s2.trans (g3.step k2.ok.fh)
      exact ⟨F, G3, e2, _, _, k3, r3, it i _ e2 (List.getElem?_eq_getElem hi) ie, fun e4 σ4 G4 H4 hb4 k4 s4 _ => ⟨F, G4, e4, _, k4, hb4,
        fun e5 σ5 G5 H5 z k5 s5 => ⟨e5, G5, k5, (st3.trans s4).trans s5, z⟩, fun d v G5 H5 z k5 s5 => q2 d v G5 H5 z k5 (((s1.trans st3).trans s4).trans s5),
        fun e5 σ5 G5 H5 z k5 s5 => q1 e5 σ5 G5 H5 z k5 (((s1.trans st3).trans s4).trans s5), fun e5 σ5 G5 H5 z k5 s5 => ⟨e5, G5, k5, (st3.trans s4).trans s5, z⟩⟩⟩
    · have hil : i = items.length := by omega
      subst hil
      exact .inl ⟨Y.sp G2 H2 _ s2.g k2.ok.gh (Nat.le_refl _), q1 e2 σ2 G2 H2 (id e2 ie) k2 (s1.trans s2)⟩⟩
def fWhile (ft : FT) (fb : FS) : FS := fun en Ψ => ∃ I : Nat → En → Prop, (∃ m, I m en) ∧ ∀ m e, I m e → ft e fun b e1 => if b = true then
  fb e1 { nx := fun e2 => ∃ m', m' < m ∧ I m' e2, ct := fun e2 => ∃ m', m' < m ∧ I m' e2, bk := Ψ.nx, rt := Ψ.rt } else Ψ.nx e1
theorem ds_while {body : List Stmt} {fb : FS} (hp : PassesOwn (model X.prog X.w) X.A X.env X.xe) (hc : DT X A c ft) (hb : DSs X A body fb) : DS X A (.While c body [] pos) (fWhile ft fb) := ps_weak (ps_while hp hc hb) fun Dd σ H ⟨F, G, en, Ψ, k, h, q1, q2, q3, q4⟩ => by
  obtain ⟨I, ⟨m0, i0⟩, it⟩ := h
  refine ⟨fun m σ' H' => ∃ e G', EnvOk X.K A F G' H' σ' e ∧ Step F G G' ∧ I m e, ⟨m0, en, G, k, Step.refl _ _, i0⟩, fun m σ1 H1 w => ?_⟩
  obtain ⟨e1, G1, k1, s1, ie⟩ := w
  refine ⟨F, G1, e1, _, k1, it m e1 ie, fun b e2 G2 H2 hb2 k2 s2 => ?_⟩
  cases b with
  | true =>
    refine (show (if true = true then _ else _) from ?_)
    rw [if_pos rfl]
    refine ⟨fun σ' H' => ∃ m', m' < m ∧ ∃ e G', EnvOk X.K A F G' H' σ' e ∧ Step F G G' ∧ I m' e, fun σ' H' ⟨m', hm, w⟩ => ⟨m', hm, w⟩, F, G2, e2, _, k2, hb2, fun e5 σ5 G5 H5 z k5 s5 => ?_, fun d v G5 H5 z k5 s5 => q2 d v G5 H5 z k5 ((s1.trans s2).trans s5), fun e5 σ5 G5 H5 z k5 s5 => q1 e5 σ5 G5 H5 z k5 ((s1.trans s2).trans s5), fun e5 σ5 G5 H5 z k5 s5 => ?_⟩
    · obtain ⟨m', hm, z⟩ := z
      exact ⟨m', hm, e5, G5, k5, (s1.trans s2).trans s5, z⟩
    · obtain ⟨m', hm, z⟩ := z
      exact ⟨m', hm, e5, G5, k5, (s1.trans s2).trans s5, z⟩
  | false =>
    rw [if_neg Bool.false_ne_true]
    exact q1 e2 σ1 G2 H2 hb2 k2 (s1.trans s2)
end
end Dz

/-! rules of the machine that the layer lacks: t[::-1], t * 1 -/
namespace Dz
open PySem PySem.Spec PyProof.Rows L2
section
variable {prog : Program} {w : World} {A : Around} {E : Value → Shared → Prop} {s : Shared}
theorem places_rev (n : Nat) : Builtin.Slice.slicePlaces ((n : Int) - 1) (-1) (-1) = n := by
  unfold Builtin.Slice.slicePlaces
  have h1 : ¬ ((-1 : Int) > 0) := by omega
  simp only [h1, if_false, Int.neg_neg, Int.ediv_one]
  split <;> omega
theorem fm_congr {α β : Type} {f g : α → Option β} : ∀ {l : List α}, (∀ x ∈ l, f x = g x) → l.filterMap f = l.filterMap g
  | [], _ => rfl
  | x :: l, h => by
    rw [List.filterMap_cons, List.filterMap_cons, h x List.mem_cons_self, fm_congr fun y hy => h y (List.mem_cons_of_mem _ hy)]
theorem sliceApplied_rev {sl : Addr} {u : Tok} {n : Nat} {Q : Int × Int × Nat → Shared → Prop} (hs : s.heap.IsSliceOf sl .none .none (.int (-1) u))
    (h : Q ((n : Int) - 1, -1, n) s) : wpAny (model prog w) A (Builtin.Slice.sliceApplied (.ref sl) (pure (n : Int))) Q E s := by
  obtain ⟨os, hos, hcs, hds⟩ := id hs
  unfold Builtin.Slice.sliceApplied Builtin.Slice.sliceFields
  refine wpAny_bind (wpAny_bind (wpAny_field hos hds (x := .none) rfl (wpAny_bind (wpAny_field hos hds (x := .none) rfl (wpAny_bind (wpAny_field hos hds (x := .int (-1) u) rfl (wpAny_pure ?_)))))))
  refine wpAny_bind (slicePart_int ?_)
  show wpAny _ _ (if ((-1 : Int) == 0) = true then _ else _) _ _ s
  rw [if_neg (by decide)]
  refine wpAny_bind (slicePart_none (wpAny_bind (slicePart_none (wpAny_bind (wpAny_pure ?_)))))
  show wpAny _ _ (match Builtin.Slice.sliceAdjust none none (-1) (n : Int) with | (lo, hi) => pure (lo, (-1 : Int), Builtin.Slice.slicePlaces lo hi (-1))) _ _ s
  have e : Builtin.Slice.sliceAdjust none none (-1) (n : Int) = ((n : Int) - 1, -1) := by
    unfold Builtin.Slice.sliceAdjust
    simp
  rw [e]
  show wpAny _ _ (pure ((n : Int) - 1, (-1 : Int), Builtin.Slice.slicePlaces ((n : Int) - 1) (-1) (-1))) _ _ s
  rw [places_rev]
  exact wpAny_pure h
theorem pick_rev (xs : Array Value) : ((List.range xs.size).filterMap fun (k : Nat) => xs[((xs.size : Int) - 1 + (k : Int) * (-1)).toNat]?).toArray = xs.toList.reverse.toArray := by
  have e : ((List.range xs.size).filterMap fun (k : Nat) => xs[((xs.size : Int) - 1 + (k : Int) * (-1)).toNat]?) = ((List.range xs.size).map fun k => xs.size - 1 - k).filterMap (xs[·]?) := by
    rw [List.filterMap_map]
    refine fm_congr fun k hk => ?_
    have := List.mem_range.mp hk
    have e2 : ((xs.size : Int) - 1 + (k : Int) * (-1)).toNat = xs.size - 1 - k := by omega
    simp only [e2, Function.comp]
  rw [e, PySem.W.krv_range, List.filterMap_reverse, PySem.W.krv_all]
theorem getItem_tuple_rev {t sl : Addr} {items : Array Value} {u : Tok} {Q : Value → Shared → Prop} (ht : IsTup s.heap t items) (hs : s.heap.IsSliceOf sl .none .none (.int (-1) u))
    (h : Q (.ref s.heap.objs.size) { s with heap := s.heap.push { cls := .type "tuple", data := .seq items.toList.reverse.toArray } })
    (hsz : items.size ≤ sizeLine) : wpAny (model prog w) A (getItem (.ref t) (.ref sl)) Q E s := by
  have htake : sizeOk (.seq items.toList.reverse.toArray) := by
    show items.toList.reverse.toArray.size ≤ sizeLine
    rw [List.size_toArray, List.length_reverse, Array.length_toList]
    exact hsz
  obtain ⟨os, hos, hcs, hds⟩ := id hs
  have hTs : s.TypeIs (.ref sl) "slice" := ⟨os, hos, hcs⟩
  unfold getItem
  try with_reducible refine wpAny_holding ?_
  first | refine wpAny_bind (wpAny_pure ?_) | skip
  refine wpAny_bind (wpAny_sequenceKey ht.typeIs (by decide) ?_)
  refine wpAny_bind (wpAny_callSpecial?_slot (name := Str.ofString "__getitem__") ht.typeIs PyProof.Rows.slot_tuple_getitem
    (wpAny_call_entry PyProof.Rows.slot_tuple_getitem ht.typeIs PyProof.Rows.entry_tuple_getitem ?_ (PyProof.Rows.args_tuple_getitem _ _)))
  show wpAny _ _ (Builtin.Tuple.tupleItemsOf (.ref t) >>= _) _ _ s
  refine wpAny_bind (PyProof.Rows.tupleItemsOf_ ht ?_)
  refine wpAny_bind (wpAny_typeOf hTs ?_)
  rw [if_pos (by decide)]
  refine wpAny_bind (sliceApplied_rev hs ?_)
  show wpAny _ _ (if (((items.size : Int) - 1) == 0 && (-1 : Int) == 1 && items.size == items.size) = true then _ else _) _ _ s
  have hno : ¬ ((((items.size : Int) - 1) == 0 && (-1 : Int) == 1 && items.size == items.size) = true) := by
    intro q
    rw [Bool.and_eq_true, Bool.and_eq_true] at q
    exact absurd q.1.2 (by decide)
  rw [if_neg hno, pick_rev]
  first
    | exact wpAny_bind (m := Builtin.Tuple.tupleExact _) (wpAny_newObj_type (wpAny_pure ⟨_, rfl, wpAny_pure h⟩) htake)
    | exact wpAny_bind (m := Builtin.Tuple.tupleExact _) (wpAny_newObj_type (wpAny_bind (wpAny_pure (wpAny_pure ⟨_, rfl, wpAny_pure h⟩))) htake)
    | exact wpAny_bind (wpAny_bind (m := Builtin.Tuple.tupleExact _) (wpAny_newObj_type (wpAny_pure (wpAny_pure ⟨_, rfl, wpAny_pure h⟩)) htake))
    | exact wpAny_bind (wpAny_bind (m := Builtin.Tuple.tupleExact _) (wpAny_newObj_type (wpAny_pure ⟨_, rfl, wpAny_pure h⟩) htake))
end
def tRevT (K : PySem.W.Frag) (te : TE) : TE := fun σ H Q => te σ H fun x H1 => ∃ a xs, x = .ref a ∧ SqT K H1 a xs ∧ ∀ p, H1 p = none → Q (.ref p) (upd H1 p (.tup xs.reverse))
theorem pe_revT {X : Cx} {e : Expr} {te : TE} {k : Nat} {p1 p2 p3 pos : Pos} (he : PE X e te) : PE X (.Subscript e (.Slice none none (some (.UnaryOp .USub (.Constant (.int 1) k p1) p2)) p3) pos) (tRevT X.K te) := by
  refine ⟨fun pins s σ H Q I h => ?_⟩
  refine Subscript_ (thn (he.run pins s σ H _ I h) fun v s1 ⟨x, H1, I1, r1, q1⟩ => ?_)
  obtain ⟨a, xs, ex, hx, q⟩ := q1
  subst ex
  cases r1
  have hst : PO X (some (.UnaryOp .USub (.Constant (.int 1) k p1) p2)) (tPart (tUn (rU fun i => .int (-i)) (tC (.int 1)))) := po_some (pe_un un_neg pe_int)
  refine wpAny_Slice (thn (po_none.run pins s1 σ H1 (fun o H2 => o = none ∧ H2 = H1) I1 ⟨rfl, rfl⟩) fun vl s2 ⟨l, H2, I2, pl, el, e2⟩ => ?_)
  subst el e2
  refine thn (po_none.run pins s2 σ H2 (fun o H3 => o = none ∧ H3 = H2) I2 ⟨rfl, rfl⟩) fun vu s3 ⟨u, H3, I3, pu, eu, e3⟩ => ?_
  subst eu e3
  refine thn (hst.run pins s3 σ H3 (fun o H4 => o = some (-1) ∧ H4 = H3) I3 ⟨1, rfl, -1, rfl, rfl, rfl⟩) fun vs s4 ⟨o, H4, I4, ps, eo, e4⟩ => ?_
  subst eo e4
  have I5 : Inv X pins σ H4 { s4 with heap := s4.heap.push { cls := .type "slice", data := .fields #[vl, vu, vs] } } := I4.kept (t' := s4.toks) fun b ob q => Heap.get?_push_of_some _ q
  obtain ⟨its, r, ht, hz⟩ := I5.tuple hx
  have hlen := r.length
  cases pl
  cases pu
  cases ps with
  | int i t =>
    show wpAny (model X.prog X.w) X.A (subscriptTail e (.Slice none none (some (.UnaryOp .USub (.Constant (.int 1) k p1) p2)) p3) (.ref a) (.ref s4.heap.objs.size)) (EP X pins σ Q) X.xe { s4 with heap := s4.heap.push { cls := .type "slice", data := .fields #[.none, .none, .int (-1) t] } }
    refine tail_any (ops := [.ref a, .ref s4.heap.objs.size]) ht.typeIs (PyProof.Rows.slot_tuple_getitem.lookup) ?_ (by with_unfolding_all rfl)
    refine getItem_tuple_rev ht (Heap.IsSliceOf.new _ .none .none (.int (-1) t)) ?_ (by rw [List.size_toArray]; omega)
    refine ⟨.ref _, _, I5.laid (t' := s4.toks) (o := .tup xs.reverse) (fun b ob q => Heap.get?_push_of_some _ q) (Nat.le_refl _) ?_, rfl, q _ (I5.hok.fresh (Nat.le_refl _))⟩
    refine ⟨by rw [List.length_reverse]; omega, its.reverse, ?_, ?_⟩
    · exact r.reverse
    · exact IsTup.new _ _
/-! t * 1 is t itself -/
theorem tuple_mul1 (l : Addr) (items : Array Value) (n : Nat) (dd : Option Addr) (sl : Array (Option Value)) (u : Tok) :
    Meets (Builtin.«tuple.__mul__» ⟨[.ref l, .int 1 u], []⟩) (fun _ R s => s.heap.get? l = some { cls := .type "tuple", dict := dd, data := .seq items n, slots := sl } ∧ R (.ok (.ret (Value.ref l))) s) :=
  .of_wp fun prog w A R s h => by
    obtain ⟨hp, g, d, tk, os⟩ := s
    obtain ⟨hl, h⟩ := h
    have f1 := AutoSeq1.idx_int
    have c0 : (decide ((1 : Int) < -(2 ^ 63)) || decide ((1 : Int) ≥ 2 ^ 63)) = false := by decide
    have c1 : (items.isEmpty || (1 : Int) == 1) = true := by
      rw [show ((1 : Int) == 1) = true from rfl, Bool.or_true]
    wp_walk using wpAny_loadPart' hl
    repeat (first
      | (refine wpAny_ite_false (decide_eq_false (by rw [c0]; exact Bool.false_ne_true)) ?_; wp_walk using wpAny_loadPart' hl)
      | (refine wpAny_ite_true (decide_eq_true c1) ?_; wp_walk using wpAny_loadPart' hl))
    all_goals exact ⟨_, rfl, h⟩
def rRep1T (K : PySem.W.Frag) : R2 := fun x y H Q => ∃ l xs, x = .ref l ∧ y = .int 1 ∧ SqT K H l xs ∧ Q (.ref l) H
theorem op_rep1T {X : Cx} : OpR X (binaryOp .Mult) (rRep1T X.K) := by
  intro pins s σ H x y v u Q I rx ry h
  obtain ⟨l, xs, rfl, rfl, hT, q⟩ := h
  cases rx
  obtain ⟨t, rfl⟩ := ry
  obtain ⟨its, r, ⟨⟨cls, dd, data, sl⟩, ho, hc, n, hd⟩, hs⟩ := I.tuple hT
  simp only at hc hd
  subst hc hd
  refine wpAny_binaryOp_repeat_ref (T := "tuple") (U := "int") (by decide) ⟨_, ho, rfl⟩ (fun s' => typeIs_int s' 1 t) noFill_tuple_mul PySem.F.fills_int_mul PySem.F.slot_int_rmul repeat_tuple PySem.F.slot_int_index.lookup
    (call_meets PySem.F.slot_int_rmul (typeIs_int s 1 t) PySem.F.entry_int_rmul (PySem.F.args_int_rmul_2 _ _) (int_rmul_tuple 1 t l its.toArray n dd sl)
      ⟨ho, rfl, ⟨_, ho, rfl⟩, call_meets PySem.F.slot_tuple_mul ⟨_, ho, rfl⟩ PySem.F.entry_tuple_mul (PySem.F.args_tuple_mul_2 _ _) (tuple_mul1 l its.toArray n dd sl t) ⟨ho, ?_⟩⟩)
  exact ⟨.ref l, H, I, rfl, q⟩
end Dz

namespace Dz
open PySem PySem.Spec PyProof.Rows L2

/-! ### plain data, and == -/
mutual
def eqD : D → D → Bool
  | .non, .non => true
  | .bl a, .bl b => a == b
  | .bl a, .int j => (if a then 1 else 0) == j
  | .int i, .bl b => i == (if b then 1 else 0)
  | .int i, .int j => i == j
  | .str x, .str y => x == y
  | .lst a, .lst b => eqL a b
  | .lst a, .fro b => eqL a b
  | .fro a, .lst b => eqL a b
  | .fro a, .fro b => eqL a b
  | .tup a, .tup b => eqL a b
  | _, _ => false
def eqL : List D → List D → Bool
  | [], [] => true
  | x :: a, y :: b => eqD x y && eqL a b
  | _, _ => false
end
mutual
def plD : Nat → D → Bool
  | _, .non => true
  | _, .bl _ => true
  | _, .int _ => true
  | _, .str x => PyData.strOk x
  | n, .tup l => match n with
    | 0 => false
    | m + 1 => plL m l
  | n, .lst l => match n with
    | 0 => false
    | m + 1 => plL m l
  | n, .fro l => match n with
    | 0 => false
    | m + 1 => plL m l
  | _, _ => false
def plL : Nat → List D → Bool
  | _, [] => true
  | n, x :: l => plD n x && plL n l
end
mutual
def toPy : D → PyData
  | .non => .none
  | .bl b => .bool b
  | .int i => .int i
  | .str x => .str x
  | .tup l => .tuple (toPyL l)
  | .lst l => .list (toPyL l)
  | .fro l => .list (toPyL l)
  | _ => .none
def toPyL : List D → List PyData
  | [] => []
  | x :: l => toPy x :: toPyL l
end
mutual
theorem rep_dp {K : PySem.W.Frag} {G H : Hp} (gh : Same G H) : ∀ (n : Nat) (d : D) (v : V), plD n d = true → Rep K G d v → Dp K H v (toPy d)
  | _, .non, v, _, h => by rw [rep_non.mp h]; exact .non
  | _, .bl b, v, _, h => by rw [rep_bl.mp h]; exact .bl b
  | _, .int b, v, _, h => by rw [rep_int.mp h]; exact .int b
  | _, .str b, v, _, h => by rw [rep_str.mp h]; exact .str b
  | 0, .tup l, v, h, _ => by unfold plD at h; cases h
  | m + 1, .tup l, v, hp, h => by
    obtain ⟨a, xs, rfl, s, r⟩ := rep_tup.mp h
    unfold plD at hp
    exact .tup (sqt_mono gh s) (rep_dpL gh m l xs hp r)
  | 0, .lst l, v, h, _ => by unfold plD at h; cases h
  | m + 1, .lst l, v, hp, h => by
    obtain ⟨a, xs, rfl, s, r⟩ := rep_lst.mp h
    unfold plD at hp
    exact .lst (.inl (.inl (gh _ _ s))) (rep_dpL gh m l xs hp r)
  | 0, .fro l, v, h, _ => by unfold plD at h; cases h
  | m + 1, .fro l, v, hp, h => by
    obtain ⟨a, xs, rfl, s, r⟩ := rep_fro.mp h
    unfold plD at hp
    exact .lst (gh.seq s) (rep_dpL gh m l xs hp r)
  | _, .dct _ _, _, h, _ => by unfold plD at h; cases h
  | _, .ins _ _ _, _, h, _ => by unfold plD at h; cases h
  | _, .tok _, _, h, _ => by unfold plD at h; cases h
  | _, .ty _, _, h, _ => by unfold plD at h; cases h
theorem rep_dpL {K : PySem.W.Frag} {G H : Hp} (gh : Same G H) : ∀ (n : Nat) (l : List D) (xs : List V), plL n l = true → RepA K G l xs → DpAll K H xs (toPyL l)
  | _, [], xs, _, h => by unfold RepA at h; subst h; exact .nil
  | n, d :: l, xs, hp, h => by
    unfold RepA at h
    obtain ⟨x, r, rfl, h1, h2⟩ := h
    unfold plL at hp
    rw [Bool.and_eq_true] at hp
    exact .cons (rep_dp gh n d x hp.1 h1) (rep_dpL gh n l r hp.2 h2)
end
mutual
theorem pl_lay : ∀ (n : Nat) (d : D), plD n d = true → (toPy d).canLay0 = true ∧ (toPy d).depth ≤ n + 1
  | n, .non, _ => by unfold toPy PyData.canLay0; exact ⟨rfl, by simp only [PyData.depth]; omega⟩
  | n, .bl b, _ => by unfold toPy PyData.canLay0; exact ⟨rfl, by simp only [PyData.depth]; omega⟩
  | n, .int b, _ => by unfold toPy PyData.canLay0; exact ⟨rfl, by simp only [PyData.depth]; omega⟩
  | n, .str b, h => by unfold plD at h; unfold toPy PyData.canLay0; exact ⟨h, by simp only [PyData.depth]; omega⟩
  | 0, .tup l, h => by unfold plD at h; cases h
  | m + 1, .tup l, h => by
    unfold plD at h
    obtain ⟨h1, h2⟩ := pl_layL m l h
    unfold toPy PyData.canLay0
    exact ⟨h1, by simp only [PyData.depth]; omega⟩
  | 0, .lst l, h => by unfold plD at h; cases h
  | m + 1, .lst l, h => by
    unfold plD at h
    obtain ⟨h1, h2⟩ := pl_layL m l h
    unfold toPy PyData.canLay0
    exact ⟨h1, by simp only [PyData.depth]; omega⟩
  | 0, .fro l, h => by unfold plD at h; cases h
  | m + 1, .fro l, h => by
    unfold plD at h
    obtain ⟨h1, h2⟩ := pl_layL m l h
    unfold toPy PyData.canLay0
    exact ⟨h1, by simp only [PyData.depth]; omega⟩
  | _, .dct _ _, h => by unfold plD at h; cases h
  | _, .ins _ _ _, h => by unfold plD at h; cases h
  | _, .tok _, h => by unfold plD at h; cases h
  | _, .ty _, h => by unfold plD at h; cases h
theorem pl_layL : ∀ (n : Nat) (l : List D), plL n l = true → PyData.canLayAll0 (toPyL l) = true ∧ PyData.depthAll (toPyL l) ≤ n + 1
  | n, [], _ => by unfold toPyL PyData.canLayAll0; exact ⟨rfl, by simp only [PyData.depthAll]; omega⟩
  | n, d :: l, h => by
    unfold plL at h
    rw [Bool.and_eq_true] at h
    obtain ⟨h1, h2⟩ := pl_lay n d h.1
    obtain ⟨h3, h4⟩ := pl_layL n l h.2
    unfold toPyL PyData.canLayAll0
    exact ⟨by rw [h1, h3]; rfl, by simp only [PyData.depthAll]; omega⟩
end
theorem pl_tup {n : Nat} {l : List D} (h : plD n (.tup l) = true) : ∃ m, n = m + 1 ∧ plL m l = true := by
  cases n with
  | zero => unfold plD at h; cases h
  | succ m => unfold plD at h; exact ⟨m, rfl, h⟩
theorem pl_lst {n : Nat} {l : List D} (h : plD n (.lst l) = true) : ∃ m, n = m + 1 ∧ plL m l = true := by
  cases n with
  | zero => unfold plD at h; cases h
  | succ m => unfold plD at h; exact ⟨m, rfl, h⟩
theorem pl_fro {n : Nat} {l : List D} (h : plD n (.fro l) = true) : ∃ m, n = m + 1 ∧ plL m l = true := by
  cases n with
  | zero => unfold plD at h; cases h
  | succ m => unfold plD at h; exact ⟨m, rfl, h⟩
mutual
theorem eqv_eqD : ∀ (x : D) (n m : Nat) (y : D), plD n x = true → plD m y = true → PyData.eqv (toPy x) (toPy y) = eqD x y
  | .non, n, m, y, hx, hy => by cases y <;> first | (unfold plD at hy; cases hy; done) | (unfold toPy eqD PyData.eqv; rfl)
  | .bl _, n, m, y, hx, hy => by cases y <;> first | (unfold plD at hy; cases hy; done) | (unfold toPy eqD PyData.eqv; rfl)
  | .int _, n, m, y, hx, hy => by cases y <;> first | (unfold plD at hy; cases hy; done) | (unfold toPy eqD PyData.eqv; rfl)
  | .str _, n, m, y, hx, hy => by cases y <;> first | (unfold plD at hy; cases hy; done) | (unfold toPy eqD PyData.eqv; rfl)
  | .tup a, n, m, y, hx, hy => by
    obtain ⟨n', _, hx'⟩ := pl_tup hx
    cases y with
    | tup b =>
      obtain ⟨m', _, hy'⟩ := pl_tup hy
      unfold toPy eqD PyData.eqv
      exact eqv_eqL a n' m' b hx' hy'
    | _ => first | (unfold plD at hy; cases hy; done) | (unfold toPy eqD PyData.eqv; rfl)
  | .lst a, n, m, y, hx, hy => by
    obtain ⟨n', _, hx'⟩ := pl_lst hx
    cases y with
    | lst b =>
      obtain ⟨m', _, hy'⟩ := pl_lst hy
      unfold toPy eqD PyData.eqv
      exact eqv_eqL a n' m' b hx' hy'
    | fro b =>
      obtain ⟨m', _, hy'⟩ := pl_fro hy
      unfold toPy eqD PyData.eqv
      exact eqv_eqL a n' m' b hx' hy'
    | _ => first | (unfold plD at hy; cases hy; done) | (unfold toPy eqD PyData.eqv; rfl)
  | .fro a, n, m, y, hx, hy => by
    obtain ⟨n', _, hx'⟩ := pl_fro hx
    cases y with
    | lst b =>
      obtain ⟨m', _, hy'⟩ := pl_lst hy
      unfold toPy eqD PyData.eqv
      exact eqv_eqL a n' m' b hx' hy'
    | fro b =>
      obtain ⟨m', _, hy'⟩ := pl_fro hy
      unfold toPy eqD PyData.eqv
      exact eqv_eqL a n' m' b hx' hy'
    | _ => first | (unfold plD at hy; cases hy; done) | (unfold toPy eqD PyData.eqv; rfl)
  | .dct _ _, _, _, _, h, _ => by unfold plD at h; cases h
  | .ins _ _ _, _, _, _, h, _ => by unfold plD at h; cases h
  | .tok _, _, _, _, h, _ => by unfold plD at h; cases h
  | .ty _, _, _, _, h, _ => by unfold plD at h; cases h
theorem eqv_eqL : ∀ (a : List D) (n m : Nat) (b : List D), plL n a = true → plL m b = true → PyData.eqvAll (toPyL a) (toPyL b) = eqL a b
  | [], _, _, [], _, _ => by unfold toPyL eqL PyData.eqvAll; rfl
  | [], _, _, y :: b, _, _ => by unfold toPyL eqL PyData.eqvAll; rfl
  | x :: a, _, _, [], _, _ => by unfold toPyL eqL PyData.eqvAll; rfl
  | x :: a, n, m, y :: b, hx, hy => by
    unfold plL at hx hy
    rw [Bool.and_eq_true] at hx hy
    unfold toPyL eqL PyData.eqvAll
    rw [eqv_eqD x n m y hx.1 hy.1, eqv_eqL a n m b hx.2 hy.2]
end
theorem shaped_pl {n : Nat} {d : D} (hn : n ≤ 63) (h : plD n d = true) : SeqAt.shaped (toPy d) = true := by
  obtain ⟨h1, h2⟩ := pl_lay n d h
  unfold SeqAt.shaped
  rw [h1, Bool.true_and]
  exact decide_eq_true (by omega)
/-! equal data are equal -/
mutual
def noBl : D → Bool
  | .bl _ => false
  | .tup l => noBlL l
  | .lst l => noBlL l
  | .int _ => true
  | .str _ => true
  | .non => true
  | _ => false
def noBlL : List D → Bool
  | [] => true
  | x :: l => noBl x && noBlL l
end
mutual
theorem eqD_eq : ∀ (x y : D), noBl x = true → noBl y = true → (eqD x y = true ↔ x = y)
  | .non, y, _, hy => by cases y <;> first | (unfold noBl at hy; cases hy; done) | (unfold eqD; simp)
  | .bl _, y, hx, hy => by unfold noBl at hx; cases hx
  | .int _, y, _, hy => by cases y <;> first | (unfold noBl at hy; cases hy; done) | (unfold eqD; simp)
  | .str _, y, _, hy => by cases y <;> first | (unfold noBl at hy; cases hy; done) | (unfold eqD; simp)
  | .tup a, y, hx, hy => by
    unfold noBl at hx
    cases y with
    | tup b =>
      unfold noBl at hy
      unfold eqD
      rw [eqL_eq a b hx hy]
      simp
    | _ => first | (unfold noBl at hy; cases hy; done) | (unfold eqD; simp)
  | .lst a, y, hx, hy => by
    unfold noBl at hx
    cases y with
    | lst b =>
      unfold noBl at hy
      unfold eqD
      rw [eqL_eq a b hx hy]
      simp
    | _ => first | (unfold noBl at hy; cases hy; done) | (unfold eqD; simp)
  | .fro _, _, h, _ => by unfold noBl at h; cases h
  | .dct _ _, _, h, _ => by unfold noBl at h; cases h
  | .ins _ _ _, _, h, _ => by unfold noBl at h; cases h
  | .tok _, _, h, _ => by unfold noBl at h; cases h
  | .ty _, _, h, _ => by unfold noBl at h; cases h
theorem eqL_eq : ∀ (a b : List D), noBlL a = true → noBlL b = true → (eqL a b = true ↔ a = b)
  | [], [], _, _ => by unfold eqL; simp
  | [], y :: b, _, _ => by unfold eqL; simp
  | x :: a, [], _, _ => by unfold eqL; simp
  | x :: a, y :: b, hx, hy => by
    unfold noBlL at hx hy
    rw [Bool.and_eq_true] at hx hy
    unfold eqL
    rw [Bool.and_eq_true, eqD_eq x y hx.1 hy.1, eqL_eq a b hx.2 hy.2]
    simp
end
/-! ### operations by their data -/
def rEqDD : R2D := fun x y Φ => plD 12 x = true ∧ plD 12 y = true ∧ Φ (.bl (eqD x y))
def rNeDD : R2D := fun x y Φ => plD 12 x = true ∧ plD 12 y = true ∧ Φ (.bl (!eqD x y))
def rAddD : R2D := fun x y Φ => match x, y with
  | .int i, .int j => Φ (.int (i + j))
  | .str a, .str b => a.length + b.length ≤ sizeLine ∧ Φ (.str (a ++ b))
  | .tup a, .tup b => a.length + b.length ≤ 100000 ∧ Φ (.tup (a ++ b))
  | .lst a, .lst b => a.length + b.length ≤ 100000 ∧ Φ (.lst (a ++ b))
  | _, _ => False
def rSubD : R2D := fun x y Φ => match x, y with
  | .int i, .int j => Φ (.int (i - j))
  | _, _ => False
def rMulD : R2D := fun x y Φ => match x, y with
  | .int i, .int j => CMul i j ∧ Φ (.int (i * j))
  | .tup a, .int k => a ≠ [] ∧ 1 ≤ k ∧ k ≤ 1000 ∧ a.length ≤ 1000 ∧ Φ (.tup (List.replicate k.toNat a).flatten)
  | .lst a, .int k => -(2 ^ 63) ≤ k ∧ k < 2 ^ 63 ∧ a.length * k.toNat ≤ 100000 ∧ Φ (.lst (List.replicate k.toNat a).flatten)
  | _, _ => False
def rModD : R2D := fun x y Φ => match x, y with
  | .int i, .int j => 0 < j ∧ Φ (.int (i % j))
  | _, _ => False
def rDivD : R2D := fun x y Φ => match x, y with
  | .int i, .int j => (0 < j ∧ j < 1073741824) ∧ Φ (.int (i / j))
  | _, _ => False
def rPowD : R2D := fun x y Φ => match x, y with
  | .int i, .int j => CPow i j ∧ Φ (.int (i ^ j.toNat))
  | _, _ => False
def rLtD : R2D := fun x y Φ => match x, y with
  | .int i, .int j => Φ (.bl (decide (i < j)))
  | .str i, .str j => Φ (.bl (decide (i.cps.toList < j.cps.toList)))
  | _, _ => False
def rLeD : R2D := fun x y Φ => match x, y with
  | .int i, .int j => Φ (.bl (decide (i ≤ j)))
  | .str i, .str j => Φ (.bl (!decide (j.cps.toList < i.cps.toList)))
  | _, _ => False
def rGtD : R2D := fun x y Φ => match x, y with
  | .int i, .int j => Φ (.bl (decide (j < i)))
  | _, _ => False
def rGeD : R2D := fun x y Φ => match x, y with
  | .int i, .int j => Φ (.bl (decide (j ≤ i)))
  | _, _ => False
/-- is None, is not None -/
def rIsND : R1D := fun x Φ => match x with
  | .non => Φ (.bl true)
  | _ => Φ (.bl false)
def rNegD : R1D := fun x Φ => match x with
  | .int i => Φ (.int (-i))
  | _ => False
theorem repA_flat {K : PySem.W.Frag} {G : Hp} {l : List D} {xs : List V} (r : RepA K G l xs) : ∀ n, RepA K G (List.replicate n l).flatten (List.replicate n xs).flatten
  | 0 => .nil
  | n + 1 => by
    rw [List.replicate_succ, List.replicate_succ, List.flatten_cons, List.flatten_cons]
    exact r.app (repA_flat r n)
section
variable {X : Cx}
theorem opd_add : OpR X (binaryOp .Add) (LR2 X.K rAddD) := by
  intro pins s σ H x y v u Q I rx ry ⟨G, dx, dy, Ψ, gh, r1, r2, h, q⟩
  unfold rAddD at h
  split at h
  · rename_i i j
    cases rep_int.mp r1; cases rep_int.mp r2
    exact op_add pins s σ H _ _ v u Q I rx ry ⟨i, j, rfl, rfl, q _ _ G H h (Grow.refl _ _) gh (rep_int.mpr rfl)⟩
  · rename_i i j
    cases rep_str.mp r1; cases rep_str.mp r2
    exact op_add_str pins s σ H _ _ v u Q I rx ry ⟨i, j, rfl, rfl, h.1, q _ _ G H h.2 (Grow.refl _ _) gh (rep_str.mpr rfl)⟩
  · rename_i a b
    obtain ⟨p1, xs, rfl, s1, a1⟩ := rep_tup.mp r1
    obtain ⟨p2, ys, rfl, s2, a2⟩ := rep_tup.mp r2
    refine op_catA pins s σ H _ _ v u Q I rx ry ⟨p1, p2, xs, ys, rfl, rfl, sqt_mono gh s1, sqt_mono gh s2, by rw [a1.len, a2.len]; exact sz_of h.1, fun e => ?_, fun e e2 => ?_, fun e e2 p hp => ?_⟩
    · subst e
      have e2 : a = [] := List.eq_nil_of_length_eq_zero (by have := a1.len; simpa using this.symm)
      subst e2
      exact q _ _ G H h.2 (Grow.refl _ _) gh (by rw [List.nil_append]; exact r2)
    · subst e2
      have e2 : b = [] := List.eq_nil_of_length_eq_zero (by have := a2.len; simpa using this.symm)
      subst e2
      exact q _ _ G H h.2 (Grow.refl _ _) gh (by rw [List.append_nil]; exact r1)
    · have g : Grow G H (upd G p (.tup (xs ++ ys))) (upd H p (.tup (xs ++ ys))) := Grow.new gh hp
      exact q _ _ _ _ h.2 g (same_upd2 gh) (rep_tup.mpr ⟨p, _, rfl, .inl (.inl upd_same), (a1.app a2).mono g.g⟩)
  · rename_i a b
    obtain ⟨p1, xs, rfl, s1, a1⟩ := rep_lst.mp r1
    obtain ⟨p2, ys, rfl, s2, a2⟩ := rep_lst.mp r2
    refine op_cat pins s σ H _ _ v u Q I rx ry ⟨p1, p2, xs, ys, rfl, rfl, gh _ _ s1, gh _ _ s2, by rw [a1.len, a2.len]; exact sz_of h.1, fun p hp => ?_⟩
    have g : Grow G H (upd G p (.lst (xs ++ ys))) (upd H p (.lst (xs ++ ys))) := Grow.new gh hp
    exact q _ _ _ _ h.2 g (same_upd2 gh) (rep_lst.mpr ⟨p, _, rfl, upd_same, (a1.app a2).mono g.g⟩)
  · exact h.elim
theorem opd_mul : OpR X (binaryOp .Mult) (LR2 X.K rMulD) := by
  intro pins s σ H x y v u Q I rx ry ⟨G, dx, dy, Ψ, gh, r1, r2, h, q⟩
  unfold rMulD at h
  split at h
  · rename_i i j
    cases rep_int.mp r1; cases rep_int.mp r2
    exact op_mul pins s σ H _ _ v u Q I rx ry ⟨i, j, rfl, rfl, h.1, q _ _ G H h.2 (Grow.refl _ _) gh (rep_int.mpr rfl)⟩
  · rename_i a k
    obtain ⟨p1, xs, rfl, s1, a1⟩ := rep_tup.mp r1
    cases rep_int.mp r2
    obtain ⟨hne, k1, k2, hl, h⟩ := h
    have hxs : xs ≠ [] := fun e => by
      subst e
      exact hne (List.eq_nil_of_length_eq_zero (by have := a1.len; simpa using this.symm))
    by_cases hk : k = 1
    · subst hk
      have e : (List.replicate (1 : Int).toNat a).flatten = a := by simp
      rw [e] at h
      exact op_rep1T pins s σ H _ _ v u Q I rx ry ⟨p1, xs, rfl, rfl, sqt_mono gh s1, q _ _ G H h (Grow.refl _ _) gh r1⟩
    · refine op_repT pins s σ H _ _ v u Q I rx ry ⟨p1, k, xs, rfl, rfl, sqt_mono gh s1, hxs, by omega, k2, by rw [a1.len]; exact hl, fun p hp => ?_⟩
      have g : Grow G H (upd G p (.tup (List.replicate k.toNat xs).flatten)) (upd H p (.tup (List.replicate k.toNat xs).flatten)) := Grow.new gh hp
      exact q _ _ _ _ h g (same_upd2 gh) (rep_tup.mpr ⟨p, _, rfl, .inl (.inl upd_same), (repA_flat a1 _).mono g.g⟩)
  · rename_i a k
    obtain ⟨p1, xs, rfl, s1, a1⟩ := rep_lst.mp r1
    cases rep_int.mp r2
    obtain ⟨k1, k2, hl, h⟩ := h
    refine op_rep pins s σ H _ _ v u Q I rx ry ⟨p1, k, xs, rfl, rfl, gh _ _ s1, k1, k2, by rw [a1.len]; exact sz_of hl, fun p hp => ?_⟩
    have g : Grow G H (upd G p (.lst (List.replicate k.toNat xs).flatten)) (upd H p (.lst (List.replicate k.toNat xs).flatten)) := Grow.new gh hp
    exact q _ _ _ _ h g (same_upd2 gh) (rep_lst.mpr ⟨p, _, rfl, upd_same, (repA_flat a1 _).mono g.g⟩)
  · exact h.elim
/-- two ints -/
theorem opd_i2 {f : Value → Value → Sem Value} {C : Int → Int → Prop} {g : Int → Int → D} {w : Int → Int → V} {r : R2D} (ho : OpR X f (rI C w)) (hw : ∀ i j G, Rep X.K G (g i j) (w i j)) (hr : ∀ x y Φ, r x y Φ → ∃ i j, x = .int i ∧ y = .int j ∧ C i j ∧ Φ (g i j)) : OpR X f (LR2 X.K r) := by
  intro pins s σ H x y v u Q I rx ry ⟨G, dx, dy, Ψ, gh, r1, r2, h, q⟩
  obtain ⟨i, j, rfl, rfl, c, h⟩ := hr _ _ _ h
  cases rep_int.mp r1; cases rep_int.mp r2
  exact ho pins s σ H _ _ v u Q I rx ry ⟨i, j, rfl, rfl, c, q _ _ G H h (Grow.refl _ _) gh (hw i j G)⟩
theorem opI0_of {f : Value → Value → Sem Value} {w : Int → Int → V} (ho : OpR X f (rI0 w)) : OpR X f (rI (fun _ _ => True) w) := fun pins s σ H x y v u Q I rx ry ⟨i, j, e1, e2, _, h⟩ => ho pins s σ H x y v u Q I rx ry ⟨i, j, e1, e2, h⟩
theorem opd_sub : OpR X (binaryOp .Sub) (LR2 X.K rSubD) := opd_i2 (g := fun i j => .int (i - j)) (opI0_of op_sub) (fun _ _ _ => rep_int.mpr rfl) fun x y Φ h => by
  unfold rSubD at h
  split at h
  · exact ⟨_, _, rfl, rfl, trivial, h⟩
  · exact h.elim
theorem opd_mod : OpR X (binaryOp .Mod) (LR2 X.K rModD) := opd_i2 (g := fun i j => .int (i % j)) op_mod (fun _ _ _ => rep_int.mpr rfl) fun x y Φ h => by
  unfold rModD at h
  split at h
  · exact ⟨_, _, rfl, rfl, h.1, h.2⟩
  · exact h.elim
theorem opd_div : OpR X (binaryOp .FloorDiv) (LR2 X.K rDivD) := opd_i2 (g := fun i j => .int (i / j)) op_fdiv (fun _ _ _ => rep_int.mpr rfl) fun x y Φ h => by
  unfold rDivD at h
  split at h
  · exact ⟨_, _, rfl, rfl, h.1, h.2⟩
  · exact h.elim
theorem opd_pow : OpR X (binaryOp .Pow) (LR2 X.K rPowD) := opd_i2 (g := fun i j => .int (i ^ j.toNat)) op_pow (fun _ _ _ => rep_int.mpr rfl) fun x y Φ h => by
  unfold rPowD at h
  split at h
  · exact ⟨_, _, rfl, rfl, h.1, h.2⟩
  · exact h.elim
theorem opd_gt : OpR X (compareOp .Gt) (LR2 X.K rGtD) := opd_i2 (g := fun i j => .bl (decide (j < i))) (opI0_of op_gt) (fun _ _ _ => rep_bl.mpr rfl) fun x y Φ h => by
  unfold rGtD at h
  split at h
  · exact ⟨_, _, rfl, rfl, trivial, h⟩
  · exact h.elim
theorem opd_ge : OpR X (compareOp .GtE) (LR2 X.K rGeD) := opd_i2 (g := fun i j => .bl (decide (j ≤ i))) (opI0_of op_ge) (fun _ _ _ => rep_bl.mpr rfl) fun x y Φ h => by
  unfold rGeD at h
  split at h
  · exact ⟨_, _, rfl, rfl, trivial, h⟩
  · exact h.elim
theorem opd_lt : OpR X (compareOp .Lt) (LR2 X.K rLtD) := by
  intro pins s σ H x y v u Q I rx ry ⟨G, dx, dy, Ψ, gh, r1, r2, h, q⟩
  unfold rLtD at h
  split at h
  · rename_i i j
    cases rep_int.mp r1; cases rep_int.mp r2
    exact op_lt pins s σ H _ _ v u Q I rx ry ⟨i, j, rfl, rfl, q _ _ G H h (Grow.refl _ _) gh (rep_bl.mpr rfl)⟩
  · rename_i i j
    cases rep_str.mp r1; cases rep_str.mp r2
    exact op_lt_str pins s σ H _ _ v u Q I rx ry ⟨i, j, rfl, rfl, q _ _ G H h (Grow.refl _ _) gh (rep_bl.mpr rfl)⟩
  · exact h.elim
theorem opd_le : OpR X (compareOp .LtE) (LR2 X.K rLeD) := by
  intro pins s σ H x y v u Q I rx ry ⟨G, dx, dy, Ψ, gh, r1, r2, h, q⟩
  unfold rLeD at h
  split at h
  · rename_i i j
    cases rep_int.mp r1; cases rep_int.mp r2
    exact op_le pins s σ H _ _ v u Q I rx ry ⟨i, j, rfl, rfl, q _ _ G H h (Grow.refl _ _) gh (rep_bl.mpr rfl)⟩
  · rename_i i j
    cases rep_str.mp r1; cases rep_str.mp r2
    exact op_le_str pins s σ H _ _ v u Q I rx ry ⟨i, j, rfl, rfl, q _ _ G H h (Grow.refl _ _) gh (rep_bl.mpr rfl)⟩
  · exact h.elim
theorem opd_eq (hu : X.A.units + 64 < cLine) : OpR X (compareOp .Eq) (LR2 X.K rEqDD) := by
  intro pins s σ H x y v u Q I rx ry ⟨G, dx, dy, Ψ, gh, r1, r2, ⟨p1, p2, h⟩, q⟩
  refine op_eqD hu pins s σ H x y v u Q I rx ry ⟨_, _, rep_dp gh _ _ _ p1 r1, rep_dp gh _ _ _ p2 r2, shaped_pl (by decide) p1, shaped_pl (by decide) p2, ?_⟩
  rw [eqv_eqD _ _ _ _ p1 p2]
  exact q _ _ G H h (Grow.refl _ _) gh (rep_bl.mpr rfl)
theorem opd_ne (hu : X.A.units + 64 < cLine) : OpR X (compareOp .NotEq) (LR2 X.K rNeDD) := by
  intro pins s σ H x y v u Q I rx ry ⟨G, dx, dy, Ψ, gh, r1, r2, ⟨p1, p2, h⟩, q⟩
  refine op_neD hu pins s σ H x y v u Q I rx ry ⟨_, _, rep_dp gh _ _ _ p1 r1, rep_dp gh _ _ _ p2 r2, shaped_pl (by decide) p1, shaped_pl (by decide) p2, ?_⟩
  rw [eqv_eqD _ _ _ _ p1 p2]
  exact q _ _ G H h (Grow.refl _ _) gh (rep_bl.mpr rfl)
end
end Dz

namespace Dz
open PySem PySem.Spec PyProof.Rows L2

/-! ### subscripts -/
def seqD : D → Option (List D)
  | .tup l => some l
  | .lst l => some l
  | .fro l => some l
  | _ => none
/-- what a dict holds at a key -/
def getK : List Key → List D → Key → Option D
  | k' :: ks, d :: l, k => if k' = k then some d else getK ks l k
  | _, _, _ => none
def rIxDD : R2D := fun x y Φ => match x, y with
  | .tup l, .int i => ∃ d, atI l i = some d ∧ Φ d
  | .lst l, .int i => ∃ d, atI l i = some d ∧ Φ d
  | .fro l, .int i => ∃ d, atI l i = some d ∧ Φ d
  | .dct ks l, .str z => ∃ d, getK ks l (Sum.inr z) = some d ∧ Φ d
  | .dct ks l, .int z => ∃ d, getK ks l (Sum.inl z) = some d ∧ Φ d
  | _, _ => False
section
variable {K : PySem.W.Frag} {G H : Hp}
theorem atI_len {α β : Type} {l : List α} {xs : List β} (h : xs.length = l.length) {i : Int} {d : α} (e : atI l i = some d) : ∃ j, ixN xs.length i = some j ∧ l[j]? = some d := by
  unfold atI at e
  rw [h]
  cases q : ixN l.length i with
  | none => rw [q] at e; cases e
  | some j => rw [q] at e; exact ⟨j, rfl, e⟩
theorem RepA.atI {l : List D} {xs : List V} {i : Int} {d : D} (r : RepA K G l xs) (e : atI l i = some d) : ∃ x, L2.atI xs i = some x ∧ Rep K G d x := by
  obtain ⟨j, h1, h2⟩ := atI_len r.len e
  obtain ⟨x, h3, h4⟩ := r.get h2
  exact ⟨x, by unfold L2.atI; rw [h1]; exact h3, h4⟩
theorem repA_val {k : Key} : ∀ {ks : List Key} {l : List D} {xs : List V} {d : D}, RepA K G l xs → getK ks l k = some d → ∃ x, valV (ks.zip xs) k = some x ∧ Rep K G d x
  | [], l, xs, d, _, h => by simp [getK] at h
  | k' :: ks, [], xs, d, r, h => by simp [getK] at h
  | k' :: ks, e :: l, xs, d, r, h => by
    unfold RepA at r
    obtain ⟨x, t, rfl, r1, r2⟩ := r
    unfold getK at h
    unfold valV
    simp only [List.zip_cons_cons, List.find?_cons]
    by_cases hk : k' = k
    · simp only [hk, if_true] at h
      simp only [hk, decide_true, Option.map_some]
      cases h
      exact ⟨x, rfl, r1⟩
    · simp only [if_neg hk] at h
      simp only [hk, decide_false]
      exact repA_val (ks := ks) r2 h
theorem repA_valN {k : Key} : ∀ {ks : List Key} {l : List D} {xs : List V}, RepA K G l xs → ((valV (ks.zip xs) k).isSome = (getK ks l k).isSome)
  | [], l, xs, _ => by simp [valV, getK]
  | k' :: ks, [], xs, r => by unfold RepA at r; subst r; simp [valV, getK]
  | k' :: ks, e :: l, xs, r => by
    unfold RepA at r
    obtain ⟨x, t, rfl, r1, r2⟩ := r
    unfold valV getK
    simp only [List.zip_cons_cons, List.find?_cons]
    by_cases hk : k' = k
    · simp only [hk, decide_true, Option.map_some, Option.isSome_some, if_true]
    · simp only [if_neg hk]
      simp only [hk, decide_false]
      exact repA_valN (ks := ks) r2
end
section
variable {X : Cx}
theorem ix_dK (hu : X.A.units + 1 < cLine) : IxR X (fun x y H Q => ∃ a v, x = .ref a ∧ DGet H a y (some v) ∧ Q v H) := by
  intro value slice pins s σ H x y v u Q I rx ry ⟨a, w, ex, g, q⟩ hs
  subst ex
  obtain rfl : v = Value.ref a := rx
  exact tail_any (dict_typeIs I g) PySem.F.slot_dict_getitem.lookup (d_getItem hu I g ry fun w' s3 I3 rw' => ⟨w, H, I3, rw', q⟩) hs
theorem ixd (hu : X.A.units + 64 < cLine) : IxR X (LR2 X.K rIxDD) := by
  intro value slice pins s σ H x y v u Q I rx ry ⟨G, dx, dy, Ψ, gh, r1, r2, h, q⟩ hs
  unfold rIxDD at h
  split at h
  · obtain ⟨d, e, h⟩ := h
    obtain ⟨p, xs, rfl, s1, a1⟩ := rep_tup.mp r1
    cases rep_int.mp r2
    obtain ⟨z, e1, e2⟩ := a1.atI e
    exact ix_tup value slice pins s σ H _ _ v u Q I rx ry ⟨p, xs, _, z, rfl, rfl, sqt_mono gh s1, e1, q _ _ G H h (Grow.refl _ _) gh e2⟩ hs
  · obtain ⟨d, e, h⟩ := h
    obtain ⟨p, xs, rfl, s1, a1⟩ := rep_lst.mp r1
    cases rep_int.mp r2
    obtain ⟨z, e1, e2⟩ := a1.atI e
    exact ix_list value slice pins s σ H _ _ v u Q I rx ry ⟨p, xs, _, z, rfl, rfl, .inl (.inl (gh _ _ s1)), e1, q _ _ G H h (Grow.refl _ _) gh e2⟩ hs
  · obtain ⟨d, e, h⟩ := h
    obtain ⟨p, xs, rfl, s1, a1⟩ := rep_fro.mp r1
    cases rep_int.mp r2
    obtain ⟨z, e1, e2⟩ := a1.atI e
    exact ix_list value slice pins s σ H _ _ v u Q I rx ry ⟨p, xs, _, z, rfl, rfl, gh.seq s1, e1, q _ _ G H h (Grow.refl _ _) gh e2⟩ hs
  · obtain ⟨d, e, h⟩ := h
    obtain ⟨p, xs, rfl, s1, a1, _⟩ := rep_dct.mp r1
    cases rep_str.mp r2
    obtain ⟨z, e1, e2⟩ := repA_val a1 e
    exact ix_dK (by omega) value slice pins s σ H _ _ v u Q I rx ry ⟨p, z, rfl, .inl ⟨_, Sum.inr _, .inl (gh _ _ s1), rfl, e1.symm⟩, q _ _ G H h (Grow.refl _ _) gh e2⟩ hs
  · obtain ⟨d, e, h⟩ := h
    obtain ⟨p, xs, rfl, s1, a1, _⟩ := rep_dct.mp r1
    cases rep_int.mp r2
    obtain ⟨z, e1, e2⟩ := repA_val a1 e
    exact ix_dK (by omega) value slice pins s σ H _ _ v u Q I rx ry ⟨p, z, rfl, .inl ⟨_, Sum.inl _, .inl (gh _ _ s1), rfl, e1.symm⟩, q _ _ G H h (Grow.refl _ _) gh e2⟩ hs
  · exact h.elim

/-! ### a written dict with text keys -/
structure KTab (K : PySem.W.Frag) (w : World) (a : Addr) (tab : Str → Option (Option D)) : Prop where
  dk : ∃ es n, KDict K w a es n
  non : ∀ z, tab z = some none → PySem.W.nsIn K a z = some none
  som : ∀ z d, tab z = some (some d) → ∃ u v, PySem.W.nsIn K a z = some (some u) ∧ RelV v u ∧ ∀ G, Rep K G d v
def rKix (a : Addr) (tab : Str → Option (Option D)) : R2D := fun x y Φ => match x, y with
  | .tok b, .str z => a = b ∧ ∃ d, tab z = some (some d) ∧ Φ d
  | _, _ => False
def rKin (a : Addr) (tab : Str → Option (Option D)) : R2D := fun x y Φ => match x, y with
  | .str z, .tok b => a = b ∧ ∃ d, tab z = some d ∧ Φ (.bl d.isSome)
  | _, _ => False
theorem ixk {a : Addr} {tab : Str → Option (Option D)} (T : KTab X.K X.w a tab) : IxR X (LR2 X.K (rKix a tab)) := by
  intro value slice pins s σ H x y v u Q I rx ry ⟨G, dx, dy, Ψ, gh, r1, r2, h, q⟩ hs
  unfold rKix at h
  split at h
  · obtain ⟨rfl, d, e, h⟩ := h
    cases rep_tok.mp r1
    cases rep_str.mp r2
    obtain ⟨es, n, kd⟩ := T.dk
    obtain ⟨u0, v0, e1, e2, e3⟩ := T.som _ _ e
    exact ix_kdict value slice pins s σ H _ _ v u Q I rx ry ⟨a, _, v0, rfl, rfl, ⟨es, n, u0, kd.at_, kd.lit, e1, e2⟩, q _ _ G H h (Grow.refl _ _) gh (e3 G)⟩ hs
  · exact h.elim
theorem opd_ink {a : Addr} {tab : Str → Option (Option D)} (T : KTab X.K X.w a tab) : OpR X (compareOp .In) (LR2 X.K (rKin a tab)) := by
  intro pins s σ H x y v u Q I rx ry ⟨G, dx, dy, Ψ, gh, r1, r2, h, q⟩
  unfold rKin at h
  split at h
  · obtain ⟨rfl, d, e, h⟩ := h
    cases rep_str.mp r1
    cases rep_tok.mp r2
    obtain ⟨es, n, kd⟩ := T.dk
    cases d with
    | none => exact op_in_kd kd pins s σ H _ _ v u Q I rx ry ⟨_, none, rfl, rfl, T.non _ e, q _ _ G H h (Grow.refl _ _) gh (rep_bl.mpr rfl)⟩
    | some d =>
      obtain ⟨u0, v0, e1, e2, e3⟩ := T.som _ _ e
      exact op_in_kd kd pins s σ H _ _ v u Q I rx ry ⟨_, some u0, rfl, rfl, e1, q _ _ G H h (Grow.refl _ _) gh (rep_bl.mpr rfl)⟩
  · exact h.elim

/-! ### built-ins -/
def rLenD : RAD := fun xs Φ => match xs with
  | [.str z] => z.length ≤ sizeLine ∧ Φ (.int z.length)
  | [.tup l] => Φ (.int l.length)
  | [.lst l] => Φ (.int l.length)
  | [.fro l] => Φ (.int l.length)
  | _ => False
theorem callD_len : CallR X (.builtin "len") (LRA X.K rLenD) := by
  intro pins s σ H xs us Q I r ⟨G, ds, Ψ, gh, r1, h, q⟩
  unfold rLenD at h
  split at h
  · unfold RepA at r1
    obtain ⟨x, t, rfl, p1, r1⟩ := r1
    unfold RepA at r1
    subst r1
    cases rep_str.mp p1
    exact call_len_str pins s σ H _ us Q I r ⟨_, rfl, h.1, q _ _ G H h.2 (Grow.refl _ _) gh (rep_int.mpr rfl)⟩
  · unfold RepA at r1
    obtain ⟨x, t, rfl, p1, r1⟩ := r1
    unfold RepA at r1
    subst r1
    obtain ⟨p, xs, rfl, s1, a1⟩ := rep_tup.mp p1
    exact call_len_seq pins s σ H _ us Q I r ⟨p, xs, rfl, .inr (sqt_mono gh s1), by rw [a1.len]; exact q _ _ G H h (Grow.refl _ _) gh (rep_int.mpr rfl)⟩
  · unfold RepA at r1
    obtain ⟨x, t, rfl, p1, r1⟩ := r1
    unfold RepA at r1
    subst r1
    obtain ⟨p, xs, rfl, s1, a1⟩ := rep_lst.mp p1
    exact call_len_seq pins s σ H _ us Q I r ⟨p, xs, rfl, .inl (.inl (.inl (gh _ _ s1))), by rw [a1.len]; exact q _ _ G H h (Grow.refl _ _) gh (rep_int.mpr rfl)⟩
  · unfold RepA at r1
    obtain ⟨x, t, rfl, p1, r1⟩ := r1
    unfold RepA at r1
    subst r1
    obtain ⟨p, xs, rfl, s1, a1⟩ := rep_fro.mp p1
    exact call_len_seq pins s σ H _ us Q I r ⟨p, xs, rfl, .inl (gh.seq s1), by rw [a1.len]; exact q _ _ G H h (Grow.refl _ _) gh (rep_int.mpr rfl)⟩
  · exact h.elim
def rAbsD : RAD := fun xs Φ => match xs with
  | [.int i] => Φ (.int (if i < 0 then -i else i))
  | _ => False
theorem callD_abs : CallR X (.builtin "abs") (LRA X.K rAbsD) := by
  intro pins s σ H xs us Q I r ⟨G, ds, Ψ, gh, r1, h, q⟩
  unfold rAbsD at h
  split at h
  · unfold RepA at r1
    obtain ⟨x, t, rfl, p1, r1⟩ := r1
    unfold RepA at r1
    subst r1
    cases rep_int.mp p1
    exact call_abs pins s σ H _ us Q I r ⟨_, rfl, q _ _ G H h (Grow.refl _ _) gh (rep_int.mpr rfl)⟩
  · exact h.elim
def rIntD : RAD := fun xs Φ => match xs with
  | [.int i] => Φ (.int i)
  | [.bl k] => Φ (.int (if k then 1 else 0))
  | [.str a] => ∃ n, PySem.intText? a = some n ∧ a.length ≤ 640 ∧ Φ (.int n)
  | _ => False
theorem callD_int : CallR X (.type "int") (LRA X.K rIntD) := by
  intro pins s σ H xs us Q I r ⟨G, ds, Ψ, gh, r1, h, q⟩
  unfold rIntD at h
  split at h
  · unfold RepA at r1
    obtain ⟨x, t, rfl, p1, r1⟩ := r1
    unfold RepA at r1
    subst r1
    cases rep_int.mp p1
    exact call_int1 pins s σ H _ us Q I r (.inl ⟨_, rfl, q _ _ G H h (Grow.refl _ _) gh (rep_int.mpr rfl)⟩)
  · unfold RepA at r1
    obtain ⟨x, t, rfl, p1, r1⟩ := r1
    unfold RepA at r1
    subst r1
    cases rep_bl.mp p1
    exact call_int1 pins s σ H _ us Q I r (.inr ⟨_, rfl, q _ _ G H h (Grow.refl _ _) gh (rep_int.mpr rfl)⟩)
  · unfold RepA at r1
    obtain ⟨x, t, rfl, p1, r1⟩ := r1
    unfold RepA at r1
    subst r1
    cases rep_str.mp p1
    obtain ⟨n, e1, e2, h⟩ := h
    exact call_int_str pins s σ H _ us Q I r ⟨_, n, rfl, e1, e2, q _ _ G H h (Grow.refl _ _) gh (rep_int.mpr rfl)⟩
  · exact h.elim
/-- all(list of truth values), any(..) -/
def rAllD : RAD := fun xs Φ => ∃ bs : List Bool, xs = [.lst (bs.map D.bl)] ∧ Φ (.bl (bs.all id))
def rAnyD : RAD := fun xs Φ => ∃ bs : List Bool, xs = [.lst (bs.map D.bl)] ∧ Φ (.bl (bs.any id))
def rSumD : RAD := fun xs Φ => ∃ ns : List Int, xs = [.lst (ns.map D.int)] ∧ Φ (.int ns.sum)
theorem callD_all (hc : X.calm = true) : CallR X (.builtin "all") (LRA X.K rAllD) := by
  intro pins s σ H xs us Q I r ⟨G, ds, Ψ, gh, r1, ⟨bs, e, h⟩, q⟩
  subst e
  unfold RepA at r1
  obtain ⟨x, t, rfl, p1, r1⟩ := r1
  unfold RepA at r1
  subst r1
  obtain ⟨p, xs, rfl, s1, a1⟩ := rep_lst.mp p1
  have e := repA_bls_inv a1
  subst e
  exact cr_all hc pins s σ H _ us Q I r ⟨p, bs, rfl, .inl (.inl (gh _ _ s1)), q _ _ G H h (Grow.refl _ _) gh (rep_bl.mpr rfl)⟩
theorem callD_any (hc : X.calm = true) : CallR X (.builtin "any") (LRA X.K rAnyD) := by
  intro pins s σ H xs us Q I r ⟨G, ds, Ψ, gh, r1, ⟨bs, e, h⟩, q⟩
  subst e
  unfold RepA at r1
  obtain ⟨x, t, rfl, p1, r1⟩ := r1
  unfold RepA at r1
  subst r1
  obtain ⟨p, xs, rfl, s1, a1⟩ := rep_lst.mp p1
  have e := repA_bls_inv a1
  subst e
  exact cr_any hc pins s σ H _ us Q I r ⟨p, bs, rfl, .inl (.inl (gh _ _ s1)), q _ _ G H h (Grow.refl _ _) gh (rep_bl.mpr rfl)⟩
theorem callD_sum (hc : X.calm = true) : CallR X (.builtin "sum") (LRA X.K rSumD) := by
  intro pins s σ H xs us Q I r ⟨G, ds, Ψ, gh, r1, ⟨bs, e, h⟩, q⟩
  subst e
  unfold RepA at r1
  obtain ⟨x, t, rfl, p1, r1⟩ := r1
  unfold RepA at r1
  subst r1
  obtain ⟨p, xs, rfl, s1, a1⟩ := rep_lst.mp p1
  have e := repA_ints_inv a1
  subst e
  exact cr_sum hc pins s σ H _ us Q I r ⟨p, bs, rfl, .inl (.inl (gh _ _ s1)), q _ _ G H h (Grow.refl _ _) gh (rep_int.mpr rfl)⟩
/-- sorted(list of texts) -/
def rSortedSD : RAD := fun xs Φ => ∃ zs : List Str, xs = [.lst (zs.map D.str)] ∧ zs.length < 64 ∧ ∀ ys : List Str, ys.Perm zs → sortedS ys = true → Φ (.lst (ys.map D.str))
theorem callD_sortedS : CallR X (.builtin "sorted") (LRA X.K rSortedSD) := by
  intro pins s σ H xs us Q I r ⟨G, ds, Ψ, gh, r1, ⟨zs, e, h64, h⟩, q⟩
  subst e
  unfold RepA at r1
  obtain ⟨x, t, rfl, p1, r1⟩ := r1
  unfold RepA at r1
  subst r1
  obtain ⟨p, xs, rfl, s1, a1⟩ := rep_lst.mp p1
  have e := repA_strs_inv a1
  subst e
  refine cr_sortedS pins s σ H _ us Q I r ⟨p, zs, rfl, .inl (.inl (gh _ _ s1)), h64, fun ys l hp hs hl => ?_⟩
  have g : Grow G H (upd G l (.lst (ys.map V.str))) (upd H l (.lst (ys.map V.str))) := Grow.new gh hl
  exact q _ _ _ _ (h ys hp hs) g (same_upd2 gh) (rep_lst.mpr ⟨l, _, rfl, upd_same, repA_strs ys⟩)
/-- list(..) of a list, a tuple, a dict; tuple(..) -/
def kD : Key → D
  | .inl i => .int i
  | .inr x => .str x
def rListDD : RAD := fun xs Φ => match xs with
  | [.lst l] => Φ (.lst l)
  | [.fro l] => Φ (.lst l)
  | [.tup l] => Φ (.lst l)
  | [.dct ks l] => Φ (.lst (ks.map kD))
  | _ => False
theorem repA_keys {K : PySem.W.Frag} {G : Hp} : ∀ ks : List Key, RepA K G (ks.map kD) (ks.map kV)
  | [] => .nil
  | .inl i :: r => .cons (rep_int.mpr rfl) (repA_keys r)
  | .inr i :: r => .cons (rep_str.mpr rfl) (repA_keys r)
theorem callD_list (hc : X.calm = true) : CallR X (.type "list") (LRA X.K rListDD) := by
  intro pins s σ H xs us Q I r ⟨G, ds, Ψ, gh, r1, h, q⟩
  unfold rListDD at h
  split at h
  · unfold RepA at r1
    obtain ⟨x, t, rfl, p1, r1⟩ := r1
    unfold RepA at r1
    subst r1
    obtain ⟨p, xs, rfl, s1, a1⟩ := rep_lst.mp p1
    refine call_list_of pins s σ H _ us Q I r ⟨p, xs, rfl, .inl (.inl (.inl (gh _ _ s1))), fun l hl => ?_⟩
    have g : Grow G H (upd G l (.lst xs)) (upd H l (.lst xs)) := Grow.new gh hl
    exact q _ _ _ _ h g (same_upd2 gh) (rep_lst.mpr ⟨l, _, rfl, upd_same, a1.mono g.g⟩)
  · unfold RepA at r1
    obtain ⟨x, t, rfl, p1, r1⟩ := r1
    unfold RepA at r1
    subst r1
    obtain ⟨p, xs, rfl, s1, a1⟩ := rep_fro.mp p1
    refine call_list_of pins s σ H _ us Q I r ⟨p, xs, rfl, .inl (gh.seq s1), fun l hl => ?_⟩
    have g : Grow G H (upd G l (.lst xs)) (upd H l (.lst xs)) := Grow.new gh hl
    exact q _ _ _ _ h g (same_upd2 gh) (rep_lst.mpr ⟨l, _, rfl, upd_same, a1.mono g.g⟩)
  · unfold RepA at r1
    obtain ⟨x, t, rfl, p1, r1⟩ := r1
    unfold RepA at r1
    subst r1
    obtain ⟨p, xs, rfl, s1, a1⟩ := rep_tup.mp p1
    refine call_list_of pins s σ H _ us Q I r ⟨p, xs, rfl, .inr (sqt_mono gh s1), fun l hl => ?_⟩
    have g : Grow G H (upd G l (.lst xs)) (upd H l (.lst xs)) := Grow.new gh hl
    exact q _ _ _ _ h g (same_upd2 gh) (rep_lst.mpr ⟨l, _, rfl, upd_same, a1.mono g.g⟩)
  · unfold RepA at r1
    obtain ⟨x, t, rfl, p1, r1⟩ := r1
    unfold RepA at r1
    subst r1
    rename_i ks l
    obtain ⟨p, xs, rfl, s1, a1, hl2⟩ := rep_dct.mp p1
    have ek : (ks.zip xs).map (·.1) = ks := by
      rw [List.map_fst_zip]
      rw [a1.len, hl2]; exact Nat.le_refl _
    refine call_list_dK hc pins s σ H _ us Q I r ⟨p, ks.zip xs, rfl, gh _ _ s1, fun l hl => ?_⟩
    have e2 : (ks.zip xs).map (fun kv => kV kv.1) = ks.map kV := by
      rw [show (fun kv : Key × V => kV kv.1) = kV ∘ (·.1) from rfl, ← List.map_map, ek]
    rw [e2]
    have g : Grow G H (upd G l (.lst (ks.map kV))) (upd H l (.lst (ks.map kV))) := Grow.new gh hl
    exact q _ _ _ _ h g (same_upd2 gh) (rep_lst.mpr ⟨l, _, rfl, upd_same, repA_keys ks⟩)
  · exact h.elim
def rTupleD : RAD := fun xs Φ => match xs with
  | [.lst l] => Φ (.tup l)
  | [.fro l] => Φ (.tup l)
  | [.tup l] => Φ (.tup l)
  | _ => False
theorem callD_tuple : CallR X (.type "tuple") (LRA X.K rTupleD) := by
  intro pins s σ H xs us Q I r ⟨G, ds, Ψ, gh, r1, h, q⟩
  unfold rTupleD at h
  split at h
  · unfold RepA at r1
    obtain ⟨x, t, rfl, p1, r1⟩ := r1
    unfold RepA at r1
    subst r1
    obtain ⟨p, xs, rfl, s1, a1⟩ := rep_lst.mp p1
    refine call_tuple_of pins s σ H _ us Q I r ⟨p, xs, rfl, .inl ⟨.inl (.inl (gh _ _ s1)), fun l hl => ?_⟩⟩
    have g : Grow G H (upd G l (.tup xs)) (upd H l (.tup xs)) := Grow.new gh hl
    exact q _ _ _ _ h g (same_upd2 gh) (rep_tup.mpr ⟨l, _, rfl, .inl (.inl upd_same), a1.mono g.g⟩)
  · unfold RepA at r1
    obtain ⟨x, t, rfl, p1, r1⟩ := r1
    unfold RepA at r1
    subst r1
    obtain ⟨p, xs, rfl, s1, a1⟩ := rep_fro.mp p1
    refine call_tuple_of pins s σ H _ us Q I r ⟨p, xs, rfl, .inl ⟨gh.seq s1, fun l hl => ?_⟩⟩
    have g : Grow G H (upd G l (.tup xs)) (upd H l (.tup xs)) := Grow.new gh hl
    exact q _ _ _ _ h g (same_upd2 gh) (rep_tup.mpr ⟨l, _, rfl, .inl (.inl upd_same), a1.mono g.g⟩)
  · unfold RepA at r1
    obtain ⟨x, t, rfl, p1, r1⟩ := r1
    unfold RepA at r1
    subst r1
    obtain ⟨p, xs, rfl, s1, a1⟩ := rep_tup.mp p1
    exact call_tuple_of pins s σ H _ us Q I r ⟨p, xs, rfl, .inr ⟨sqt_mono gh s1, q _ _ G H h (Grow.refl _ _) gh p1⟩⟩
  · exact h.elim
/-- isinstance with one built-in class -/
def tyN : D → Option String
  | .non => some "NoneType"
  | .bl _ => some "bool"
  | .int _ => some "int"
  | .str _ => some "str"
  | .tup _ => some "tuple"
  | .lst _ => some "list"
  | .dct _ _ => some "dict"
  | _ => none
def isT (t T : String) : Bool := t == T || (t == "bool" && T == "int")
theorem kit_all : ∀ t ∈ ["NoneType", "bool", "int", "str", "tuple", "list", "dict"], ∀ T ∈ ["str", "tuple", "int", "bool", "list", "dict"], kitB t T = some (isT t T) := by decide +kernel
def rIsiD : RAD := fun xs Φ => match xs with
  | [x, .ty T] => T ∈ ["str", "tuple", "int", "bool", "list", "dict"] ∧ ∃ t, tyN x = some t ∧ Φ (.bl (isT t T))
  | _ => False
theorem tyN_mem : ∀ {x : D} {t : String}, tyN x = some t → t ∈ ["NoneType", "bool", "int", "str", "tuple", "list", "dict"]
  | .non, _, h => by cases h; decide
  | .bl _, _, h => by cases h; decide
  | .int _, _, h => by cases h; decide
  | .str _, _, h => by cases h; decide
  | .tup _, _, h => by cases h; decide
  | .lst _, _, h => by cases h; decide
  | .dct _ _, _, h => by cases h; decide
  | .fro _, _, h => by cases h
  | .ins _ _ _, _, h => by cases h
  | .tok _, _, h => by cases h
  | .ty _, _, h => by cases h
  | .rng _ _, _, h => by cases h
theorem tyN_ty {K : PySem.W.Frag} {G H : Hp} (gh : Same G H) : ∀ {x : D} {t : String} {v : V}, tyN x = some t → Rep K G x v → TyX K H v (.type t)
  | .non, _, _, h, r => by cases h; rw [rep_non.mp r]; exact .base .non
  | .bl _, _, _, h, r => by cases h; rw [rep_bl.mp r]; exact .base (.bl _)
  | .int _, _, _, h, r => by cases h; rw [rep_int.mp r]; exact .base (.int _)
  | .str _, _, _, h, r => by cases h; rw [rep_str.mp r]; exact .base (.str _)
  | .tup _, _, _, h, r => by
    cases h
    obtain ⟨p, xs, rfl, s1, a1⟩ := rep_tup.mp r
    rcases sqt_mono gh s1 with (h | ⟨o, h⟩) | ⟨o, its, n, h1, h2, _⟩
    · exact .base (.tup h)
    · exact .fTuple h
    · exact .kTuple h1 h2
  | .lst _, _, _, h, r => by
    cases h
    obtain ⟨p, xs, rfl, s1, a1⟩ := rep_lst.mp r
    exact .base (.lst (gh _ _ s1))
  | .dct _ _, _, _, h, r => by
    cases h
    obtain ⟨p, xs, rfl, s1, a1, _⟩ := rep_dct.mp r
    exact .base (.dK (gh _ _ s1))
  | .fro _, _, _, h, _ => by cases h
  | .ins _ _ _, _, _, h, _ => by cases h
  | .tok _, _, _, h, _ => by cases h
  | .ty _, _, _, h, _ => by cases h
  | .rng _ _, _, _, h, _ => by cases h
theorem callD_isi : CallR X (.builtin "isinstance") (LRA X.K rIsiD) := by
  intro pins s σ H xs us Q I r ⟨G, ds, Ψ, gh, r1, h, q⟩
  unfold rIsiD at h
  split at h
  · obtain ⟨hT, t, ht, h⟩ := h
    unfold RepA at r1
    obtain ⟨x, tl, rfl, p1, r1⟩ := r1
    unfold RepA at r1
    obtain ⟨y, tl, rfl, p2, r1⟩ := r1
    unfold RepA at r1
    subst r1
    cases rep_ty.mp p2
    exact call_isi pins s σ H _ us Q I r ⟨x, .ty _, .type t, .type _, isT t _, rfl, .ty _, tyN_ty gh ht p1, kit_ty (kit_all _ (tyN_mem ht) _ hT), q _ _ G H h (Grow.refl _ _) gh (rep_bl.mpr rfl)⟩
  · exact h.elim
end
end Dz

namespace Dz
open PySem PySem.Spec PyProof.Rows L2

/-! ### what is walked -/
section
variable {X : Cx} {A : Am} {tg e : Expr} {es : List Expr} {fa : FE} {fr : FA}
def iSeq (K : PySem.W.Frag) (tl : TE) : TI := fun σ H R => tl σ H fun x H1 => ∃ a, x = .ref a ∧ (((∃ xs, SqL K H1 a xs) ∧ R (Itl K a) H1) ∨ ((∃ xs, SqT K H1 a xs) ∧ R (Itt K a) H1))
theorem pi_seq {l : Expr} {tl : TE} (hl : PE X l tl) : PI X tg l (iSeq X.K tl) := by
  refine ⟨fun pins s σ H R I h => ?_⟩
  refine thn (hl.run pins s σ H _ I h) fun v s1 ⟨x, H1, I1, r1, q1⟩ => ?_
  obtain ⟨a, e, q1⟩ := q1
  subst e
  cases r1
  rcases q1 with ⟨⟨xs, hq⟩, q⟩ | ⟨⟨xs, hq⟩, q⟩
  · obtain ⟨its, rv, p, hz⟩ := I1.list hq
    refine wpAny_pyIter_list p.isList ?_
    refine ⟨s1.heap.objs.size, [s1.heap.objs.size], _, _, H1, rfl, I1.kept (t' := s1.toks) fun b o e => Heap.get?_push_of_some _ e, turn_list a _, ⟨_, Heap.get?_push_size _ rfl, rfl, rfl⟩, fun b hb => ?_, q⟩
    have e : b = s1.heap.objs.size := by simpa using hb
    subst e
    exact I1.fpOk (Nat.le_refl _) (I1.hok.fresh (Nat.le_refl _))
  · obtain ⟨its, rv, p, hz⟩ := I1.tuple hq
    refine wpAny_pyIter_tuple (show s1.heap.IsTuple a its.toArray from p) ?_
    refine ⟨s1.heap.objs.size, [s1.heap.objs.size], _, _, H1, rfl, I1.kept (t' := s1.toks) fun b o e => Heap.get?_push_of_some _ e, turn_tuple a _, ⟨_, Heap.get?_push_size _ rfl, rfl, rfl⟩, fun b hb => ?_, q⟩
    have e : b = s1.heap.objs.size := by simpa using hb
    subst e
    exact I1.fpOk (Nat.le_refl _) (I1.hok.fresh (Nat.le_refl _))
theorem yl_list {K : PySem.W.Frag} {G : Hp} {a : Addr} {xs : List V} {items : List D} (s : SqL K G a xs) (r : RepA K G items xs) : Yl K (Itl K a) G items where
  go := fun G1 H1 k g h hk => ⟨xs, _, h.seq (g.seq s), List.getElem?_eq_getElem (by rw [r.len]; exact hk)⟩
  yl := fun G1 H1 k x H2 d g h hd hy => by
    obtain ⟨rfl, hx⟩ := hy
    have e := hx xs (h.seq (g.seq s))
    obtain ⟨d', e1, e2⟩ := r.get' e
    rw [hd] at e1
    cases e1
    exact ⟨G1, Grow.refl _ _, h, e2.mono g⟩
  sp := fun G1 H1 k g h hk => ⟨xs, h.seq (g.seq s), by rw [r.len]; exact hk⟩
theorem yl_tup {K : PySem.W.Frag} {G : Hp} {a : Addr} {xs : List V} {items : List D} (s : SqT K G a xs) (r : RepA K G items xs) : Yl K (Itt K a) G items where
  go := fun G1 H1 k g h hk => ⟨xs, _, sqt_mono h (sqt_mono g s), List.getElem?_eq_getElem (by rw [r.len]; exact hk)⟩
  yl := fun G1 H1 k x H2 d g h hd hy => by
    obtain ⟨rfl, hx⟩ := hy
    have e := hx xs (sqt_mono h (sqt_mono g s))
    obtain ⟨d', e1, e2⟩ := r.get' e
    rw [hd] at e1
    cases e1
    exact ⟨G1, Grow.refl _ _, h, e2.mono g⟩
  sp := fun G1 H1 k g h hk => ⟨xs, sqt_mono h (sqt_mono g s), by rw [r.len]; exact hk⟩
def fISeq (fa : FE) : FI := fun en Φ => fa en fun d e => ∃ l, seqD d = some l ∧ Φ l e
theorem di_seq (ha : DE X A e fa) : DI X A tg e (fISeq fa) := pi_weak (pi_seq ha) fun σ H R ⟨F, G, en, Ψ, k, h, q⟩ =>
  ⟨F, G, en, _, k, h, fun d e1 v G1 H1 z k1 s1 r1 => by
    obtain ⟨l, hl, z⟩ := z
    cases d with
    | tup l' =>
      cases hl
      obtain ⟨p, xs, rfl, sq, ra⟩ := rep_tup.mp r1
      exact ⟨p, rfl, .inr ⟨⟨xs, sqt_mono k1.ok.gh sq⟩, q _ _ G1 H1 _ z k1 s1 (yl_tup sq ra)⟩⟩
    | lst l' =>
      cases hl
      obtain ⟨p, xs, rfl, sq, ra⟩ := rep_lst.mp r1
      exact ⟨p, rfl, .inl ⟨⟨xs, .inl (.inl (k1.ok.gh _ _ sq))⟩, q _ _ G1 H1 _ z k1 s1 (yl_list (.inl (.inl sq)) ra)⟩⟩
    | fro l' =>
      cases hl
      obtain ⟨p, xs, rfl, sq, ra⟩ := rep_fro.mp r1
      exact ⟨p, rfl, .inl ⟨⟨xs, k1.ok.gh.seq sq⟩, q _ _ G1 H1 _ z k1 s1 (yl_list sq ra)⟩⟩
    | _ => cases hl⟩
/-- range(n), range(a, b) -/
def rngD (lo : Int) (n : Nat) : List D := (List.range n).map fun i => D.int (lo + (i : Nat))
theorem rngD_get {lo : Int} {n i : Nat} {d : D} (h : (rngD lo n)[i]? = some d) : i < n ∧ d = .int (lo + i) := by
  unfold rngD at h
  rw [List.getElem?_map] at h
  by_cases hi : i < n
  · rw [List.getElem?_range hi] at h
    exact ⟨hi, (Option.some.inj h).symm⟩
  · rw [List.getElem?_eq_none (by rw [List.length_range]; omega)] at h
    cases h
theorem rngD_len {lo : Int} {n : Nat} : (rngD lo n).length = n := by unfold rngD; rw [List.length_map, List.length_range]
theorem yl_rng {K : PySem.W.Frag} {G : Hp} {lo : Int} {n : Nat} : Yl K (Itr lo n) G (rngD lo n) where
  go := fun G1 H1 k g h hk => by rw [rngD_len] at hk; exact hk
  yl := fun G1 H1 k x H2 d g h hd hy => by
    obtain ⟨rfl, rfl⟩ := hy
    obtain ⟨_, rfl⟩ := rngD_get hd
    exact ⟨G1, Grow.refl _ _, h, rep_int.mpr rfl⟩
  sp := fun G1 H1 k g h hk => by rw [rngD_len] at hk; exact hk
def fRng1 (fr : FA) : FI := fun en Φ => fr en fun ds e => ∃ j : Int, ds = [.int j] ∧ -(2 ^ 62) ≤ j ∧ j < 2 ^ 62 ∧ Φ (rngD 0 j.toNat) e
def fRng2 (fr : FA) : FI := fun en Φ => fr en fun ds e => ∃ i j : Int, ds = [.int i, .int j] ∧ (-(2 ^ 62) ≤ i ∧ i < 2 ^ 62 ∧ -(2 ^ 62) ≤ j ∧ j < 2 ^ 62) ∧ Φ (rngD i (j - i).toNat) e
theorem repA_1 {K : PySem.W.Frag} {G : Hp} {d : D} {v : List V} (r : RepA K G [d] v) : ∃ x, v = [x] ∧ Rep K G d x := by
  unfold RepA at r
  obtain ⟨x, t, rfl, p1, r⟩ := r
  unfold RepA at r
  subst r
  exact ⟨x, rfl, p1⟩
theorem repA_2 {K : PySem.W.Frag} {G : Hp} {d d2 : D} {v : List V} (r : RepA K G [d, d2] v) : ∃ x y, v = [x, y] ∧ Rep K G d x ∧ Rep K G d2 y := by
  unfold RepA at r
  obtain ⟨x, t, rfl, p1, r⟩ := r
  obtain ⟨y, rfl, p2⟩ := repA_1 r
  exact ⟨x, y, rfl, p1, p2⟩
theorem di_rng1 {a : Expr} {p pos : Pos} (hg : Gl X "range") (hm : X.mg "range" = none) (ha : DA X A [a] fr) (hs : starEach [a] X.env = [(false, eval a X.env)] := by rfl) : DI X A tg (.Call (.Name "range" p) [a] [] pos) (fRng1 fr) :=
  pi_weak (pi_range1 hg hm ha hs) fun σ H R ⟨F, G, en, Ψ, k, h, q⟩ => ⟨F, G, en, _, k, h, fun d e1 v G1 H1 z k1 s1 r1 => by
    obtain ⟨j, rfl, j1, j2, z⟩ := z
    obtain ⟨x, rfl, p1⟩ := repA_1 r1
    cases rep_int.mp p1
    exact ⟨j, rfl, j1, j2, q _ _ G1 H1 _ z k1 s1 yl_rng⟩⟩
theorem di_rng2 {a b : Expr} {p pos : Pos} (hg : Gl X "range") (hm : X.mg "range" = none) (ha : DA X A [a, b] fr) (hs : starEach [a, b] X.env = [(false, eval a X.env), (false, eval b X.env)] := by rfl) (hs2 : starEach [b] X.env = [(false, eval b X.env)] := by rfl) :
    DI X A tg (.Call (.Name "range" p) [a, b] [] pos) (fRng2 fr) :=
  pi_weak (pi_range2 hg hm ha hs hs2) fun σ H R ⟨F, G, en, Ψ, k, h, q⟩ => ⟨F, G, en, _, k, h, fun d e1 v G1 H1 z k1 s1 r1 => by
    obtain ⟨i, j, rfl, hb, z⟩ := z
    obtain ⟨x, y, rfl, p1, p2⟩ := repA_2 r1
    cases rep_int.mp p1
    cases rep_int.mp p2
    exact ⟨i, j, rfl, hb, q _ _ G1 H1 _ z k1 s1 yl_rng⟩⟩
end

/-! ### comprehensions -/
def wipeE (en : En) : List Nat → En
  | [] => en
  | v :: vs => st (wipeE en vs) v .un
section
variable {K : PySem.W.Frag} {A : Am} {F G H : Hp} {σ : L2.St} {en : En}
theorem EnvOk.wiped (k : EnvOk K A F G H σ en) : ∀ vs : List Nat, EnvOk K A F G H (wipe σ vs) (wipeE en vs)
  | [] => k
  | v :: vs => by unfold wipe wipeE; exact (EnvOk.wiped k vs).forget
theorem st_st {en : En} : ∀ {i : Nat} {a b : EV}, st (st en i a) i b = st en i b := by
  induction en with
  | nil => intro i a b; rfl
  | cons e r ih =>
    intro i a b
    cases i with
    | zero => rfl
    | succ i => simp only [st, ih]
theorem st_comm {en : En} : ∀ {i j : Nat} {a b : EV}, i ≠ j → st (st en i a) j b = st (st en j b) i a := by
  induction en with
  | nil => intro i j a b _; rfl
  | cons e r ih =>
    intro i j a b h
    cases i with
    | zero =>
      cases j with
      | zero => exact absurd rfl h
      | succ j => rfl
    | succ i =>
      cases j with
      | zero => rfl
      | succ j => simp only [st]; rw [ih (fun z => h (by rw [z]))]
theorem wipeE_wipeE (en : En) (vs : List Nat) : wipeE (wipeE en vs) vs = wipeE en vs := by
  have aux : ∀ (ws us : List Nat), (∀ w ∈ us, w ∈ ws) → wipeE (wipeE en ws) us = wipeE en ws := by
    intro ws us
    induction us with
    | nil => intro _; rfl
    | cons u us ih =>
      intro h
      show st (wipeE (wipeE en ws) us) u .un = wipeE en ws
      rw [ih fun w hw => h w (List.mem_cons_of_mem _ hw)]
      have : ∀ (ws : List Nat) (en : En), u ∈ ws → st (wipeE en ws) u .un = wipeE en ws := by
        intro ws
        induction ws with
        | nil => intro _ h; cases h
        | cons w ws ih2 =>
          intro en hm
          unfold wipeE
          by_cases hw : w = u
          · subst hw; rw [st_st]
          · rw [st_comm hw, ih2 en (by
              rcases List.mem_cons.mp hm with z | z
              · exact absurd z.symm hw
              · exact z)]
      exact this ws en (h u List.mem_cons_self)
  exact aux vs vs fun w h => h
theorem EnvOk.unwipe {vs : List Nat} (k : EnvOk K A F G H (wipe σ vs) en) : EnvOk K A F G H σ en := by
  obtain ⟨c, x⟩ := k.ex
  refine ⟨k.ok, by rw [← k.len, wipe_length], c, fun i d h => ?_, fun i o h => ?_, x.inj, x.pl⟩
  · obtain ⟨v, e1, e2⟩ := x.dat i d h
    exact ⟨v, (wipe_some e1).1, e2⟩
  · obtain ⟨e1, e2⟩ := x.cel i o h
    exact ⟨(wipe_some e1).1, e2⟩
theorem wipe_wipe (σ : L2.St) (vs : List Nat) : wipe (wipe σ vs) vs = wipe σ vs := by
  have aux : ∀ (ws us : List Nat), (∀ w ∈ us, w ∈ ws) → wipe (wipe σ ws) us = wipe σ ws := by
    intro ws us
    induction us with
    | nil => intro _; rfl
    | cons u us ih =>
      intro h
      show (wipe (wipe σ ws) us).set u none = wipe σ ws
      rw [ih fun w hw => h w (List.mem_cons_of_mem _ hw)]
      have : ∀ (ws : List Nat) (σ : L2.St), u ∈ ws → (wipe σ ws).set u none = wipe σ ws := by
        intro ws
        induction ws with
        | nil => intro _ h; cases h
        | cons w ws ih2 =>
          intro σ hm
          unfold wipe
          by_cases hw : w = u
          · subst hw; rw [List.set_set]
          · rw [List.set_comm _ _ hw, ih2 σ (by
              rcases List.mem_cons.mp hm with z | z
              · exact absurd z.symm hw
              · exact z)]
      exact this ws σ (h u List.mem_cons_self)
  exact aux vs vs fun w h => h
/-- a temporary object, kept by the frame -/
theorem EnvOk.tmpAdd {Dd : Addr} {u : HO} (k : EnvOk K A F G H σ en) (h : H Dd = none) (hn : plainO u := by exact ⟨fun _ z => (by cases z), fun _ z => (by cases z)⟩) : EnvOk K A (upd F Dd u) G (upd H Dd u) σ en ∧ G Dd = none ∧ F Dd = none := by
  have sg : Same G (upd H Dd u) := k.ok.gh.trans (same_new h)
  have k1 := k.grow (Grow.tmp (o := u) h) sg
  obtain ⟨c, x⟩ := k1.ex
  have nA : ∀ q ∈ A.q, q.1 ≠ Dd := fun q hq z => by
    obtain ⟨_, _, _, e, _⟩ := k.ok.am q hq
    rw [z, h] at e; cases e
  have nC : ∀ i o, gt en i = .cel o → c i ≠ Dd := fun i o e z => by
    obtain ⟨a, u2, e1, e2, _⟩ := k.slot e
    obtain ⟨f1, _⟩ := x.cel i o e
    rw [e1] at f1
    have : a = c i := by injection f1 with f1; injection f1 with f1; injection f1
    rw [this, z, h] at e2; cases e2
  refine ⟨⟨⟨⟨sg, fun b w hb => ?_, fun q hq => ?_, k1.ok.am⟩, ⟨fun b w hb => by rw [upd_ne (fun z => by subst z; have hb := k.ok.fh _ _ (k.ok.bs _ _ hb); rw [h] at hb; cases hb)]; exact k.ok.bs _ _ hb, fun z => (k.ok.bz.n z).new hn⟩, k.ok.bg⟩, k1.len, c, x.dat, fun i o e => ?_, x.inj, x.pl⟩, k.ok.gh.free h, k.ok.fh.free h⟩
  · by_cases hbd : b = Dd
    · subst hbd; rw [upd_same] at hb ⊢; exact hb
    · rw [upd_ne hbd] at hb ⊢; exact k.ok.fh _ _ hb
  · rw [upd_ne (nA q hq)]; exact k.ok.fa q hq
  · obtain ⟨e1, e2, e3, e4, e5⟩ := x.cel i o e
    exact ⟨e1, e2, e3, by rw [upd_ne (nC i o e)]; exact e4, e5⟩
theorem EnvOk.tmpSet {Dd : Addr} {u u' : HO} (k : EnvOk K A (upd F Dd u) G H σ en) (hG : G Dd = none) (h0 : A.F0 Dd = none) (hn : plainO u') : EnvOk K A (upd F Dd u') G (upd H Dd u') σ en := by
  obtain ⟨c, x⟩ := k.ex
  have nA : ∀ q ∈ A.q, q.1 ≠ Dd := fun q hq z => by
    have := k.ok.fa q hq
    rw [z, upd_same] at this; cases this
  have nC : ∀ i o, gt en i = .cel o → c i ≠ Dd := fun i o e z => by
    obtain ⟨_, _, _, e4, _⟩ := x.cel i o e
    rw [z, upd_same] at e4; cases e4
  refine ⟨⟨⟨fun b w hb => ?_, fun b w hb => ?_, fun q hq => ?_, fun q hq => ?_⟩, ⟨fun b w hb => (by
    have nb : b ≠ Dd := fun z => by subst z; rw [h0] at hb; cases hb
    have := k.ok.bs b w hb
    rw [upd_ne nb] at this ⊢
    exact this), fun z a w e => (by
    by_cases ha : a = Dd
    · rw [ha, upd_same] at e; cases e; exact hn
    · rw [upd_ne ha] at e
      exact k.ok.bz.n z a w (by rw [upd_ne ha]; exact e))⟩, k.ok.bg⟩, k.len, c, x.dat, fun i o e => ?_, x.inj, x.pl⟩
  · rw [upd_ne (fun z => by subst z; rw [hG] at hb; cases hb)]; exact k.ok.gh _ _ hb
  · by_cases hbd : b = Dd
    · subst hbd; rw [upd_same] at hb ⊢; exact hb
    · have := k.ok.fh b w
      rw [upd_ne hbd] at hb this ⊢
      exact this hb
  · have := k.ok.fa q hq
    rw [upd_ne (nA q hq)] at this ⊢; exact this
  · obtain ⟨a1, o1, u1, a2, a3, a4⟩ := k.ok.am q hq
    exact ⟨a1, o1, u1, by rw [upd_ne (nA q hq)]; exact a2, a3, a4⟩
  · obtain ⟨e1, ⟨u1, e2, e2'⟩, e3, e4, e5⟩ := x.cel i o e
    rw [upd_ne (nC i o e)] at e4
    exact ⟨e1, ⟨u1, by rw [upd_ne (nC i o e)]; exact e2, e2'⟩, e3, by rw [upd_ne (nC i o e)]; exact e4, e5⟩
theorem EnvOk.tmpFrz {Dd : Addr} {u : HO} (k : EnvOk K A (upd F Dd u) G H σ en) (hG : G Dd = none) (hF : F Dd = none) (h0 : A.F0 Dd = none) (hn : ∀ ps, u ≠ .tbl ps) : EnvOk K A F (upd G Dd u) H σ en := by
  obtain ⟨c, x⟩ := k.ex
  have hD : H Dd = some u := k.ok.fh _ _ upd_same
  have sg : Same G (upd G Dd u) := same_new hG
  have nA : ∀ q ∈ A.q, q.1 ≠ Dd := fun q hq z => by
    have := k.ok.fa q hq
    rw [z, upd_same] at this; cases this
  have nC : ∀ i o, gt en i = .cel o → c i ≠ Dd := fun i o e z => by
    obtain ⟨_, _, _, e4, _⟩ := x.cel i o e
    rw [z, upd_same] at e4; cases e4
  refine ⟨⟨⟨fun b w hb => ?_, fun b w hb => ?_, fun q hq => ?_, fun q hq => ?_⟩, ⟨fun b w hb => (by
    have nb : b ≠ Dd := fun z => by subst z; rw [h0] at hb; cases hb
    have := k.ok.bs b w hb
    rw [upd_ne nb] at this
    exact this), fun z a ps e => k.ok.bz.n z a ps (by rw [upd_ne (fun q => by subst q; rw [hF] at e; cases e)]; exact e)⟩, k.ok.bg.trans ⟨fun z => z.new hn, sg, fun a w ha => upd_ne (fun z => by subst z; rw [h0] at ha; cases ha)⟩⟩, k.len, c, fun i d e => ?_, fun i o e => ?_, x.inj, x.pl⟩
  · by_cases hbd : b = Dd
    · subst hbd; rw [upd_same] at hb; cases hb; exact hD
    · rw [upd_ne hbd] at hb; exact k.ok.gh _ _ hb
  · refine k.ok.fh b w ?_
    rw [upd_ne (fun z => by subst z; rw [hF] at hb; cases hb)]; exact hb
  · have := k.ok.fa q hq
    rw [upd_ne (nA q hq)] at this; exact this
  · obtain ⟨a1, o1, u1, a2, a3, a4⟩ := k.ok.am q hq
    exact ⟨by rw [upd_ne (nA q hq)]; exact a1, o1, u1, a2, a3.mono sg, a4⟩
  · obtain ⟨v, e1, e2⟩ := x.dat i d e
    exact ⟨v, e1, e2.mono sg⟩
  · obtain ⟨e1, ⟨u1, e2, e2'⟩, e3, e4, e5⟩ := x.cel i o e
    rw [upd_ne (nC i o e)] at e4
    exact ⟨e1, ⟨u1, e2, e2'.mono sg⟩, by rw [upd_ne (nC i o e)]; exact e3, e4, e5⟩
end
/-- what a comprehension asks behind its source -/
def LcGoal (g : FG) (ft : FT) (fe : FE) (vs : List Nat) (e1 : En) (items : List D) (Φ : D → En → Prop) : Prop := ∃ I : Nat → List D → Prop, I 0 [] ∧
  (∀ k x acc, items[k]? = some x → I k acc → acc.length < 100000 ∧ g x (wipeE e1 vs) fun e2 => ft e2 fun b e3 =>
    if b = true then fe e3 fun d e4 => wipeE e4 vs = wipeE e1 vs ∧ I (k + 1) (acc ++ [d]) else wipeE e3 vs = wipeE e1 vs ∧ I (k + 1) acc) ∧ ∀ acc, I items.length acc → Φ (.lst acc) (wipeE e1 vs)
def fLc (fi : FI) (g : FG) (ft : FT) (fe : FE) (vs : List Nat) : FE := fun en Φ => fi en fun items e1 => LcGoal g ft fe vs e1 items Φ
theorem le_lc {K : PySem.W.Frag} {A : Am} {fi : FI} {g : FG} {ft : FT} {fe : FE} {vs : List Nat} {σ : L2.St} {H : Hp} {Q : VK} (h : LE K A (fLc fi g ft fe vs) σ H Q) : tLc (LI K A fi) (LG K A vs g) (LT K A ft) (LE K A fe) vs σ H Q := by
  obtain ⟨F, G, en, Ψ, k, h, q⟩ := h
  refine ⟨F, G, en, _, k, h, fun items e1 G1 H1 J hI k1 s1 Y Dd hD => ?_⟩
  obtain ⟨I, i0, it, id⟩ := hI
  obtain ⟨k2, gD, fD⟩ := k1.tmpAdd (u := .lst []) hD
  refine ⟨fun i m H' => ∃ G' acc xs, I i acc ∧ EnvOk K A (upd F Dd (.lst xs)) G' H' σ (wipeE e1 vs) ∧ Step F G1 G' ∧ G' Dd = none ∧ RepA K G' acc xs ∧ i + m = items.length,
    ⟨items.length, G1, [], [], i0, (k2.wiped vs).unwipe, Step.refl _ _, gD, .nil, by omega⟩, fun i m H2 w => ?_⟩
  obtain ⟨G2, acc, xs, ia, k3, s3, g3, ra, hm⟩ := w
  by_cases hi : i < items.length
  · refine .inr ⟨Y.go G2 H2 i s3.g k3.ok.gh hi, fun H' => ∃ G' acc xs, I (i + 1) acc ∧ EnvOk K A (upd F Dd (.lst xs)) G' H' σ (wipeE e1 vs) ∧ Step F G1 G' ∧ G' Dd = none ∧ RepA K G' acc xs,
      fun H' ⟨G', acc, xs, a, b, c, d, e⟩ => ⟨m - 1, by omega, G', acc, xs, a, b, c, d, e, by omega⟩, fun x H' hy => ?_⟩
    obtain ⟨G4, g4, s4, r4⟩ := Y.yl G2 H2 i x H' _ s3.g k3.ok.gh (List.getElem?_eq_getElem hi) hy
    have k4 := k3.grow g4 s4
    obtain ⟨hlen, hturn⟩ := it i _ acc (List.getElem?_eq_getElem hi) ia
    have k4' : EnvOk K A (upd F Dd (.lst xs)) G4 H' (wipe σ vs) (wipeE e1 vs) := by
      have := k4.wiped vs
      have ee : wipeE (wipeE e1 vs) vs = wipeE e1 vs := wipeE_wipeE e1 vs
      rw [ee] at this
      exact this
    have st4 := g4.step k3.ok.fh
    refine ⟨_, G4, _, _, _, k4', r4, hturn, fun e5 σ5 G5 H5 h5 k5 s5 w5 => ?_⟩
    have w5' : wipe σ5 vs = wipe σ vs := by rw [w5, wipe_wipe]
    refine ⟨w5', _, G5, e5, _, k5, h5, fun b e6 G6 H6 h6 k6 s6 => ?_⟩
    cases b with
    | true =>
      rw [if_pos rfl]
      refine ⟨_, G6, e6, _, k6, h6, fun d e7 v G7 H7 h7 k7 s7 r7 => ?_⟩
      obtain ⟨we, i7⟩ := h7
      have hstep : Step (upd F Dd (.lst xs)) G2 G7 := ((st4.trans s5).trans s6).trans s7
      have hDD : H7 Dd = some (.lst xs) := k7.ok.fh _ _ upd_same
      have hGD : G7 Dd = none := by rw [hstep.f Dd _ upd_same]; exact g3
      refine ⟨xs, hDD, by rw [ra.len]; exact Nat.lt_of_lt_of_le hlen (by decide), G7, acc ++ [d], xs ++ [v], i7, ?_, ⟨fun z => hstep.n (s3.n z), s3.g.trans hstep.g, fun a u hu => ?_⟩, hGD, (ra.mono hstep.g).app (.cons r7 .nil)⟩
      · have kk := (k7.wiped vs)
        rw [we, w5'] at kk
        exact (kk.unwipe).tmpSet hGD (k1.ok.bs.free fD) ⟨fun _ z => (by cases z), fun _ z => (by cases z)⟩
      · rw [← s3.f a u hu]
        refine hstep.f a u ?_
        rw [upd_ne (fun z => by subst z; rw [fD] at hu; cases hu)]
        exact hu
    | false =>
      rw [if_neg Bool.false_ne_true]
      obtain ⟨we, i7⟩ := h6
      have hstep : Step (upd F Dd (.lst xs)) G2 G6 := (st4.trans s5).trans s6
      refine ⟨G6, acc, xs, i7, ?_, ⟨fun z => hstep.n (s3.n z), s3.g.trans hstep.g, fun a u hu => ?_⟩, by rw [hstep.f Dd _ upd_same]; exact g3, ra.mono hstep.g⟩
      · have kk := (k6.wiped vs)
        rw [we, w5'] at kk
        exact kk.unwipe
      · rw [← s3.f a u hu]
        refine hstep.f a u ?_
        rw [upd_ne (fun z => by subst z; rw [fD] at hu; cases hu)]
        exact hu
  · have hil : i = items.length := by omega
    subst hil
    refine .inl ⟨Y.sp G2 H2 _ s3.g k3.ok.gh (Nat.le_refl _), ?_⟩
    have kf := k3.tmpFrz g3 fD (k1.ok.bs.free fD) (fun _ z => by cases z)
    have sg : Same G2 (upd G2 Dd (.lst xs)) := same_new g3
    exact q _ _ (.ref Dd) (upd G2 Dd (.lst xs)) H2 (id acc ia) kf ((s1.trans s3).trans ⟨fun z => z.new (fun _ z => by cases z), sg, fun a u hu => upd_ne (fun z => by subst z; rw [fD] at hu; cases hu)⟩)
      (rep_lst.mpr ⟨Dd, xs, rfl, upd_same, ra.mono sg⟩)
abbrev DTs (X : Cx) (A : Am) (ifs : List Expr) (f : FT) : Prop := PTs X ifs (LT X.K A f)
theorem pts_weak {X : Cx} {e : List Expr} {t t' : TT} (h : PTs X e t) (k : ∀ σ H Q, t' σ H Q → t σ H Q) : PTs X e t' := ⟨fun pins s σ H Q I q => h.run pins s σ H Q I (k σ H Q q)⟩
def fYes : FT := fun en Φ => Φ true en
section
variable {X : Cx} {A : Am}
theorem dts_nil : DTs X A [] fYes := pts_weak pts_nil fun σ H Q ⟨F, G, en, Ψ, k, h, q⟩ => q true en G H h k (Step.refl _ _)
theorem dts_one {c : Expr} {ft : FT} (h : DT X A c ft) : DTs X A [c] ft := pts_one h
theorem de_lc {elt tg iter : Expr} {ifs : List Expr} {scope : Scope} {own : List (Str × Nat)} {pos : Pos} {fi : FI} {g : FG} {ft : FT} {fe : FE} (hc : X.calm = true) (hN : X.N.Nodup) (hi : DI X A tg iter fi) (ok : BlkOk X.N X.env.scope scope own)
    (hg : ∀ (s : Shared) (H : Hp) (C : Addr) (cl : List (Str × Addr)) (fp : List Addr), DG (X.blk s H scope (compEnvC scope cl C X.env) fp) A (own.map (·.2)) tg g) (ht : ∀ (s : Shared) (H : Hp) (C : Addr) (cl : List (Str × Addr)) (fp : List Addr), DTs (X.blk s H scope (compEnvC scope cl C X.env) fp) A ifs ft)
    (he : ∀ (s : Shared) (H : Hp) (C : Addr) (cl : List (Str × Addr)) (fp : List Addr), DE (X.blk s H scope (compEnvC scope cl C X.env) fp) A elt fe) (hs : ∀ x, foldedSetIterable iter X.env x = pure x := by intro _; rfl) :
    DE X A (.ListComp elt [⟨tg, iter, ifs, 0⟩] scope pos) (fLc fi g ft fe (own.map (·.2))) := pe_weak (pe_lc hc hN hi ok hg ht he hs) fun _ _ _ h => le_lc h
theorem ds_setLc {i : Nat} {y : Str} {py : Pos} {elt tg iter : Expr} {ifs : List Expr} {scope : Scope} {own : List (Str × Nat)} {pos spos : Pos} {fi : FI} {g : FG} {ft : FT} {fe : FE} (hc : X.calm = true) (hN : X.N.Nodup) (hy : X.N[i]? = some y) (hyl : X.env.scope.names.lookup y = some .local)
    (hsw : swapsWith (.ListComp elt [⟨tg, iter, ifs, 0⟩] scope pos) (some (.Name y py)) spos.line X.env = pure true) (hi : DI X A tg iter fi) (ok : BlkOk X.N X.env.scope scope own)
    (hg : ∀ (s : Shared) (H : Hp) (C : Addr) (cl : List (Str × Addr)) (fp : List Addr), DG (X.blk s H scope (compEnvC scope cl C X.env) fp) A (own.map (·.2)) tg g) (ht : ∀ (s : Shared) (H : Hp) (C : Addr) (cl : List (Str × Addr)) (fp : List Addr), DTs (X.blk s H scope (compEnvC scope cl C X.env) fp) A ifs ft)
    (he : ∀ (s : Shared) (H : Hp) (C : Addr) (cl : List (Str × Addr)) (fp : List Addr), DE (X.blk s H scope (compEnvC scope cl C X.env) fp) A elt fe) (hs : ∀ x, foldedSetIterable iter X.env x = pure x := by intro _; rfl) :
    DS X A (.Assign [.Name y py] (.ListComp elt [⟨tg, iter, ifs, 0⟩] scope pos) spos) (fAsg (fLc fi g ft fe (own.map (·.2))) (gN i)) :=
  ps_weak (ps_setLc hc hN hy hyl hsw hi ok hg ht he hs) fun Dd σ H ⟨F, G, en, Ψ, k, h, q1, _⟩ => by
    show tLc _ _ _ _ _ σ H fun x H1 => gName i x σ H1 Dd.nx
    refine le_lc ⟨F, G, en, _, k, h, fun d e1 v G1 H1 z k1 s1 r1 => ?_⟩
    exact q1 _ _ G1 H1 z (k1.put r1) s1
end
end Dz

namespace Dz
open PySem PySem.Spec PyProof.Rows L2

/-! ### calls of own defs -/
abbrev PD := AQ → List D → (D → Prop) → Prop
/-- the frame of a call: all but the ambient -/
def minus (A : AQ) (H : Hp) : Hp := fun a => if (A.any fun q => q.1 == a) = true then none else H a
theorem minus_in {A : AQ} {H : Hp} {q : Addr × (HD → Prop)} (h : q ∈ A) : minus A H q.1 = none := by
  unfold minus
  rw [if_pos]
  rw [List.any_eq_true]
  exact ⟨q, h, by simp⟩
theorem minus_out {A : AQ} {H : Hp} {a : Addr} (h : ∀ q ∈ A, q.1 ≠ a) : minus A H a = H a := by
  unfold minus
  rw [if_neg]
  intro z
  rw [List.any_eq_true] at z
  obtain ⟨q, h1, h2⟩ := z
  exact h q h1 (by simpa using h2)
theorem minus_same {A : AQ} {H : Hp} : Same (minus A H) H := fun a u h => by
  unfold minus at h
  split at h
  · cases h
  · exact h
def spD (K : PySem.W.Frag) (pd : PD) : Sp := fun vs H Q _ => ∃ (A : AQ) (G : Hp) (ds : List D) (Ψ : D → Prop), StQ K A (minus A H) G H ∧ RepA K G ds vs ∧ pd A ds Ψ ∧
  ∀ d v G' H', Ψ d → StQ K A (minus A H) G' H' → Step (minus A H) G G' → Rep K G' d v → Q v H'
section
variable {K : PySem.W.Frag} {A : Am} {F G H G' H' : Hp} {σ : L2.St} {en : En}
theorem StOk.call (k : StOk K A F G H) : StQ K A.q (minus A.q H) G H := ⟨k.gh, minus_same, fun q hq => minus_in hq, k.am⟩
theorem frame_minus (k : StOk K A F G H) {a : Addr} {u : HO} (h : F a = some u) : minus A.q H a = some u := by
  rw [minus_out]
  · exact k.fh _ _ h
  · intro q hq z
    subst z
    rw [k.fa q hq] at h; cases h
theorem EnvOk.called (k : EnvOk K A F G H σ en) (k' : StQ K A.q (minus A.q H) G' H') (s : Step (minus A.q H) G G') : EnvOk K A F G' H' σ en ∧ Step F G G' := by
  have sF : Step F G G' := ⟨s.n, s.g, fun a u h => s.f a u (frame_minus k.ok h)⟩
  obtain ⟨c, x⟩ := k.ex
  refine ⟨⟨⟨⟨k'.gh, fun a u h => k'.fh _ _ (frame_minus k.ok h), k.ok.fa, k'.am⟩, k.ok.bz, k.ok.bg.trans (sF.less k.ok.bs)⟩, k.len, c, fun i d e => ?_, fun i o e => ?_, x.inj, x.pl⟩, sF⟩
  · obtain ⟨v, e1, e2⟩ := x.dat i d e
    exact ⟨v, e1, e2.mono s.g⟩
  · obtain ⟨e1, ⟨u, e2, e3⟩, e4, e5, e6⟩ := x.cel i o e
    have hm : minus A.q H (c i) = some u := by rw [minus_out e6]; exact e2
    exact ⟨e1, ⟨u, k'.fh _ _ hm, e3.mono s.g⟩, (s.f _ _ hm).trans e4, e5, e6⟩
end
def fCall (pd : PD) (A : Am) (fr : FA) : FE := fun en Φ => fr en fun ds e => pd A.q ds fun d => Φ d e
section
variable {X : Cx} {A : Am} {k : Nat} {f : Addr} {fd : FuncData} {ps : List Str} {pd : PD} {x : Str} {p pos : Pos} {e : Expr} {es : List Expr} {fr : FA}
theorem le_call {E : XK} {σ : L2.St} {H : Hp} {Q : VK} {K : PySem.W.Frag} (h : LE K A (fCall pd A fr) σ H Q) : tCall (spD K pd) [] E (LA K A fr) σ H Q := by
  obtain ⟨F, G, en, Ψ, k, h, q⟩ := h
  refine ⟨F, G, en, _, k, h, fun ds e1 vs G1 H1 hp k1 s1 r1 => ?_⟩
  show spD K pd (vs ++ []) H1 Q E
  rw [List.append_nil]
  refine ⟨A.q, G1, ds, _, k1.ok.call, r1, hp, fun d v G2 H2 hd k2 s2 r2 => ?_⟩
  obtain ⟨k3, s3⟩ := k1.called k2 s2
  exact q d e1 v G2 H2 hd k3 (s1.trans s3) r2
theorem de_call (Fk : FnOk X.prog X.w X.K X.mg X.base CX0 k f fd ps (spD X.K pd)) (hr : Room k X.A) (hg : Gl X x) (hm : X.mg x = some (.ref f)) (hk : PySem.W.keepIn X.K (.ref f) = true) (hb : Binds X.K fd ps [])
    (ha : DA X A (e :: es) fr) (hdb : (x == ("__debug__" : Str)) = false := by decide) (he : starEach (e :: es) X.env = (false, eval e X.env) :: starEach es X.env := by rfl) (hpl : (backTo pos (starEach es X.env)).any (·.1) = false := by rfl) :
    DE X A (.Call (.Name x p) (e :: es) [] pos) (fCall pd A fr) := pe_weak (pe_call Fk hr hg hm hk hb .nil pass0 ha hdb he hpl) fun _ _ _ h => le_call h
theorem de_call0 (Fk : FnOk X.prog X.w X.K X.mg X.base CX0 k f fd ps (spD X.K pd)) (hr : Room k X.A) (hg : Gl X x) (hm : X.mg x = some (.ref f)) (hk : PySem.W.keepIn X.K (.ref f) = true) (hb : Binds X.K fd ps [])
    (hdb : (x == ("__debug__" : Str)) = false := by decide) : DE X A (.Call (.Name x p) [] [] pos) (fCall pd A fNil) := pe_weak (pe_call0 Fk hr hg hm hk hb .nil pass0 hdb) fun σ H Q h => by
      obtain ⟨F, G, en, Ψ, k, h, q⟩ := h
      show spD X.K pd ([] ++ []) H Q E0
      refine ⟨A.q, G, [], _, k.ok.call, .nil, h, fun d v G2 H2 hd k2 s2 r2 => ?_⟩
      obtain ⟨k3, s3⟩ := k.called k2 s2
      exact q d en v G2 H2 hd k3 s3 r2
end
/-- the entry of a body -/
theorem gt_dat : ∀ {ds : List D} {m i : Nat} {e : EV}, gt (ds.map EV.dat ++ List.replicate m EV.un) i = e → e ≠ .un → ∃ d, e = .dat d ∧ ds[i]? = some d
  | [], 0, i, e, h, hn => by simp [gt] at h; exact absurd h.symm hn
  | [], m + 1, 0, e, h, hn => by
    rw [List.map_nil, List.nil_append, List.replicate_succ] at h
    exact absurd h.symm hn
  | [], m + 1, i + 1, e, h, hn => by
    rw [List.map_nil, List.nil_append, List.replicate_succ] at h
    exact gt_dat (ds := []) (m := m) (i := i) h hn
  | d :: ds, m, 0, e, h, hn => ⟨d, h.symm, rfl⟩
  | d :: ds, m, i + 1, e, h, hn => by
    obtain ⟨d', h1, h2⟩ := gt_dat (ds := ds) (m := m) (i := i) (e := e) h hn
    exact ⟨d', h1, by simpa using h2⟩
theorem EnvOk.start {K : PySem.W.Frag} {A : Am} {F G H : Hp} {ds : List D} {vs : List V} {N : List Str} (k : StOk K A F G H) (r : RepA K G ds vs) : EnvOk K A F G H (start N vs) (ds.map EV.dat ++ List.replicate (N.length - ds.length) EV.un) := by
  have hl := r.len
  refine ⟨k, ?_, fun _ => 0, fun i d e => ?_, fun i o e => ?_, fun i j o u e => ?_, fun i o e => ?_⟩
  · unfold L2.start
    simp only [List.length_append, List.length_map, List.length_replicate, hl]
  · obtain ⟨d', h1, h2⟩ := gt_dat e (by intro z; cases z)
    cases h1
    obtain ⟨v, e1, e2⟩ := r.get h2
    refine ⟨v, ?_, e2⟩
    unfold L2.start
    have hi : i < vs.length := (List.getElem?_eq_some_iff.mp e1).1
    rw [List.getElem?_append_left (by rw [List.length_map]; exact hi), List.getElem?_map, e1]
    rfl
  · obtain ⟨d', h1, _⟩ := gt_dat e (by intro z; cases z)
    cases h1
  · obtain ⟨d', h1, _⟩ := gt_dat e (by intro z; cases z)
    cases h1
  · obtain ⟨d', h1, _⟩ := gt_dat e (by intro z; cases z)
    cases h1
section
variable {P : Program} {w : World} {K : PySem.W.Frag} {mg : Str → Option Value} {base : Heap}
theorem fn_dz {x qual : Str} {s0 : Stmt} {f : Addr} {fd : FuncData} {N ps : List Str} {k : Nat} {pd : PD} {fb : Am → FS} (Fk : Fun K x qual s0 f fd) (S : FnScope N ps (defScope s0)) (hlen : ∀ A ds Ψ, pd A ds Ψ → ds.length = ps.length)
    (hb : ∀ (A : Am) (cdv : Value) (Ar : Around) (outer : List PySem.Env) (s : Shared) (H : Hp) (E : XK), Room k (Ar.deeper (envOfC qual (defScope s0) s.heap.objs.size f cdv)) → DSs (cxOf CX0 P w K mg base N qual (defScope s0) f cdv Ar outer s H E).nox A (defBody s0) (fb A))
    (hm : ∀ (A : Am) ds Ψ, pd A.q ds Ψ → fb A (ds.map EV.dat ++ List.replicate (N.length - ds.length) EV.un) { nx := fun _ => Ψ .non, rt := Ψ }) : FnOk P w K mg base CX0 (k + 1) f fd ps (spD K pd) := by
  refine Fk.ok S (fun vs H Q E h => ?_) (fun cdv A outer s H vs Q E hr h => ?_)
  · obtain ⟨A, G, ds, Ψ, _, r, hp, _⟩ := h
    rw [r.len]
    exact hlen A ds Ψ hp
  · obtain ⟨Am', G, ds, Ψ, k0, r, hp, q⟩ := h
    refine ⟨_, hb ⟨Am', minus Am' H, G⟩ cdv A outer s H E hr, minus Am' H, G, _, _, EnvOk.start ⟨k0, Fro.refl _, Step.refl _ _⟩ r, hm ⟨Am', minus Am' H, G⟩ ds Ψ hp, fun e σ' G' H' hn k1 s1 => ?_, fun d v G' H' hd k1 s1 r1 => ?_, fun _ _ _ _ z => z.elim, fun _ _ _ _ z => z.elim⟩
    · exact q .non .non G' H' hn k1.ok.st s1 (rep_non.mpr rfl)
    · exact q d v G' H' hd k1.st s1 r1
end

/-! ### changing lists and dicts of one's own -/
abbrev FN := En → (HD → En → Prop) → Prop
def LN (K : PySem.W.Frag) (A : Am) (f : FN) : TE := fun σ H Q => ∃ (F G : Hp) (en : En) (Ψ : HD → En → Prop), EnvOk K A F G H σ en ∧ f en Ψ ∧
  ∀ o en' p G' H', Ψ o en' → EnvOk K A F G' H' (σ ++ [some (.ref p)]) (en' ++ [.cel o]) → Step F G G' → Q (.ref p) H'
abbrev DN (X : Cx) (A : Am) (e : Expr) (f : FN) : Prop := PE X e (LN X.K A f)
section
variable {X : Cx} {A : Am} {e a b : Expr} {es : List Expr} {pos : Pos} {fa fb : FE} {fn : FN} {fr : FA}
def nLst (fr : FA) : FN := fun en Φ => fr en fun xs e => xs.length ≤ 100000 ∧ Φ (.lst xs) e
theorem dn_lst (h : DA X A es fr) : DN X A (.List es pos) (nLst fr) := pe_weak (pe_lst h) fun σ H Q ⟨F, G, en, Ψ, k, h, q⟩ =>
  ⟨F, G, en, _, k, h, fun xs e1 vs G1 H1 hb k1 s1 r1 => ⟨by rw [r1.len]; exact sz_of hb.1, fun p hp => q _ _ p G1 _ hb.2 (k1.newcell hp ⟨vs, rfl, r1⟩) s1⟩⟩
def nDct : FN := fun en Φ => Φ (.dct [] []) en
theorem dn_dct : DN X A (.Dict [] [] pos) nDct := pe_weak pe_dnewK fun σ H Q ⟨F, G, en, Ψ, k, h, q⟩ => fun p hp => q _ _ p G _ h (k.newcell hp ⟨[], rfl, .nil, rfl⟩) (Step.refl _ _)
def fSetN (i : Nat) (fn : FN) : FS := fun en Ψ => fn en fun o e => Ψ.nx (st e i (.cel o))
theorem ds_setN {i : Nat} {x : Str} {px : Pos} (hN : X.N.Nodup) (hi : X.N[i]? = some x) (hx : Loc X.env.scope x) (he : DN X A e fn) (hf : X.fn x = true ∨ X.env.scope.names.lookup x = some .local := by first | exact .inl rfl | exact .inr rfl | assumption)
    (hs : swapsWithSole [.Name x px] e pos.line X.env = pure false := by rfl) (hw : swappedStores [.Name x px] e X.env = pure none := by rfl) : DS X A (.Assign [.Name x px] e pos) (fSetN i fn) :=
  ps_weak (ps_asg he (pg_name hN hi hx hf) hs hw) fun Dd σ H ⟨F, G, en, Ψ, k, h, q1, _⟩ => ⟨F, G, en, _, k, h, fun o e1 p G1 H1 z k1 s1 => q1 _ _ G1 H1 z k1.move s1⟩
/-- a slot's value as it is -/
theorem slot_var {K : PySem.W.Frag} {F G H : Hp} {σ : L2.St} {en : En} {i : Nat} {o : HD} {Q : VK} (k : EnvOk K A F G H σ en) (eg : gt en i = .cel o) (h : ∀ p u, σ[i]? = some (some (.ref p)) → H p = some u → RepO K G o u → Q (.ref p) H) : tVar i σ H Q := by
  obtain ⟨p, u, e1, e2, e3⟩ := k.slot eg
  exact ⟨.ref p, e1, h p u e1 e2 e3⟩
/-- x.append(e), x a changing list -/
def fApp (i : Nat) (fa : FE) : FS := fun en Ψ => ∃ l, gt en i = .cel (.lst l) ∧ fa en fun d e => ∃ l', gt e i = .cel (.lst l') ∧ l'.length < 100000 ∧ Ψ.nx (st e i (.cel (.lst (l' ++ [d]))))
theorem ds_append {i : Nat} {x : Str} {px apos cpos : Pos} (hN : X.N[i]? = some x) (hv : Vis X.env.scope x) (he : DE X A e fa)
    (hd : (x == ("__debug__" : Str)) = false := by decide) (hcd : (x == ("__classdict__" : Str)) = false := by decide)
    (hbase : attributeBase (.Name x px) "append" X.env (eval (.Name x px) X.env) = eval (.Name x px) X.env := by rfl)
    (hfew : ((backTo cpos (starEach [e] X.env)).all (fun x => !x.1) && (backToKw cpos (keywordEach [] X.env)).all (fun x => x.1.isSome)
      && decide (([e] : List Expr).length + ([] : List Keyword).length + (if ([] : List Keyword).isEmpty then 0 else 1) < 30)) = true := by rfl)
    (hline : (apos.endLine == cpos.line) = true := by rfl) (hs : starEach [e] X.env = (false, eval e X.env) :: starEach [] X.env := by rfl) (hplain : (backTo cpos (starEach [] X.env)).any (·.1) = false := by rfl)
    (hsw : swapsWith (.Call (.Attribute (.Name x px) "append" apos) [e] [] cpos) none pos.line X.env = pure false := by rfl) :
    DS X A (.Expr (.Call (.Attribute (.Name x px) "append" apos) [e] [] cpos) pos) (fApp i fa) :=
  ps_weak (ps_expr (pe_bm PySem.F.plainAttrs_list PySem.F.slot_list_append PySem.F.type_list_append mt_append (pv i hN hv hd hcd) (pa_cons he pa_nil hs) hbase hfew hline hs hplain) hsw) fun Dd σ H ⟨F, G, en, Ψ, k, h, q1, _⟩ => by
    obtain ⟨l, eg, h⟩ := h
    obtain ⟨p, u, e1, e2, e3⟩ := k.slot eg
    obtain ⟨xs, eu, ra⟩ := e3
    subst eu
    refine ⟨.ref p, e1, .inl ⟨rfl, xs, .inl (.inl e2)⟩, F, G, en, _, k, h, fun d ee v G1 H1 z k1 s1 r1 => ?_⟩
    obtain ⟨l', eg', hl, z⟩ := z
    obtain ⟨p', u', f1, f2, f3⟩ := k1.slot eg'
    rw [e1] at f1
    have ep : p = p' := by injection f1 with f1; injection f1 with f1; injection f1
    subst ep
    obtain ⟨ys, eu, rb⟩ := f3
    subst eu
    refine ⟨p, ys, v, rfl, rfl, f2, by rw [rb.len]; exact Nat.lt_of_lt_of_le hl (by decide), ?_⟩
    exact q1 _ _ G1 _ z (k1.alter (u' := .lst (ys ++ [v])) eg' e1 ⟨_, rfl, rb.app (.cons r1 .nil)⟩) s1
/-- x[k] = e, x a changing dict -/
def mapAt : List Key → List D → Key → D → List D
  | k' :: ks, d :: l, k, v => (if k' = k then v else d) :: mapAt ks l k v
  | _, _, _, _ => []
def hasK (ks : List Key) (k : Key) : Bool := ks.any fun k' => decide (k' = k)
def putKd (ks : List Key) (l : List D) (k : Key) (v : D) : List D := if hasK ks k = true then mapAt ks l k v else l ++ [v]
def putKs (ks : List Key) (k : Key) : List Key := if hasK ks k = true then ks else ks ++ [k]
def keyD : D → Option Key
  | .int i => some (.inl i)
  | .str x => some (.inr x)
  | _ => none
theorem keyD_rep {K : PySem.W.Frag} {G : Hp} {d : D} {k : Key} {v : V} (h : keyD d = some k) (r : Rep K G d v) : v = kV k := by
  cases d <;> try (cases h; done)
  · cases h; exact rep_int.mp r
  · cases h; exact rep_str.mp r
theorem any_zip {k : Key} : ∀ {ks : List Key} {xs : List V}, ks.length = xs.length → ((ks.zip xs).any fun kv => decide (kv.1 = k)) = hasK ks k
  | [], [], _ => rfl
  | [], _ :: _, h => by cases h
  | _ :: _, [], h => by cases h
  | k' :: ks, x :: xs, h => by
    have ih := any_zip (k := k) (ks := ks) (xs := xs) (by simpa using h)
    unfold hasK at ih ⊢
    simp only [List.zip_cons_cons, List.any_cons, ih]
theorem map_zip {K : PySem.W.Frag} {G : Hp} {k : Key} {v : V} {d : D} (hd : Rep K G d v) : ∀ {ks : List Key} {l : List D} {xs : List V}, ks.length = l.length → RepA K G l xs →
    ∃ ys, (ks.zip xs).map (fun kv => if kv.1 = k then (kv.1, v) else kv) = ks.zip ys ∧ RepA K G (mapAt ks l k d) ys ∧ (mapAt ks l k d).length = l.length
  | [], [], xs, _, r => by
    unfold RepA at r
    subst r
    exact ⟨[], rfl, .nil, rfl⟩
  | [], _ :: _, _, h, _ => by cases h
  | _ :: _, [], _, h, _ => by cases h
  | k' :: ks, d' :: l, xs, h, r => by
    unfold RepA at r
    obtain ⟨x, t, rfl, r1, r2⟩ := r
    have h' : ks.length = l.length := by simpa using h
    obtain ⟨ys, e1, e2, e3⟩ := map_zip (k := k) hd h' r2
    unfold mapAt
    simp only [List.zip_cons_cons, List.map_cons, e1, List.length_cons, e3]
    by_cases hk : k' = k
    · simp only [if_pos hk]
      exact ⟨v :: ys, rfl, .cons hd e2, trivial⟩
    · simp only [if_neg hk]
      exact ⟨x :: ys, rfl, .cons r1 e2, trivial⟩
theorem putK_zip {K : PySem.W.Frag} {G : Hp} {k : Key} {v : V} {d : D} (hd : Rep K G d v) {ks : List Key} {l : List D} {xs : List V} (h : ks.length = l.length) (r : RepA K G l xs) :
    ∃ ys, putK (ks.zip xs) k v = (putKs ks k).zip ys ∧ RepA K G (putKd ks l k d) ys ∧ (putKs ks k).length = (putKd ks l k d).length := by
  have hx : ks.length = xs.length := h.trans r.len.symm
  unfold putK putKs putKd
  rw [any_zip hx]
  by_cases hk : hasK ks k = true
  · simp only [hk, if_true]
    obtain ⟨ys, e1, e2, e3⟩ := map_zip (k := k) hd h r
    exact ⟨ys, e1, e2, by rw [e3]; exact h⟩
  · simp only [if_neg hk]
    refine ⟨xs ++ [v], ?_, r.app (.cons hd .nil), by simp only [List.length_append, h, List.length_singleton]⟩
    rw [List.zip_append hx]
    rfl
def fPutD (i : Nat) (fk fv : FE) : FS := fun en Ψ => fv en fun dv e1 => ∃ ks l, gt e1 i = .cel (.dct ks l) ∧ fk e1 fun dk e2 => ∃ k, keyD dk = some k ∧ ∃ ks' l', gt e2 i = .cel (.dct ks' l') ∧ ks'.length < 100000 ∧ Ψ.nx (st e2 i (.cel (.dct (putKs ks' k) (putKd ks' l' k dv))))
theorem ds_putD {i : Nat} {x : Str} {px pos' : Pos} {kx : Expr} {fk fv : FE} (hu : X.A.units + 1 < cLine) (hN : X.N[i]? = some x) (hv : Vis X.env.scope x) (hk : DE X A kx fk) (he : DE X A e fv)
    (hd : (x == ("__debug__" : Str)) = false := by decide) (hcd : (x == ("__classdict__" : Str)) = false := by decide) (hs : swapsWith e (some (.Subscript (.Name x px) kx pos')) pos.line X.env = pure false := by rfl) :
    DS X A (.Assign [.Subscript (.Name x px) kx pos'] e pos) (fPutD i fk fv) := ps_weak (ps_dput hu (pv i hN hv hd hcd) hk he hs) fun Dd σ H ⟨F, G, en, Ψ, k, h, q1, _⟩ => by
  refine ⟨F, G, en, _, k, h, fun dv e1 v G1 H1 z k1 s1 r1 => ?_⟩
  obtain ⟨ks, l, eg, z⟩ := z
  obtain ⟨p, u, f1, f2, f3⟩ := k1.slot eg
  refine ⟨.ref p, f1, F, G1, e1, _, k1, z, fun dk e2 kv G2 H2 z k2 s2 r2 => ?_⟩
  obtain ⟨key, hkey, ks', l', eg', hl, z⟩ := z
  have ek := keyD_rep hkey r2
  subst ek
  obtain ⟨p', u', g1, g2, g3⟩ := k2.slot eg'
  rw [f1] at g1
  have ep : p = p' := by injection g1 with g1; injection g1 with g1; injection g1
  subst ep
  obtain ⟨ys, eu, rb, hlen⟩ := g3
  subst eu
  obtain ⟨zs, e3, e4, e5⟩ := putK_zip (k := key) (r1.mono s2.g) hlen rb
  refine ⟨p, upd H2 p (.dK (putK (ks'.zip ys) key v)), rfl, .inl ⟨_, key, g2, rfl, ?_, rfl⟩, ?_⟩
  · rw [List.length_zip]
    exact Nat.lt_of_le_of_lt (Nat.min_le_left _ _) (Nat.lt_of_lt_of_le hl (by decide))
  · rw [e3]
    exact q1 _ _ G2 _ z (k2.alter (u' := .dK ((putKs ks' key).zip zs)) eg' f1 ⟨zs, rfl, e4, e5⟩) (s1.trans s2)

/-! ### t[::-1]; split -/
def rRevD : R1D := fun x Φ => match x with
  | .tup l => Φ (.tup l.reverse)
  | _ => False
def fRev (fa : FE) : FE := fun en Φ => fa en fun x e1 => rRevD x fun z => Φ z e1
theorem de_revT {k : Nat} {p1 p2 p3 : Pos} (he : DE X A e fa) : DE X A (.Subscript e (.Slice none none (some (.UnaryOp .USub (.Constant (.int 1) k p1) p2)) p3) pos) (fRev fa) := pe_weak (pe_revT he) fun σ H Q ⟨F, G, en, Ψ, k, h, q⟩ =>
  ⟨F, G, en, _, k, h, fun d e1 v G1 H1 z k1 s1 r1 => by
    unfold rRevD at z
    cases d with
    | tup l =>
      obtain ⟨p, xs, rfl, sq, ra⟩ := rep_tup.mp r1
      refine ⟨p, xs, rfl, sqt_mono k1.ok.gh sq, fun p' hp => ?_⟩
      have g : Grow G1 H1 (upd G1 p' (.tup xs.reverse)) (upd H1 p' (.tup xs.reverse)) := Grow.new k1.ok.gh hp
      exact q _ e1 _ _ _ z (k1.grow g (same_upd2 k1.ok.gh)) (s1.trans (g.step k1.ok.fh)) (rep_tup.mpr ⟨p', _, rfl, .inl (.inl upd_same), (ra.rev).mono g.g⟩)
    | _ => exact z.elim⟩
def fSplit (fa fb : FE) : FE := fun en Φ => fa en fun x e1 => ∃ a, x = .str a ∧ fb e1 fun y e2 => ∃ b, y = .str b ∧ (b.length == 0) = false ∧ a.length + 2 ≤ sizeLine ∧ Φ (.lst ((Txt.split a b).map D.str)) e2
theorem de_split {o : Expr} {apos : Pos} (ho : DE X A o fa) (he : DE X A e fb) (hs : starEach [e] X.env = [(false, eval e X.env)] := by rfl) (hbase : attributeBase o "split" X.env (eval o X.env) = eval o X.env := by rfl) (hline : (apos.endLine == pos.line) = true := by rfl) :
    DE X A (.Call (.Attribute o "split" apos) [e] [] pos) (fSplit fa fb) := pe_weak (pe_split ho he hs hbase hline) fun σ H Q ⟨F, G, en, Ψ, k, h, q⟩ =>
  ⟨F, G, en, _, k, h, fun d e1 v G1 H1 z k1 s1 r1 => by
    obtain ⟨a, rfl, z⟩ := z
    cases rep_str.mp r1
    refine ⟨⟨a, rfl⟩, F, G1, e1, _, k1, z, fun d2 e2 v2 G2 H2 z2 k2 s2 r2 => ?_⟩
    obtain ⟨b, rfl, h1, h2, z2⟩ := z2
    cases rep_str.mp r2
    refine ⟨a, b, rfl, rfl, h1, h2, fun p hp => ?_⟩
    have g : Grow G2 H2 (upd G2 p (.lst ((Txt.split a b).map V.str))) (upd H2 p (.lst ((Txt.split a b).map V.str))) := Grow.new k2.ok.gh hp
    exact q _ e2 _ _ _ z2 (k2.grow g (same_upd2 k2.ok.gh)) ((s1.trans s2).trans (g.step k2.ok.fh)) (rep_lst.mpr ⟨p, _, rfl, upd_same, repA_strs _⟩)⟩
/-- truth -/
def truD : D → Option Bool
  | .non => some false
  | .bl b => some b
  | .int i => some (i != 0)
  | .tup l => some (!l.isEmpty)
  | .lst l => some (!l.isEmpty)
  | .fro l => some (!l.isEmpty)
  | _ => none
theorem empty_of {K : PySem.W.Frag} {G : Hp} {l : List D} {xs : List V} (r : RepA K G l xs) : xs.isEmpty = l.isEmpty := by
  have := r.len
  cases l <;> cases xs <;> simp_all
def fTru (fa : FE) : FT := fun en Φ => fa en fun x e => ∃ k, truD x = some k ∧ Φ k e
theorem truV_of {K : PySem.W.Frag} {G H : Hp} (gh : Same G H) : ∀ {x : D} {v : V} {k : Bool}, truD x = some k → Rep K G x v → TruV K v H k
  | .non, v, k, h, r => by cases h; rw [rep_non.mp r]; rfl
  | .bl b, v, k, h, r => by cases h; rw [rep_bl.mp r]; rfl
  | .int b, v, k, h, r => by cases h; rw [rep_int.mp r]; rfl
  | .tup l, v, k, h, r => by
    cases h
    obtain ⟨p, xs, rfl, sq, ra⟩ := rep_tup.mp r
    exact .inr (.inl ⟨xs, sqt_mono gh sq, by rw [empty_of ra]⟩)
  | .lst l, v, k, h, r => by
    cases h
    obtain ⟨p, xs, rfl, sq, ra⟩ := rep_lst.mp r
    exact .inl ⟨xs, .inl (.inl (gh _ _ sq)), by rw [empty_of ra]⟩
  | .fro l, v, k, h, r => by
    cases h
    obtain ⟨p, xs, rfl, sq, ra⟩ := rep_fro.mp r
    exact .inl ⟨xs, gh.seq sq, by rw [empty_of ra]⟩
  | .str _, _, _, h, _ => by cases h
  | .dct _ _, _, _, h, _ => by cases h
  | .ins _ _ _, _, _, h, _ => by cases h
  | .tok _, _, _, h, _ => by cases h
  | .ty _, _, _, h, _ => by cases h
  | .rng _ _, _, _, h, _ => by cases h
theorem dt_truth (ha : DE X A a fa) (he : ∀ whole, isTrue a X.env whole = (do let v ← whole; standAt a.pos; holding [v] (truthy v)) := by intro _; rfl) : DT X A a (fTru fa) := pt_weak (pt_truth ha he) fun σ H Q ⟨F, G, en, Ψ, k, h, q⟩ =>
  ⟨F, G, en, _, k, h, fun d e1 v G1 H1 z k1 s1 r1 => by
    obtain ⟨b, hb, z⟩ := z
    exact ⟨b, truV_of k1.ok.gh hb r1, q b e1 G1 H1 z k1 s1⟩⟩
end
end Dz

namespace Dz
open PySem PySem.Spec PyProof.Rows L2

/-! ### by truth -/
section
variable {X : Cx} {A : Am} {e a b : Expr} {es : List Expr} {pos : Pos} {fa fb : FE} {fr : FA}
def fNotT (fa : FE) : FE := fun en Φ => fa en fun x e1 => ∃ k, truD x = some k ∧ Φ (.bl (!k)) e1
theorem de_notT (ha : DE X A a fa) : DE X A (.UnaryOp .Not a pos) (fNotT fa) := pe_weak (pe_notT ha) fun σ H Q ⟨F, G, en, Ψ, k, h, q⟩ =>
  ⟨F, G, en, _, k, h, fun d e1 v G1 H1 z k1 s1 r1 => by
    obtain ⟨b, hb, z⟩ := z
    exact ⟨b, truV_of k1.ok.gh hb r1, q _ e1 _ G1 H1 z k1 s1 (rep_bl.mpr rfl)⟩⟩
def fAndT (fa fb : FE) : FE := fun en Φ => fa en fun x e1 => ∃ k, truD x = some k ∧ if k = true then fb e1 Φ else Φ x e1
def fOrT (fa fb : FE) : FE := fun en Φ => fa en fun x e1 => ∃ k, truD x = some k ∧ if k = true then Φ x e1 else fb e1 Φ
theorem de_andT {rest : List Expr} (ha : DE X A a fa) (hb : DE X A (.BoolOp .And (b :: rest) pos) fb) : DE X A (.BoolOp .And (a :: b :: rest) pos) (fAndT fa fb) := pe_weak (pe_andT ha hb) fun σ H Q ⟨F, G, en, Ψ, k, h, q⟩ =>
  ⟨F, G, en, _, k, h, fun d e1 v G1 H1 z k1 s1 r1 => by
    obtain ⟨b, hb, z⟩ := z
    refine ⟨b, truV_of k1.ok.gh hb r1, ?_⟩
    cases b with
    | true => exact ⟨F, G1, e1, _, k1, z, fun y e2 v2 G2 H2 hr k2 s2 r2 => q y e2 v2 G2 H2 hr k2 (s1.trans s2) r2⟩
    | false => exact q _ e1 _ G1 H1 z k1 s1 r1⟩
theorem de_orT {rest : List Expr} (ha : DE X A a fa) (hb : DE X A (.BoolOp .Or (b :: rest) pos) fb) : DE X A (.BoolOp .Or (a :: b :: rest) pos) (fOrT fa fb) := pe_weak (pe_orT ha hb) fun σ H Q ⟨F, G, en, Ψ, k, h, q⟩ =>
  ⟨F, G, en, _, k, h, fun d e1 v G1 H1 z k1 s1 r1 => by
    obtain ⟨b, hb, z⟩ := z
    refine ⟨b, truV_of k1.ok.gh hb r1, ?_⟩
    cases b with
    | false => exact ⟨F, G1, e1, _, k1, z, fun y e2 v2 G2 H2 hr k2 s2 r2 => q y e2 v2 G2 H2 hr k2 (s1.trans s2) r2⟩
    | true => exact q _ e1 _ G1 H1 z k1 s1 r1⟩
end

/-! ### the draw: a list of the script and a number that goes up -/
def drawOk (ns : List Int) : HD → Prop := fun o => ∃ n : Int, o = .lst [.fro (ns.map D.int), .int n]
structure DrawIn (A : AQ) (p : Addr) (ns : List Int) : Prop where
  mem : (p, drawOk ns) ∈ A
  one : ∀ q ∈ A, q.1 = p → q = (p, drawOk ns)
  few : ns.length ≤ 63
theorem EnvOk.amb {K : PySem.W.Frag} {A : Am} {F G H : Hp} {σ : L2.St} {en : En} {p : Addr} {ns : List Int} {o : HD} {u : HO} (k : EnvOk K A F G H σ en) (d : DrawIn A.q p ns) (r : RepO K G o u) (ho : drawOk ns o) : EnvOk K A F G (upd H p u) σ en := by
  obtain ⟨c, x⟩ := k.ex
  obtain ⟨gp, _⟩ := k.ok.am _ d.mem
  have fp := k.ok.fa _ d.mem
  refine ⟨⟨⟨fun b w hb => ?_, fun b w hb => ?_, k.ok.fa, fun q hq => ?_⟩, k.ok.bz, k.ok.bg⟩, k.len, c, x.dat, fun i o e => ?_, x.inj, x.pl⟩
  · rw [upd_ne (fun z => by subst z; rw [gp] at hb; cases hb)]; exact k.ok.gh _ _ hb
  · rw [upd_ne (fun z => by subst z; rw [fp] at hb; cases hb)]; exact k.ok.fh _ _ hb
  · obtain ⟨a1, o1, u1, a2, a3, a4⟩ := k.ok.am q hq
    by_cases hqp : q.1 = p
    · have e := d.one q hq hqp
      subst e
      exact ⟨a1, o, u, upd_same, r, ho⟩
    · exact ⟨a1, o1, u1, by rw [upd_ne hqp]; exact a2, a3, a4⟩
  · obtain ⟨e1, ⟨u1, e2, e3⟩, e4, e5, e6⟩ := x.cel i o e
    exact ⟨e1, ⟨u1, by rw [upd_ne (fun z => e6 _ d.mem z.symm)]; exact e2, e3⟩, e4, e5, e6⟩
theorem EnvOk.draw {K : PySem.W.Frag} {A : Am} {F G H : Hp} {σ : L2.St} {en : En} {p : Addr} {ns : List Int} (k : EnvOk K A F G H σ en) (d : DrawIn A.q p ns) :
    ∃ (x : V) (n : Int), H p = some (.lst [x, .int n]) ∧ Rep K G (.fro (ns.map D.int)) x := by
  obtain ⟨_, o, u, e, r, n, ho⟩ := k.ok.am _ d.mem
  subst ho
  obtain ⟨xs, rfl, ra⟩ := r
  obtain ⟨x, y, rfl, p1, p2⟩ := repA_2 ra
  cases rep_int.mp p2
  exact ⟨x, n, e, p1⟩
def fDrawIx (A : Am) (i : Nat) (k : Int) : FE := fun en Φ => ∃ p ns, gt en i = .dat (.tok p) ∧ DrawIn A.q p ns ∧ ((k = 0 ∧ Φ (.fro (ns.map D.int)) en) ∨ (k = 1 ∧ ∀ n : Int, Φ (.int n) en))
section
variable {X : Cx} {A : Am} {pos : Pos}
theorem de_drawIx (i : Nat) {k : Int} {x : Str} {px pk : Pos} {j} (hN : X.N[i]? = some x := by rfl) (hv : Vis X.env.scope x := by first | exact Or.inl rfl | exact Or.inr (Or.inl rfl) | exact Or.inr (Or.inr rfl)) (hd : (x == ("__debug__" : Str)) = false := by decide)
    (hcd : (x == ("__classdict__" : Str)) = false := by decide) : DE X A (.Subscript (.Name x px) (.Constant (.int k) j pk) pos) (fDrawIx A i k) := pe_weak (pe_ix ix_list (pv i hN hv hd hcd) pe_int (fun _ _ => rfl)) fun σ H Q ⟨F, G, en, Ψ, k0, h, q⟩ => by
  obtain ⟨p, ns, eg, d, h⟩ := h
  obtain ⟨c, sl⟩ := k0.ex
  obtain ⟨v, e1, e2⟩ := sl.dat i _ eg
  cases rep_tok.mp e2
  obtain ⟨y, n, hp, ry⟩ := k0.draw d
  rcases h with ⟨rfl, h⟩ | ⟨rfl, h⟩
  · exact ⟨.ref p, e1, p, _, 0, y, rfl, rfl, .inl (.inl hp), rfl, q _ en _ G H h k0 (Step.refl _ _) ry⟩
  · exact ⟨.ref p, e1, p, _, 1, .int n, rfl, rfl, .inl (.inl hp), rfl, q _ en _ G H (h n) k0 (Step.refl _ _) (rep_int.mpr rfl)⟩
def rGetL (K : PySem.W.Frag) : V → V → Hp → VK → Prop := fun o i H Q => ∃ p xs k v, o = .ref p ∧ i = .int k ∧ SqL K H p xs ∧ 0 ≤ k ∧ xs[k.toNat]? = some v ∧ Q v H
theorem get_list : PGet X (rGetL X.K) := by
  intro pins s σ H o i ov iv Q I ro ri ⟨p, xs, k, v, eo, ei, hq, h0, hx, q⟩
  subst eo
  subst ei
  obtain rfl : ov = Value.ref p := ro
  obtain ⟨t, rfl⟩ := (show ∃ t, iv = Value.int k t from ri)
  obtain ⟨its, r, pl, hz⟩ := I.list hq
  obtain ⟨w, ew, rw'⟩ := r.get hx
  have hk : k.toNat < its.length := (List.getElem?_eq_some_iff.mp ew).1
  have hl := r.length
  have hn := line63
  exact wpAny_getItem_list pl.isList h0 (by omega) (by simpa using ew) ⟨v, H, I, rw', q⟩
def fDrawInc (A : Am) (i : Nat) : FS := fun en Ψ => ∃ p ns, gt en i = .dat (.tok p) ∧ DrawIn A.q p ns ∧ Ψ.nx en
theorem ds_drawInc (i : Nat) {x : Str} {px pk tpos p1 : Pos} {j j2} (hN : X.N[i]? = some x := by rfl) (hv : Vis X.env.scope x := by first | exact Or.inl rfl | exact Or.inr (Or.inl rfl) | exact Or.inr (Or.inr rfl)) (hd : (x == ("__debug__" : Str)) = false := by decide)
    (hcd : (x == ("__classdict__" : Str)) = false := by decide) : DS X A (.AugAssign (.Subscript (.Name x px) (.Constant (.int 1) j pk) tpos) .Add (.Constant (.int 1) j2 p1) pos) (fDrawInc A i) :=
  ps_weak (ps_augS (pv i hN hv hd hcd) pe_int get_list pe_int ip_add set_list) fun Dd σ H ⟨F, G, en, Ψ, k0, h, q1, _⟩ => by
    obtain ⟨p, ns, eg, d, h⟩ := h
    obtain ⟨c, sl⟩ := k0.ex
    obtain ⟨v, e1, e2⟩ := sl.dat i _ eg
    cases rep_tok.mp e2
    obtain ⟨y, n, hp, ry⟩ := k0.draw d
    refine ⟨.ref p, e1, p, [y, .int n], 1, .int n, rfl, rfl, .inl (.inl hp), by decide, rfl, n, 1, rfl, rfl, p, [y, .int n], 1, 1, rfl, rfl, hp, rfl, ?_⟩
    exact q1 en σ G _ h (k0.amb (o := .lst [.fro (ns.map D.int), .int (n + 1)]) d ⟨_, rfl, .cons ry (.cons (rep_int.mpr rfl) .nil)⟩ ⟨_, rfl⟩) (Step.refl _ _)
end
theorem de_constI {X : Cx} {A : Am} {x : Str} {pos : Pos} {i : Int} (hg : Gl X x) (hm : ∃ t, X.mg x = some (.int i t)) (hd : (x == ("__debug__" : Str)) = false := by decide) : DE X A (.Name x pos) (fC (.int i)) := by
  obtain ⟨t, hm⟩ := hm
  exact de_glob (v := .int i) hg hm ⟨t, rfl⟩ (fun _ => rep_int.mpr rfl) hd
/-- the facts of an own def -/
structure Own (P : Program) (w : World) (K : PySem.W.Frag) (mg : Str → Option Value) (base : Heap) (x : Str) (k : Nat) (ps : List Str) (pd : PD) : Prop where
  ex : ∃ (f : Addr) (fd : FuncData), FnOk P w K mg base CX0 k f fd ps (spD K pd) ∧ mg x = some (.ref f) ∧ PySem.W.keepIn K (.ref f) = true ∧ Binds K fd ps []
section
variable {X : Cx} {A : Am} {k : Nat} {ps : List Str} {pd : PD} {x : Str} {p pos : Pos} {e : Expr} {es : List Expr} {fr : FA}
theorem de_own (O : Own X.prog X.w X.K X.mg X.base x k ps pd) (hr : Room k X.A) (hg : Gl X x) (ha : DA X A (e :: es) fr) (hdb : (x == ("__debug__" : Str)) = false := by decide)
    (he : starEach (e :: es) X.env = (false, eval e X.env) :: starEach es X.env := by rfl) (hpl : (backTo pos (starEach es X.env)).any (·.1) = false := by rfl) : DE X A (.Call (.Name x p) (e :: es) [] pos) (fCall pd A fr) := by
  obtain ⟨f, fd, h1, h2, h3, h4⟩ := O.ex
  exact de_call h1 hr hg h2 h3 h4 ha hdb he hpl
theorem de_own0 (O : Own X.prog X.w X.K X.mg X.base x k ps pd) (hr : Room k X.A) (hg : Gl X x) (hdb : (x == ("__debug__" : Str)) = false := by decide) : DE X A (.Call (.Name x p) [] [] pos) (fCall pd A fNil) := by
  obtain ⟨f, fd, h1, h2, h3, h4⟩ := O.ex
  exact de_call0 h1 hr hg h2 h3 h4 hdb
end
theorem Own.mk' {P : Program} {w : World} {K : PySem.W.Frag} {mg : Str → Option Value} {base : Heap} {x : Str} {k : Nat} {ps : List Str} {pd : PD} {f : Addr} {fd : FuncData} (h1 : FnOk P w K mg base CX0 k f fd ps (spD K pd)) (h2 : mg x = some (.ref f)) (h3 : PySem.W.keepIn K (.ref f) = true) (h4 : Binds K fd ps []) : Own P w K mg base x k ps pd := ⟨f, fd, h1, h2, h3, h4⟩
end Dz

namespace Dz
open PySem PySem.Spec PyProof.Rows L2
/-! ### forms of comprehensions, loops and draws that one uses -/
section
variable {g : FG} {ft : FT} {fe : FE} {vs : List Nat} {e1 : En} {items : List D} {Φ : D → En → Prop}
/-- each item gives the value h -/
theorem lc_map {α : Type} (xs : List α) (enc h : α → D) (hi : items = xs.map enc) (hl : xs.length ≤ 99999)
    (turn : ∀ x ∈ xs, ∀ (J : List D → Prop) (Kk : List D → Prop) (acc : List D), (J (acc ++ [h x])) → g (enc x) (wipeE e1 vs) fun e2 => ft e2 fun b e3 =>
      if b = true then fe e3 fun d e4 => wipeE e4 vs = wipeE e1 vs ∧ J (acc ++ [d]) else wipeE e3 vs = wipeE e1 vs ∧ Kk acc)
    (done : Φ (.lst (xs.map h)) (wipeE e1 vs)) : LcGoal g ft fe vs e1 items Φ := by
  subst hi
  refine ⟨fun k acc => acc = (xs.take k).map h, rfl, fun k x acc hx ha => ?_, fun acc ha => ?_⟩
  · subst ha
    rw [List.getElem?_map] at hx
    cases hk : xs[k]? with
    | none => rw [hk] at hx; cases hx
    | some y =>
      rw [hk] at hx
      have ex : enc y = x := Option.some.inj hx
      subst ex
      have hm : y ∈ xs := List.mem_of_getElem? hk
      refine ⟨?_, turn y hm (fun acc' => acc' = (xs.take (k + 1)).map h) (fun acc' => acc' = (xs.take (k + 1)).map h) _ ?_⟩
      · rw [List.length_map, List.length_take]
        have := Nat.min_le_right k xs.length
        omega
      · rw [List.take_add_one, hk, List.map_append]
        rfl
  · subst ha
    rw [List.length_map, List.take_length]
    exact done
/-- the items that pass, with their values -/
theorem lc_filter {α : Type} (xs : List α) (enc h : α → D) (p : α → Bool) (hi : items = xs.map enc) (hl : xs.length ≤ 99999)
    (turn : ∀ x ∈ xs, ∀ (J : List D → Prop) (acc : List D), (p x = true → J (acc ++ [h x])) → (p x = false → J acc) → g (enc x) (wipeE e1 vs) fun e2 => ft e2 fun b e3 =>
      if b = true then fe e3 fun d e4 => wipeE e4 vs = wipeE e1 vs ∧ J (acc ++ [d]) else wipeE e3 vs = wipeE e1 vs ∧ J acc)
    (done : Φ (.lst ((xs.filter p).map h)) (wipeE e1 vs)) : LcGoal g ft fe vs e1 items Φ := by
  subst hi
  refine ⟨fun k acc => acc = ((xs.take k).filter p).map h, rfl, fun k x acc hx ha => ?_, fun acc ha => ?_⟩
  · subst ha
    rw [List.getElem?_map] at hx
    cases hk : xs[k]? with
    | none => rw [hk] at hx; cases hx
    | some y =>
      rw [hk] at hx
      have ex : enc y = x := Option.some.inj hx
      subst ex
      have hm : y ∈ xs := List.mem_of_getElem? hk
      refine ⟨?_, turn y hm (fun acc' => acc' = ((xs.take (k + 1)).filter p).map h) _ (fun hp => ?_) (fun hp => ?_)⟩
      · rw [List.length_map]
        have h1 := List.length_filter_le p (xs.take k)
        rw [List.length_take] at h1
        have := Nat.min_le_right k xs.length
        omega
      · rw [List.take_add_one, hk, List.filter_append, List.map_append]
        simp [hp]
      · rw [List.take_add_one, hk, List.filter_append]
        simp [hp]
  · subst ha
    rw [List.length_map, List.take_length]
    exact done
/-- each item gives some value with P (a draw) -/
theorem lc_any (Pq : D → Prop) (hl : items.length ≤ 99999)
    (turn : ∀ x ∈ items, ∀ (J : List D → Prop) (Kk : List D → Prop) (acc : List D), (∀ d, Pq d → J (acc ++ [d])) → g x (wipeE e1 vs) fun e2 => ft e2 fun b e3 =>
      if b = true then fe e3 fun d e4 => wipeE e4 vs = wipeE e1 vs ∧ J (acc ++ [d]) else wipeE e3 vs = wipeE e1 vs ∧ Kk acc)
    (done : ∀ acc, acc.length = items.length → (∀ d ∈ acc, Pq d) → Φ (.lst acc) (wipeE e1 vs)) : LcGoal g ft fe vs e1 items Φ := by
  refine ⟨fun k acc => acc.length = k ∧ k ≤ items.length ∧ ∀ d ∈ acc, Pq d, ⟨rfl, Nat.zero_le _, fun d h => nomatch h⟩, fun k x acc hx ha => ?_, fun acc ha => done acc ha.1 ha.2.2⟩
  have hk : k < items.length := (List.getElem?_eq_some_iff.mp hx).1
  refine ⟨by omega, turn x (List.mem_of_getElem? hx) (fun acc' => acc'.length = k + 1 ∧ k + 1 ≤ items.length ∧ ∀ d ∈ acc', Pq d) (fun acc' => acc'.length = k + 1 ∧ k + 1 ≤ items.length ∧ ∀ d ∈ acc', Pq d) acc fun d hd => ⟨by rw [List.length_append, ha.1]; rfl, hk, fun y hy => ?_⟩⟩
  rcases List.mem_append.mp hy with hy | hy
  · exact ha.2.2 y hy
  · rw [List.mem_singleton.mp hy]; exact hd
/-- each item keeps the list or grows it by a value with P (a drawn test) -/
theorem lc_some (Pq : D → Prop) (hl : items.length ≤ 99999)
    (turn : ∀ x ∈ items, ∀ (J : List D → Prop) (acc : List D), (∀ d, Pq d → J (acc ++ [d])) → J acc → g x (wipeE e1 vs) fun e2 => ft e2 fun b e3 =>
      if b = true then fe e3 fun d e4 => wipeE e4 vs = wipeE e1 vs ∧ J (acc ++ [d]) else wipeE e3 vs = wipeE e1 vs ∧ J acc)
    (done : ∀ acc, acc.length ≤ items.length → (∀ d ∈ acc, Pq d) → Φ (.lst acc) (wipeE e1 vs)) : LcGoal g ft fe vs e1 items Φ := by
  refine ⟨fun k acc => acc.length ≤ k ∧ k ≤ items.length ∧ ∀ d ∈ acc, Pq d, ⟨Nat.le_refl _, Nat.zero_le _, fun d h => nomatch h⟩, fun k x acc hx ha => ?_, fun acc ha => done acc ha.1 ha.2.2⟩
  have hk : k < items.length := (List.getElem?_eq_some_iff.mp hx).1
  refine ⟨by omega, turn x (List.mem_of_getElem? hx) (fun acc' => acc'.length ≤ k + 1 ∧ k + 1 ≤ items.length ∧ ∀ d ∈ acc', Pq d) acc (fun d hd => ⟨by rw [List.length_append]; show acc.length + 1 ≤ k + 1; omega, hk, fun y hy => ?_⟩) ⟨by omega, hk, ha.2.2⟩⟩
  rcases List.mem_append.mp hy with hy | hy
  · exact ha.2.2 y hy
  · rw [List.mem_singleton.mp hy]; exact hd
end
section
variable {g : FG} {fe : FE} {vs : List Nat} {e1 : En} {items : List D} {Φ : D → En → Prop}
theorem yes_eq {X Y : En → Prop} : (fun e2 => fYes e2 fun b e3 => if b = true then X e3 else Y e3) = X := funext fun e2 => by
  show (if true = true then X e2 else Y e2) = X e2
  rw [if_pos rfl]
/-- the same without tests -/
theorem lc_map0 {α : Type} (xs : List α) (enc h : α → D) (hi : items = xs.map enc) (hl : xs.length ≤ 99999)
    (turn : ∀ x ∈ xs, ∀ (J : List D → Prop) (acc : List D), (J (acc ++ [h x])) → g (enc x) (wipeE e1 vs) fun e2 => fe e2 fun d e4 => wipeE e4 vs = wipeE e1 vs ∧ J (acc ++ [d]))
    (done : Φ (.lst (xs.map h)) (wipeE e1 vs)) : LcGoal g fYes fe vs e1 items Φ := lc_map xs enc h hi hl (fun x hx J Kk acc hJ => by rw [yes_eq]; exact turn x hx J acc hJ) done
theorem lc_any0 (Pq : D → Prop) (hl : items.length ≤ 99999)
    (turn : ∀ x ∈ items, ∀ (J : List D → Prop) (acc : List D), (∀ d, Pq d → J (acc ++ [d])) → g x (wipeE e1 vs) fun e2 => fe e2 fun d e4 => wipeE e4 vs = wipeE e1 vs ∧ J (acc ++ [d]))
    (done : ∀ acc, acc.length = items.length → (∀ d ∈ acc, Pq d) → Φ (.lst acc) (wipeE e1 vs)) : LcGoal g fYes fe vs e1 items Φ := lc_any Pq hl (fun x hx J Kk acc hJ => by rw [yes_eq]; exact turn x hx J acc hJ) done
end
/-! ### some data -/
theorem plL_ints {n : Nat} : ∀ ns : List Int, plL n (ns.map D.int) = true
  | [] => by unfold plL; rfl
  | a :: r => by
    rw [List.map_cons]
    unfold plL plD
    exact plL_ints r
theorem pl_fro_ints (n : Nat) (ns : List Int) : plD (n + 1) (.fro (ns.map D.int)) = true := by
  unfold plD
  exact plL_ints ns
theorem eqL_nil {l : List D} : eqL l [] = l.isEmpty := by
  cases l <;> (unfold eqL; rfl)
/-! ### the drawn numbers -/
/-- _law_number: some int from 0 on -/
def pdNumber : PD := fun _ ds Φ => ∃ (ns : List Int) (i : Int), ds = [.fro (ns.map D.int), .int i] ∧ ns.length ≤ 63 ∧ ∀ r : Int, 0 ≤ r → Φ (.int r)
/-- _law_take: any int from 0 to below many -/
def pdTake : PD := fun A ds Φ => ∃ (p : Addr) (ns : List Int) (m : Int), ds = [.tok p, .int m] ∧ DrawIn A p ns ∧ 0 < m ∧ ∀ r : Int, 0 ≤ r → r < m → Φ (.int r)
/-- _law_pick: any item -/
def pdPick : PD := fun A ds Φ => ∃ (p : Addr) (ns : List Int) (l : List D), (ds = [.tok p, .lst l] ∨ ds = [.tok p, .tup l]) ∧ DrawIn A p ns ∧ l ≠ [] ∧ ∀ d ∈ l, Φ d
end Dz

namespace Dz
open PySem PySem.Spec PyProof.Rows L2
/-! ### list(..) of a written dict with text keys -/
def keyTxt : Value → Option Str
  | .str z _ => some z
  | _ => none
def KKeys (K : PySem.W.Frag) (w : World) (a : Addr) (ks : List Str) : Prop := ∃ es n, KDict K w a es n ∧ es.toList.map (fun e => keyTxt e.key) = ks.map some ∧ ks.length ≤ 1000
def rListKD (a : Addr) (ks : List Str) : RAD := fun xs Φ => match xs with
  | [.tok b] => a = b ∧ Φ (.lst (ks.map D.str))
  | _ => False
theorem keyTxt_rel {v : Value} {z : Str} (h : keyTxt v = some z) : RelV (.str z) v := by
  cases v <;> try (cases h; done)
  cases h
  exact ⟨_, rfl⟩
theorem callD_listK {X : Cx} {a : Addr} {ks : List Str} (T : KKeys X.K X.w a ks) (hc : X.calm = true) : CallR X (.type "list") (LRA X.K (rListKD a ks)) := by
  intro pins s σ H xs us Q I r ⟨G, ds, Ψ, gh, r1, h, q⟩
  unfold rListKD at h
  split at h
  · obtain ⟨rfl, h⟩ := h
    obtain ⟨x, rfl, p1⟩ := repA_1 r1
    cases rep_tok.mp p1
    obtain ⟨u, eu, rx⟩ := vals1 r
    subst eu
    obtain rfl : u = Value.ref a := rx
    obtain ⟨es, n, kd, hks, hl⟩ := T
    have hat : s.heap.get? a = some ⟨.type "dict", none, .dict es n, #[]⟩ := I.kIn _ _ kd.at_
    have hsz : es.size = ks.length := by
      have := congrArg List.length hks
      rw [List.length_map, List.length_map] at this
      rw [← this]; simp
    refine PySem.W.kdl_call (kdl_raw (o := ⟨.type "dict", none, .dict es n, #[]⟩) kd.low ⟨rfl, rfl, rfl⟩ rfl) (I.ok.hd hc) hat (by rw [hsz]; exact Nat.le_trans hl (by decide)) fun h' tk acc' c' hkeep hS hacc => ?_
    have hp := I.hok.fresh (Nat.le_refl s.heap.objs.size)
    have g : Grow G H (upd G s.heap.objs.size (.lst (ks.map V.str))) (upd H s.heap.objs.size (.lst (ks.map V.str))) := Grow.new gh hp
    refine ⟨.ref s.heap.objs.size, upd H s.heap.objs.size (.lst (ks.map V.str)), I.laid hkeep (Nat.le_refl _) (show ObjOk X.prog X.w _ _ _ (.lst (ks.map V.str)) from ⟨?_, acc'.toList, c', ?_, ?_⟩), rfl, q _ _ _ _ h g (same_upd2 gh) (rep_lst.mpr ⟨_, _, rfl, upd_same, repA_strs ks⟩)⟩
    · rw [List.length_map]; exact Nat.le_trans hl (by decide)
    · have el : acc'.toList.length = acc'.size := by simp
      refine vals_of_at (by rw [List.length_map, el, hacc.1, hsz]) fun j x w h1 h2 => ?_
      obtain ⟨en, hen, hw⟩ := hacc.2 j w (by rw [← Array.getElem?_toList]; exact h2)
      rw [List.getElem?_map] at h1
      cases hk : ks[j]? with
      | none => rw [hk] at h1; cases h1
      | some z =>
        rw [hk] at h1
        have ez : V.str z = x := Option.some.inj h1
        subst ez
        have e2 : (es.toList.map fun e => keyTxt e.key)[j]? = some (some z) := by
          rw [hks, List.getElem?_map, hk]; rfl
        rw [List.getElem?_map, Array.getElem?_toList, hen] at e2
        have e3 : keyTxt en.key = some z := Option.some.inj e2
        rw [hw]
        exact keyTxt_rel e3
    · rw [Array.toArray_toList]; exact hS
  · exact h.elim
end Dz

namespace Dz
open PySem PySem.Spec PyProof.Rows L2
/-! ### the law's own def: draw = [script, 0], then the rest -/
def spLaw (K : PySem.W.Frag) : Sp := fun vs H Q _ => ∃ (a : Addr) (ns : List Int), vs = [.ref a] ∧ SqL K H a (ns.map V.int) ∧ ns.length ≤ 63 ∧ ∀ H', Q (.bl true) H'
theorem pss_ex {X : Cx} {ss : List Stmt} {fb : Am → FS} (h : ∀ A, DSs X A ss (fb A)) : PSs X ss (fun Dd σ H => ∃ A, LS X.K A (fb A) Dd σ H) := ⟨fun pins s σ H Dd I ⟨A, q⟩ => (h A).run pins s σ H Dd I q⟩
section
variable {P : Program} {w : World} {K : PySem.W.Frag} {mg : Str → Option Value} {base : Heap}
theorem law_dz {s0 : Stmt} {f : Addr} {fd : FuncData} {N : List Str} {k : Nat} {fb : Am → FS} {p1 p2 p3 p4 p5 : Pos} {rest : List Stmt} (Fk : Fun K "law" "law" s0 f fd) (S : FnScope N ["script"] (defScope s0))
    (hb0 : defBody s0 = .Assign [.Name "draw" p1] (.List [.Name "script" p2, .Constant (.int 0) 0 p3] p4) p5 :: rest)
    (h1 : ∀ (cdv : Value) (Ar : Around) (outer : List PySem.Env) (s : Shared) (H : Hp) (E : XK), PS (cxOf CX0 P w K mg base N "law" (defScope s0) f cdv Ar outer s H E).nox (.Assign [.Name "draw" p1] (.List [.Name "script" p2, .Constant (.int 0) 0 p3] p4) p5) (tAsg (tLst (tCons (tVar 0) (tCons (tC (.int 0)) tNil))) (gName 1)))
    (hn : 2 ≤ N.length)
    (hb : ∀ (A : Am) (cdv : Value) (Ar : Around) (outer : List PySem.Env) (s : Shared) (H : Hp) (E : XK), Room k (Ar.deeper (envOfC "law" (defScope s0) s.heap.objs.size f cdv)) → DSs (cxOf CX0 P w K mg base N "law" (defScope s0) f cdv Ar outer s H E).nox A rest (fb A))
    (hm : ∀ (A : Am) p ns, DrawIn A.q p ns → fb A ([EV.dat (.fro (ns.map D.int)), EV.dat (.tok p)] ++ List.replicate (N.length - 2) EV.un) { nx := fun _ => False, rt := fun d => d = .bl true }) : FnOk P w K mg base CX0 (k + 1) f fd ["script"] (spLaw K) := by
  refine Fk.ok S (fun vs H Q E h => ?_) (fun cdv A outer s H vs Q E hr h => ?_)
  · obtain ⟨a, ns, rfl, _⟩ := h
    rfl
  · obtain ⟨a, ns, rfl, hS, hlen, q⟩ := h
    rw [hb0]
    refine ⟨_, pss_cons (h1 cdv A outer s H E) (pss_ex fun A' => hb A' cdv A outer s H E hr), ?_⟩
    refine ⟨.ref a, ?_, (by show 2 ≤ sizeLine; decide), fun p hp => ?_⟩
    · unfold L2.start; rfl
    · have hd : DrawIn [(p, drawOk ns)] p ns := ⟨List.mem_cons_self, fun z hz _ => List.mem_singleton.mp hz, hlen⟩
      have gH : Same H (upd H p (.lst [.ref a, .int 0])) := same_new hp
      have hro : Rep K H (.fro (ns.map D.int)) (.ref a) := rep_fro.mpr ⟨a, _, rfl, hS, RepA.ints ns⟩
      have k0 : StQ K [(p, drawOk ns)] (minus [(p, drawOk ns)] (upd H p (.lst [.ref a, .int 0]))) H (upd H p (.lst [.ref a, .int 0])) := ⟨gH, minus_same, fun z hz => minus_in hz, fun z hz => by
        rw [List.mem_singleton.mp hz]
        exact ⟨hp, .lst [.fro (ns.map D.int), .int 0], _, upd_same, ⟨_, rfl, .cons hro (.cons (rep_int.mpr rfl) .nil)⟩, 0, rfl⟩⟩
      have k1 : EnvOk K ⟨[(p, drawOk ns)], minus [(p, drawOk ns)] (upd H p (.lst [.ref a, .int 0])), H⟩ (minus [(p, drawOk ns)] (upd H p (.lst [.ref a, .int 0]))) H (upd H p (.lst [.ref a, .int 0])) (start N [.ref a]) ([EV.dat (.fro (ns.map D.int))] ++ List.replicate (N.length - 1) EV.un) := EnvOk.start (ds := [.fro (ns.map D.int)]) ⟨k0, Fro.refl _, Step.refl _ _⟩ (.cons hro .nil)
      have k2 := k1.put (i := 1) (d := .tok p) (v := .ref p) (rep_tok.mpr rfl)
      have ee : st ([EV.dat (.fro (ns.map D.int))] ++ List.replicate (N.length - 1) EV.un) 1 (.dat (.tok p)) = [EV.dat (.fro (ns.map D.int)), EV.dat (.tok p)] ++ List.replicate (N.length - 2) EV.un := by
        obtain ⟨m, hm2⟩ : ∃ m, N.length = m + 2 := ⟨N.length - 2, by omega⟩
        rw [hm2]
        rfl
      rw [ee] at k2
      exact ⟨_, _, H, _, _, k2, hm _ p ns hd, fun _ _ _ _ z => z.elim, fun d v G' H' z _ _ r => by
        have z : d = .bl true := z
        subst z
        cases rep_bl.mp r
        exact q H', fun _ _ _ _ z => z.elim, fun _ _ _ _ z => z.elim⟩
end
/-- a, b, c = e1, e2, e3 -/
def fPar3 (i j l : Nat) (fr : FA) : FS := fun en Ψ => fr en fun xs e => match xs with
  | [x, y, z] => Ψ.nx (st (st (st e i (.dat x)) j (.dat y)) l (.dat z))
  | _ => False
theorem ds_par3 {X : Cx} {A : Am} {i j l : Nat} {x y z : Str} {a b c : Expr} {fr : FA} {px py pz pt pos : Pos} {kt k2 pt2} (hc : X.calm = true) (hN : X.N.Nodup) (hi : X.N[i]? = some x) (hj : X.N[j]? = some y) (hl : X.N[l]? = some z) (hij : i ≠ j) (hil : i ≠ l) (hjl : j ≠ l)
    (hx : X.env.scope.names.lookup x = some .local) (hy : X.env.scope.names.lookup y = some .local) (hz : X.env.scope.names.lookup z = some .local) (ha : DA X A [a, b, c] fr)
    (hw : swappedStores [.Tuple [.Name x px, .Name y py, .Name z pz] kt pt] (.Tuple [a, b, c] k2 pt2) X.env = pure (some [x, y, z]) := by rfl)
    (hs : swapsWithSole [.Tuple [.Name x px, .Name y py, .Name z pz] kt pt] (.Tuple [a, b, c] k2 pt2) pos.line X.env = pure false := by rfl) :
    DS X A (.Assign [.Tuple [.Name x px, .Name y py, .Name z pz] kt pt] (.Tuple [a, b, c] k2 pt2) pos) (fPar3 i j l fr) := ps_weak (ps_par3 hc hN hi hj hl hij hil hjl hx hy hz ha hw hs) fun Dd σ H ⟨F, G, en, Ψ, k, h, q1, _⟩ =>
  ⟨F, G, en, _, k, h, fun d e1 v G1 H1 z k1 s1 r1 => by
    match d, z with
    | [d1, d2, d3], z =>
      unfold RepA at r1
      obtain ⟨v1, r, rfl, p1, r1⟩ := r1
      obtain ⟨v2, v3, rfl, p2, p3⟩ := repA_2 r1
      exact ⟨v1, v2, v3, rfl, q1 _ _ G1 H1 z (((k1.put p1).put p2).put p3) s1⟩⟩
/-! ### items at a drawn place -/
theorem atI_in {α : Type} {l : List α} {r : Int} (h0 : 0 ≤ r) (h1 : r < l.length) : ∃ d, d ∈ l ∧ atI l r = some d := by
  have hr : r.toNat < l.length := by omega
  refine ⟨l[r.toNat], List.getElem_mem hr, ?_⟩
  unfold atI ixN
  rw [if_pos h0, if_pos h1]
  show l[r.toNat]? = _
  exact List.getElem?_eq_getElem hr
end Dz

namespace Dz
open PySem PySem.Spec PyProof.Rows L2

/-! ### exceptions of own classes: a class, and its fields if it has some -/
abbrev XF := Option (List Str × List D)
/-- what is wished of one, by a caller; in a body -/
abbrev XQ := Value → XF → Prop
abbrev XW := Value → XF → En → Prop
def XQ.w (Ξ : XQ) : XW := fun c x _ => Ξ c x
def RepX (K : PySem.W.Frag) (G H : Hp) : XF → Option Addr → Prop
  | none, d => d = none
  | some (ns, l), d => ∃ a xs, d = some a ∧ H a = some (.xd (ns.zip xs)) ∧ RepA K G l xs ∧ ns.length = l.length
def WD (K : PySem.W.Frag) (A : Am) (Ξ : XW) : WX := fun c d σ H => ∃ (F G : Hp) (en : En) (x : XF), EnvOk K A F G H σ en ∧ RepX K G H x d ∧ Ξ c x en

/-! ### raise -/
def fRaise (Ξ : XW) (c : Value) (fa : FA) : FS := fun en _ => fa en fun _ e1 => Ξ c none e1
section
variable {X : Cx} {A : Am} {Ξ : XW} {C : Addr} {bmB : List Value} {B newId initId : String} {x : Str} {p p2 pos pos' : Pos} {e : Expr} {fa : FE}
/-- raise X('..') -/
theorem ds_raise {m : Str} {j : Nat} (hc : X.calm = true) (tk : Takes X (WD X.K A Ξ)) (F : ExcBaseFacts B newId initId bmB) (q : PySem.W.excIn X.K C bmB newId = true) (gC : X.mg x = some (.ref C)) (kC : PySem.W.keepIn X.K (.ref C) = true) (r : Raises X (.ref C)) (hg : Gl X x)
    (hdb : (x == ("__debug__" : Str)) = false := by decide) : DS X A (.Raise (some (.Call (.Name x p) [.Constant (.str m) j p2] [] pos)) none pos') (fRaise Ξ (.ref C) fNil) :=
  ps_weak (ps_raise hc tk (pmk_own F q gC kC r hg hdb)) fun Dd σ H ⟨F, G, en, Ψ, k, h, _⟩ => ⟨F, G, en, none, k, rfl, h⟩
end

/-! ### defs that may raise -/
abbrev PDX := AQ → List D → (D → Prop) → XQ → Prop
def spX (K : PySem.W.Frag) (pd : PDX) : Sp := fun vs H Q E => ∃ (A : AQ) (G : Hp) (ds : List D) (Ψ : D → Prop) (Ξ : XQ), StQ K A (minus A H) G H ∧ RepA K G ds vs ∧ pd A ds Ψ Ξ ∧
  (∀ d v G' H', Ψ d → StQ K A (minus A H) G' H' → Step (minus A H) G G' → Rep K G' d v → Q v H') ∧
  ∀ c x d G' H', Ξ c x → StQ K A (minus A H) G' H' → Step (minus A H) G G' → RepX K G' H' x d → E c d H'
/-- from a body: the state of the caller is as it was where the body began, and more -/
theorem WD.out {K : PySem.W.Frag} {A : AQ} {H G : Hp} {Ξ : XQ} {c : Value} {d : Option Addr} {σ : L2.St} {H' : Hp} (h : WD K ⟨A, minus A H, G⟩ Ξ.w c d σ H') :
    ∃ G' x, Ξ c x ∧ StQ K A (minus A H) G' H' ∧ Step (minus A H) G G' ∧ RepX K G' H' x d := by
  obtain ⟨F, G', en, x, k, r, q⟩ := h
  exact ⟨G', x, q, ⟨k.ok.gh, k.ok.bs.trans k.ok.fh, fun q hq => minus_in hq, k.ok.am⟩, k.ok.bg, r⟩
section
variable {P : Program} {w : World} {K : PySem.W.Frag} {mg : Str → Option Value} {base : Heap}
theorem fn_dzx {x qual : Str} {s0 : Stmt} {f : Addr} {fd : FuncData} {N ps : List Str} {k : Nat} {pd : PDX} {fb : Am → XW → FS} (Fk : Fun K x qual s0 f fd) (S : FnScope N ps (defScope s0)) (hlen : ∀ A ds Ψ Ξ, pd A ds Ψ Ξ → ds.length = ps.length)
    (hb : ∀ (A : Am) (Ξ : XW) (cdv : Value) (Ar : Around) (outer : List PySem.Env) (s : Shared) (H : Hp) (E : XK), Room k (Ar.deeper (envOfC qual (defScope s0) s.heap.objs.size f cdv)) →
      Takes (cxOf (L2.CX P w) P w K mg base N qual (defScope s0) f cdv Ar outer s H E) (WD K A Ξ) → DSs (cxOf (L2.CX P w) P w K mg base N qual (defScope s0) f cdv Ar outer s H E) A (defBody s0) (fb A Ξ))
    (hm : ∀ (A : Am) ds Ψ (Ξ : XQ), pd A.q ds Ψ Ξ → fb A Ξ.w (ds.map EV.dat ++ List.replicate (N.length - ds.length) EV.un) { nx := fun _ => Ψ .non, rt := Ψ }) : FnOk P w K mg base (L2.CX P w) (k + 1) f fd ps (spX K pd) := by
  refine Fk.okX S (fun vs H Q E h => ?_) (fun cdv A outer s H vs Q E hr h => ?_)
  · obtain ⟨A, G, ds, Ψ, Ξ, _, r, hp, _⟩ := h
    rw [r.len]
    exact hlen A ds Ψ Ξ hp
  · obtain ⟨Am', G, ds, Ψ, Ξ, k0, r, hp, q, qx⟩ := h
    have tk : Takes (cxOf (L2.CX P w) P w K mg base N qual (defScope s0) f cdv A outer s H E) (WD K ⟨Am', minus Am' H, G⟩ Ξ.w) := (takes_of rfl rfl rfl rfl).imp fun c d σ H' z => by
      obtain ⟨G', x, z1, z2, z3, z4⟩ := z.out
      exact qx c x d G' H' z1 z2 z3 z4
    refine ⟨_, hb ⟨Am', minus Am' H, G⟩ Ξ.w cdv A outer s H E hr tk, minus Am' H, G, _, _, EnvOk.start ⟨k0, Fro.refl _, Step.refl _ _⟩ r, hm ⟨Am', minus Am' H, G⟩ ds Ψ Ξ hp, fun e σ' G' H' hn k1 s1 => ?_, fun d v G' H' hd k1 s1 r1 => ?_, fun _ _ _ _ z => z.elim, fun _ _ _ _ z => z.elim⟩
    · exact q .non .non G' H' hn k1.ok.st s1 (rep_non.mpr rfl)
    · exact q d v G' H' hd k1.st s1 r1
end
def fCallX (pd : PDX) (A : Am) (Ξ : XW) (fr : FA) : FE := fun en Φ => fr en fun ds e => pd A.q ds (fun d => Φ d e) (fun c x => Ξ c x e)
def fCallN (pd : PDX) (A : Am) (fr : FA) : FE := fun en Φ => fr en fun ds e => pd A.q ds (fun d => Φ d e) (fun _ _ => False)
/-- the facts of an own def that may raise -/
structure OwnX (P : Program) (w : World) (K : PySem.W.Frag) (mg : Str → Option Value) (base : Heap) (x : Str) (k : Nat) (ps : List Str) (pd : PDX) : Prop where
  ex : ∃ (f : Addr) (fd : FuncData), FnOk P w K mg base (L2.CX P w) k f fd ps (spX K pd) ∧ mg x = some (.ref f) ∧ PySem.W.keepIn K (.ref f) = true ∧ Binds K fd ps []
section
variable {X : Cx} {A : Am} {k : Nat} {ps : List Str} {pd : PDX} {x : Str} {p pos : Pos} {e : Expr} {es : List Expr} {fr : FA} {Ξ : XW}
theorem le_callX {σ : L2.St} {H : Hp} {Q : VK} {K : PySem.W.Frag} (h : LE K A (fCallX pd A Ξ fr) σ H Q) : tCallS (spX K pd) (WE (WD K A Ξ)) (LA K A fr) σ H Q := by
  obtain ⟨F, G, en, Ψ, k, h, q⟩ := h
  refine ⟨F, G, en, _, k, h, fun ds e1 vs G1 H1 hp k1 s1 r1 => ?_⟩
  refine ⟨A.q, G1, ds, _, _, k1.ok.call, r1, hp, fun d v G2 H2 hd k2 s2 r2 => ?_, fun c x d G2 H2 hx k2 s2 r2 => ?_⟩
  · obtain ⟨k3, s3⟩ := k1.called k2 s2
    exact q d e1 v G2 H2 hd k3 (s1.trans s3) r2
  · obtain ⟨k3, s3⟩ := k1.called k2 s2
    exact ⟨F, G2, e1, x, k3, r2, hx⟩
theorem le_callN {σ : L2.St} {H : Hp} {Q : VK} {K : PySem.W.Frag} (h : LE K A (fCallN pd A fr) σ H Q) : tCall (spX K pd) [] E0 (LA K A fr) σ H Q := by
  obtain ⟨F, G, en, Ψ, k, h, q⟩ := h
  refine ⟨F, G, en, _, k, h, fun ds e1 vs G1 H1 hp k1 s1 r1 => ?_⟩
  show spX K pd (vs ++ []) H1 Q E0
  rw [List.append_nil]
  refine ⟨A.q, G1, ds, _, _, k1.ok.call, r1, hp, fun d v G2 H2 hd k2 s2 r2 => ?_, fun c x d G2 H2 hx k2 s2 r2 => hx.elim⟩
  obtain ⟨k3, s3⟩ := k1.called k2 s2
  exact q d e1 v G2 H2 hd k3 (s1.trans s3) r2
theorem de_ownX (O : OwnX X.prog X.w X.K X.mg X.base x k ps pd) (tk : Takes X (WD X.K A Ξ)) (hr : Room k X.A) (hg : Gl X x) (ha : DA X A (e :: es) fr) (hdb : (x == ("__debug__" : Str)) = false := by decide)
    (he : starEach (e :: es) X.env = (false, eval e X.env) :: starEach es X.env := by rfl) (hpl : (backTo pos (starEach es X.env)).any (·.1) = false := by rfl) : DE X A (.Call (.Name x p) (e :: es) [] pos) (fCallX pd A Ξ fr) := by
  obtain ⟨f, fd, h1, h2, h3, h4⟩ := O.ex
  exact pe_weak (pe_callS h1 hr hg h2 h3 h4 (fun σ => passAt tk σ) ha hdb he hpl) fun _ _ _ h => le_callX h
theorem de_ownN (O : OwnX X.prog X.w X.K X.mg X.base x k ps pd) (hr : Room k X.A) (hg : Gl X x) (ha : DA X A (e :: es) fr) (hdb : (x == ("__debug__" : Str)) = false := by decide)
    (he : starEach (e :: es) X.env = (false, eval e X.env) :: starEach es X.env := by rfl) (hpl : (backTo pos (starEach es X.env)).any (·.1) = false := by rfl) : DE X A (.Call (.Name x p) (e :: es) [] pos) (fCallN pd A fr) := by
  obtain ⟨f, fd, h1, h2, h3, h4⟩ := O.ex
  exact pe_weak (pe_call h1 hr hg h2 h3 h4 .nil passL ha hdb he hpl) fun _ _ _ h => le_callN h
end

/-! ### raise with a made text -/
def fRaise1 (Ξ : XW) (c : Value) (fa : FE) : FS := fun en _ => fa en fun _ e1 => Ξ c none e1
section
variable {X : Cx} {A : Am} {Ξ : XW} {C : Addr} {bmB : List Value} {B newId initId : String} {x : Str} {p p2 pos pos' : Pos} {e : Expr} {fa : FE}
theorem ds_raise1 (hc : X.calm = true) (tk : Takes X (WD X.K A Ξ)) (F : ExcBaseFacts B newId initId bmB) (q : PySem.W.excIn X.K C bmB newId = true) (gC : X.mg x = some (.ref C)) (kC : PySem.W.keepIn X.K (.ref C) = true) (r : Raises X (.ref C)) (hg : Gl X x)
    (he : DE X A e fa) (hs : starEach [e] X.env = (false, eval e X.env) :: starEach [] X.env := by rfl) (hdb : (x == ("__debug__" : Str)) = false := by decide) : DS X A (.Raise (some (.Call (.Name x p) [e] [] pos)) none pos') (fRaise1 Ξ (.ref C) fa) :=
  ps_weak (ps_raise hc tk (SkE.pmk_own1 F q gC kC r hg he hs hdb)) fun Dd σ H ⟨F, G, en, Ψ, k, h, _⟩ => ⟨F, G, en, _, k, h, fun d e1 v G1 H1 z k1 s1 r1 => ⟨F, G1, e1, none, k1, rfl, z⟩⟩
end

/-! ### try -/
section
variable {K : PySem.W.Frag} {A : Am} {F G H F1 G1 H1 : Hp} {σ : L2.St} {en : En}
/-- the body begins here -/
theorem EnvOk.rebase (k : EnvOk K A F G H σ en) : EnvOk K ⟨A.q, F, G⟩ F G H σ en := by
  obtain ⟨c, x⟩ := k.ex
  exact ⟨⟨k.ok.st, Fro.refl _, Step.refl _ _⟩, k.len, c, x.dat, x.cel, x.inj, x.pl⟩
theorem EnvOk.back (k0 : StOk K A F G H) (k : EnvOk K ⟨A.q, F, G⟩ F G1 H1 σ en) (s : Step F G G1) : EnvOk K A F G1 H1 σ en := by
  obtain ⟨c, x⟩ := k.ex
  exact ⟨⟨k.ok.st, k0.bz, k0.bg.trans (s.less k0.bs)⟩, k.len, c, x.dat, x.cel, x.inj, x.pl⟩
/-- the frame of the beginning -/
theorem EnvOk.shrink (k : EnvOk K A F G H σ en) : EnvOk K A A.F0 G H σ en := by
  obtain ⟨c, x⟩ := k.ex
  refine ⟨⟨⟨k.ok.gh, k.ok.bs.trans k.ok.fh, fun q hq => k.ok.bs.free (k.ok.fa q hq), k.ok.am⟩, Fro.refl _, k.ok.bg⟩, k.len, c, x.dat, fun i o e => ?_, x.inj, x.pl⟩
  obtain ⟨e1, e2, e3, e4, e5⟩ := x.cel i o e
  exact ⟨e1, e2, e3, k.ok.bs.free e4, e5⟩
end
/-- what the clause 'except c' wishes -/
def xOnly (K : PySem.W.Frag) (c : Value) (fh : Hp → Hp → Addr → Value → Option Addr → FS) (Ξ : XW) (Ψ : Ed) : XW := fun cls x e => ∃ b, PySem.W.exmOne K cls c = some b ∧ (b = true → ∀ a d F G, (x = none → d = none) → fh F G a cls d e Ψ) ∧ (b = false → Ξ cls x e)
def xAs (K : PySem.W.Frag) (c : Value) (i : Nat) (fh : Hp → Hp → Addr → Value → Option Addr → FS) (Ξ : XW) (Ψ : Ed) : XW := fun cls x e => ∃ b, PySem.W.exmOne K cls c = some b ∧
  (b = true → ∀ a d F G, (x = none → d = none) → fh F G a cls d (st e i (.dat (.tok a))) { nx := fun e' => Ψ.nx (st e' i .un), rt := Ψ.rt, bk := fun e' => Ψ.bk (st e' i .un), ct := fun e' => Ψ.ct (st e' i .un) }) ∧ (b = false → Ξ cls x e)
def fTryOnly (K : PySem.W.Frag) (c : Value) (fb : Hp → Hp → XW → FS) (fh : Hp → Hp → Addr → Value → Option Addr → FS) (Ξ : XW) : FS := fun en Ψ => ∀ F G, fb F G (xOnly K c fh Ξ Ψ) en Ψ
def fTryAs (K : PySem.W.Frag) (c : Value) (i : Nat) (fb : Hp → Hp → XW → FS) (fh : Hp → Hp → Addr → Value → Option Addr → FS) (Ξ : XW) : FS := fun en Ψ => ∀ F G, fb F G (xAs K c i fh Ξ Ψ) en Ψ
section
variable {X : Cx} {A : Am} {Ξ : XW} {x n : Str} {c : Value} {i : Nat} {body suite : List Stmt} {b₀ : Stmt} {np pos pos' : Pos} {fb : Hp → Hp → XW → FS} {fh : Hp → Hp → Addr → Value → Option Addr → FS}
theorem ds_try_only (hs : X.stack = X.env :: X.outer) (hf : X.env.frame = some X.env.locals) (hc : Names X x c) (tk : Takes X (WD X.K A Ξ))
    (hb : ∀ (F G : Hp) (Ξ' : XW) (pn : List (Addr × Obj)) (xe : Value → Shared → Prop), Takes (X.tr pn xe) (WD X.K ⟨A.q, F, G⟩ Ξ') → PassesOwn (model X.prog X.w) X.A X.env xe → DSs (X.tr pn xe) ⟨A.q, F, G⟩ body (fb F G Ξ'))
    (hsu : ∀ (F G : Hp) (a : Addr) (oe : Obj) (cls : Value) (d : Option Addr) (pn : List (Addr × Obj)), Zc cls d oe → (∃ vs, oe.data = .fields vs) → DSs (X.suite a ((a, oe) :: pn)) ⟨A.q, F, G⟩ (b₀ :: suite) (fh F G a cls d)) :
    DS X A (.Try body [.ExceptHandler (some (.Name x np)) none (b₀ :: suite) pos'] [] [] pos) (fTryOnly X.K c fb fh Ξ) :=
  ps_weak (ps_try_only (tb := fun W Dd σ H => ∃ F G Ξ', (∀ c d σ H, WD X.K ⟨A.q, F, G⟩ Ξ' c d σ H → W c d σ H) ∧ LS X.K ⟨A.q, F, G⟩ (fb F G Ξ') Dd σ H) (ts := fun a cls d Dd σ H => ∃ F G, LS X.K ⟨A.q, F, G⟩ (fh F G a cls d) Dd σ H) hs hf hc tk
    (fun W pn xe tkW po => ⟨fun pins s σ H Dd I ⟨F, G, Ξ', hw, q⟩ => (hb F G Ξ' pn xe (tkW.imp hw) po).run pins s σ H Dd I q⟩)
    (fun a oe cls d pn z1 z2 => ⟨fun pins s σ H Dd I ⟨F, G, q⟩ => (hsu F G a oe cls d pn z1 z2).run pins s σ H Dd I q⟩)) fun Dd σ H ⟨F, G, en, Ψ, k, h, q1, q2, q3, q4⟩ => by
    refine ⟨F, G, xOnly X.K c fh Ξ Ψ, fun cls d σ1 H1 ⟨F1, G1, e1, xf, k1, r1, b, hb1, hyes, hno⟩ => ?_, F, G, en, Ψ, k.rebase, h F G, fun e σ' G' H' z k' s' => q1 e σ' G' H' z (k'.back k.ok s') s', ?_, fun e σ' G' H' z k' s' => q3 e σ' G' H' z (k'.back k.ok s') s', fun e σ' G' H' z k' s' => q4 e σ' G' H' z (k'.back k.ok s') s'⟩
    · have k2 : EnvOk X.K ⟨A.q, F, G⟩ F G1 H1 σ1 e1 := k1.shrink
      have s2 : Step F G G1 := k1.ok.bg
      refine ⟨b, hb1, fun hbt a ha => ?_, fun hbf => ⟨F, G1, e1, xf, k2.back k.ok s2, r1, hno hbf⟩⟩
      refine ⟨F, G1, F, G1, e1, Ψ, k2.rebase, hyes hbt a d F G1 (fun hx => by subst hx; exact r1), fun e σ' G' H' z k' s' => q1 e σ' G' H' z ((k'.back k2.ok s').back k.ok (s2.trans s')) (s2.trans s'), ?_, fun e σ' G' H' z k' s' => q3 e σ' G' H' z ((k'.back k2.ok s').back k.ok (s2.trans s')) (s2.trans s'), fun e σ' G' H' z k' s' => q4 e σ' G' H' z ((k'.back k2.ok s').back k.ok (s2.trans s')) (s2.trans s')⟩
      intro d v G' H' z k' s' r'
      exact q2 d v G' H' z ⟨k'.st, k.ok.bz, k.ok.bg.trans ((s2.trans s').less k.ok.bs)⟩ (s2.trans s') r'
    · intro d v G' H' z k' s' r'
      exact q2 d v G' H' z ⟨k'.st, k.ok.bz, k.ok.bg.trans (s'.less k.ok.bs)⟩ s' r'
theorem ds_try_as (hs : X.stack = X.env :: X.outer) (hf : X.env.frame = some X.env.locals) (hN : X.N.Nodup) (hi : X.N[i]? = some n) (hln : X.env.kindOf n = some .local) (hc : Names X x c) (tk : Takes X (WD X.K A Ξ))
    (hb : ∀ (F G : Hp) (Ξ' : XW) (pn : List (Addr × Obj)) (xe : Value → Shared → Prop), Takes (X.tr pn xe) (WD X.K ⟨A.q, F, G⟩ Ξ') → PassesOwn (model X.prog X.w) X.A X.env xe → DSs (X.tr pn xe) ⟨A.q, F, G⟩ body (fb F G Ξ'))
    (hsu : ∀ (F G : Hp) (a : Addr) (oe : Obj) (cls : Value) (d : Option Addr) (pn : List (Addr × Obj)), Zc cls d oe → (∃ vs, oe.data = .fields vs) → DSs (X.suite a ((a, oe) :: pn)) ⟨A.q, F, G⟩ (b₀ :: suite) (fh F G a cls d)) :
    DS X A (.Try body [.ExceptHandler (some (.Name x np)) (some n) (b₀ :: suite) pos'] [] [] pos) (fTryAs X.K c i fb fh Ξ) :=
  ps_weak (ps_try_as (tb := fun W Dd σ H => ∃ F G Ξ', (∀ c d σ H, WD X.K ⟨A.q, F, G⟩ Ξ' c d σ H → W c d σ H) ∧ LS X.K ⟨A.q, F, G⟩ (fb F G Ξ') Dd σ H) (ts := fun a cls d Dd σ H => ∃ F G, LS X.K ⟨A.q, F, G⟩ (fh F G a cls d) Dd σ H) hs hf hN hi hln hc tk
    (fun W pn xe tkW po => ⟨fun pins s σ H Dd I ⟨F, G, Ξ', hw, q⟩ => (hb F G Ξ' pn xe (tkW.imp hw) po).run pins s σ H Dd I q⟩)
    (fun a oe cls d pn z1 z2 => ⟨fun pins s σ H Dd I ⟨F, G, q⟩ => (hsu F G a oe cls d pn z1 z2).run pins s σ H Dd I q⟩)) fun Dd σ H ⟨F, G, en, Ψ, k, h, q1, q2, q3, q4⟩ => by
    refine ⟨F, G, xAs X.K c i fh Ξ Ψ, fun cls d σ1 H1 ⟨F1, G1, e1, xf, k1, r1, b, hb1, hyes, hno⟩ => ?_, F, G, en, Ψ, k.rebase, h F G, fun e σ' G' H' z k' s' => q1 e σ' G' H' z (k'.back k.ok s') s', ?_, fun e σ' G' H' z k' s' => q3 e σ' G' H' z (k'.back k.ok s') s', fun e σ' G' H' z k' s' => q4 e σ' G' H' z (k'.back k.ok s') s'⟩
    · have k2 : EnvOk X.K ⟨A.q, F, G⟩ F G1 H1 σ1 e1 := k1.shrink
      have s2 : Step F G G1 := k1.ok.bg
      refine ⟨b, hb1, fun hbt a ha => ?_, fun hbf => ⟨F, G1, e1, xf, k2.back k.ok s2, r1, hno hbf⟩⟩
      have k3 := (k2.put (i := i) (d := .tok a) (v := .ref a) (rep_tok.mpr rfl)).rebase
      refine ⟨F, G1, F, G1, _, _, k3, hyes hbt a d F G1 (fun hx => by subst hx; exact r1), fun e σ' G' H' z k' s' => q1 _ _ G' H' z ((k'.back k2.ok s').back k.ok (s2.trans s')).forget (s2.trans s'), ?_, fun e σ' G' H' z k' s' => q3 _ _ G' H' z ((k'.back k2.ok s').back k.ok (s2.trans s')).forget (s2.trans s'), fun e σ' G' H' z k' s' => q4 _ _ G' H' z ((k'.back k2.ok s').back k.ok (s2.trans s')).forget (s2.trans s')⟩
      intro d v G' H' z k' s' r'
      exact q2 d v G' H' z ⟨k'.st, k.ok.bz, k.ok.bg.trans ((s2.trans s').less k.ok.bs)⟩ (s2.trans s') r'
    · intro d v G' H' z k' s' r'
      exact q2 d v G' H' z ⟨k'.st, k.ok.bz, k.ok.bg.trans (s'.less k.ok.bs)⟩ s' r'
end

/-! ### f-strings -/
def fFmt (fe : FE) : FE := fun en Φ => fe en fun x e1 => (∃ y : Str, x = .str y ∧ y.length ≤ 100000 ∧ Φ (.str y) e1) ∨ ∃ i : Int, x = .int i ∧ i.natAbs.log2 < 1920 ∧ Φ (.str (toString i)) e1
def fJs : List FE → Str → FE
  | [], acc => fun en Φ => Φ (.str acc) en
  | f :: fs, acc => fun en Φ => f en fun x e1 => ∃ y : Str, x = .str y ∧ (acc ++ y).length ≤ 100000 ∧ fJs fs (acc ++ y) e1 Φ
inductive DJ (X : Cx) (A : Am) : List Expr → List FE → Prop where
  | nil : DJ X A [] []
  | cons {e : Expr} {f : FE} {es : List Expr} {fs : List FE} (h : DE X A e f) (r : DJ X A es fs) : DJ X A (e :: es) (f :: fs)
section
variable {X : Cx} {A : Am} {e v1 v2 : Expr} {rest : List Expr} {fe : FE} {pos : Pos} {fs : List FE}
theorem de_fmt (he : DE X A e fe) : DE X A (.FormattedValue e (-1) none pos) (fFmt fe) := pe_weak (pe_fmt he) fun σ H Q ⟨F, G, en, Ψ, k, h, q⟩ =>
  ⟨F, G, en, _, k, h, fun x e1 v G1 H1 z k1 s1 r1 => by
    rcases z with ⟨y, rfl, hz, z⟩ | ⟨i, rfl, hz, z⟩
    · cases rep_str.mp r1
      exact .inl ⟨y, rfl, sz_of hz, q _ e1 _ G1 H1 z k1 s1 (rep_str.mpr rfl)⟩
    · cases rep_int.mp r1
      exact .inr ⟨i, rfl, hz, q _ e1 _ G1 H1 z k1 s1 (rep_str.mpr rfl)⟩⟩
theorem dj_pj {es : List Expr} (h : DJ X A es fs) : PJ X es (fs.map (LE X.K A)) := by
  induction h with
  | nil => exact .nil
  | cons h r ih => exact .cons h ih
theorem le_js {K : PySem.W.Frag} : ∀ (fs : List FE) (acc : Str) (σ : L2.St) (H : Hp) (Q : VK), LE K A (fJs fs acc) σ H Q → tJs (fs.map (LE K A)) acc σ H fun out H1 => Q (.str out) H1
  | [], acc, σ, H, Q, ⟨F, G, en, Ψ, k, h, q⟩ => q _ en _ G H h k (Step.refl _ _) (rep_str.mpr rfl)
  | f :: fs, acc, σ, H, Q, ⟨F, G, en, Ψ, k, h, q⟩ => ⟨F, G, en, _, k, h, fun x e1 v G1 H1 z k1 s1 r1 => by
    obtain ⟨y, rfl, hz, z⟩ := z
    cases rep_str.mp r1
    exact ⟨y, rfl, sz_of hz, le_js fs (acc ++ y) σ H1 Q ⟨F, G1, e1, Ψ, k1, z, fun d e2 v2 G2 H2 z2 k2 s2 r2 => q d e2 v2 G2 H2 z2 k2 (s1.trans s2) r2⟩⟩⟩
theorem de_join (h : DJ X A (v1 :: v2 :: rest) fs) : DE X A (.JoinedStr (v1 :: v2 :: rest) pos) (fJs fs Str.empty) := pe_weak (pe_joined (dj_pj h)) fun σ H Q h => le_js fs _ σ H Q h
end
end Dz

namespace Dz
open PySem PySem.Spec PyProof.Rows L2

/-! ### instances of own classes -/
def fldD : List Str → List D → Str → Option D
  | n :: ns, d :: l, f => if n = f then some d else fldD ns l f
  | _, _, _ => none
theorem lookup_zip {K : PySem.W.Frag} {G : Hp} {f : Str} : ∀ {ns : List Str} {l : List D} {xs : List V} {d : D}, RepA K G l xs → fldD ns l f = some d → ∃ v, (ns.zip xs).lookup f = some v ∧ Rep K G d v
  | [], _, _, _, _, h => by cases h
  | _ :: _, [], _, _, _, h => by cases h
  | n :: ns, d' :: l, xs, d, r, h => by
    unfold RepA at r
    obtain ⟨x, t, rfl, r1, r2⟩ := r
    unfold fldD at h
    rw [List.zip_cons_cons, List.lookup_cons]
    by_cases hn : n = f
    · rw [if_pos hn] at h
      cases h
      subst hn
      rw [beq_self_eq_true]
      exact ⟨x, rfl, r1⟩
    · rw [if_neg hn] at h
      have : (f == n) = false := by
        rw [beq_eq_false_iff_ne]
        exact fun z => hn z.symm
      rw [this]
      exact lookup_zip r2 h
theorem lookup_zip_no {f : Str} : ∀ {ns : List Str} {xs : List V}, f ∉ ns → (ns.zip xs).lookup f = none
  | [], _, _ => by simp
  | _ :: _, [], _ => by simp
  | n :: ns, x :: xs, h => by
    rw [List.zip_cons_cons, List.lookup_cons]
    have : (f == n) = false := by
      rw [beq_eq_false_iff_ne]
      intro z
      subst z
      exact h List.mem_cons_self
    rw [this]
    exact lookup_zip_no fun z => h (List.mem_cons_of_mem _ z)
theorem putF_zip {f : Str} {v : V} : ∀ {ns : List Str} {xs : List V}, ns.length = xs.length → f ∉ ns → putF f v (ns.zip xs) = (ns ++ [f]).zip (xs ++ [v])
  | [], [], _, _ => rfl
  | [], _ :: _, h, _ => by cases h
  | _ :: _, [], h, _ => by cases h
  | n :: ns, x :: xs, h, hn => by
    rw [List.zip_cons_cons, List.cons_append, List.cons_append, List.zip_cons_cons]
    show (if n = f then _ else _) = _
    rw [if_neg (show ¬ n = f from fun z => hn (by rw [z]; exact List.mem_cons_self))]
    rw [putF_zip (by simpa using h) fun z => hn (List.mem_cons_of_mem _ z)]
/-- e.f -/
def fFld (C : Addr) (f : Str) (fa : FE) : FE := fun en Φ => fa en fun x e1 => ∃ ns l d, x = .ins C ns l ∧ fldD ns l f = some d ∧ Φ d e1
section
variable {X : Cx} {A : Am} {C : Addr} {f : Str} {e o value : Expr} {pos pos' px : Pos} {fa fv : FE}
theorem de_fld (c : Cls X.K C) (n : NoAttr X.K C f) (ha : DE X A e fa) (hb : attributeBase e f X.env (eval e X.env) = eval e X.env := by rfl) : DE X A (.Attribute e f pos) (fFld C f fa) := pe_weak (pe_fld ha hb) fun σ H Q ⟨F, G, en, Ψ, k, h, q⟩ =>
  ⟨F, G, en, _, k, h, fun x e1 v G1 H1 z k1 s1 r1 => by
    obtain ⟨ns, l, d, rfl, hd, z⟩ := z
    obtain ⟨a, dx, xs, rfl, ha, ra, hl⟩ := rep_ins.mp r1
    obtain ⟨w, e2, r2⟩ := lookup_zip ra hd
    exact ⟨a, C, dx, _, w, rfl, k1.ok.gh _ _ ha, c, n, e2, q d e1 w G1 H1 z k1 s1 r2⟩⟩
/-- self.f = value, the first time -/
def fFput (C : Addr) (i : Nat) (f : Str) (fv : FE) : FS := fun en Ψ => fv en fun d e1 => ∃ p dx ns l, gt e1 i = .cel (.me p C dx ns l) ∧ f ∉ ns ∧ ns.length < 1000 ∧ Ψ.nx (st e1 i (.cel (.me p C dx (ns ++ [f]) (l ++ [d]))))
theorem ds_fput {i : Nat} {x : Str} (c : Cls X.K C) (n : NoAttr X.K C f) (hN : X.N[i]? = some x) (hv : Vis X.env.scope x) (he : DE X A value fv) (hd : (x == ("__debug__" : Str)) = false := by decide) (hcd : (x == ("__classdict__" : Str)) = false := by decide)
    (hs : swapsWith value (some (.Attribute (.Name x px) f pos')) pos.line X.env = pure false := by rfl) : DS X A (.Assign [.Attribute (.Name x px) f pos'] value pos) (fFput C i f fv) :=
  ps_weak (ps_fld (pv i hN hv hd hcd) he hs) fun Dd σ H ⟨F, G, en, Ψ, k, h, q1, _⟩ => ⟨F, G, en, _, k, h, fun d e1 v G1 H1 z k1 s1 r1 => by
    obtain ⟨p, dx, ns, l, eg, hf, hlen, z⟩ := z
    obtain ⟨sl, x⟩ := k1.ex
    have hp := x.pl i _ eg
    obtain ⟨f1, ⟨u, f2, f3⟩, _⟩ := x.cel i _ eg
    have hp : sl i = p := hp
    rw [hp] at f1 f2
    obtain ⟨xs, rfl, ra, hl⟩ := f3
    refine ⟨.ref p, f1, p, C, dx, _, rfl, f2, c, n, ?_, ?_⟩
    · rw [List.length_zip]
      exact Nat.lt_of_le_of_lt (Nat.min_le_left _ _) hlen
    · rw [putF_zip (hl.trans ra.len.symm) hf]
      exact q1 _ _ G1 _ z (k1.alter (u' := .ins C dx ((ns ++ [f]).zip (xs ++ [v]))) eg f1 ⟨_, rfl, ra.app (.cons r1 .nil), by simp only [List.length_append, hl, List.length_singleton]⟩ rfl) s1⟩
end

/-! ### making an instance -/
def hide (p : Addr) (F : Hp) : Hp := fun a => if a = p then none else F a
theorem hide_same {p : Addr} {F : Hp} : Same (hide p F) F := fun a u h => by
  unfold hide at h
  split at h
  · cases h
  · exact h
theorem hide_at {p : Addr} {F : Hp} : hide p F p = none := by unfold hide; rw [if_pos rfl]
theorem hide_ne {p a : Addr} {F : Hp} (h : a ≠ p) : hide p F a = F a := by unfold hide; rw [if_neg h]
/-- what an __init__ promises: the names and values of the fields that it leaves -/
abbrev PDI := AQ → List D → (List Str → List D → Prop) → XQ → Prop
def spI (K : PySem.W.Frag) (C : Addr) (pd : PDI) : Sp := fun vs H Q E => ∃ (A : AQ) (G : Hp) (p dx : Addr) (ds : List D) (vs' : List V) (Ψ : List Str → List D → Prop) (Ξ : XQ), vs = .ref p :: vs' ∧ H p = some (.ins C dx []) ∧
  StQ K A (hide p (minus A H)) G H ∧ G p = none ∧ (∀ q ∈ A, q.1 ≠ p) ∧ RepA K G ds vs' ∧ pd A ds Ψ Ξ ∧
  (∀ ns l G' H', Ψ ns l → StQ K A (hide p (minus A H)) G' H' → Step (hide p (minus A H)) G G' → G' p = none → (∃ xs, H' p = some (.ins C dx (ns.zip xs)) ∧ RepA K G' l xs ∧ ns.length = l.length) → Q .non H') ∧
  ∀ c x d G' H', Ξ c x → StQ K A (hide p (minus A H)) G' H' → Step (hide p (minus A H)) G G' → RepX K G' H' x d → E c d H'
theorem gt_cons0 {e : EV} {en : En} : gt (e :: en) 0 = e := rfl
theorem EnvOk.startI {K : PySem.W.Frag} {A : Am} {F G H : Hp} {p C dx : Addr} {ds : List D} {vs : List V} {N : List Str} (k : StOk K A F G H) (hp : H p = some (.ins C dx [])) (gp : G p = none) (fp : F p = none) (ap : ∀ q ∈ A.q, q.1 ≠ p) (r : RepA K G ds vs) :
    EnvOk K A F G H (L2.start N (.ref p :: vs)) (.cel (.me p C dx [] []) :: (ds.map EV.dat ++ List.replicate (N.length - (ds.length + 1)) EV.un)) := by
  have hl := r.len
  refine ⟨k, ?_, fun _ => p, fun i d e => ?_, fun i o e => ?_, fun i j o u e1 e2 _ => ?_, fun i o e => ?_⟩
  · unfold L2.start
    simp only [List.length_append, List.length_map, List.length_replicate, List.length_cons, hl]
    omega
  · cases i with
    | zero => cases e
    | succ i =>
      obtain ⟨d', h1, h2⟩ := gt_dat (ds := ds) (show gt (ds.map EV.dat ++ List.replicate (N.length - (ds.length + 1)) EV.un) i = .dat d from e) (by intro z; cases z)
      cases h1
      obtain ⟨v, e1, e2⟩ := r.get h2
      refine ⟨v, ?_, e2⟩
      unfold L2.start
      have hi : i < vs.length := (List.getElem?_eq_some_iff.mp e1).1
      rw [List.getElem?_append_left (by rw [List.length_map, List.length_cons]; omega), List.getElem?_map, List.getElem?_cons_succ, e1]
      rfl
  · cases i with
    | zero =>
      cases e
      refine ⟨?_, ⟨_, hp, [], rfl, .nil, rfl⟩, gp, fp, ap⟩
      unfold L2.start
      rfl
    | succ i =>
      obtain ⟨d', h1, _⟩ := gt_dat (ds := ds) (show gt (ds.map EV.dat ++ List.replicate (N.length - (ds.length + 1)) EV.un) i = .cel o from e) (by intro z; cases z)
      cases h1
  · have z : ∀ (i : Nat) (o : HD), gt (.cel (.me p C dx [] []) :: (ds.map EV.dat ++ List.replicate (N.length - (ds.length + 1)) EV.un)) i = .cel o → i = 0 := fun i o e => by
      cases i with
      | zero => rfl
      | succ i =>
        obtain ⟨d', h1, _⟩ := gt_dat (ds := ds) (show gt (ds.map EV.dat ++ List.replicate (N.length - (ds.length + 1)) EV.un) i = .cel o from e) (by intro z; cases z)
        cases h1
    rw [z i o e1, z j u e2]
  · cases i with
    | zero => cases e; exact rfl
    | succ i =>
      obtain ⟨d', h1, _⟩ := gt_dat (ds := ds) (show gt (ds.map EV.dat ++ List.replicate (N.length - (ds.length + 1)) EV.un) i = .cel o from e) (by intro z; cases z)
      cases h1
section
variable {P : Program} {w : World} {K : PySem.W.Frag} {mg : Str → Option Value} {base : Heap}
theorem fn_dzi {C : Addr} {x qual : Str} {s0 : Stmt} {f : Addr} {fd : FuncData} {N ps : List Str} {k : Nat} {pd : PDI} {fb : Am → XW → FS} (Fk : Fun K x qual s0 f fd) (S : FnScope N ps (defScope s0)) (hlen : ∀ A ds Ψ Ξ, pd A ds Ψ Ξ → ds.length + 1 = ps.length)
    (hb : ∀ (A : Am) (Ξ : XW) (cdv : Value) (Ar : Around) (outer : List PySem.Env) (s : Shared) (H : Hp) (E : XK), Room k (Ar.deeper (envOfC qual (defScope s0) s.heap.objs.size f cdv)) →
      Takes (cxOf (L2.CX P w) P w K mg base N qual (defScope s0) f cdv Ar outer s H E) (WD K A Ξ) → DSs (cxOf (L2.CX P w) P w K mg base N qual (defScope s0) f cdv Ar outer s H E) A (defBody s0) (fb A Ξ))
    (hm : ∀ (A : Am) ds Ψ (Ξ : XQ) p dx, pd A.q ds Ψ Ξ → fb A Ξ.w (.cel (.me p C dx [] []) :: (ds.map EV.dat ++ List.replicate (N.length - (ds.length + 1)) EV.un)) { nx := fun e => ∃ ns l, gt e 0 = .cel (.me p C dx ns l) ∧ Ψ ns l, rt := fun _ => False }) :
    FnOk P w K mg base (L2.CX P w) (k + 1) f fd ps (spI K C pd) := by
  refine Fk.okX S (fun vs H Q E h => ?_) (fun cdv A outer s H vs Q E hr h => ?_)
  · obtain ⟨A, G, p, dx, ds, vs', Ψ, Ξ, rfl, _, _, _, _, r, hp, _⟩ := h
    rw [List.length_cons, r.len]
    exact hlen A ds Ψ Ξ hp
  · obtain ⟨Aq, G, p, dx, ds, vs', Ψ, Ξ, rfl, hp, k0, gp, ap, r, hpd, q, qx⟩ := h
    have tk : Takes (cxOf (L2.CX P w) P w K mg base N qual (defScope s0) f cdv A outer s H E) (WD K ⟨Aq, hide p (minus Aq H), G⟩ Ξ.w) := (takes_of rfl rfl rfl rfl).imp fun c d σ H' z => by
      obtain ⟨F, G', en, x, k1, r1, z1⟩ := z
      exact qx c x d G' H' z1 ⟨k1.ok.gh, k1.ok.bs.trans k1.ok.fh, fun q hq => k1.ok.bs.free (k1.ok.fa q hq), k1.ok.am⟩ k1.ok.bg r1
    refine ⟨_, hb ⟨Aq, hide p (minus Aq H), G⟩ Ξ.w cdv A outer s H E hr tk, hide p (minus Aq H), G, _, _, EnvOk.startI (A := ⟨Aq, hide p (minus Aq H), G⟩) ⟨k0, Fro.refl _, Step.refl _ _⟩ hp gp hide_at ap r, hm ⟨Aq, hide p (minus Aq H), G⟩ ds Ψ Ξ p dx hpd, fun e σ' G' H' hn k1 s1 => ?_, fun d v G' H' hd k1 s1 r1 => hd.elim, fun _ _ _ _ z => z.elim, fun _ _ _ _ z => z.elim⟩
    obtain ⟨ns, l, eg, hz⟩ := hn
    obtain ⟨c, x⟩ := k1.ex
    have e1 : c 0 = p := x.pl 0 _ eg
    obtain ⟨_, ⟨u, e2, xs, eu, ra, hl⟩, e4, _⟩ := x.cel 0 _ eg
    rw [e1] at e2 e4
    subst eu
    exact q ns l G' H' hz k1.ok.st s1 e4 ⟨xs, e2, ra, hl⟩
end
def fMakeX (C : Addr) (pd : PDI) (A : Am) (Ξ : XW) (fr : FA) : FE := fun en Φ => fr en fun ds e => pd A.q ds (fun ns l => Φ (.ins C ns l) e) (fun c x => Ξ c x e)
def fMakeN (C : Addr) (pd : PDI) (A : Am) (fr : FA) : FE := fun en Φ => fr en fun ds e => pd A.q ds (fun ns l => Φ (.ins C ns l) e) (fun _ _ => False)
structure MkX (P : Program) (w : World) (K : PySem.W.Frag) (mg : Str → Option Value) (base : Heap) (x : Str) (C : Addr) (k : Nat) (ps : List Str) (pd : PDI) : Prop where
  gl : mg x = some (.ref C)
  cls : Cls K C
  ex : ∃ (f : Addr) (fd : FuncData), FnOk P w K mg base (L2.CX P w) k f fd ps (spI K C pd) ∧ Mk K C f ∧ Binds K fd ps []
section
variable {K : PySem.W.Frag} {A : Am} {F G H : Hp} {σ : L2.St} {en : En} {C x dx : Addr}
theorem make_same {H : Hp} {x dx C : Addr} (hx : H x = none) (hdx : H dx = none) : Same H (upd (upd H dx (.own x)) x (.ins C dx [])) := fun b u hb => by
  rw [upd_ne (fun z => by rw [z, hx] at hb; cases hb), upd_ne (fun z => by rw [z, hdx] at hb; cases hb)]
  exact hb
theorem make_in {H' : Hp} (k : EnvOk K A F G H σ en) (hx : H x = none) (hdx : H dx = none) (e : H' = upd (upd H dx (.own x)) x (.ins C dx [])) : StQ K A.q (hide x (minus A.q H')) G H' ∧ Same H H' ∧ G x = none ∧ (∀ q ∈ A.q, q.1 ≠ x) ∧ H' x = some (.ins C dx []) := by
  have s1 : Same H H' := by rw [e]; exact make_same hx hdx
  refine ⟨⟨k.ok.gh.trans s1, hide_same.trans minus_same, fun q hq => ?_, fun q hq => ?_⟩, s1, k.ok.gh.free hx, fun q hq z => ?_, ?_⟩
  · by_cases h : q.1 = x
    · rw [h]; exact hide_at
    · rw [hide_ne h]; exact minus_in hq
  · obtain ⟨a1, o, u, a2, a3, a4⟩ := k.ok.am q hq
    exact ⟨a1, o, u, s1 _ _ a2, a3, a4⟩
  · obtain ⟨_, _, u, a2, _⟩ := k.ok.am q hq
    rw [z, hx] at a2; cases a2
  · rw [e, upd_same]
theorem make_less {H H' : Hp} {q : AQ} (s : Same H H') (hx : H x = none) : Same (minus q H) (hide x (minus q H')) := fun a u h => by
  have hH : H a = some u := minus_same _ _ h
  have ne : a ≠ x := fun z => by rw [z, hx] at hH; cases hH
  rw [hide_ne ne]
  unfold minus at h ⊢
  split at h
  · cases h
  · rename_i hn
    rw [if_neg hn]
    exact s _ _ hH
/-- the object is made: it stands still from now on -/
theorem make_out {H' G1 H1 : Hp} {ns : List Str} {l : List D} {xs : List V} (k : EnvOk K A F G H σ en) (s : Same H H') (hx : H x = none) (ap : ∀ q ∈ A.q, q.1 ≠ x) (k1 : StQ K A.q (hide x (minus A.q H')) G1 H1) (s1 : Step (hide x (minus A.q H')) G G1) (g1 : G1 x = none)
    (hp : H1 x = some (.ins C dx (ns.zip xs))) (ra : RepA K G1 l xs) (hl : ns.length = l.length) : ∃ G2, EnvOk K A F G2 H1 σ en ∧ Step F G G2 ∧ Rep K G2 (.ins C ns l) (.ref x) := by
  have sg : Same G1 (upd G1 x (.ins C dx (ns.zip xs))) := same_new g1
  have kk : StQ K A.q (minus A.q H) (upd G1 x (.ins C dx (ns.zip xs))) H1 := ⟨fun b u hb => by
    by_cases h : b = x
    · subst h; rw [upd_same] at hb; cases hb; exact hp
    · rw [upd_ne h] at hb; exact k1.gh _ _ hb, (make_less s hx).trans k1.fh, fun q hq => minus_in hq, fun q hq => by
    obtain ⟨a1, o, u, a2, a3, a4⟩ := k1.am q hq
    exact ⟨by rw [upd_ne (ap q hq)]; exact a1, o, u, a2, a3.mono sg, a4⟩⟩
  have ss : Step (minus A.q H) G (upd G1 x (.ins C dx (ns.zip xs))) := ⟨fun z => (s1.n z).new (fun _ z => by cases z), s1.g.trans sg, fun a u h => by
    have hH : H a = some u := minus_same _ _ h
    rw [upd_ne (fun z => by rw [z, hx] at hH; cases hH)]
    exact s1.f a u (make_less s hx _ _ h)⟩
  obtain ⟨k2, s2⟩ := k.called kk ss
  exact ⟨_, k2, s2, rep_ins.mpr ⟨x, dx, xs, rfl, upd_same, ra.mono sg, hl⟩⟩
theorem make_outX {H' G1 H1 : Hp} (k : EnvOk K A F G H σ en) (s : Same H H') (hx : H x = none) (k1 : StQ K A.q (hide x (minus A.q H')) G1 H1) (s1 : Step (hide x (minus A.q H')) G G1) : EnvOk K A F G1 H1 σ en ∧ Step F G G1 :=
  k.called ⟨k1.gh, (make_less s hx).trans k1.fh, fun q hq => minus_in hq, k1.am⟩ (s1.less (make_less s hx))
end
section
variable {X : Cx} {A : Am} {k : Nat} {C : Addr} {ps : List Str} {pd : PDI} {x : Str} {p pos : Pos} {e : Expr} {es : List Expr} {fr : FA} {Ξ : XW}
theorem le_makeN {σ : L2.St} {H : Hp} {Q : VK} {K : PySem.W.Frag} (h : LE K A (fMakeN C pd A fr) σ H Q) : tMake C (spI K C pd) [] E0 (LA K A fr) σ H Q := by
  obtain ⟨F, G, en, Ψ, k, h, q⟩ := h
  refine ⟨F, G, en, _, k, h, fun ds e1 vs G1 H1 hp k1 s1 r1 => fun x dx hx hdx hne => ?_⟩
  rw [List.append_nil]
  obtain ⟨m1, m2, m3, m4, m5⟩ := make_in (C := C) k1 hx hdx rfl
  refine ⟨A.q, G1, x, dx, ds, vs, _, _, rfl, m5, m1, m3, m4, r1, hp, fun ns l G2 H2 hz k2 s2 g2 ⟨xs, h2, ra, hl⟩ => ⟨rfl, ?_⟩, fun c x d G2 H2 hx k2 s2 r2 => hx.elim⟩
  obtain ⟨G3, k3, s3, r3⟩ := make_out k1 m2 hx m4 k2 s2 g2 h2 ra hl
  exact q _ e1 _ G3 H2 hz k3 (s1.trans s3) r3
theorem de_mkN (O : MkX X.prog X.w X.K X.mg X.base x C k ps pd) (hr : Room (k + 1) X.A) (hg : Gl X x) (ha : DA X A (e :: es) fr) (hdb : (x == ("__debug__" : Str)) = false := by decide)
    (he : starEach (e :: es) X.env = (false, eval e X.env) :: starEach es X.env := by rfl) (hpl : (backTo pos (starEach es X.env)).any (·.1) = false := by rfl) : DE X A (.Call (.Name x p) (e :: es) [] pos) (fMakeN C pd A fr) := by
  obtain ⟨f, fd, h1, h2, h3⟩ := O.ex
  exact pe_weak (pe_make h2 h1 hr hg O.gl h3 .nil passL ha hdb he hpl) fun _ _ _ h => le_makeN h
/-- .. where it may be refused -/
def tMakeS (C : Addr) (sp : Sp) (E : L2.St → XK) (t : TA) : TE := fun σ H Q => t σ H fun vs H1 => ∀ x dx, H1 x = none → H1 dx = none → dx ≠ x →
  sp (.ref x :: vs) (upd (upd H1 dx (.own x)) x (.ins C dx [])) (fun v H2 => v = .non ∧ Q (.ref x) H2) (E σ)
theorem pe_makeS {CX : CXT} {f : Addr} {fd : FuncData} {sp : Sp} {E : L2.St → XK} {t : TA} (M : Mk X.K C f) (F : FnOk X.prog X.w X.K X.mg X.base CX k f fd ps sp) (hr : Room (k + 1) X.A) (hg : Gl X x) (hm : X.mg x = some (.ref C)) (hb : Binds X.K fd ps []) (hx : ∀ σ, PassesAt CX X σ (E σ))
    (ha : PA X (e :: es) t) (hdb : (x == ("__debug__" : Str)) = false := by decide) (he : starEach (e :: es) X.env = (false, eval e X.env) :: starEach es X.env := by rfl) (hpl : (backTo pos (starEach es X.env)).any (·.1) = false := by rfl) :
    PE X (.Call (.Name x p) (e :: es) [] pos) (tMakeS C sp E t) := by
  refine ⟨fun pins s σ H Q I h => ?_⟩
  refine wpAny_Call_Name_kw (ld_glob I hg hm ?_ hdb)
  refine PySem.W.callWith_K (h₀ := X.base) I.ok.mod.kin M.kp (thn (ha.run pos pins s σ H _ I h) fun us s1 ⟨vs, H1, I1, r, q⟩ => ⟨I1.kIn, ?_⟩) he hpl
  have hq := q (s1.heap.objs.size + 1) s1.heap.objs.size (I1.hok.fresh (Nat.le_succ _)) (I1.hok.fresh (Nat.le_refl _)) (Nat.ne_of_lt (Nat.lt_succ_self _))
  have I2 := Inv.made (C := C) I1
  have r2 : Vals (V.ref (s1.heap.objs.size + 1) :: vs) (Value.ref (s1.heap.objs.size + 1) :: us) := .cons rfl r
  have hl : (Value.ref (s1.heap.objs.size + 1) :: us).length = ps.length := by
    have e := r2.length
    rw [F.len _ _ _ _ hq] at e
    exact e.symm
  have b := hb _ (Value.ref (s1.heap.objs.size + 1) :: us) I2.kIn (by rw [List.append_nil]; exact hl)
  rw [List.append_nil] at b
  refine wpAny_call (make_map (f := f) I1.kIn M.makes M.init (beq_iff_eq.mp M.fn) (codeAny_mono (F.run _ X.stack _ _ ⟨Value.ref (s1.heap.objs.size + 1) :: us, []⟩ (Value.ref (s1.heap.objs.size + 1) :: us) _ _ (E σ) (hr.make C us [])
    (I2.env0.make C us []) b r2 hq) fun r s' hq' => ?_))
  cases r with
  | error e => exact hx σ pins _ _ e s' I2 hq'
  | ok fl =>
    cases fl with
    | ret u =>
      obtain ⟨v, H', I3, rv, ev, q3⟩ := I2.after hq'
      subst ev
      exact ⟨rv, ⟨V.ref (s1.heap.objs.size + 1), H', I3, rfl, q3⟩⟩
    | next => exact False.elim hq'
    | brk => exact False.elim hq'
    | cont => exact False.elim hq'
theorem le_makeX {σ : L2.St} {H : Hp} {Q : VK} {K : PySem.W.Frag} (h : LE K A (fMakeX C pd A Ξ fr) σ H Q) : tMakeS C (spI K C pd) (WE (WD K A Ξ)) (LA K A fr) σ H Q := by
  obtain ⟨F, G, en, Ψ, k, h, q⟩ := h
  refine ⟨F, G, en, _, k, h, fun ds e1 vs G1 H1 hp k1 s1 r1 => fun x dx hx hdx hne => ?_⟩
  obtain ⟨m1, m2, m3, m4, m5⟩ := make_in (C := C) k1 hx hdx rfl
  refine ⟨A.q, G1, x, dx, ds, vs, _, _, rfl, m5, m1, m3, m4, r1, hp, fun ns l G2 H2 hz k2 s2 g2 ⟨xs, h2, ra, hl⟩ => ⟨rfl, ?_⟩, fun c y d G2 H2 hxx k2 s2 r2 => ?_⟩
  · obtain ⟨G3, k3, s3, r3⟩ := make_out k1 m2 hx m4 k2 s2 g2 h2 ra hl
    exact q _ e1 _ G3 H2 hz k3 (s1.trans s3) r3
  · obtain ⟨k3, s3⟩ := make_outX k1 m2 hx k2 s2
    exact ⟨F, G2, e1, y, k3, r2, hxx⟩
theorem de_mkX (O : MkX X.prog X.w X.K X.mg X.base x C k ps pd) (tk : Takes X (WD X.K A Ξ)) (hr : Room (k + 1) X.A) (hg : Gl X x) (ha : DA X A (e :: es) fr) (hdb : (x == ("__debug__" : Str)) = false := by decide)
    (he : starEach (e :: es) X.env = (false, eval e X.env) :: starEach es X.env := by rfl) (hpl : (backTo pos (starEach es X.env)).any (·.1) = false := by rfl) : DE X A (.Call (.Name x p) (e :: es) [] pos) (fMakeX C pd A Ξ fr) := by
  obtain ⟨f, fd, h1, h2, h3⟩ := O.ex
  exact pe_weak (pe_makeS h2 h1 hr hg O.gl h3 (fun σ => passAt tk σ) ha hdb he hpl) fun _ _ _ h => le_makeX h
end
end Dz

namespace PySem.W
open PySem PySem.Calls PyProof.Rows
section
variable {prog : Program} {w : World} {A : Around} {E : Value → Shared → Prop} {s : Shared} {K : Frag} {x y C L f : Addr} {h₀ : Heap} {m : Str → Option Value} {ox oy : Obj} {od od' : Option Obj}
/-- a binary operator on two objects of one class -/
theorem own_binII {op : Operator} {Q : Value → Shared → Prop} (F : Fr h₀ L s.heap m) (X₀ : K.In h₀) (I : InstAt s.heap x ox C od) (J : InstAt s.heap y oy C od') (hc : selfFirst K C = true)
    (hs : findIn K (.ref C) (PySem.dunder op.info.2) = some (some (.ref f))) (hf : isFn K (.ref f) = true)
    (h : wpAny (model prog w) A (call (.ref f) [.ref x, .ref y]) (CmpBack Q) E s) : wpAny (model prog w) A (binaryOp op (.ref x) (.ref y)) Q E s := by
  have X := X₀.keeps F.keep
  obtain ⟨cd, rest, hcd, hm⟩ := ksp_first hc
  rcases hi : op.info with ⟨sym, nm'⟩
  rw [hi] at hs
  dsimp only at hs
  have one := ksp_try X I hs hf h
  obtain ⟨hh, g, d, tt, os⟩ := s
  have L1 : Looks (model prog w) hh (typeOf (.ref x)) (.ref C) := I.type
  have L2 : Looks (model prog w) hh (typeOf (.ref y)) (.ref C) := J.type
  have L3 : Looks (model prog w) hh (fillsNumberSlot (.ref C) nm') true := fills_K X hcd hm hs
  simp only [binaryOp, hi]
  refine wpAny_holding (wpAny_bind ?_)
  unfold binaryOp1
  refine wpAny_bind (L1.at (wpAny_bind (L2.at (wpAny_bind (L3.at ?_)))))
  simp only [beq_self_eq_true, Bool.false_eq_true, if_true, if_false]
  ksp_lk
  refine wpAny_mono one (fun r s' hr' => ?_) fun _ _ e => e
  obtain ⟨v, rfl, hq⟩ := hr'
  ksp_lk
  exact hq
end
end PySem.W
namespace Dz
open PySem PySem.Spec PyProof.Rows L2

/-! ### methods -/
structure MthD (P : Program) (w : World) (K : PySem.W.Frag) (mg : Str → Option Value) (base : Heap) (C : Addr) (m : Str) (k : Nat) (ps : List Str) (pd : PD) : Prop where
  ex : ∃ (f : Addr) (fd : FuncData), FnOk P w K mg base CX0 k f fd ps (spD K pd) ∧ Meth K C m f ∧ Binds K fd ps []
structure MthX (P : Program) (w : World) (K : PySem.W.Frag) (mg : Str → Option Value) (base : Heap) (C : Addr) (m : Str) (k : Nat) (ps : List Str) (pd : PDX) : Prop where
  ex : ∃ (f : Addr) (fd : FuncData), FnOk P w K mg base (L2.CX P w) k f fd ps (spX K pd) ∧ Meth K C m f ∧ Binds K fd ps []
/-- a promise that lets nothing out, as one that may -/
def PD.x (pd : PD) : PDX := fun A ds Ψ _ => pd A ds Ψ
theorem passC {X : Cx} : Passes CX0 X E0 := pass0

def fMeth (C : Addr) (m : Str) (pd : PD) (A : Am) (fa : FE) (fr : FA) : FE := fun en Φ => fa en fun x e1 => ∃ ns l, x = .ins C ns l ∧ m ∉ ns ∧ fr e1 fun ds e2 => pd A.q (x :: ds) fun d => Φ d e2
def fMethN (C : Addr) (m : Str) (pd : PDX) (A : Am) (fa : FE) (fr : FA) : FE := fun en Φ => fa en fun x e1 => ∃ ns l, x = .ins C ns l ∧ m ∉ ns ∧ fr e1 fun ds e2 => pd A.q (x :: ds) (fun d => Φ d e2) fun _ _ => False
section
variable {X : Cx} {A : Am} {C : Addr} {m : Str} {k : Nat} {ps : List Str} {pd : PD} {pdx : PDX} {e o : Expr} {es : List Expr} {pos apos : Pos} {fa fb : FE} {fr : FA} {Ξ : XW}
theorem le_meth {E : XK} {σ : L2.St} {H : Hp} {Q : VK} {K : PySem.W.Frag} (h : LE K A (fMeth C m pd A fa fr) σ H Q) : tMeth C m (spD K pd) [] E (LE K A fa) (LA K A fr) σ H Q := by
  obtain ⟨F, G, en, Ψ, k, h, q⟩ := h
  refine ⟨F, G, en, _, k, h, fun x e1 v G1 H1 z k1 s1 r1 => ?_⟩
  obtain ⟨ns, l, rfl, hm, z⟩ := z
  obtain ⟨a, dx, xs, rfl, ha, ra, hl⟩ := rep_ins.mp r1
  refine ⟨a, dx, _, rfl, k1.ok.gh _ _ ha, lookup_zip_no hm, F, G1, e1, _, k1, z, fun ds e2 vs G2 H2 hp k2 s2 r2 => ?_⟩
  show spD K pd (V.ref a :: (vs ++ [])) H2 Q E
  rw [List.append_nil]
  refine ⟨A.q, G2, _, _, k2.ok.call, .cons (r1.mono s2.g) r2, hp, fun d v G3 H3 hd k3 s3 r3 => ?_⟩
  obtain ⟨k4, s4⟩ := k2.called k3 s3
  exact q d e2 v G3 H3 hd k4 ((s1.trans s2).trans s4) r3
theorem le_methN {σ : L2.St} {H : Hp} {Q : VK} {K : PySem.W.Frag} (h : LE K A (fMethN C m pdx A fa fr) σ H Q) : tMeth C m (spX K pdx) [] E0 (LE K A fa) (LA K A fr) σ H Q := by
  obtain ⟨F, G, en, Ψ, k, h, q⟩ := h
  refine ⟨F, G, en, _, k, h, fun x e1 v G1 H1 z k1 s1 r1 => ?_⟩
  obtain ⟨ns, l, rfl, hm, z⟩ := z
  obtain ⟨a, dx, xs, rfl, ha, ra, hl⟩ := rep_ins.mp r1
  refine ⟨a, dx, _, rfl, k1.ok.gh _ _ ha, lookup_zip_no hm, F, G1, e1, _, k1, z, fun ds e2 vs G2 H2 hp k2 s2 r2 => ?_⟩
  show spX K pdx (V.ref a :: (vs ++ [])) H2 Q E0
  rw [List.append_nil]
  refine ⟨A.q, G2, _, _, _, k2.ok.call, .cons (r1.mono s2.g) r2, hp, fun d v G3 H3 hd k3 s3 r3 => ?_, fun c y d G3 H3 hx _ _ _ => hx.elim⟩
  obtain ⟨k4, s4⟩ := k2.called k3 s3
  exact q d e2 v G3 H3 hd k4 ((s1.trans s2).trans s4) r3
theorem de_meth {pl : Sem Bool} (O : MthD X.prog X.w X.K X.mg X.base C m k ps pd) (c : Cls X.K C) (hr : Room k X.A) (he : DE X A o fa) (ha : DA X A (e :: es) fr)
    (hst : starEach (e :: es) X.env = (false, eval e X.env) :: starEach es X.env := by rfl) (hpl : (backTo pos (starEach es X.env)).any (·.1) = false := by rfl)
    (ht : eval (.Call (.Attribute o m apos) (e :: es) [] pos) X.env = (do
      let ov ← eval o X.env
      standAt apos.atName
      let (f, first) ← holding [ov] (getMethod ov m pl)
      callWith pos f first (backTo pos (starEach (e :: es) X.env)) (backToKw pos (keywordEach [] X.env))) := by rfl) : DE X A (.Call (.Attribute o m apos) (e :: es) [] pos) (fMeth C m pd A fa fr) := by
  obtain ⟨f, fd, h1, h2, h3⟩ := O.ex
  exact pe_weak (pe_meth he c h2 h1 hr h3 .nil pass0 ha hst hpl ht) fun _ _ _ h => le_meth h
theorem de_methN {pl : Sem Bool} (O : MthX X.prog X.w X.K X.mg X.base C m k ps pdx) (c : Cls X.K C) (hr : Room k X.A) (he : DE X A o fa) (ha : DA X A (e :: es) fr)
    (hst : starEach (e :: es) X.env = (false, eval e X.env) :: starEach es X.env := by rfl) (hpl : (backTo pos (starEach es X.env)).any (·.1) = false := by rfl)
    (ht : eval (.Call (.Attribute o m apos) (e :: es) [] pos) X.env = (do
      let ov ← eval o X.env
      standAt apos.atName
      let (f, first) ← holding [ov] (getMethod ov m pl)
      callWith pos f first (backTo pos (starEach (e :: es) X.env)) (backToKw pos (keywordEach [] X.env))) := by rfl) : DE X A (.Call (.Attribute o m apos) (e :: es) [] pos) (fMethN C m pdx A fa fr) := by
  obtain ⟨f, fd, h1, h2, h3⟩ := O.ex
  exact pe_weak (pe_meth he c h2 h1 hr h3 .nil passL ha hst hpl ht) fun _ _ _ h => le_methN h
theorem de_meth0 {pl : Sem Bool} (O : MthD X.prog X.w X.K X.mg X.base C m k ps pd) (c : Cls X.K C) (hr : Room k X.A) (he : DE X A o fa)
    (ht : eval (.Call (.Attribute o m apos) [] [] pos) X.env = (do
      let ov ← eval o X.env
      standAt apos.atName
      let (f, first) ← holding [ov] (getMethod ov m pl)
      callWith pos f first (backTo pos (starEach [] X.env)) (backToKw pos (keywordEach [] X.env))) := by rfl) : DE X A (.Call (.Attribute o m apos) [] [] pos) (fMeth C m pd A fa fNil) := by
  obtain ⟨f, fd, h1, h2, h3⟩ := O.ex
  refine pe_weak (pe_meth0 he c h2 h1 hr h3 .nil pass0 ht) fun σ H Q h => ?_
  obtain ⟨F, G, en, Ψ, k, h, q⟩ := h
  refine ⟨F, G, en, _, k, h, fun x e1 v G1 H1 z k1 s1 r1 => ?_⟩
  obtain ⟨ns, l, rfl, hm, z⟩ := z
  obtain ⟨a, dx, xs, rfl, ha, ra, hl⟩ := rep_ins.mp r1
  refine ⟨a, dx, _, rfl, k1.ok.gh _ _ ha, lookup_zip_no hm, ?_⟩
  show spD X.K pd ([V.ref a] ++ []) H1 Q E0
  refine ⟨A.q, G1, _, _, k1.ok.call, .cons r1 .nil, z, fun d v G3 H3 hd k3 s3 r3 => ?_⟩
  obtain ⟨k4, s4⟩ := k1.called k3 s3
  exact q d e1 v G3 H3 hd k4 (s1.trans s4) r3
/-- o.f, a property -/
def fProp (C : Addr) (pd : PD) (A : Am) (fa : FE) : FE := fun en Φ => fa en fun x e1 => ∃ ns l, x = .ins C ns l ∧ pd A.q [x] fun d => Φ d e1
structure PropD (P : Program) (w : World) (K : PySem.W.Frag) (mg : Str → Option Value) (base : Heap) (C : Addr) (f : Str) (k : Nat) (ps : List Str) (pd : PD) : Prop where
  ex : ∃ (p g : Addr) (fd : FuncData), FnOk P w K mg base CX0 k g fd ps (spD K pd) ∧ PropOf K C f p g ∧ Binds K fd ps []
theorem de_prop {f : Str} (O : PropD X.prog X.w X.K X.mg X.base C f k ps pd) (c : Cls X.K C) (hr : Room (k + 1) X.A) (he : DE X A e fa)
    (hab : attributeBase e f X.env (eval e X.env) = eval e X.env := by rfl) : DE X A (.Attribute e f pos) (fProp C pd A fa) := by
  obtain ⟨p, g, fd, h1, h2, h3⟩ := O.ex
  refine pe_weak (pe_prop he c h2 h1 hr h3 .nil pass0 hab) fun σ H Q h => ?_
  obtain ⟨F, G, en, Ψ, k, h, q⟩ := h
  refine ⟨F, G, en, _, k, h, fun x e1 v G1 H1 z k1 s1 r1 => ?_⟩
  obtain ⟨ns, l, rfl, z⟩ := z
  obtain ⟨a, dx, xs, rfl, ha, ra, hl⟩ := rep_ins.mp r1
  refine ⟨a, dx, _, rfl, k1.ok.gh _ _ ha, ?_⟩
  refine ⟨A.q, G1, _, _, k1.ok.call, .cons r1 .nil, z, fun d v G3 H3 hd k3 s3 r3 => ?_⟩
  obtain ⟨k4, s4⟩ := k1.called k3 s3
  exact q d e1 v G3 H3 hd k4 (s1.trans s4) r3
end

/-! ### operators of own classes -/
theorem relV_ni {z : V} (r : RelV z .notImplemented) : False := by
  cases z <;> first | (cases r; done) | (obtain ⟨t, e⟩ := r; cases e)
theorem cmpBack_EP {X : Cx} {pins : List (Addr × Obj)} {σ : L2.St} {Q : VK} {u : Value} {s : Shared} (h : EP X pins σ Q u s) : PySem.W.CmpBack (EP X pins σ Q) u s := by
  obtain ⟨z, H', I, r, q⟩ := h
  cases u <;> first | exact (relV_ni r).elim | exact ⟨z, H', I, r, q⟩
section
variable {X : Cx} {CX : CXT} {C f : Addr} {fd : FuncData} {k : Nat} {ps : List Str} {sp : Sp} {a b : Expr} {pos : Pos} {ta tb : TE}
/-- a op b by an own method, which may raise -/
def tBinO (C : Addr) (sp : Sp) (E : L2.St → XK) (ta tb : TE) : TE := fun σ H Q => ta σ H fun x H1 => tb σ H1 fun y H2 => ∃ p q dx dy fs gs, x = .ref p ∧ y = .ref q ∧ H2 p = some (.ins C dx fs) ∧ H2 q = some (.ins C dy gs) ∧ sp [x, y] H2 Q (E σ)
theorem pe_binO {op : Operator} {E : L2.St → XK} (F : FnOk X.prog X.w X.K X.mg X.base CX k f fd ps sp) (hr : Room k X.A) (hb : Binds X.K fd ps []) (hc : PySem.W.selfFirst X.K C = true) (hm : Meth X.K C (PySem.dunder op.info.2) f) (hx : ∀ σ, PassesAt CX X σ (E σ))
    (ha : PE X a ta) (hb2 : PE X b tb) : PE X (.BinOp a op b pos) (tBinO C sp E ta tb) := by
  refine ⟨fun pins s σ H Q I h => ?_⟩
  refine wpAny_BinOp (binT (R := fun x y H2 => ∃ p q dx dy fs gs, x = .ref p ∧ y = .ref q ∧ H2 p = some (.ins C dx fs) ∧ H2 q = some (.ins C dy gs) ∧ sp [x, y] H2 Q (E σ)) ha hb2 I h fun v u s2 x y H2 I2 rx ry q => ?_)
  obtain ⟨p, q', dx, dy, fs, gs, rfl, rfl, h1, h2, hs⟩ := q
  cases rx
  cases ry
  obtain ⟨mA, J, _⟩ := ins_get I2.hok h1
  obtain ⟨mB, J', _⟩ := ins_get I2.hok h2
  obtain ⟨od, J, _⟩ := J.look
  obtain ⟨od', J', _⟩ := J'.look
  obtain ⟨m, hF⟩ := I2.fr
  refine PySem.W.own_binII hF I2.ok.mod.kin J J' hc hm.at_ hm.fn ?_
  exact wpAny_mono (run_fnS (us := [.ref p, .ref q']) (vs := [.ref p, .ref q']) F hr hb (hx σ) I2 (.cons rfl (.cons rfl .nil)) hs) (fun _ _ z => cmpBack_EP z) fun _ _ z => z
/-- ~ a -/
def tUnO (C : Addr) (sp : Sp) (E : L2.St → XK) (ta : TE) : TE := fun σ H Q => ta σ H fun x H1 => ∃ p dx fs, x = .ref p ∧ H1 p = some (.ins C dx fs) ∧ sp [x] H1 Q (E σ)
theorem pe_invO {E : L2.St → XK} (F : FnOk X.prog X.w X.K X.mg X.base CX k f fd ps sp) (hr : Room k X.A) (hb : Binds X.K fd ps []) (hm : Meth X.K C "__invert__" f) (hx : ∀ σ, PassesAt CX X σ (E σ)) (ha : PE X a ta) : PE X (.UnaryOp .Invert a pos) (tUnO C sp E ta) := by
  refine ⟨fun pins s σ H Q I h => ?_⟩
  refine UnaryOp_ (thn (ha.run pins s σ H _ I h) fun v s1 ⟨x, H1, I1, r1, q1⟩ => ?_)
  obtain ⟨p, dx, fs, rfl, h1, hs⟩ := q1
  cases r1
  obtain ⟨mA, J, _⟩ := ins_get I1.hok h1
  obtain ⟨od, J, _⟩ := J.look
  obtain ⟨m, hF⟩ := I1.fr
  exact PySem.W.ksp_inv hF I1.ok.mod.kin J hm.at_ hm.fn (run_fnS (us := [.ref p]) (vs := [.ref p]) F hr hb (hx σ) I1 (.cons rfl .nil) hs)
end

/-- .. over data -/
def fBinN (C : Addr) (pd : PDX) (A : Am) (fa fb : FE) : FE := fun en Φ => fa en fun x e1 => fb e1 fun y e2 => (∃ ns l, x = .ins C ns l) ∧ (∃ ns l, y = .ins C ns l) ∧ pd A.q [x, y] (fun d => Φ d e2) fun _ _ => False
def fBinX (C : Addr) (pd : PDX) (A : Am) (Ξ : XW) (fa fb : FE) : FE := fun en Φ => fa en fun x e1 => fb e1 fun y e2 => (∃ ns l, x = .ins C ns l) ∧ (∃ ns l, y = .ins C ns l) ∧ pd A.q [x, y] (fun d => Φ d e2) fun c x => Ξ c x e2
def fUnN (C : Addr) (pd : PDX) (A : Am) (fa : FE) : FE := fun en Φ => fa en fun x e1 => (∃ ns l, x = .ins C ns l) ∧ pd A.q [x] (fun d => Φ d e1) fun _ _ => False
def fUnX (C : Addr) (pd : PDX) (A : Am) (Ξ : XW) (fa : FE) : FE := fun en Φ => fa en fun x e1 => (∃ ns l, x = .ins C ns l) ∧ pd A.q [x] (fun d => Φ d e1) fun c x => Ξ c x e1
theorem passNo {X : Cx} (σ : L2.St) : PassesAt (L2.CX X.prog X.w) X σ E0 := fun pins H s e s' I h => passL pins σ H s e s' I h
section
variable {X : Cx} {A : Am} {C : Addr} {k : Nat} {ps : List Str} {pd : PDX} {a b : Expr} {pos : Pos} {fa fb : FE} {Ξ : XW} {m : Str}
theorem le_binN {K : PySem.W.Frag} {σ : L2.St} {H : Hp} {Q : VK} (h : LE K A (fBinN C pd A fa fb) σ H Q) : tBinO C (spX K pd) (fun _ => E0) (LE K A fa) (LE K A fb) σ H Q := by
  obtain ⟨F, G, en, Ψ, k, h, q⟩ := h
  refine ⟨F, G, en, _, k, h, fun x e1 v1 G1 H1 hz k1 s1 r1 => ⟨F, G1, e1, _, k1, hz, fun y e2 v2 G2 H2 hz2 k2 s2 r2 => ?_⟩⟩
  obtain ⟨⟨ns, l, rfl⟩, ⟨ns', l', rfl⟩, hp⟩ := hz2
  have r1' := r1.mono s2.g
  obtain ⟨p, dx, xs, rfl, h1, _, _⟩ := rep_ins.mp r1'
  obtain ⟨p', dx', xs', rfl, h2, _, _⟩ := rep_ins.mp r2
  refine ⟨p, p', dx, dx', _, _, rfl, rfl, k2.ok.gh _ _ h1, k2.ok.gh _ _ h2, A.q, G2, _, _, _, k2.ok.call, .cons r1' (.cons r2 .nil), hp, fun d v G3 H3 hd k3 s3 r3 => ?_, fun c y d G3 H3 hx _ _ _ => hx.elim⟩
  obtain ⟨k4, s4⟩ := k2.called k3 s3
  exact q d e2 v G3 H3 hd k4 ((s1.trans s2).trans s4) r3
theorem le_binX {K : PySem.W.Frag} {σ : L2.St} {H : Hp} {Q : VK} (h : LE K A (fBinX C pd A Ξ fa fb) σ H Q) : tBinO C (spX K pd) (WE (WD K A Ξ)) (LE K A fa) (LE K A fb) σ H Q := by
  obtain ⟨F, G, en, Ψ, k, h, q⟩ := h
  refine ⟨F, G, en, _, k, h, fun x e1 v1 G1 H1 hz k1 s1 r1 => ⟨F, G1, e1, _, k1, hz, fun y e2 v2 G2 H2 hz2 k2 s2 r2 => ?_⟩⟩
  obtain ⟨⟨ns, l, rfl⟩, ⟨ns', l', rfl⟩, hp⟩ := hz2
  have r1' := r1.mono s2.g
  obtain ⟨p, dx, xs, rfl, h1, _, _⟩ := rep_ins.mp r1'
  obtain ⟨p', dx', xs', rfl, h2, _, _⟩ := rep_ins.mp r2
  refine ⟨p, p', dx, dx', _, _, rfl, rfl, k2.ok.gh _ _ h1, k2.ok.gh _ _ h2, A.q, G2, _, _, _, k2.ok.call, .cons r1' (.cons r2 .nil), hp, fun d v G3 H3 hd k3 s3 r3 => ?_, fun c y d G3 H3 hx k3 s3 r3 => ?_⟩
  · obtain ⟨k4, s4⟩ := k2.called k3 s3
    exact q d e2 v G3 H3 hd k4 ((s1.trans s2).trans s4) r3
  · obtain ⟨k4, s4⟩ := k2.called k3 s3
    exact ⟨F, G3, e2, y, k4, r3, hx⟩
theorem de_binN {op : Operator} (O : MthX X.prog X.w X.K X.mg X.base C (PySem.dunder op.info.2) k ps pd) (hc : PySem.W.selfFirst X.K C = true) (hr : Room k X.A) (ha : DE X A a fa) (hb : DE X A b fb) : DE X A (.BinOp a op b pos) (fBinN C pd A fa fb) := by
  obtain ⟨f, fd, h1, h2, h3⟩ := O.ex
  exact pe_weak (pe_binO h1 hr h3 hc h2 passNo ha hb) fun _ _ _ h => le_binN h
theorem de_binX {op : Operator} (O : MthX X.prog X.w X.K X.mg X.base C (PySem.dunder op.info.2) k ps pd) (tk : Takes X (WD X.K A Ξ)) (hc : PySem.W.selfFirst X.K C = true) (hr : Room k X.A) (ha : DE X A a fa) (hb : DE X A b fb) : DE X A (.BinOp a op b pos) (fBinX C pd A Ξ fa fb) := by
  obtain ⟨f, fd, h1, h2, h3⟩ := O.ex
  exact pe_weak (pe_binO h1 hr h3 hc h2 (fun σ => passAt tk σ) ha hb) fun _ _ _ h => le_binX h
theorem de_invN (O : MthX X.prog X.w X.K X.mg X.base C "__invert__" k ps pd) (hr : Room k X.A) (ha : DE X A a fa) : DE X A (.UnaryOp .Invert a pos) (fUnN C pd A fa) := by
  obtain ⟨f, fd, h1, h2, h3⟩ := O.ex
  refine pe_weak (pe_invO (E := fun _ => E0) h1 hr h3 h2 passNo ha) fun σ H Q ⟨F, G, en, Ψ, k, h, q⟩ => ⟨F, G, en, _, k, h, fun x e1 v1 G1 H1 hz k1 s1 r1 => ?_⟩
  obtain ⟨⟨ns, l, rfl⟩, hp⟩ := hz
  obtain ⟨p, dx, xs, rfl, h1, _, _⟩ := rep_ins.mp r1
  refine ⟨p, dx, _, rfl, k1.ok.gh _ _ h1, A.q, G1, _, _, _, k1.ok.call, .cons r1 .nil, hp, fun d v G3 H3 hd k3 s3 r3 => ?_, fun c y d G3 H3 hx _ _ _ => hx.elim⟩
  obtain ⟨k4, s4⟩ := k1.called k3 s3
  exact q d e1 v G3 H3 hd k4 (s1.trans s4) r3
theorem de_invX (O : MthX X.prog X.w X.K X.mg X.base C "__invert__" k ps pd) (tk : Takes X (WD X.K A Ξ)) (hr : Room k X.A) (ha : DE X A a fa) : DE X A (.UnaryOp .Invert a pos) (fUnX C pd A Ξ fa) := by
  obtain ⟨f, fd, h1, h2, h3⟩ := O.ex
  refine pe_weak (pe_invO h1 hr h3 h2 (fun σ => passAt tk σ) ha) fun σ H Q ⟨F, G, en, Ψ, k, h, q⟩ => ⟨F, G, en, _, k, h, fun x e1 v1 G1 H1 hz k1 s1 r1 => ?_⟩
  obtain ⟨⟨ns, l, rfl⟩, hp⟩ := hz
  obtain ⟨p, dx, xs, rfl, h1, _, _⟩ := rep_ins.mp r1
  refine ⟨p, dx, _, rfl, k1.ok.gh _ _ h1, A.q, G1, _, _, _, k1.ok.call, .cons r1 .nil, hp, fun d v G3 H3 hd k3 s3 r3 => ?_, fun c y d G3 H3 hx k3 s3 r3 => ?_⟩
  · obtain ⟨k4, s4⟩ := k1.called k3 s3
    exact q d e1 v G3 H3 hd k4 (s1.trans s4) r3
  · obtain ⟨k4, s4⟩ := k1.called k3 s3
    exact ⟨F, G3, e1, y, k4, r3, hx⟩
end

/-! ### own defs inside operations that change nothing -/
theorem StQ.bare {K : PySem.W.Frag} {G H : Hp} (s : Same G H) : StQ K [] (minus [] H) G H := ⟨s, minus_same, fun q hq => (List.not_mem_nil hq).elim, fun q hq => (List.not_mem_nil hq).elim⟩
theorem minus_nil {H : Hp} : minus [] H = H := by
  funext a
  unfold minus
  rfl
theorem grow_of {K : PySem.W.Frag} {G H G' H' : Hp} (k : StQ K [] (minus [] H) G' H') (s : Step (minus [] H) G G') : Grow G H G' H' := by
  rw [minus_nil] at k s
  exact ⟨s.n, s.g, k.fh, s.f⟩
section
variable {X : Cx} {CX : CXT} {C f : Addr} {fd : FuncData} {k : Nat} {ps : List Str} {sp : Sp}
/-- x in y, y of an own class whose __contains__ gives a bool -/
theorem op_inO (F : FnOk X.prog X.w X.K X.mg X.base CX k f fd ps sp) (hr : Room k X.A) (hb : Binds X.K fd ps []) (hm : Meth X.K C "__contains__" f) (hx : ∀ σ, PassesAt CX X σ E0) :
    OpR X (compareOp .In) (fun x y H Q => ∃ p dx fs, y = .ref p ∧ H p = some (.ins C dx fs) ∧ sp [y, x] H (fun z H' => ∃ b, z = .bl b ∧ Q (.bl b) H') E0) := by
  intro pins s σ H x y v u Q I rx ry h
  obtain ⟨p, dx, fs, rfl, h1, hs⟩ := h
  cases ry
  obtain ⟨mA, J, _⟩ := ins_get I.hok h1
  obtain ⟨od, J, _⟩ := J.look
  obtain ⟨m, hF⟩ := I.fr
  refine PySem.W.in_K hF I.ok.mod.kin J hm.at_ hm.fn (wpAny_mono (run_fnS (us := [.ref p, v]) (vs := [.ref p, x]) (E := fun _ => E0) F hr hb (hx σ) I (.cons rfl (.cons rx .nil)) hs) (fun w s' z => ?_) fun _ _ z => z)
  obtain ⟨z, H', I', r, b, rfl, q⟩ := z
  cases r
  exact wpAny_truthy_bool ⟨.bl b, H', I', rfl, q⟩
theorem op_notinO (F : FnOk X.prog X.w X.K X.mg X.base CX k f fd ps sp) (hr : Room k X.A) (hb : Binds X.K fd ps []) (hm : Meth X.K C "__contains__" f) (hx : ∀ σ, PassesAt CX X σ E0) :
    OpR X (compareOp .NotIn) (fun x y H Q => ∃ p dx fs, y = .ref p ∧ H p = some (.ins C dx fs) ∧ sp [y, x] H (fun z H' => ∃ b, z = .bl b ∧ Q (.bl (!b)) H') E0) := by
  intro pins s σ H x y v u Q I rx ry h
  obtain ⟨p, dx, fs, rfl, h1, hs⟩ := h
  cases ry
  obtain ⟨mA, J, _⟩ := ins_get I.hok h1
  obtain ⟨od, J, _⟩ := J.look
  obtain ⟨m, hF⟩ := I.fr
  refine PySem.W.notIn_K hF I.ok.mod.kin J hm.at_ hm.fn (wpAny_mono (run_fnS (us := [.ref p, v]) (vs := [.ref p, x]) (E := fun _ => E0) F hr hb (hx σ) I (.cons rfl (.cons rx .nil)) hs) (fun w s' z => ?_) fun _ _ z => z)
  obtain ⟨z, H', I', r, b, rfl, q⟩ := z
  cases r
  exact wpAny_truthy_bool ⟨.bl (!b), H', I', rfl, q⟩
/-- x == y, both of one own class -/
theorem op_eqO (F : FnOk X.prog X.w X.K X.mg X.base CX k f fd ps sp) (hr : Room k X.A) (hb : Binds X.K fd ps []) (hm : Meth X.K C "__eq__" f) (hx : ∀ σ, PassesAt CX X σ E0) :
    OpR X (compareOp .Eq) (fun x y H Q => ∃ p q dx dy fs gs, x = .ref p ∧ y = .ref q ∧ H p = some (.ins C dx fs) ∧ H q = some (.ins C dy gs) ∧ sp [x, y] H Q E0) := by
  intro pins s σ H x y v u Q I rx ry h
  obtain ⟨p, q', dx, dy, fs, gs, rfl, rfl, h1, h2, hs⟩ := h
  cases rx
  cases ry
  obtain ⟨mA, J, _⟩ := ins_get I.hok h1
  obtain ⟨mB, J', _⟩ := ins_get I.hok h2
  obtain ⟨od, J, _⟩ := J.look
  obtain ⟨od', J', _⟩ := J'.look
  obtain ⟨m, hF⟩ := I.fr
  show wpAny (model X.prog X.w) X.A (richCompare .Eq (.ref p) (.ref q')) (EP X pins σ Q) X.xe s
  refine PySem.W.cmp_K (op := .Eq) (tb := .ref C) hr.units0 hF I.ok.mod.kin J J'.type (by simp [PySem.W.notFirst]) hm.at_ hm.fn ?_
  exact wpAny_mono (run_fnS (us := [.ref p, .ref q']) (vs := [.ref p, .ref q']) (E := fun _ => E0) F hr hb (hx σ) I (.cons rfl (.cons rfl .nil)) hs) (fun _ _ z => cmpBack_EP z) fun _ _ z => z
end
section
variable {X : Cx} {C : Addr} {k : Nat} {ps : List Str} {pd : PD}
/-- the data's answers of these -/
def rInO (C : Addr) (pd : PD) : R2D := fun x y Φ => (∃ ns l, y = .ins C ns l) ∧ pd [] [y, x] fun d => ∃ b, d = .bl b ∧ Φ (.bl b)
def rNotInO (C : Addr) (pd : PD) : R2D := fun x y Φ => (∃ ns l, y = .ins C ns l) ∧ pd [] [y, x] fun d => ∃ b, d = .bl b ∧ Φ (.bl (!b))
def rEqO (C : Addr) (pd : PD) : R2D := fun x y Φ => (∃ ns l, x = .ins C ns l) ∧ (∃ ns l, y = .ins C ns l) ∧ pd [] [x, y] Φ
theorem opr_weak {f : Value → Value → Sem Value} {r r' : R2} (h : OpR X f r) (k : ∀ x y H Q, r' x y H Q → r x y H Q) : OpR X f r' := fun pins s σ H x y v u Q I rx ry q => h pins s σ H x y v u Q I rx ry (k x y H Q q)
theorem op_inD (O : MthD X.prog X.w X.K X.mg X.base C "__contains__" k ps pd) (hr : Room k X.A) : OpR X (compareOp .In) (LR2 X.K (rInO C pd)) := by
  obtain ⟨f, fd, h1, h2, h3⟩ := O.ex
  refine opr_weak (op_inO h1 hr h3 h2 fun σ _ _ _ _ _ _ h => h.elim) fun x y H Q ⟨G, dx, dy, Ψ, s, rx, ry, h, q⟩ => ?_
  obtain ⟨⟨ns, l, rfl⟩, h⟩ := h
  obtain ⟨p, dd, xs, rfl, hp, _, _⟩ := rep_ins.mp ry
  refine ⟨p, dd, _, rfl, s _ _ hp, [], G, [_, dx], _, StQ.bare s, .cons ry (.cons rx .nil), h, fun d v G' H' hd k' s' r' => ?_⟩
  obtain ⟨b, rfl, hd⟩ := hd
  exact ⟨b, rep_bl.mp r', q _ _ G' H' hd (grow_of k' s') k'.gh (rep_bl.mpr rfl)⟩
theorem op_notinD (O : MthD X.prog X.w X.K X.mg X.base C "__contains__" k ps pd) (hr : Room k X.A) : OpR X (compareOp .NotIn) (LR2 X.K (rNotInO C pd)) := by
  obtain ⟨f, fd, h1, h2, h3⟩ := O.ex
  refine opr_weak (op_notinO h1 hr h3 h2 fun σ _ _ _ _ _ _ h => h.elim) fun x y H Q ⟨G, dx, dy, Ψ, s, rx, ry, h, q⟩ => ?_
  obtain ⟨⟨ns, l, rfl⟩, h⟩ := h
  obtain ⟨p, dd, xs, rfl, hp, _, _⟩ := rep_ins.mp ry
  refine ⟨p, dd, _, rfl, s _ _ hp, [], G, [_, dx], _, StQ.bare s, .cons ry (.cons rx .nil), h, fun d v G' H' hd k' s' r' => ?_⟩
  obtain ⟨b, rfl, hd⟩ := hd
  exact ⟨b, rep_bl.mp r', q _ _ G' H' hd (grow_of k' s') k'.gh (rep_bl.mpr rfl)⟩
theorem op_eqOD (O : MthD X.prog X.w X.K X.mg X.base C "__eq__" k ps pd) (hr : Room k X.A) : OpR X (compareOp .Eq) (LR2 X.K (rEqO C pd)) := by
  obtain ⟨f, fd, h1, h2, h3⟩ := O.ex
  refine opr_weak (op_eqO h1 hr h3 h2 fun σ _ _ _ _ _ _ h => h.elim) fun x y H Q ⟨G, dx, dy, Ψ, s, rx, ry, h, q⟩ => ?_
  obtain ⟨⟨ns, l, rfl⟩, ⟨ns', l', rfl⟩, h⟩ := h
  obtain ⟨p, dd, xs, rfl, hp, _, _⟩ := rep_ins.mp rx
  obtain ⟨p', dd', xs', rfl, hp', _, _⟩ := rep_ins.mp ry
  exact ⟨p, p', dd, dd', _, _, rfl, rfl, s _ _ hp, s _ _ hp', [], G, [_, _], _, StQ.bare s, .cons rx (.cons ry .nil), h, fun d v G' H' hd k' s' r' => q _ _ G' H' hd (grow_of k' s') k'.gh r'⟩
end
end Dz

namespace Dz
open PySem PySem.Spec PyProof.Rows L2

/-! ### zip, enumerate, range of three -/
def zipD (a b : List D) : List D := (a.zip b).map fun q => .tup [q.1, q.2]
theorem zipD_len {a b : List D} : (zipD a b).length = min a.length b.length := by unfold zipD; rw [List.length_map, List.length_zip]
theorem zipD_get {a b : List D} {i : Nat} {d : D} (h : (zipD a b)[i]? = some d) : ∃ x y, a[i]? = some x ∧ b[i]? = some y ∧ d = .tup [x, y] := by
  unfold zipD at h
  rw [List.getElem?_map] at h
  cases q : (a.zip b)[i]? with
  | none => rw [q] at h; cases h
  | some z =>
    rw [q] at h
    cases h
    rw [List.getElem?_zip_eq_some] at q
    exact ⟨z.1, z.2, q.1, q.2, rfl⟩
def enuD (a : List D) : List D := a.mapIdx fun i d => .tup [.int (i : Int), d]
theorem enuD_len {a : List D} : (enuD a).length = a.length := by unfold enuD; rw [List.length_mapIdx]
theorem enuD_get {a : List D} {i : Nat} {d : D} (h : (enuD a)[i]? = some d) : ∃ x, a[i]? = some x ∧ d = .tup [.int (i : Int), x] := by
  unfold enuD at h
  rw [List.getElem?_mapIdx] at h
  cases q : a[i]? with
  | none => rw [q] at h; cases h
  | some z => rw [q] at h; cases h; exact ⟨z, rfl, rfl⟩
section
variable {K : PySem.W.Frag} {G : Hp} {a b : Addr} {xs ys : List V} {la lb : List D}
theorem pairT {G1 H1 : Hp} {T : Addr} {x y : V} {dx dy : D} (h : Same G1 H1) (hT : H1 T = none) (rx : Rep K G1 dx x) (ry : Rep K G1 dy y) :
    ∃ G2, Grow G1 H1 G2 (upd H1 T (.tup [x, y])) ∧ Same G2 (upd H1 T (.tup [x, y])) ∧ Rep K G2 (.tup [dx, dy]) (.ref T) := by
  have g : Grow G1 H1 (upd G1 T (.tup [x, y])) (upd H1 T (.tup [x, y])) := Grow.new h hT
  exact ⟨_, g, same_upd2 h, rep_tup.mpr ⟨T, _, rfl, .inl (.inl upd_same), .cons (rx.mono g.g) (.cons (ry.mono g.g) .nil)⟩⟩
theorem yl_zip (sa : SqL K G a xs) (sb : SqL K G b ys) (ra : RepA K G la xs) (rb : RepA K G lb ys) : Yl K (Itz K a b) G (zipD la lb) where
  go := fun G1 H1 k g h hk => by
    rw [zipD_len] at hk
    exact ⟨xs, ys, _, _, h.seq (g.seq sa), h.seq (g.seq sb), List.getElem?_eq_getElem (by rw [ra.len]; omega), List.getElem?_eq_getElem (by rw [rb.len]; omega)⟩
  yl := fun G1 H1 k x H2 d g h hd hy => by
    obtain ⟨T, v, w, rfl, hT, rfl, h1, h2⟩ := hy
    obtain ⟨dx, dy, e1, e2, rfl⟩ := zipD_get hd
    obtain ⟨v', f1, f2⟩ := ra.get e1
    obtain ⟨w', f3, f4⟩ := rb.get e2
    rw [h1 xs (h.seq (g.seq sa))] at f1
    rw [h2 ys (h.seq (g.seq sb))] at f3
    cases f1; cases f3
    exact pairT h hT (f2.mono g) (f4.mono g)
  sp := fun G1 H1 k g h hk => by
    rw [zipD_len] at hk
    exact ⟨xs, ys, h.seq (g.seq sa), h.seq (g.seq sb), by rw [ra.len, rb.len]; omega⟩
theorem yl_zipT (sa : SqT K G a xs) (sb : SqT K G b ys) (ra : RepA K G la xs) (rb : RepA K G lb ys) : Yl K (RZ.ItzT K a b) G (zipD la lb) where
  go := fun G1 H1 k g h hk => by
    rw [zipD_len] at hk
    exact ⟨xs, ys, _, _, sqt_mono h (sqt_mono g sa), sqt_mono h (sqt_mono g sb), List.getElem?_eq_getElem (by rw [ra.len]; omega), List.getElem?_eq_getElem (by rw [rb.len]; omega)⟩
  yl := fun G1 H1 k x H2 d g h hd hy => by
    obtain ⟨T, v, w, rfl, hT, rfl, h1, h2⟩ := hy
    obtain ⟨dx, dy, e1, e2, rfl⟩ := zipD_get hd
    obtain ⟨v', f1, f2⟩ := ra.get e1
    obtain ⟨w', f3, f4⟩ := rb.get e2
    rw [h1 xs (sqt_mono h (sqt_mono g sa))] at f1
    rw [h2 ys (sqt_mono h (sqt_mono g sb))] at f3
    cases f1; cases f3
    exact pairT h hT (f2.mono g) (f4.mono g)
  sp := fun G1 H1 k g h hk => by
    rw [zipD_len] at hk
    exact ⟨xs, ys, sqt_mono h (sqt_mono g sa), sqt_mono h (sqt_mono g sb), by rw [ra.len, rb.len]; omega⟩
theorem yl_enu (sa : SqL K G a xs) (ra : RepA K G la xs) : Yl K (Ite K a) G (enuD la) where
  go := fun G1 H1 k g h hk => by
    rw [enuD_len] at hk
    exact ⟨xs, _, h.seq (g.seq sa), List.getElem?_eq_getElem (by rw [ra.len]; omega)⟩
  yl := fun G1 H1 k x H2 d g h hd hy => by
    obtain ⟨T, v, rfl, hT, rfl, h1⟩ := hy
    obtain ⟨dx, e1, rfl⟩ := enuD_get hd
    obtain ⟨v', f1, f2⟩ := ra.get e1
    rw [h1 xs (h.seq (g.seq sa))] at f1
    cases f1
    exact pairT h hT (rep_int.mpr rfl) (f2.mono g)
  sp := fun G1 H1 k g h hk => by
    rw [enuD_len] at hk
    exact ⟨xs, h.seq (g.seq sa), by rw [ra.len]; omega⟩
end
/-- a list, as the machine has it -/
theorem seql_of {K : PySem.W.Frag} {G : Hp} {d : D} {v : V} {l : List D} (h : d = .lst l ∨ d = .fro l) (r : Rep K G d v) : ∃ a xs, v = .ref a ∧ SqL K G a xs ∧ RepA K G l xs := by
  rcases h with rfl | rfl
  · obtain ⟨p, xs, rfl, sq, ra⟩ := rep_lst.mp r
    exact ⟨p, xs, rfl, .inl (.inl sq), ra⟩
  · exact rep_fro.mp r
def fIZip (fr : FA) : FI := fun en Φ => fr en fun ds e => ∃ x y la lb, ds = [x, y] ∧ (((x = .lst la ∨ x = .fro la) ∧ (y = .lst lb ∨ y = .fro lb)) ∨ (x = .tup la ∧ y = .tup lb)) ∧ Φ (zipD la lb) e
def fIEnu (fr : FA) : FI := fun en Φ => fr en fun ds e => ∃ x la, ds = [x] ∧ (x = .lst la ∨ x = .fro la) ∧ Φ (enuD la) e
def rng3D (lo c : Int) (n : Nat) : List D := (List.range n).map fun i => D.int (lo + (i : Nat) * c)
theorem rng3D_len {lo c : Int} {n : Nat} : (rng3D lo c n).length = n := by unfold rng3D; rw [List.length_map, List.length_range]
theorem rng3D_get {lo c : Int} {n i : Nat} {d : D} (h : (rng3D lo c n)[i]? = some d) : i < n ∧ d = .int (lo + (i : Nat) * c) := by
  unfold rng3D at h
  rw [List.getElem?_map] at h
  cases q : (List.range n)[i]? with
  | none => rw [q] at h; cases h
  | some z =>
    rw [q] at h
    cases h
    have hi := (List.getElem?_eq_some_iff.mp q).1
    rw [List.length_range] at hi
    rw [List.getElem?_range hi] at q
    cases q
    exact ⟨hi, rfl⟩
theorem yl_rng3 {K : PySem.W.Frag} {G : Hp} {lo c : Int} {n : Nat} : Yl K (Itc lo c n) G (rng3D lo c n) where
  go := fun G1 H1 k g h hk => by rw [rng3D_len] at hk; exact hk
  yl := fun G1 H1 k x H2 d g h hd hy => by
    obtain ⟨rfl, rfl⟩ := hy
    obtain ⟨_, rfl⟩ := rng3D_get hd
    exact ⟨G1, Grow.refl _ _, h, rep_int.mpr rfl⟩
  sp := fun G1 H1 k g h hk => by rw [rng3D_len] at hk; exact hk
def fRng3 (fr : FA) : FI := fun en Φ => fr en fun ds e => ∃ (i j c : Int) (n : Nat), ds = [.int i, .int j, .int c] ∧ RgC i j c n ∧ Φ (rng3D i c n) e
section
variable {X : Cx} {A : Am} {tg e e2 a b c : Expr} {elts : List Expr} {kk : Nat} {p pos tpos : Pos} {fr : FA}
theorem di_zip (hg : Gl X "zip") (hm : X.mg "zip" = none) (ha : DA X A [e, e2] fr) (hs : starEach [e, e2] X.env = (false, eval e X.env) :: starEach [e2] X.env := by rfl) (hpl : (backTo pos (starEach [e2] X.env)).any (·.1) = false := by rfl) :
    DI X A (.Tuple elts kk tpos) (.Call (.Name "zip" p) [e, e2] [] pos) (fIZip fr) := pi_weak (RZ.pi_zipA hg hm ha hs hpl) fun σ H R ⟨F, G, en, Ψ, k, h, q⟩ =>
  ⟨F, G, en, _, k, h, fun ds e1 vs G1 H1 z k1 s1 r1 => by
    obtain ⟨x, y, la, lb, rfl, hz, z⟩ := z
    obtain ⟨v, w, rfl, rx, ry⟩ := repA_2 r1
    rcases hz with ⟨hx, hy⟩ | ⟨rfl, rfl⟩
    · obtain ⟨pa, xs, rfl, sa, ra⟩ := seql_of hx rx
      obtain ⟨pb, ys, rfl, sb, rb⟩ := seql_of hy ry
      exact ⟨pa, pb, xs, ys, rfl, .inl ⟨k1.ok.gh.seq sa, k1.ok.gh.seq sb, q _ e1 G1 H1 _ z k1 s1 (yl_zip sa sb ra rb)⟩⟩
    · obtain ⟨pa, xs, rfl, sa, ra⟩ := rep_tup.mp rx
      obtain ⟨pb, ys, rfl, sb, rb⟩ := rep_tup.mp ry
      exact ⟨pa, pb, xs, ys, rfl, .inr ⟨sqt_mono k1.ok.gh sa, sqt_mono k1.ok.gh sb, q _ e1 G1 H1 _ z k1 s1 (yl_zipT sa sb ra rb)⟩⟩⟩
theorem di_enu (hg : Gl X "enumerate") (hm : X.mg "enumerate" = none) (ha : DA X A [e] fr) (hs : starEach [e] X.env = [(false, eval e X.env)] := by rfl) :
    DI X A (.Tuple elts kk tpos) (.Call (.Name "enumerate" p) [e] [] pos) (fIEnu fr) := pi_weak (pi_enum hg hm ha hs) fun σ H R ⟨F, G, en, Ψ, k, h, q⟩ =>
  ⟨F, G, en, _, k, h, fun ds e1 vs G1 H1 z k1 s1 r1 => by
    obtain ⟨x, la, rfl, hx, z⟩ := z
    obtain ⟨v, rfl, rx⟩ := repA_1 r1
    obtain ⟨pa, xs, rfl, sa, ra⟩ := seql_of hx rx
    exact ⟨pa, xs, rfl, k1.ok.gh.seq sa, q _ e1 G1 H1 _ z k1 s1 (yl_enu sa ra)⟩⟩
theorem di_rng3 (hg : Gl X "range") (hm : X.mg "range" = none) (ha : DA X A [a, b, c] fr) (hs : starEach [a, b, c] X.env = (false, eval a X.env) :: starEach [b, c] X.env := by rfl) (hpl : (backTo pos (starEach [b, c] X.env)).any (·.1) = false := by rfl) :
    DI X A tg (.Call (.Name "range" p) [a, b, c] [] pos) (fRng3 fr) := pi_weak (pi_range3 hg hm ha hs hpl) fun σ H R ⟨F, G, en, Ψ, k, h, q⟩ =>
  ⟨F, G, en, _, k, h, fun ds e1 vs G1 H1 z k1 s1 r1 => by
    obtain ⟨i, j, c, n, rfl, hc, z⟩ := z
    unfold RepA at r1
    obtain ⟨x, t, rfl, p1, r1⟩ := r1
    obtain ⟨y, w, rfl, p2, p3⟩ := repA_2 r1
    cases rep_int.mp p1
    cases rep_int.mp p2
    cases rep_int.mp p3
    exact ⟨i, j, c, n, rfl, hc, q _ e1 G1 H1 _ z k1 s1 yl_rng3⟩⟩
end

/-! ### slices -/
def cutD (xs : List D) (lo hi : Option Int) : List D := (xs.drop (HT.sIx xs.length 0 lo)).take (HT.sIx xs.length xs.length hi - HT.sIx xs.length 0 lo)
theorem RepA.cut {K : PySem.W.Frag} {G : Hp} {l : List D} {xs : List V} (r : RepA K G l xs) (lo hi : Option Int) : RepA K G (cutD l lo hi) (cutV xs lo hi) := by
  unfold cutD cutV
  rw [r.len]
  exact (r.drop _).take _
abbrev FO := En → (Option Int → En → Prop) → Prop
def LO (K : PySem.W.Frag) (A : Am) (f : FO) : TO := fun σ H Q => ∃ (F G : Hp) (en : En) (Ψ : Option Int → En → Prop), EnvOk K A F G H σ en ∧ f en Ψ ∧
  ∀ d en' G' H', Ψ d en' → EnvOk K A F G' H' σ en' → Step F G G' → Q d H'
abbrev DO (X : Cx) (A : Am) (e : Option Expr) (f : FO) : Prop := PO X e (LO X.K A f)
def fNo : FO := fun en Φ => Φ none en
def fPt (fa : FE) : FO := fun en Φ => fa en fun x e => ∃ i, x = .int i ∧ Φ (some i) e
theorem po_weak {X : Cx} {e : Option Expr} {t t' : TO} (h : PO X e t) (k : ∀ σ H Q, t' σ H Q → t σ H Q) : PO X e t' := ⟨fun pins s σ H Q I q => h.run pins s σ H Q I (k σ H Q q)⟩
theorem do_no {X : Cx} {A : Am} : DO X A none fNo := po_weak po_none fun σ H Q ⟨F, G, en, Ψ, k, h, q⟩ => q _ en G H h k (Step.refl _ _)
theorem do_pt {X : Cx} {A : Am} {e : Expr} {fa : FE} (he : DE X A e fa) : DO X A (some e) (fPt fa) := po_weak (po_some he) fun σ H Q ⟨F, G, en, Ψ, k, h, q⟩ => ⟨F, G, en, _, k, h, fun x e1 v G1 H1 z k1 s1 r1 => by
  obtain ⟨i, rfl, z⟩ := z
  exact ⟨i, rep_int.mp r1, q _ e1 G1 H1 z k1 s1⟩⟩
def rSliceD (lo hi : Option Int) : R1D := fun x Φ => match x with
  | .lst l => Φ (.lst (cutD l lo hi))
  | .fro l => Φ (.lst (cutD l lo hi))
  | .tup l => Φ (.tup (cutD l lo hi))
  | _ => False
def fSlice (fa : FE) (fl fu : FO) : FE := fun en Φ => fa en fun x e1 => fl e1 fun l e2 => fu e2 fun u e3 => rSliceD l u x fun z => Φ z e3
theorem cutD_all {l : List D} {lo hi : Option Int} (h : HT.sIx l.length 0 lo = 0 ∧ HT.sIx l.length l.length hi = l.length) : cutD l lo hi = l := by
  unfold cutD
  rw [h.1, h.2, List.drop_zero, Nat.sub_zero, List.take_length]
theorem de_slice {X : Cx} {A : Am} {e : Expr} {lo hi : Option Expr} {p2 pos : Pos} {fa : FE} {fl fu : FO} (he : DE X A e fa) (hl : DO X A lo fl) (hu : DO X A hi fu) : DE X A (.Subscript e (.Slice lo hi none p2) pos) (fSlice fa fl fu) :=
  pe_weak (pe_slice (SlR.or sl_list sl_tupA) he hl hu) fun σ H Q ⟨F, G, en, Ψ, k, h, q⟩ => ⟨F, G, en, _, k, h, fun x e1 v G1 H1 z k1 s1 r1 => ⟨F, G1, e1, _, k1, z, fun l e2 G2 H2 z k2 s2 => ⟨F, G2, e2, _, k2, z, fun u e3 G3 H3 z k3 s3 => by
    have s13 := s2.trans s3
    have s03 := s1.trans s13
    have r3 := r1.mono s13.g
    cases x with
    | lst w =>
      obtain ⟨p, xs, rfl, sq, ra⟩ := rep_lst.mp r3
      refine .inl ⟨p, xs, rfl, .inl (.inl (k3.ok.gh _ _ sq)), fun p' hp => ?_⟩
      have g : Grow G3 H3 (upd G3 p' (.lst (cutV xs l u))) (upd H3 p' (.lst (cutV xs l u))) := Grow.new k3.ok.gh hp
      exact q _ e3 _ _ _ z (k3.grow g (same_upd2 k3.ok.gh)) (s03.trans (g.step k3.ok.fh)) (rep_lst.mpr ⟨p', _, rfl, upd_same, (ra.cut l u).mono g.g⟩)
    | fro w =>
      obtain ⟨p, xs, rfl, sq, ra⟩ := rep_fro.mp r3
      refine .inl ⟨p, xs, rfl, k3.ok.gh.seq sq, fun p' hp => ?_⟩
      have g : Grow G3 H3 (upd G3 p' (.lst (cutV xs l u))) (upd H3 p' (.lst (cutV xs l u))) := Grow.new k3.ok.gh hp
      exact q _ e3 _ _ _ z (k3.grow g (same_upd2 k3.ok.gh)) (s03.trans (g.step k3.ok.fh)) (rep_lst.mpr ⟨p', _, rfl, upd_same, (ra.cut l u).mono g.g⟩)
    | tup w =>
      obtain ⟨p, xs, rfl, sq, ra⟩ := rep_tup.mp r3
      refine .inr ⟨p, xs, rfl, sqt_mono k3.ok.gh sq, fun hw => ?_, fun hw p' hp => ?_⟩
      · rw [ra.len] at hw
        have z : Ψ (.tup (cutD w l u)) e3 := z
        rw [cutD_all hw] at z
        exact q _ e3 _ G3 H3 z k3 s03 (rep_tup.mpr ⟨p, xs, rfl, sq, ra⟩)
      · have g : Grow G3 H3 (upd G3 p' (.tup (cutV xs l u))) (upd H3 p' (.tup (cutV xs l u))) := Grow.new k3.ok.gh hp
        exact q _ e3 _ _ _ z (k3.grow g (same_upd2 k3.ok.gh)) (s03.trans (g.step k3.ok.fh)) (rep_tup.mpr ⟨p', _, rfl, .inl (.inl upd_same), (ra.cut l u).mono g.g⟩)
    | _ => exact False.elim z⟩⟩⟩
end Dz

namespace Dz
open PySem PySem.Spec PyProof.Rows L2

/-! ### xs[i] = v, xs a changing list of one's own -/
def fSetI (i : Nat) (fk fv : FE) : FS := fun en Ψ => fv en fun d e1 => ∃ o, gt e1 i = .cel o ∧ fk e1 fun kd e2 => ∃ k j l, kd = .int k ∧ gt e2 i = .cel (.lst l) ∧ ixN l.length k = some j ∧ Ψ.nx (st e2 i (.cel (.lst (l.set j d))))
section
variable {X : Cx} {A : Am} {e kx : Expr} {fk fv : FE} {pos pos' px : Pos}
theorem ds_setI {i : Nat} {x : Str} (hN : X.N[i]? = some x) (hv : Vis X.env.scope x) (hk : DE X A kx fk) (he : DE X A e fv)
    (hd : (x == ("__debug__" : Str)) = false := by decide) (hcd : (x == ("__classdict__" : Str)) = false := by decide)
    (ha : ∀ v, assign (.Subscript (.Name x px) kx pos') X.env v = (do
      let ov ← holding [v] (eval (.Name x px) X.env)
      let iv ← holding [v, ov] (eval kx X.env)
      standAt pos'
      holding [v, ov, iv] (setItem ov iv v)
      release [v, ov, iv] []) := by intro _; rfl)
    (hs : swapsWithSole [.Subscript (.Name x px) kx pos'] e pos.line X.env = pure false := by rfl) (hw : swappedStores [.Subscript (.Name x px) kx pos'] e X.env = pure none := by rfl) :
    DS X A (.Assign [.Subscript (.Name x px) kx pos'] e pos) (fSetI i fk fv) :=
  ps_weak (ps_asg he (pg_sub (pv i hN hv hd hcd) hk set_list ha) hs hw) fun Dd σ H ⟨F, G, en, Ψ, k, h, q1, _⟩ => ⟨F, G, en, _, k, h, fun dv e1 v G1 H1 z k1 s1 r1 => by
    obtain ⟨o, eg, z⟩ := z
    obtain ⟨p, u, f1, f2, f3⟩ := k1.slot eg
    refine ⟨.ref p, f1, F, G1, e1, _, k1, z, fun dk e2 kv G2 H2 z k2 s2 r2 => ?_⟩
    obtain ⟨ki, j, l, rfl, eg', hj, z⟩ := z
    obtain ⟨p', u', g1, g2, g3⟩ := k2.slot eg'
    rw [f1] at g1
    have ep : p = p' := by injection g1 with g1; injection g1 with g1; injection g1
    subst ep
    obtain ⟨xs, eu, ra⟩ := g3
    subst eu
    cases rep_int.mp r2
    refine ⟨p, xs, ki, j, rfl, rfl, g2, by rw [ra.len]; exact hj, ?_⟩
    exact q1 _ _ G2 _ z (k2.alter (u' := .lst (xs.set j v)) eg' f1 ⟨_, rfl, RepA.set (r1.mono s2.g) j ra⟩) (s1.trans s2)⟩
end

/-! ### min, max, lcm -/
def rMinD : RAD := fun xs Φ => ∃ (ns : List Int) (m : Int), xs = [.lst (ns.map D.int)] ∧ m ∈ ns ∧ (∀ y ∈ ns, m ≤ y) ∧ Φ (.int m)
def rMaxD : RAD := fun xs Φ => ∃ (ns : List Int) (m : Int), xs = [.lst (ns.map D.int)] ∧ m ∈ ns ∧ (∀ y ∈ ns, y ≤ m) ∧ Φ (.int m)
def rMax2D : RAD := fun xs Φ => ∃ i j : Int, xs = [.int i, .int j] ∧ Φ (.int (max i j))
def rMin2D : RAD := fun xs Φ => ∃ i j : Int, xs = [.int i, .int j] ∧ Φ (.int (min i j))
def rLcmD : RAD := fun xs Φ => ∃ i j : Nat, xs = [.int (i : Int), .int (j : Int)] ∧ i < 100000000 ∧ j < 100000000 ∧ Φ (.int ((Nat.lcm i j : Nat) : Int))
def rGcdD : RAD := fun xs Φ => ∃ i j : Int, xs = [.int i, .int j] ∧ Φ (.int ((Nat.gcd i.natAbs j.natAbs : Nat) : Int))
section
variable {X : Cx}
theorem callD_min (hc : X.calm = true) : CallR X (.builtin "min") (LRA X.K rMinD) := fun pins s σ H xs us Q I r ⟨G, ds, Ψ, gh, r1, h, q⟩ => by
  obtain ⟨ns, m, rfl, hm, hle, z⟩ := h
  obtain ⟨v, rfl, rv⟩ := repA_1 r1
  obtain ⟨a, ys, rfl, sq, ra⟩ := rep_lst.mp rv
  cases repA_ints_inv ra
  refine cr_min hc pins s σ H _ us Q I r ⟨a, ns, rfl, .inl (.inl (gh _ _ sq)), List.length_pos_of_mem hm, fun m' hm' hle' => ?_⟩
  have e : m' = m := Int.le_antisymm (hle' m hm) (hle m' hm')
  subst e
  exact q _ _ G H z (Grow.refl _ _) gh (rep_int.mpr rfl)
theorem callD_max (hc : X.calm = true) : CallR X (.builtin "max") (LRA X.K rMaxD) := fun pins s σ H xs us Q I r ⟨G, ds, Ψ, gh, r1, h, q⟩ => by
  obtain ⟨ns, m, rfl, hm, hle, z⟩ := h
  obtain ⟨v, rfl, rv⟩ := repA_1 r1
  obtain ⟨a, ys, rfl, sq, ra⟩ := rep_lst.mp rv
  cases repA_ints_inv ra
  refine cr_max hc pins s σ H _ us Q I r ⟨a, ns, rfl, .inl (.inl (gh _ _ sq)), List.length_pos_of_mem hm, fun m' hm' hle' => ?_⟩
  have e : m' = m := Int.le_antisymm (hle m' hm') (hle' m hm)
  subst e
  exact q _ _ G H z (Grow.refl _ _) gh (rep_int.mpr rfl)
theorem callD_max2 (hc : X.calm = true) : CallR X (.builtin "max") (LRA X.K rMax2D) := fun pins s σ H xs us Q I r ⟨G, ds, Ψ, gh, r1, h, q⟩ => by
  obtain ⟨i, j, rfl, z⟩ := h
  obtain ⟨v, w, rfl, rv, rw'⟩ := repA_2 r1
  cases rep_int.mp rv
  cases rep_int.mp rw'
  refine call_max2 hc pins s σ H _ us Q I r ⟨i, j, rfl, ?_⟩
  have e : (if j > i then j else i) = max i j := by
    by_cases h : j > i
    · rw [if_pos h]; omega
    · rw [if_neg h]; omega
  rw [e]
  exact q _ _ G H z (Grow.refl _ _) gh (rep_int.mpr rfl)
theorem callD_min2 (hc : X.calm = true) : CallR X (.builtin "min") (LRA X.K rMin2D) := fun pins s σ H xs us Q I r ⟨G, ds, Ψ, gh, r1, h, q⟩ => by
  obtain ⟨i, j, rfl, z⟩ := h
  obtain ⟨v, w, rfl, rv, rw'⟩ := repA_2 r1
  cases rep_int.mp rv
  cases rep_int.mp rw'
  refine call_min2 hc pins s σ H _ us Q I r ⟨i, j, rfl, ?_⟩
  have e : (if j < i then j else i) = min i j := by
    by_cases h : j < i
    · rw [if_pos h]; omega
    · rw [if_neg h]; omega
  rw [e]
  exact q _ _ G H z (Grow.refl _ _) gh (rep_int.mpr rfl)
theorem cr_lcm : CallR X (.builtin "math.lcm") (fun vs H Q => ∃ i j : Nat, vs = [.int (i : Int), .int (j : Int)] ∧ i < 100000000 ∧ j < 100000000 ∧ Q (.int ((Nat.lcm i j : Nat) : Int)) H) := by
  intro pins s σ H vs us Q I r h
  obtain ⟨a, b, rfl, ha, hb, q⟩ := h
  obtain ⟨t, u, rfl⟩ := Vals.int2 r
  have e : ((((Nat.lcm 1 (a : Int).natAbs).lcm (b : Int).natAbs : Nat) : Int)) = ((Nat.lcm a b : Nat) : Int) := by
    rw [Nat.lcm_one_left, Int.natAbs_natCast, Int.natAbs_natCast]
  have hm : Nat.lcm a b ≤ a * b := Nat.div_le_self _ _
  have hab : a * b ≤ 100000000 * 100000000 := Nat.mul_le_mul (by omega) (by omega)
  refine PySem.W.mg_lcm_v (by omega) (by omega) e ?_ ⟨.int _, H, I.tok _, ⟨_, rfl⟩, q⟩
  rw [Int.natAbs_natCast]
  have h64 : Nat.lcm a b < 2 ^ 64 := by omega
  have : (Nat.lcm a b).log2 < 64 := by
    by_cases h0 : Nat.lcm a b = 0
    · rw [h0]; decide
    · exact (Nat.log2_lt h0).mpr h64
  exact Nat.lt_of_lt_of_le this (by decide)
theorem callD_lcm : CallR X (.builtin "math.lcm") (LRA X.K rLcmD) := fun pins s σ H xs us Q I r ⟨G, ds, Ψ, gh, r1, h, q⟩ => by
  obtain ⟨i, j, rfl, hi, hj, z⟩ := h
  obtain ⟨v, w, rfl, rv, rw'⟩ := repA_2 r1
  cases rep_int.mp rv
  cases rep_int.mp rw'
  exact cr_lcm pins s σ H _ us Q I r ⟨i, j, rfl, hi, hj, q _ _ G H z (Grow.refl _ _) gh (rep_int.mpr rfl)⟩
theorem callD_gcd : CallR X (.builtin "math.gcd") (LRA X.K rGcdD) := fun pins s σ H xs us Q I r ⟨G, ds, Ψ, gh, r1, h, q⟩ => by
  obtain ⟨i, j, rfl, z⟩ := h
  obtain ⟨v, w, rfl, rv, rw'⟩ := repA_2 r1
  cases rep_int.mp rv
  cases rep_int.mp rw'
  exact cr_gcd pins s σ H _ us Q I r ⟨i, j, rfl, q _ _ G H z (Grow.refl _ _) gh (rep_int.mpr rfl)⟩
theorem de_callBf {A : Am} {x : Str} {p pos : Pos} {e : Expr} {es : List Expr} {id : String} {r : RAD} {fr : FA} (hc : CallR X (.builtin id) (LRA X.K r)) (hg : Gl X x) (hm : X.mg x = some (.builtin id)) (ha : DA X A (e :: es) fr) (hdb : (x == ("__debug__" : Str)) = false := by decide)
    (he : starEach (e :: es) X.env = (false, eval e X.env) :: starEach es X.env := by rfl) (hpl : (backTo pos (starEach es X.env)).any (·.1) = false := by rfl) : DE X A (.Call (.Name x p) (e :: es) [] pos) (fCB r fr) :=
  pe_weak (pe_callBfun hc hg hm ha hdb he hpl) fun _ _ _ h => le_cb h
end

/-! ### isinstance with an own class -/
/-- what the class's text must say -/
structure IsC (K : PySem.W.Frag) (C : Addr) : Prop where
  me : C8.InsC K C
  no : ∀ t ∈ ["NoneType", "bool", "int", "str", "tuple", "list", "dict"], PySem.W.kitOne K (.type t) (.ref C) = some false
def rIsOD (C : Addr) : RAD := fun xs Φ => ∃ x, xs = [x, .tok C] ∧ (((∃ ns l, x = .ins C ns l) ∧ Φ (.bl true)) ∨ ((∃ t, tyN x = some t) ∧ Φ (.bl false)))
theorem callD_isO {X : Cx} {C : Addr} (c : IsC X.K C) : CallR X (.builtin "isinstance") (LRA X.K (rIsOD C)) := fun pins s σ H xs us Q I r ⟨G, ds, Ψ, gh, r1, h, q⟩ => by
  obtain ⟨x, rfl, h⟩ := h
  obtain ⟨v, w, rfl, rv, rw'⟩ := repA_2 r1
  cases rep_tok.mp rw'
  rcases h with ⟨⟨ns, l, rfl⟩, z⟩ | ⟨⟨t, ht⟩, z⟩
  · obtain ⟨a, dx, ys, rfl, ha, _, _⟩ := rep_ins.mp rv
    exact C8.call_isC c.me pins s σ H _ us Q I r ⟨a, dx, _, rfl, gh _ _ ha, q _ _ G H z (Grow.refl _ _) gh (rep_bl.mpr rfl)⟩
  · exact call_isi pins s σ H _ us Q I r ⟨v, .ref C, .type t, .ref C, false, rfl, .own C, tyN_ty gh ht rv, c.no t (tyN_mem ht), q _ _ G H z (Grow.refl _ _) gh (rep_bl.mpr rfl)⟩
end Dz
namespace Dz
open PySem PySem.Spec PyProof.Rows L2
/-! ### [x] * n as a changing list of one's own -/
def nRep (fa fb : FE) : FN := fun en Φ => fa en fun x e1 => fb e1 fun y e2 => ∃ (l : List D) (k : Int), x = .lst l ∧ y = .int k ∧ -(2 ^ 63) ≤ k ∧ k < 2 ^ 63 ∧ l.length * k.toNat ≤ 1000000 ∧ Φ (.lst (List.replicate k.toNat l).flatten) e2
theorem RepA.flat {K : PySem.W.Frag} {G : Hp} {l : List D} {xs : List V} (r : RepA K G l xs) : ∀ n : Nat, RepA K G (List.replicate n l).flatten (List.replicate n xs).flatten
  | 0 => .nil
  | n + 1 => by
    rw [List.replicate_succ, List.replicate_succ, List.flatten_cons, List.flatten_cons]
    exact r.app (RepA.flat r n)
theorem dn_rep {X : Cx} {A : Am} {a b : Expr} {pos : Pos} {fa fb : FE} (ha : DE X A a fa) (hb : DE X A b fb) : DN X A (.BinOp a .Mult b pos) (nRep fa fb) := pe_weak (pe_op op_rep ha hb) fun σ H Q ⟨F, G, en, Ψ, k, h, q⟩ =>
  ⟨F, G, en, _, k, h, fun x e1 v1 G1 H1 z k1 s1 r1 => ⟨F, G1, e1, _, k1, z, fun y e2 v2 G2 H2 z k2 s2 r2 => by
    obtain ⟨l, n, rfl, rfl, h1, h2, h3, z⟩ := z
    obtain ⟨p, xs, rfl, sq, ra⟩ := rep_lst.mp (r1.mono s2.g)
    cases rep_int.mp r2
    exact ⟨p, n, xs, rfl, rfl, k2.ok.gh _ _ sq, h1, h2, by rw [ra.len]; exact Nat.le_trans h3 (by decide), fun p' hp => q _ e2 p' G2 _ z (k2.newcell hp ⟨_, rfl, ra.flat _⟩) (s1.trans s2)⟩⟩⟩
end Dz
namespace Dz
open PySem PySem.Spec PyProof.Rows L2
/-! ### a chain as a test -/
theorem le_chain {K : PySem.W.Frag} {A : Am} {r r' : R2D} {fa fb fc : FE} {σ : L2.St} {H : Hp} {Q : VK} (h : LE K A (fChain r r' fa fb fc) σ H Q) : tChain (LR2 K r) (LR2 K r') (LE K A fa) (LE K A fb) (LE K A fc) σ H Q := by
  obtain ⟨F, G, en, Ψ, k, h, q⟩ := h
  refine ⟨F, G, en, _, k, h, fun x e1 v1 G1 H1 hb k1 s1 r1 => ⟨F, G1, e1, _, k1, hb, fun y e2 v2 G2 H2 hr k2 s2 r2 =>
    ⟨G2, x, y, _, k2.ok.gh, r1.mono s2.g, r2, hr, fun z w G3 H3 hz g s r3 => ?_⟩⟩⟩
  obtain ⟨b, rfl, hz⟩ := hz
  refine ⟨b, rep_bl.mp r3, ?_⟩
  have k3 := k2.grow g s
  have s3 := (s1.trans s2).trans (g.step k2.ok.fh)
  cases b with
  | false => exact q _ e2 _ G3 H3 hz k3 s3 (rep_bl.mpr rfl)
  | true => exact ⟨F, G3, e2, _, k3, hz, fun w' e4 v4 G4 H4 hw k4 s4 r4 => ⟨G4, y, w', _, k4.ok.gh, (r2.mono g.g).mono s4.g, r4, hw, fun z5 w5 G5 H5 hz5 g5 s5 r5 => q z5 e4 w5 G5 H5 hz5 (k4.grow g5 s5) ((s3.trans s4).trans (g5.step k4.ok.fh)) r5⟩⟩
theorem dt_chain {X : Cx} {A : Am} {a b c : Expr} {pos : Pos} {op op' : CmpOp} {r r' : R2D} {fa fb fc : FE} (ho : OpR X (compareOp op) (LR2 X.K r)) (ho' : OpR X (compareOp op') (LR2 X.K r')) (ha : DE X A a fa) (hb : DE X A b fb) (hc : DE X A c fc)
    (hm : lastMarks [op, op'] [b, c] = false := by with_unfolding_all rfl) : DT X A (.Compare a [op, op'] [b, c] pos) (fTest (fChain r r' fa fb fc)) := pt_weak (pt_chain ho ho' ha hb hc hm) fun σ H Q h => le_chain (le_test h)
end Dz

namespace DzB
open PySem
section
variable {pr : Program} {wo : World} {Ar : Around} {Ex : Value → Shared → Prop} {st : Shared} {v : Value} {Want : Value → Shared → Prop}
/-- bool(v), by the truth of v as the built-in asks it -/
theorem call_bool_via (h : wpAny (model pr wo) Ar.in1.in1 (truthy v) (fun b s' => Want (.bool b) s') Ex st) : wpAny (model pr wo) Ar (call (.type "bool") [v]) Want Ex st := by
  have ft := F.called_bool
  obtain ⟨c0, r0, m0⟩ := F.called_bool.mro
  have n1 := ft.notType; have n2 := ft.canCreate; have n3 := ft.made; have n4 := ft.sub; have n5 := F.typeCall_bool_1 v
  refine wpAny_call (codeAny_of_tree (show wpAny _ _ (callAny (.type "bool") _) _ _ _ from wpAny_pure ⟨Code.quiet_builtin _ (by decide +kernel), codeAny_builtin F.entry_type_call ?_⟩))
  rw [Around.under_plain (weight_type_call_type _ [v] []) (units_type_call_type _ [v] [])]
  (repeat (any_goals (first | assumption | wp_step)))
  have body : wpAny (model pr wo) Ar.in1.in1 (Builtin.«bool.__new__» ⟨[.type "bool", v], []⟩) (fun fin s1 => match fin with | .done fl => wants (fun o s2 => ∃ b, o = .bool b ∧ Want o s2) Ex (.ok fl) s1 | .again c1 => c1.quiet = true ∧ codeAny (model pr wo) Ar.in1 c1 (wants (fun o s2 => ∃ b, o = .bool b ∧ Want o s2) Ex) s1) (fun e s1 => wants (fun o s1 => ∃ b, o = .bool b ∧ Want o s1) Ex (.error e) s1) st := by
    have f1 := F.conv_sub_bool
    unfold Builtin.«bool.__new__»
    repeat (any_goals (first | assumption | (with_reducible refine wpAny_bind (wpAny_mono h (fun b s' hb => ?_) fun _ _ e => e)) | wp_step))
    all_goals exact ⟨_, rfl, hb⟩
  refine codeAny_mono (codeAny_call_builtin ft.plain F.entry_bool_new (wpAny_of_eq (F.newCall_bool_1 v) body)) fun r s1 hr => ?_
  cases r with
  | error e => exact hr
  | ok fl =>
    cases fl with
    | ret o =>
      obtain ⟨b, rfl, hw⟩ := hr
      have k1 := ft.init.lookup; have k2 := ft.init.bind (.bool b)
      (repeat (any_goals (first | assumption | wp_step)))
      refine codeAny_mono (codeAny_call_builtin ft.init.plain F.entry_object_init (ft.init.check _ _ _ _ _ _ _ _ (show s1.TypeIs (.bool b) "bool" from rfl) (F.args_object_init_2 _ v)
        (object_init_meets (newId := "bool.__new__") ft.init.lookup ft.made F.newNe_bool pr wo Ar.in1 (wants (fun r s2 => r = .none ∧ Want (.bool b) s2) Ex) s1 ⟨rfl, rfl, hw⟩))) fun r2 s2 hr2 => ?_
      cases r2 with
      | error e => exact hr2
      | ok fl2 =>
        cases fl2 with
        | ret r =>
          obtain ⟨rfl, hq⟩ := hr2
          (repeat (any_goals (first | assumption | wp_step)))
        | next => exact hr2.elim
        | brk => exact hr2.elim
        | cont => exact hr2.elim
    | next => exact hr.elim
    | brk => exact hr.elim
    | cont => exact hr.elim
end
end DzB
namespace Dz
open PySem PySem.Spec PyProof.Rows L2
section
variable {X : Cx}
/-- a value's truth, wherever it is asked -/
theorem tru_any {Ar : Around} {pins : List (Addr × Obj)} {s : Shared} {σ : L2.St} {H : Hp} {p : Addr} {k : Bool} {Q : Bool → Shared → Prop} (I : Inv X pins σ H s) (e : (∃ xs, SqL X.K H p xs ∧ k = !xs.isEmpty) ∨ (∃ xs, SqT X.K H p xs ∧ k = !xs.isEmpty))
    (h : ∀ tk, Q k { s with toks := tk }) : wpAny (model X.prog X.w) Ar (truthy (.ref p)) Q X.xe s := by
  have l1 := line63
  have l2 : sizeLine = 16777216 := sizeLine_eq
  rcases e with ⟨xs, hx, ek⟩ | ⟨xs, hx, ek⟩
  · obtain ⟨its, r, pl, _⟩ := I.list hx
    have hlen := r.length
    refine wpAny_truthy_list pl.isList (by simp only [List.size_toArray]; omega) ?_
    have ee : (!its.toArray.isEmpty) = k := by rw [ek, ← isEmpty_of r]
    rw [ee]
    exact h _
  · obtain ⟨its, r, pl, _⟩ := I.tuple hx
    have hlen := r.length
    refine truthy_tuple pl (by simp only [List.size_toArray]; omega) ?_
    have ee : (!its.toArray.isEmpty) = k := by rw [ek, ← isEmpty_of r]
    rw [ee]
    exact h _
def rBoolD : RAD := fun xs Φ => ∃ x k, xs = [x] ∧ truD x = some k ∧ x ≠ .non ∧ Φ (.bl k)
theorem callD_bool : CallR X (.type "bool") (LRA X.K rBoolD) := fun pins s σ H xs us Q I r ⟨G, ds, Ψ, gh, r1, h, q⟩ => by
  obtain ⟨x, k, rfl, hk, hn, z⟩ := h
  obtain ⟨v, rfl, rv⟩ := repA_1 r1
  have q' := q _ _ G H z (Grow.refl _ _) gh (rep_bl.mpr rfl)
  have refs : ∀ p, v = .ref p → wpAny (model X.prog X.w) X.A (call (.type "bool") us) (EP X pins σ Q) X.xe s := fun p e => by
    subst e
    obtain rfl := Vals.ref1 r
    have t := truV_of gh hk rv
    refine DzB.call_bool_via (tru_any (k := k) I ?_ fun tk => ⟨.bl k, H, I.tok _, rfl, q'⟩)
    rcases t with t | t | ⟨kvs, hkv, _⟩
    · exact .inl t
    · exact .inr t
    · cases x with
      | tup l =>
        obtain ⟨p', xs, e, sq, ra⟩ := rep_tup.mp rv
        cases e
        exact .inr ⟨xs, sqt_mono gh sq, by cases hk; rw [empty_of ra]⟩
      | lst l =>
        obtain ⟨p', xs, e, sq, ra⟩ := rep_lst.mp rv
        cases e
        exact .inl ⟨xs, .inl (.inl (gh _ _ sq)), by cases hk; rw [empty_of ra]⟩
      | fro l =>
        obtain ⟨p', xs, e, sq, ra⟩ := rep_fro.mp rv
        cases e
        exact .inl ⟨xs, gh.seq sq, by cases hk; rw [empty_of ra]⟩
      | non => exact absurd rfl hn
      | bl b => cases rep_bl.mp rv
      | int b => cases rep_int.mp rv
      | _ => cases hk
  cases x with
  | non => exact absurd rfl hn
  | bl b =>
    cases rep_bl.mp rv
    cases hk
    exact call_bool1 pins s σ H _ us Q I r (.inr ⟨_, rfl, q'⟩)
  | int i =>
    cases rep_int.mp rv
    cases hk
    exact call_bool1 pins s σ H _ us Q I r (.inl ⟨_, rfl, q'⟩)
  | tup l =>
    obtain ⟨p, _, e, _⟩ := rep_tup.mp rv
    exact refs p e
  | lst l =>
    obtain ⟨p, _, e, _⟩ := rep_lst.mp rv
    exact refs p e
  | fro l =>
    obtain ⟨p, _, e, _⟩ := rep_fro.mp rv
    exact refs p e
  | _ => cases hk
/-- the truth of an object of an own class, wherever it is asked -/
theorem truO {C f : Addr} {fd : FuncData} {k : Nat} {ps : List Str} {sp : Sp} {Ar : Around} {pins : List (Addr × Obj)} {s : Shared} {σ : L2.St} {H : Hp} {p dx : Addr} {fs : List (Str × V)} {Q : Bool → Hp → Prop} (F : FnOk X.prog X.w X.K X.mg X.base CX0 k f fd ps sp)
    (hr : Room k Ar) (hfr : Ar.frames = X.A.frames) (hb : Binds X.K fd ps []) (hm : Meth X.K C "__bool__" f) (I : Inv X pins σ H s) (hp : H p = some (.ins C dx fs)) (h : sp [.ref p] H (fun z H' => ∃ b, z = .bl b ∧ Q b H') E0) :
    wpAny (model X.prog X.w) Ar (truthy (.ref p)) (TP X pins σ Q) X.xe s := by
  obtain ⟨mA, J, _⟩ := ins_get I.hok hp
  obtain ⟨od, J, _⟩ := J.look
  obtain ⟨m, hF⟩ := I.fr
  refine PySem.W.truthy_K hF I.ok.mod.kin J hm.at_ hm.fn ?_
  have e0 : Env0 X.prog X.w X.K X.mg X.base Ar X.stack s H := by
    have e := I.env0
    exact ⟨by rw [hfr]; exact e.frames, e.mod, e.bs, e.bsz, e.funs, e.frf, e.hok, e.bare⟩
  have b := hb s [.ref p] I.kIn (by rw [List.append_nil]; exact (F.len _ _ _ _ h))
  rw [List.append_nil] at b
  refine wpAny_call (codeAny_mono (F.run Ar X.stack s H ⟨[.ref p], []⟩ [.ref p] [.ref p] _ E0 hr e0 b (.cons rfl .nil) h) fun r s' hq => ?_)
  cases r with
  | error e => exact hq.elim
  | ok fl =>
    cases fl with
    | ret u =>
      obtain ⟨z, H', I', rz, bb, rfl, q⟩ := I.after hq
      cases rz
      exact ⟨H', I', q⟩
    | next => exact False.elim hq
    | brk => exact False.elim hq
    | cont => exact False.elim hq
end
/-- bool(x), x of an own class with __bool__ -/
def rBoolO (C : Addr) (pd : PD) : RAD := fun xs Φ => ∃ ns l, xs = [.ins C ns l] ∧ pd [] [.ins C ns l] fun d => ∃ b, d = .bl b ∧ Φ (.bl b)
theorem callD_boolO {X : Cx} {C : Addr} {k : Nat} {ps : List Str} {pd : PD} (O : MthD X.prog X.w X.K X.mg X.base C "__bool__" k ps pd) (hr : Room (k + 2) X.A) : CallR X (.type "bool") (LRA X.K (rBoolO C pd)) := fun pins s σ H xs us Q I r ⟨G, ds, Ψ, gh, r1, h, q⟩ => by
  obtain ⟨f, fd, h1, h2, h3⟩ := O.ex
  obtain ⟨ns, l, rfl, h⟩ := h
  obtain ⟨v, rfl, rv⟩ := repA_1 r1
  obtain ⟨p, dx, ys, rfl, hp, _, _⟩ := rep_ins.mp rv
  obtain rfl := Vals.ref1 r
  refine DzB.call_bool_via (wpAny_mono (truO (Q := fun b H' => Q (.bl b) H') h1 hr.in1.in1 rfl h3 h2 I (gh _ _ hp) ⟨[], G, [_], _, StQ.bare gh, .cons rv .nil, h, fun d v G' H' hd k' s' r' => ?_⟩) (fun b s' z => ?_) fun _ _ z => z)
  · obtain ⟨b, rfl, hd⟩ := hd
    exact ⟨b, rep_bl.mp r', q _ _ G' H' hd (grow_of k' s') k'.gh (rep_bl.mpr rfl)⟩
  · obtain ⟨H', I', z⟩ := z
    exact ⟨.bl b, H', I', rfl, z⟩
/-- .. as a test -/
def fTruO (C : Addr) (pd : PD) (fa : FE) : FT := fun en Φ => fa en fun x e => (∃ ns l, x = .ins C ns l) ∧ pd [] [x] fun d => ∃ b, d = .bl b ∧ Φ b e
theorem dt_truO {X : Cx} {A : Am} {C : Addr} {k : Nat} {ps : List Str} {pd : PD} {a : Expr} {fa : FE} (O : MthD X.prog X.w X.K X.mg X.base C "__bool__" k ps pd) (hr : Room k X.A) (ha : DE X A a fa)
    (he : ∀ whole, isTrue a X.env whole = (do let v ← whole; standAt a.pos; holding [v] (truthy v)) := by intro _; rfl) : DT X A a (fTruO C pd fa) := ⟨fun pins s σ H Q I h => by
  obtain ⟨f, fd, h1, h2, h3⟩ := O.ex
  obtain ⟨F, G, en, Ψ, k, h, q⟩ := h
  refine isTrue_plain (thn (ha.run pins s σ H (fun v H1 => ∃ p dx fs, v = .ref p ∧ H1 p = some (.ins C dx fs) ∧ spD X.K pd [.ref p] H1 (fun z H' => ∃ b, z = .bl b ∧ Q b H') E0) I ⟨F, G, en, _, k, h, fun x e1 v G1 H1 z k1 s1 r1 => ?_⟩) fun v s1 ⟨x, H1, I1, r1, p, dx, fs, ex, hp, hs⟩ => ?_) (he _)
  · obtain ⟨⟨ns, l, rfl⟩, z⟩ := z
    obtain ⟨p, dx, ys, rfl, hp, _, _⟩ := rep_ins.mp r1
    refine ⟨p, dx, _, rfl, k1.ok.gh _ _ hp, [], G1, [_], _, StQ.bare k1.ok.gh, .cons r1 .nil, z, fun d v G' H' hd k' s' r' => ?_⟩
    obtain ⟨b, rfl, hd⟩ := hd
    have g := grow_of k' s'
    exact ⟨b, rep_bl.mp r', q b e1 G' H' hd (k1.grow g k'.gh) (s1.trans (g.step k1.ok.fh))⟩
  · subst ex
    cases r1
    exact truO h1 hr rfl h3 h2 I1 hp hs⟩
end Dz

namespace Dz
open PySem PySem.Spec PyProof.Rows L2
/-! ### x in a list or tuple of whole numbers, or of truth values -/
def rInF : R2D := fun x y Φ => (∃ (i : Int) (ns : List Int), x = .int i ∧ (y = .tup (ns.map D.int) ∨ y = .lst (ns.map D.int)) ∧ Φ (.bl (decide (i ∈ ns)))) ∨ ∃ (b : Bool) (bs : List Bool), x = .bl b ∧ y = .lst (bs.map D.bl) ∧ Φ (.bl (decide (b ∈ bs)))
theorem inV_ints {i : Int} : ∀ ns : List Int, inV (.int i) (ns.map V.int) = decide (i ∈ ns)
  | [] => by unfold inV; simp
  | a :: r => by
    have ih := inV_ints (i := i) r
    unfold inV at ih ⊢
    rw [List.map_cons, List.any_cons, ih]
    by_cases h : i = a
    · subst h; simp [eqV]
    · have h2 : ¬ a = i := fun z => h z.symm
      simp [eqV, h, h2]
theorem inV_bls {i : Bool} : ∀ ns : List Bool, inV (.bl i) (ns.map V.bl) = decide (i ∈ ns)
  | [] => by unfold inV; simp
  | a :: r => by
    have ih := inV_bls (i := i) r
    unfold inV at ih ⊢
    rw [List.map_cons, List.any_cons, ih]
    cases i <;> cases a <;> simp [eqV]
theorem flat_ints (ns : List Int) : (ns.map V.int).all flatV = true := by
  rw [List.all_map, List.all_eq_true]
  intro x _
  rfl
theorem flat_bls (ns : List Bool) : (ns.map V.bl).all flatV = true := by
  rw [List.all_map, List.all_eq_true]
  intro x _
  rfl
theorem opd_in {X : Cx} : OpR X (compareOp .In) (LR2 X.K rInF) := opr_weak op_in_seq fun x y H Q ⟨G, dx, dy, Ψ, s, rx, ry, h, q⟩ => by
  rcases h with ⟨i, ns, rfl, hy, z⟩ | ⟨b, bs, rfl, rfl, z⟩
  · cases rep_int.mp rx
    have fin : (if false then !inV (.int i) (ns.map V.int) else inV (.int i) (ns.map V.int)) = decide (i ∈ ns) := inV_ints ns
    rcases hy with rfl | rfl
    · obtain ⟨p, xs, rfl, sq, ra⟩ := rep_tup.mp ry
      cases repA_ints_inv ra
      exact ⟨p, _, rfl, .inr (sqt_mono s sq), rfl, flat_ints ns, by rw [inV_ints]; exact q _ _ G H z (Grow.refl _ _) s (rep_bl.mpr rfl)⟩
    · obtain ⟨p, xs, rfl, sq, ra⟩ := rep_lst.mp ry
      cases repA_ints_inv ra
      exact ⟨p, _, rfl, .inl (.inl (.inl (s _ _ sq))), rfl, flat_ints ns, by rw [inV_ints]; exact q _ _ G H z (Grow.refl _ _) s (rep_bl.mpr rfl)⟩
  · cases rep_bl.mp rx
    obtain ⟨p, xs, rfl, sq, ra⟩ := rep_lst.mp ry
    cases repA_bls_inv ra
    exact ⟨p, _, rfl, .inl (.inl (.inl (s _ _ sq))), rfl, flat_bls bs, by rw [inV_bls]; exact q _ _ G H z (Grow.refl _ _) s (rep_bl.mpr rfl)⟩
end Dz

namespace Dz
open PySem PySem.Spec PyProof.Rows L2
/-! ### range objects as values -/
def iRngO (tl : TE) : TI := fun σ H R => tl σ H fun x H1 => ∃ (a : Addr) (lo hi : Int), x = .ref a ∧ H1 a = some (.rng lo hi) ∧ (-(2 ^ 62) ≤ lo ∧ lo < 2 ^ 62 ∧ -(2 ^ 62) ≤ hi ∧ hi < 2 ^ 62) ∧ R (Itr lo (hi - lo).toNat) H1
theorem pi_rngO {X : Cx} {tg l : Expr} {tl : TE} (hl : PE X l tl) : PI X tg l (iRngO tl) := by
  refine ⟨fun pins s σ H R I h => thn (hl.run pins s σ H _ I h) fun v s1 ⟨x, H1, I1, r1, q1⟩ => ?_⟩
  obtain ⟨a, lo, hi, e, ha, ⟨h1, h2, h3, h4⟩, q⟩ := q1
  subst e
  cases r1
  obtain ⟨t, u, w, hg⟩ := I1.hok a _ ha
  refine wpAny_pyIter_range (a := lo) (b := hi) (c := 1) (t := t) (u := u) (v := w) hg (small_one h1 h2 h3 h4) ?_
  refine ⟨s1.heap.objs.size, [s1.heap.objs.size], _, _, H1, rfl, I1.kept (t' := s1.toks) fun b o e => Heap.get?_push_of_some _ e, turn_range _ lo (hi - lo).toNat, ?_, fun b hb => ?_, q⟩
  · have e1 : lo + ((0 : Nat) : Int) * 1 = lo := by simp
    have e2 : (((hi - lo).toNat : Nat) : Int) - ((0 : Nat) : Int) = Builtin.Range.rangeSize lo hi 1 := by rw [rangeSize_one]; split <;> omega
    show IsRangeIter _ _ (lo + ((0 : Nat) : Int) * 1) ((((hi - lo).toNat : Nat) : Int) - ((0 : Nat) : Int)) 1
    rw [e1, e2]
    exact Heap.get?_push_size _ rfl
  · have e : b = s1.heap.objs.size := by simpa using hb
    subst e
    exact I1.fpOk (Nat.le_refl _) (I1.hok.fresh (Nat.le_refl _))
def fIRngO (fa : FE) : FI := fun en Φ => fa en fun d e => ∃ lo hi : Int, d = .rng lo hi ∧ (-(2 ^ 62) ≤ lo ∧ lo < 2 ^ 62 ∧ -(2 ^ 62) ≤ hi ∧ hi < 2 ^ 62) ∧ Φ (rngD lo (hi - lo).toNat) e
theorem di_rngO {X : Cx} {A : Am} {tg e : Expr} {fa : FE} (ha : DE X A e fa) : DI X A tg e (fIRngO fa) := pi_weak (pi_rngO ha) fun σ H R ⟨F, G, en, Ψ, k, h, q⟩ =>
  ⟨F, G, en, _, k, h, fun d e1 v G1 H1 z k1 s1 r1 => by
    obtain ⟨lo, hi, rfl, hb, z⟩ := z
    obtain ⟨p, rfl, hp⟩ := rep_rng.mp r1
    exact ⟨p, lo, hi, rfl, k1.ok.gh _ _ hp, hb, q _ e1 G1 H1 _ z k1 s1 yl_rng⟩⟩
theorem cr_range1 {X : Cx} : CallR X (.type "range") (fun vs H Q => ∃ j : Int, vs = [V.int j] ∧ ∀ p, H p = none → Q (.ref p) (upd H p (.rng 0 j))) := by
  intro pins s σ H vs us Q I r h
  obtain ⟨j, rfl, q⟩ := h
  cases r with
  | cons r rr =>
    cases rr
    obtain ⟨t, rfl⟩ := r
    refine call_range_1 ⟨.ref s.heap.objs.size, upd H s.heap.objs.size (.rng 0 j), I.laid (t' := s.toks + 1 + 1) (fun b o e => Heap.get?_push_of_some _ e) (Nat.le_refl _) ?_, rfl, q _ (I.hok.fresh (Nat.le_refl _))⟩
    exact ⟨s.toks, t, s.toks + 1, Heap.get?_push_size _ rfl⟩
def rRng1D : RAD := fun xs Φ => ∃ j : Int, xs = [.int j] ∧ Φ (.rng 0 j)
theorem callD_rng1 {X : Cx} : CallR X (.type "range") (LRA X.K rRng1D) := fun pins s σ H xs us Q I r ⟨G, ds, Ψ, gh, r1, h, q⟩ => by
  obtain ⟨j, rfl, z⟩ := h
  obtain ⟨v, rfl, rv⟩ := repA_1 r1
  cases rep_int.mp rv
  refine cr_range1 pins s σ H _ us Q I r ⟨j, rfl, fun p hp => ?_⟩
  have g : Grow G H (upd G p (.rng 0 j)) (upd H p (.rng 0 j)) := Grow.new gh hp
  exact q _ _ _ _ z g (same_upd2 gh) (rep_rng.mpr ⟨p, rfl, upd_same⟩)
end Dz
namespace Dz
open PySem PySem.Spec PyProof.Rows L2
/-! ### is None, is not None -/
def isNonD : D → Bool
  | .non => true
  | _ => false
def rIsN2 : R2D := fun x y Φ => y = .non ∧ Φ (.bl (isNonD x))
def rIsNotN2 : R2D := fun x y Φ => y = .non ∧ Φ (.bl (!isNonD x))
theorem isNonD_rep {K : PySem.W.Frag} {G : Hp} : ∀ {d : D} {v : V}, Rep K G d v → decide (v = .non) = isNonD d
  | .non, v, r => by rw [rep_non.mp r]; rfl
  | .bl _, v, r => by rw [rep_bl.mp r]; rfl
  | .int _, v, r => by rw [rep_int.mp r]; rfl
  | .str _, v, r => by rw [rep_str.mp r]; rfl
  | .tup _, v, r => by obtain ⟨a, xs, rfl, _⟩ := rep_tup.mp r; rfl
  | .lst _, v, r => by obtain ⟨a, xs, rfl, _⟩ := rep_lst.mp r; rfl
  | .fro _, v, r => by obtain ⟨a, xs, rfl, _⟩ := rep_fro.mp r; rfl
  | .dct _ _, v, r => by obtain ⟨a, xs, rfl, _⟩ := rep_dct.mp r; rfl
  | .ins _ _ _, v, r => by obtain ⟨a, dx, xs, rfl, _⟩ := rep_ins.mp r; rfl
  | .tok _, v, r => by rw [rep_tok.mp r]; rfl
  | .ty _, v, r => by rw [rep_ty.mp r]; rfl
  | .rng _ _, v, r => by obtain ⟨a, rfl, _⟩ := rep_rng.mp r; rfl
theorem opd_is {X : Cx} : OpR X (compareOp .Is) (LR2 X.K rIsN2) := opr_weak op_isN fun x y H Q ⟨G, dx, dy, Ψ, s, rx, ry, ⟨e, z⟩, q⟩ => by
  subst e
  refine ⟨rep_non.mp ry, ?_⟩
  rw [isNonD_rep rx]
  exact q _ _ G H z (Grow.refl _ _) s (rep_bl.mpr rfl)
theorem opd_isnot {X : Cx} : OpR X (compareOp .IsNot) (LR2 X.K rIsNotN2) := opr_weak op_notN fun x y H Q ⟨G, dx, dy, Ψ, s, rx, ry, ⟨e, z⟩, q⟩ => by
  subst e
  refine ⟨rep_non.mp ry, ?_⟩
  rw [isNonD_rep rx]
  exact q _ _ G H z (Grow.refl _ _) s (rep_bl.mpr rfl)
end Dz
namespace Dz
open PySem PySem.Spec PyProof.Rows L2
theorem unr_weak {X : Cx} {f : Value → Sem Value} {r r' : V → Hp → VK → Prop} (h : UnR X f r) (k : ∀ x H Q, r' x H Q → r x H Q) : UnR X f r' := fun pins s σ H x v Q I rx q => h pins s σ H x v Q I rx (k x H Q q)
theorem und_neg {X : Cx} : UnR X (unaryOp .USub) (LR1 X.K rNegD) := unr_weak un_neg fun x H Q ⟨G, dx, Ψ, s, rx, h, q⟩ => by
  unfold rNegD at h
  split at h
  · cases rep_int.mp rx
    exact ⟨_, rfl, q _ _ G H h (Grow.refl _ _) s (rep_int.mpr rfl)⟩
  · exact h.elim
end Dz

namespace Dz
open PySem PySem.Spec PyProof.Rows L2
/-! ### isinstance with the exception that a suite holds -/
def rIsED (K : PySem.W.Frag) (a : Addr) (cls : Value) (d : Option Addr) : RAD := fun xs Φ => ∃ D C b, cls = .ref D ∧ d = none ∧ ExcC K D ∧ xs = [.tok a, .tok C] ∧ PySem.W.kitOne K (.ref D) (.ref C) = some b ∧ Φ (.bl b)
theorem callD_isE {X : Cx} {a : Addr} {oe : Obj} {cls : Value} {d : Option Addr} {pn : List (Addr × Obj)} (hz : Zc cls d oe) (hf : ∃ vs, oe.data = .fields vs) : CallR (X.suite a ((a, oe) :: pn)) (.builtin "isinstance") (LRA X.K (rIsED X.K a cls d)) := fun pins s σ H xs us Q I r ⟨G, ds, Ψ, gh, r1, h, q⟩ => by
  obtain ⟨D, C, b, rfl, rfl, hc, rfl, hk, z⟩ := h
  obtain ⟨v, w, rfl, rv, rw'⟩ := repA_2 r1
  cases rep_tok.mp rv
  cases rep_tok.mp rw'
  exact call_isE hc hz hf pins s σ H _ us Q I r ⟨.ref C, .ref C, b, rfl, (fun u hu => by cases hu; rfl), hk, q _ _ G H z (Grow.refl _ _) gh (rep_bl.mpr rfl)⟩
theorem callD_isE' {X : Cx} {K : PySem.W.Frag} {a : Addr} {oe : Obj} {cls : Value} {d : Option Addr} {pn : List (Addr × Obj)} (hK : X.K = K) (hz : Zc cls d oe) (hf : ∃ vs, oe.data = .fields vs) : CallR (X.suite a ((a, oe) :: pn)) (.builtin "isinstance") (LRA (X.suite a ((a, oe) :: pn)).K (rIsED K a cls d)) := by
  subst hK
  exact callD_isE hz hf
section
variable {X : Cx} {A : Am} {Ξ : XW} {x n : Str} {c : Value} {i : Nat} {body suite : List Stmt} {b₀ : Stmt} {np pos pos' : Pos} {fb : Hp → Hp → XW → FS} {fh : Hp → Hp → Addr → Value → Option Addr → FS} {K : PySem.W.Frag}
theorem ds_try_only' (hK : X.K = K) (hs : X.stack = X.env :: X.outer) (hf : X.env.frame = some X.env.locals) (hc : Names X x c) (tk : Takes X (WD X.K A Ξ))
    (hb : ∀ (F G : Hp) (Ξ' : XW) (pn : List (Addr × Obj)) (xe : Value → Shared → Prop), Takes (X.tr pn xe) (WD X.K ⟨A.q, F, G⟩ Ξ') → PassesOwn (model X.prog X.w) X.A X.env xe → DSs (X.tr pn xe) ⟨A.q, F, G⟩ body (fb F G Ξ'))
    (hsu : ∀ (F G : Hp) (a : Addr) (oe : Obj) (cls : Value) (d : Option Addr) (pn : List (Addr × Obj)), Zc cls d oe → (∃ vs, oe.data = .fields vs) → DSs (X.suite a ((a, oe) :: pn)) ⟨A.q, F, G⟩ (b₀ :: suite) (fh F G a cls d)) :
    DS X A (.Try body [.ExceptHandler (some (.Name x np)) none (b₀ :: suite) pos'] [] [] pos) (fTryOnly K c fb fh Ξ) := by
  subst hK
  exact ds_try_only hs hf hc tk hb hsu
theorem ds_try_as' (hK : X.K = K) (hs : X.stack = X.env :: X.outer) (hf : X.env.frame = some X.env.locals) (hN : X.N.Nodup) (hi : X.N[i]? = some n) (hln : X.env.kindOf n = some .local) (hc : Names X x c) (tk : Takes X (WD X.K A Ξ))
    (hb : ∀ (F G : Hp) (Ξ' : XW) (pn : List (Addr × Obj)) (xe : Value → Shared → Prop), Takes (X.tr pn xe) (WD X.K ⟨A.q, F, G⟩ Ξ') → PassesOwn (model X.prog X.w) X.A X.env xe → DSs (X.tr pn xe) ⟨A.q, F, G⟩ body (fb F G Ξ'))
    (hsu : ∀ (F G : Hp) (a : Addr) (oe : Obj) (cls : Value) (d : Option Addr) (pn : List (Addr × Obj)), Zc cls d oe → (∃ vs, oe.data = .fields vs) → DSs (X.suite a ((a, oe) :: pn)) ⟨A.q, F, G⟩ (b₀ :: suite) (fh F G a cls d)) :
    DS X A (.Try body [.ExceptHandler (some (.Name x np)) (some n) (b₀ :: suite) pos'] [] [] pos) (fTryAs K c i fb fh Ξ) := by
  subst hK
  exact ds_try_as hs hf hN hi hln hc tk hb hsu
end
/-- nothing is let out -/
theorem takes_no {X : Cx} {A : Am} : Takes X (WD X.K A fun _ _ _ => False) := fun u s' ⟨a, B, sI, pins, σ, H, cls, d, e, I, nb, up, sky, na, os, ag, w⟩ => by
  obtain ⟨_, _, _, _, _, _, z⟩ := w
  exact z.elim
/-! ### a tuple no times -/
theorem tuple_mul0 (l : Addr) (items : Array Value) (n : Nat) (dd : Option Addr) (sl : Array (Option Value)) (u : Tok) (hne : items.isEmpty = false) :
    Meets (Builtin.«tuple.__mul__» ⟨[.ref l, .int 0 u], []⟩) (fun _ R s => s.heap.get? l = some { cls := .type "tuple", dict := dd, data := .seq items n, slots := sl } ∧
      R (.ok (.ret (Value.ref s.heap.objs.size))) { s with heap := s.heap.push { cls := Value.type "tuple", data := Data.seq #[] }, toks := s.toks }) :=
  .of_wp fun prog w A R s h => by
    obtain ⟨hp, g, d, tk, os⟩ := s
    obtain ⟨hl, h⟩ := h
    have f1 := AutoSeq1.idx_int
    have c0 : (decide ((0 : Int) < -(2 ^ 63)) || decide ((0 : Int) ≥ 2 ^ 63)) = false := by decide
    have c1 : (items.isEmpty || (0 : Int) == 1) = false := by rw [hne]; rfl
    have c2 : (decide ((0 : Int) ≤ 0) || items.isEmpty) = true := by rw [hne]; rfl
    wp_walk using wpAny_loadPart' hl
    repeat (first
      | (refine wpAny_ite_false (decide_eq_false (by rw [c0]; exact Bool.false_ne_true)) ?_; wp_walk using wpAny_loadPart' hl)
      | (refine wpAny_ite_false (decide_eq_false (by rw [c1]; exact Bool.false_ne_true)) ?_; wp_walk using wpAny_loadPart' hl)
      | (refine wpAny_ite_true (decide_eq_true c2) ?_; wp_walk using wpAny_loadPart' hl))
    exact ⟨_, rfl, h⟩
def rRep0T (K : PySem.W.Frag) : R2 := fun x y H Q => ∃ l xs, x = .ref l ∧ y = .int 0 ∧ SqT K H l xs ∧ xs ≠ [] ∧ ∀ p, H p = none → Q (.ref p) (upd H p (.tup []))
theorem op_rep0T {X : Cx} : OpR X (binaryOp .Mult) (rRep0T X.K) := by
  intro pins s σ H x y v u Q I rx ry h
  obtain ⟨l, xs, rfl, rfl, hT, hne, q⟩ := h
  cases rx
  obtain ⟨t, rfl⟩ := ry
  obtain ⟨its, r, ⟨⟨cls, dd, data, sl⟩, ho, hc, n, hd⟩, hs⟩ := I.tuple hT
  simp only at hc hd
  subst hc hd
  have hle : its.length = xs.length := r.length.symm
  have hi : its.toArray.isEmpty = false := by
    cases its with
    | nil => exact absurd (List.eq_nil_of_length_eq_zero hle.symm) hne
    | cons a b => rfl
  refine wpAny_binaryOp_repeat_ref (T := "tuple") (U := "int") (by decide) ⟨_, ho, rfl⟩ (fun s' => typeIs_int s' 0 t) noFill_tuple_mul PySem.F.fills_int_mul PySem.F.slot_int_rmul repeat_tuple PySem.F.slot_int_index.lookup
    (call_meets PySem.F.slot_int_rmul (typeIs_int s 0 t) PySem.F.entry_int_rmul (PySem.F.args_int_rmul_2 _ _) (int_rmul_tuple 0 t l its.toArray n dd sl)
      ⟨ho, rfl, ⟨_, ho, rfl⟩, call_meets PySem.F.slot_tuple_mul ⟨_, ho, rfl⟩ PySem.F.entry_tuple_mul (PySem.F.args_tuple_mul_2 _ _) (tuple_mul0 l its.toArray n dd sl t hi) ⟨ho, ?_⟩⟩)
  refine ⟨.ref s.heap.objs.size, _, I.laid (t' := s.toks) (o := .tup []) (fun b ob q => Heap.get?_push_of_some _ q) (Nat.le_refl _) ?_, rfl, q _ (I.hok.fresh (Nat.le_refl _))⟩
  exact ⟨by decide, [], .nil, IsTup.new _ _⟩
def rMulT : R2D := fun x y Φ => (∃ a, x = .tup a ∧ y = .int 0 ∧ a ≠ [] ∧ Φ (.tup [])) ∨ rMulD x y Φ
theorem opd_mulT {X : Cx} : OpR X (binaryOp .Mult) (LR2 X.K rMulT) := by
  intro pins s σ H x y v u Q I rx ry ⟨G, dx, dy, Ψ, gh, r1, r2, h, q⟩
  rcases h with ⟨a, rfl, rfl, hne, h⟩ | h
  · obtain ⟨p1, xs, rfl, s1, a1⟩ := rep_tup.mp r1
    cases rep_int.mp r2
    have hxs : xs ≠ [] := fun e => by
      subst e
      exact hne (List.eq_nil_of_length_eq_zero (by have := a1.len; simpa using this.symm))
    refine op_rep0T pins s σ H _ _ v u Q I rx ry ⟨p1, xs, rfl, rfl, sqt_mono gh s1, hxs, fun p hp => ?_⟩
    have g : Grow G H (upd G p (.tup [])) (upd H p (.tup [])) := Grow.new gh hp
    exact q _ _ _ _ h g (same_upd2 gh) (rep_tup.mpr ⟨p, _, rfl, .inl (.inl upd_same), .nil⟩)
  · exact opd_mul pins s σ H x y v u Q I rx ry ⟨G, dx, dy, Ψ, gh, r1, r2, h, q⟩
end Dz

namespace Dz
open PySem PySem.Spec PyProof.Rows L2 LamX
/-! ### a lambda handed to a def that tells whether it is refused -/
def tabOk (q : Str) : HD → Prop := fun o => o = .tab q
def noCel : En → Bool
  | [] => true
  | .cel _ :: _ => false
  | _ :: r => noCel r
theorem noCel_gt : ∀ {en : En} {i : Nat} {o : HD}, noCel en = true → gt en i ≠ .cel o
  | [], _, _, _ => fun z => by unfold gt at z; cases z
  | .cel _ :: _, _, _, h => by cases h
  | .un :: _, 0, _, _ => fun z => by cases z
  | .dat _ :: _, 0, _, _ => fun z => by cases z
  | .un :: r, i + 1, _, h => noCel_gt (en := r) (i := i) h
  | .dat _ :: r, i + 1, _, h => noCel_gt (en := r) (i := i) h
section
variable {K : PySem.W.Frag} {A : Am} {F G H H1 : Hp} {σ : L2.St} {en : En} {P p : Addr} {q : Str} {ns : List Int}
open Classical in
/-- behind the making of a lambda: its code object stands still -/
theorem EnvOk.lam (k : EnvOk K A F G H σ en) (hA : A.q = [(p, drawOk ns), (P, tabOk q)]) (hF : NE A.F0) (hG : NT A.G0) (hc : noCel en = true) (eN : ExtN H H1) (T1 : TabS H1 P q) : ∃ G1, EnvOk K A F G1 H1 σ en ∧ Step F G G1 := by
  obtain ⟨ps, t1, t2, t3⟩ := T1
  have nF : NE F := k.ok.bz.n hF
  have nG : NT G := k.ok.bg.n hG
  have up : Same G H1 := fun b u e => eN b u (k.ok.gh _ _ e) fun ps z => nG b ps (by rw [← z]; exact e)
  have upF : Same F H1 := fun b u e => eN b u (k.ok.fh _ _ e) (nF b u e).1
  obtain ⟨G1, hG1⟩ : ∃ G1 : Hp, G1 = fun b => if H1 b = some (CodeO b q) then some (CodeO b q) else G b := ⟨_, rfl⟩
  have pos : ∀ b, H1 b = some (CodeO b q) → G1 b = some (CodeO b q) := fun b e => by rw [hG1]; exact if_pos e
  have neg : ∀ b, H1 b ≠ some (CodeO b q) → G1 b = G b := fun b e => by rw [hG1]; exact if_neg e
  have sG : Same G G1 := fun b u e => by
    by_cases h : H1 b = some (CodeO b q)
    · rw [pos b h, ← h]; exact up b u e
    · rw [neg b h]; exact e
  have gH : Same G1 H1 := fun b u e => by
    by_cases h : H1 b = some (CodeO b q)
    · rw [pos b h] at e; rw [h]; exact e
    · rw [neg b h] at e; exact up b u e
  have st1 : Step F G G1 := ⟨fun _ b ps e => by
      by_cases h : H1 b = some (CodeO b q)
      · rw [pos b h] at e
        exact codeO_ne (c := b) (q := q) ps (Option.some.inj e)
      · rw [neg b h] at e
        exact nG b ps e, sG, fun b u e => neg b fun z => by
      have := upF b u e
      rw [this] at z
      exact (nF b u e).2 _ (Option.some.inj z)⟩
  obtain ⟨c, x⟩ := k.ex
  have tP : G1 P = none := by
    rw [neg P fun z => by
      rw [t1] at z
      exact codeO_ne (c := P) (q := q) ps (Option.some.inj z).symm]
    exact (k.ok.am (P, tabOk q) (by rw [hA]; simp)).1
  have tp : G1 p = none ∧ ∃ o u, H1 p = some u ∧ RepO K G1 o u ∧ drawOk ns o := by
    obtain ⟨a1, o, u, a2, a3, n, a4⟩ := k.ok.am (p, drawOk ns) (by rw [hA]; simp)
    subst a4
    obtain ⟨xs, rfl, ra⟩ := a3
    have hp : H1 p = some (.lst xs) := eN p _ a2 fun ps z => by cases z
    refine ⟨?_, .lst [.fro (ns.map D.int), .int n], _, hp, ⟨xs, rfl, ra.mono sG⟩, n, rfl⟩
    rw [neg p fun z => by
      rw [hp] at z
      unfold CodeO at z
      cases z]
    exact a1
  refine ⟨G1, ⟨⟨⟨gH, upF, k.ok.fa, fun z hz => ?_⟩, k.ok.bz, k.ok.bg.trans (st1.less k.ok.bs)⟩, k.len, c, fun i d e => ?_, fun i o e => absurd e (noCel_gt hc), fun i j o u e => absurd e (noCel_gt hc), fun i o e => absurd e (noCel_gt hc)⟩, st1⟩
  · rw [hA] at hz
    rcases List.mem_cons.mp hz with rfl | hz
    · exact tp
    · rw [List.mem_singleton.mp hz]
      refine ⟨tP, .tab q, _, t1, ⟨ps, rfl, t2, fun pos' cv h => ?_⟩, rfl⟩
      obtain ⟨c', e1, e2⟩ := t3 pos' cv h
      exact ⟨c', e1, pos c' e2⟩
  · obtain ⟨v, e1, e2⟩ := x.dat i d e
    exact ⟨v, e1, e2.mono sG⟩
/-- the law's names behind the lambda's work -/
theorem EnvOk.slots (k : EnvOk K A F G H σ en) (hc : noCel en = true) {A' : Am} {G' H' : Hp} {σ' : L2.St} {e' : En} (hq : A'.q = A.q) (k' : StOk K A' F G' H') (s : Step F G G') : EnvOk K A F G' H' σ en := by
  obtain ⟨c, x⟩ := k.ex
  have st' := k'.st
  rw [hq] at st'
  refine ⟨⟨st', k.ok.bz, k.ok.bg.trans (s.less k.ok.bs)⟩, k.len, c, fun i d e => ?_, fun i o e => absurd e (noCel_gt hc), fun i j o u e => absurd e (noCel_gt hc), fun i o e => absurd e (noCel_gt hc)⟩
  obtain ⟨v, e1, e2⟩ := x.dat i d e
  exact ⟨v, e1, e2.mono s.g⟩
end
def TRef (K : PySem.W.Frag) (CS : Addr) : (XK → Hp → VK → Prop) → Hp → VK → Prop := fun tl H Q =>
  tl (fun cls _ H' => ∃ b, PySem.W.exmOne K cls (.ref CS) = some b ∧ (b = true → Q (.bl true) H') ∧ (b = false → False)) H fun _ H' => Q (.bl false) H'
theorem ref_gives {X : Cx} {Ng : List Str} {x a e q : Str} {sg : Scope} {g CS : Addr} {cdg : Value} {j1 j2 : Nat} {b1 b2 b3 b4 b5 b6 b7 b8 b9 b10 : Pos} (hge : sg.names.lookup e = some .globalImplicit) (hme : X.mg e = some (.ref CS)) (hde : (e == ("__debug__" : Str)) = false) (h0 : ∀ f : Addr, (L2.start Ng [V.ref f])[0]? = some (some (V.ref f))) :
    GivesTo X Ng x sg g cdg [.Try [.Expr (.Call (.Name a b1) [] [] b2) b3] [.ExceptHandler (some (.Name e b4)) none [.Return (some (.Constant (.bool true) j1 b5)) b6] b7] [] [] b8, .Return (some (.Constant (.bool false) j2 b9)) b10] a q (TRef X.K CS) := by
  intro fa ca s0 H0 Q0 tl act hco ht
  have gl : Gl (cxOf C8.CX0 X.prog X.w X.K X.mg X.base Ng x sg g cdg X.A X.stack s0 H0 C8.E0).nox e := hge
  refine ⟨_, pss_cons (ps_try_only (X := (cxOf C8.CX0 X.prog X.w X.K X.mg X.base Ng x sg g cdg X.A X.stack s0 H0 C8.E0).nox) (c := .ref CS)
    (tb := fun W Dd σ H => ∃ E1 : XK, (∀ cls d σ' H', E1 cls d H' → W cls d σ' H') ∧ σ[0]? = some (some (.ref fa)) ∧ H ca = some (CodeO ca q) ∧ tl E1 H fun _ H' => Dd.nx σ H')
    rfl rfl ⟨gl, hde, .inl hme⟩ LamX.takes0
    (fun W pn xe tk _ => ⟨fun pins s1 σ H1 Dd I ⟨E1, w1, w2, w3, w4⟩ => (pss_one (ps_expr (act W pn xe E1 b1 b2 tk w1))).run pins s1 σ H1 Dd I ⟨w2, w3, w4⟩⟩)
    (fun _ _ _ _ _ _ _ => pss_one (ps_ret pe_bl))) (pss_one (ps_ret pe_bl)), ?_⟩
  exact ⟨fun cls _ H' => ∃ b, PySem.W.exmOne X.K cls (.ref CS) = some b ∧ (b = true → Q0 (.bl true) H') ∧ (b = false → False), fun cls d σ' H' ⟨b, z1, z2, z3⟩ => ⟨b, z1, fun hb _ _ => z2 hb, fun hb => z3 hb⟩, h0 fa, hco, ht⟩
/-- the reading of x(lambda: body): True if the body lets out what CS catches, else False -/
def fLamRef (A : Am) (K : PySem.W.Frag) (CS P : Addr) (q : Str) (fb : Am → XW → FE) : FE := fun en Φ => (∃ p ns, A.q = [(p, drawOk ns), (P, tabOk q)]) ∧ NE A.F0 ∧ NT A.G0 ∧ noCel en = true ∧
  ∀ F G, fb ⟨A.q, F, G⟩ (fun cls _ _ => ∃ b, PySem.W.exmOne K cls (.ref CS) = some b ∧ (b = true → Φ (.bl true) en) ∧ (b = false → False)) en fun _ _ => Φ (.bl false) en
theorem de_lamref {X : Cx} {A : Am} {K : PySem.W.Frag} {q x a e : Str} {s0 : Stmt} {g c P CS : Addr} {fd : FuncData} {k : Nat} {Ng : List Str} {params : Arguments} {body : Expr} {scope : Scope} {fb : Am → XW → FE} {p lpos pos : Pos} {j1 j2 : Nat} {b1 b2 b3 b4 b5 b6 b7 b8 b9 b10 : Pos}
    (hK : X.K = K) (hq : X.env.qual ++ "<lambda>" = q) (hg : Gl X x) (hm : X.mg x = some (.ref g)) (Fk : Fun X.K x x s0 g fd) (bn : L2.Binds X.K fd [a] []) (Sg : FnScope Ng [a] (defScope s0)) (hNg : Ng[0]? = some a) (hva : Vis (defScope s0) a)
    (hb0 : defBody s0 = [.Try [.Expr (.Call (.Name a b1) [] [] b2) b3] [.ExceptHandler (some (.Name e b4)) none [.Return (some (.Constant (.bool true) j1 b5)) b6] b7] [] [] b8, .Return (some (.Constant (.bool false) j2 b9)) b10])
    (hge : (defScope s0).names.lookup e = some .globalImplicit) (hme : X.mg e = some (.ref CS)) (hde : (e == ("__debug__" : Str)) = false) (h0 : ∀ f : Addr, (L2.start Ng [V.ref f])[0]? = some (some (V.ref f)))
    (TB : TabB X.base X.mg c P) (hcode : X.env.code = .ref c) (hr : Room (k + 2) X.A) (L : LamS X.env.scope scope) (hdef : defaultsOf params X.env = ([], []))
    (hbind : ∀ (q : Str) (cl : List (Str × Addr)) (pm cv ctv : Value), bindArgs (PySem.W.kla_fn "<lambda>" q params body scope cl pm cv ctv) ⟨[], []⟩ = pure [])
    (hbody : ∀ (A' : Am) (Ξ : XW) (Ar : Around) (outer : List PySem.Env) (s : Shared) (H : Hp) (E : XK) (f c' : Addr), Room k (Ar.deeper (lamEnv X scope s.heap.objs.size f c')) → Passes (L2.CX X.prog X.w) (lamCx X Ar outer s H E scope f c') E → (∀ cls d σ' H', WD X.K A' Ξ cls d σ' H' → E cls d H') → Takes (lamCx X Ar outer s H E scope f c') (WD X.K A' Ξ) → DE (lamCx X Ar outer s H E scope f c') A' body (fb A' Ξ))
    (hdb : (x == ("__debug__" : Str)) = false := by decide) (hd : (a == ("__debug__" : Str)) = false := by decide) (hcd : (a == ("__classdict__" : Str)) = false := by decide) :
    DE X A (.Call (.Name x p) [.Lambda params body scope lpos] [] pos) (fLamRef A K CS P q fb) := by
  subst hK hq
  obtain ⟨oc, od, kV, doc, pm, an, cdv, ct, osl, rfl, lk, hcv⟩ := Fk.ex
  refine pe_weak (pe_lamcall (T := [(P, X.env.qual ++ "<lambda>")]) (TT := TRef X.K CS) (t := fun E σ H Q => ∃ A' Ξ, (∀ cls d σ' H', WD X.K A' Ξ cls d σ' H' → E cls d H') ∧ LE X.K A' (fb A' Ξ) σ H Q)
    hg hm Fk.kp lk hcv bn Sg hNg hva (by rw [hb0]; exact ref_gives hge hme hde h0) TB hcode List.mem_cons_self (fun z hz _ => by rw [List.mem_singleton.mp hz]) hr L hdef hbind
    (fun Ar outer s H E f c' hr' => ⟨fun pins s' σ H' Q I ⟨A', Ξ, hE, h⟩ => (hbody A' Ξ Ar outer s H E f c' hr' (passes_call (takes_of rfl rfl rfl rfl) fun _ _ _ _ z => z) hE ((takes_of rfl rfl rfl rfl).imp hE)).run pins s' σ H' Q I h⟩) hdb hd hcd) fun σ H Q ⟨F, G, en, Ψ, k, ⟨⟨p, ns, hA⟩, hF, hG, hc, h⟩, qq⟩ => ?_
  refine ⟨fun z hz => ?_, fun H1 eN T1 => ?_⟩
  · rw [List.mem_singleton.mp hz]
    obtain ⟨_, o, u, a2, a3, a4⟩ := k.ok.am (P, tabOk (X.env.qual ++ "<lambda>")) (by rw [hA]; simp)
    subst a4
    obtain ⟨ps, rfl, t2, t3⟩ := a3
    refine ⟨ps, a2, t2, fun pos' cv hcv => ?_⟩
    obtain ⟨c', e1, e2⟩ := t3 pos' cv hcv
    exact ⟨c', e1, k.ok.gh _ _ e2⟩
  · obtain ⟨G1, k1, s1⟩ := k.lam hA hF hG hc eN (T1 _ List.mem_cons_self)
    refine ⟨⟨A.q, F, G1⟩, (fun cls _ _ => ∃ b, PySem.W.exmOne X.K cls (.ref CS) = some b ∧ (b = true → Ψ (.bl true) en) ∧ (b = false → False)), fun cls d σ' H' ⟨F1, G2, e1, xf, k2, r2, b, hb1, hy, hn⟩ => ⟨b, hb1, fun hb => ?_, hn⟩, F, G1, en, _, k1.rebase, h F G1, fun d e' v G' H' hΨ k' s' _ => ?_⟩
    · have k3 := k2.shrink
      have kk := k1.slots (A' := ⟨A.q, F, G1⟩) (e' := e1) (σ' := σ') hc rfl k3.ok k2.ok.bg
      exact qq _ en (.bl true) G2 H' (hy hb) kk (s1.trans k2.ok.bg) (rep_bl.mpr rfl)
    · have kk := k1.slots (A' := ⟨A.q, F, G1⟩) (e' := e') (σ' := σ) hc rfl k'.ok s'
      exact qq _ en (.bl false) G' H' hΨ kk (s1.trans s') (rep_bl.mpr rfl)
end Dz

namespace Dz
open PySem PySem.Spec PyProof.Rows L2 LamX
/-! ### the law's own def, where it makes lambdas -/
def spLawT (K : PySem.W.Frag) (P : Addr) : Sp := fun vs H Q _ => ∃ (a : Addr) (ns : List Int), vs = [.ref a] ∧ SqL K H a (ns.map V.int) ∧ ns.length ≤ 63 ∧ H P = some (.tbl #[]) ∧ ∀ H', Q (.bl true) H'
def noT (H : Hp) : Hp := fun b => match H b with
  | some (.tbl _) => none
  | x => x
theorem noT_same {H : Hp} : Same (noT H) H := fun b u e => by
  unfold noT at e
  split at e
  · cases e
  · exact e
theorem noT_nt {H : Hp} : NT (noT H) := fun b ps e => by
  unfold noT at e
  split at e
  · cases e
  · rename_i h
    exact h _ e
theorem noT_at {H : Hp} {b : Addr} {u : HO} (e : H b = some u) (h : ∀ ps, u ≠ .tbl ps) : noT H b = some u := by
  unfold noT
  rw [e]
  split
  · rename_i z
    exact absurd (Option.some.inj z) (h _)
  · rfl
theorem noT_seq {K : PySem.W.Frag} {H : Hp} {a : Addr} {xs : List V} (h : SqL K H a xs) : SqL K (noT H) a xs := by
  rcases h with (h | ⟨o, h⟩) | h
  · exact .inl (.inl (noT_at h fun _ z => by cases z))
  · exact .inl (.inr ⟨o, noT_at h fun _ z => by cases z⟩)
  · exact .inr h
section
variable {P : Program} {w : World} {K : PySem.W.Frag} {mg : Str → Option Value} {base : Heap}
theorem law_dzT {s0 : Stmt} {f c T : Addr} {N : List Str} {k : Nat} {fb : Am → FS} {q : Str} {p1 p2 p3 p4 p5 : Pos} {rest : List Stmt} {oc kV doc pm ct : Value} {od an : Option Addr} {osl : Array (Option Value)}
    (lk : K.lookup f = some ⟨oc, od, .func (PySem.W.fnOf "law" "law" (defArgs s0) (defBody s0) (defScope s0) .none kV doc pm an (.ref c) ct), osl⟩) (hcd : PySem.W.codeIn K (.ref c) "law" = true) (S : FnScope N ["script"] (defScope s0))
    (hb0 : defBody s0 = .Assign [.Name "draw" p1] (.List [.Name "script" p2, .Constant (.int 0) 0 p3] p4) p5 :: rest)
    (h1 : ∀ (Ar : Around) (outer : List PySem.Env) (s : Shared) (H : Hp) (E : XK), PS (cxOf CX0 P w K mg base N "law" (defScope s0) f (.ref c) Ar outer s H E).nox (.Assign [.Name "draw" p1] (.List [.Name "script" p2, .Constant (.int 0) 0 p3] p4) p5) (tAsg (tLst (tCons (tVar 0) (tCons (tC (.int 0)) tNil))) (gName 1)))
    (hn : 2 ≤ N.length)
    (hb : ∀ (A : Am) (Ar : Around) (outer : List PySem.Env) (s : Shared) (H : Hp) (E : XK), Room k (Ar.deeper (envOfC "law" (defScope s0) s.heap.objs.size f (.ref c))) → DSs (cxOf CX0 P w K mg base N "law" (defScope s0) f (.ref c) Ar outer s H E).nox A rest (fb A))
    (hm : ∀ (A : Am) p ns, DrawIn A.q p ns → A.q = [(p, drawOk ns), (T, tabOk q)] → NE A.F0 → NT A.G0 → fb A ([EV.dat (.fro (ns.map D.int)), EV.dat (.tok p)] ++ List.replicate (N.length - 2) EV.un) { nx := fun _ => False, rt := fun d => d = .bl true }) :
    FnOk P w K mg base CX0 (k + 1) f (PySem.W.fnOf "law" "law" (defArgs s0) (defBody s0) (defScope s0) .none kV doc pm an (.ref c) ct) ["script"] (spLawT K T) := by
  refine fn_of lk hcd S (fun vs H Q E h => ?_) fun Ar outer s H vs Q E hr h => ?_
  · obtain ⟨a, ns, rfl, _⟩ := h
    rfl
  obtain ⟨a, ns, rfl, hS, hlen, hT, fin⟩ := h
  rw [hb0]
  have hbody := pss_cons (h1 Ar outer s H E) (pss_ex fun A' => hb A' Ar outer s H E hr)
  refine ⟨_, hbody.nox, ?_⟩
  refine ⟨.ref a, by unfold L2.start; rfl, (by show 2 ≤ sizeLine; decide), fun p hp => ?_⟩
  have npT : p ≠ T := fun z => by rw [z, hT] at hp; cases hp
  have gp : noT H p = none := by unfold noT; rw [hp]
  have gT : noT H T = none := by unfold noT; rw [hT]
  have hro : Rep K (noT H) (.fro (ns.map D.int)) (.ref a) := rep_fro.mpr ⟨a, _, rfl, noT_seq hS, RepA.ints ns⟩
  have hd : DrawIn [(p, drawOk ns), (T, tabOk q)] p ns := ⟨List.mem_cons_self, fun z hz e => by
    rcases List.mem_cons.mp hz with rfl | hz
    · rfl
    · rw [List.mem_singleton.mp hz] at e
      exact absurd e.symm npT, hlen⟩
  have k0 : StQ K [(p, drawOk ns), (T, tabOk q)] (fun _ => none) (noT H) (upd H p (.lst [.ref a, .int 0])) := ⟨fun b u e => by
      rw [upd_ne (fun z => by rw [z, gp] at e; cases e)]
      exact noT_same _ _ e, fun b u e => (by cases e), fun z _ => rfl, fun z hz => by
    rcases List.mem_cons.mp hz with rfl | hz
    · exact ⟨gp, .lst [.fro (ns.map D.int), .int 0], _, upd_same, ⟨_, rfl, .cons hro (.cons (rep_int.mpr rfl) .nil)⟩, 0, rfl⟩
    · rw [List.mem_singleton.mp hz]
      refine ⟨gT, .tab q, .tbl #[], by rw [upd_ne (fun z => npT z.symm)]; exact hT, ⟨#[], rfl, trivial, fun pos cv z => ?_⟩, rfl⟩
      have z : codeAmong pos [] = some cv := z
      simp [codeAmong] at z⟩
  have k1 : EnvOk K ⟨[(p, drawOk ns), (T, tabOk q)], fun _ => none, noT H⟩ (fun _ => none) (noT H) (upd H p (.lst [.ref a, .int 0])) (start N [.ref a]) ([EV.dat (.fro (ns.map D.int))] ++ List.replicate (N.length - 1) EV.un) := EnvOk.start (ds := [.fro (ns.map D.int)]) ⟨k0, Fro.refl _, Step.refl _ _⟩ (.cons hro .nil)
  have k2 := k1.put (i := 1) (d := .tok p) (v := .ref p) (rep_tok.mpr rfl)
  have ee : st ([EV.dat (.fro (ns.map D.int))] ++ List.replicate (N.length - 1) EV.un) 1 (.dat (.tok p)) = [EV.dat (.fro (ns.map D.int)), EV.dat (.tok p)] ++ List.replicate (N.length - 2) EV.un := by
    obtain ⟨m, hm2⟩ : ∃ m, N.length = m + 2 := ⟨N.length - 2, by omega⟩
    rw [hm2]
    rfl
  rw [ee] at k2
  exact ⟨_, _, noT H, _, _, k2, hm _ p ns hd rfl (fun _ _ z => by cases z) noT_nt, fun _ _ _ _ z => z.elim, fun d v G' H' z _ _ r => by
    have z : d = .bl true := z
    subst z
    cases rep_bl.mp r
    exact fin H', fun _ _ _ _ z => z.elim, fun _ _ _ _ z => z.elim⟩
end
end Dz

namespace Dz
open PySem PySem.Spec PyProof.Rows L2
/-! ### x != y, both of one own class with __eq__ and without __ne__ -/
structure NeC (K : PySem.W.Frag) (C f : Addr) : Prop where
  ex : ∃ (nm q : Str) (N : Addr) (bs : List Value) (hdct : Bool) (sn : List Str) (sub : List Value) (ab : Bool) (col : Option Bool) (dd : Option Addr) (k0 k1 k2 k3 k5 : Option Value) (newId : String),
    K.lookup C = some (excClassObj nm q C N bs [.type "object"] hdct sn sub ab col dd k0 k1 k2 k3 k5 newId) ∧ PySem.W.nsOkIn K N = true ∧ PySem.W.nsIn K N "__eq__" = some (some (.ref f)) ∧ PySem.W.nsIn K N "__ne__" = some none
  fn : PySem.W.isFn K (.ref f) = true
theorem ns_some {K : PySem.W.Frag} {h : Heap} {N : Addr} {m : Str → Option Value} {n : Str} {v : Value} (X : K.In h) (G : h.Ns N m) (e : PySem.W.nsIn K N n = some (some v)) : m n = some v := by
  obtain ⟨ob, ents, np, at1, at2, _, at3⟩ := G
  unfold PySem.W.nsIn at e
  split at e
  · rename_i look
    have z := (X _ _ look).symm.trans at1
    cases z
    cases at2
    split at e
    · rename_i found
      cases e
      rw [← at3]
      simp only [nsFind, findBy, ← Array.find?_toList, found]
      rfl
    · split at e <;> cases e
  · cases e
theorem fn_obj {K : PySem.W.Frag} {h : Heap} {f : Addr} (X : K.In h) (e : PySem.W.isFn K (.ref f) = true) : ∃ o : Obj, h.get? f = some o ∧ o.cls = .type "function" := by
  have t := beq_iff_eq.mp e
  unfold PySem.W.typeIn at t
  simp only at t
  cases q : K.lookup f with
  | none => rw [q] at t; cases t
  | some o => rw [q] at t; exact ⟨o, X _ _ q, Option.some.inj t⟩
section
variable {X : Cx} {C f : Addr} {fd : FuncData} {k : Nat} {ps : List Str} {sp : Sp}
theorem op_neO (Fk : FnOk X.prog X.w X.K X.mg X.base CX0 k f fd ps sp) (hr : Room (k + 1) X.A) (hb : Binds X.K fd ps []) (hm : NeC X.K C f) :
    OpR X (compareOp .NotEq) (fun x y H Q => ∃ p q dx dy fs gs, x = .ref p ∧ y = .ref q ∧ H p = some (.ins C dx fs) ∧ H q = some (.ins C dy gs) ∧ sp [x, y] H (fun z H' => ∃ b, z = .bl b ∧ Q (.bl (!b)) H') E0) := by
  intro pins s σ H x y v u Q I rx ry h
  obtain ⟨p, q', dx, dy, fs, gs, rfl, rfl, h1, h2, hs⟩ := h
  cases rx
  cases ry
  obtain ⟨mA, J, _⟩ := ins_get I.hok h1
  obtain ⟨mB, J', _⟩ := ins_get I.hok h2
  obtain ⟨od, J, _⟩ := J.look
  obtain ⟨od', J', _⟩ := J'.look
  obtain ⟨nm, q, N, bs, hdct, sn, sub, ab, col, dd, k0, k1, k2, k3, k5, newId, c1, c2, c3, c4⟩ := hm.ex
  have kin := I.kIn
  have nsN : s.heap.Ns N (s.heap.nsMap N) := .of_isNs (PySem.W.isNs_of_in kin c2)
  obtain ⟨ofn, of1, of2⟩ : ∃ o : Obj, s.heap.get? f = some o ∧ o.cls = .type "function" := fn_obj kin hm.fn
  have own : s.heap.OwnEqNoNe p C f "object" [.type "object"] := ⟨_, ofn, nm, q, N, bs, hdct, sn, sub, ab, col, dd, k0, k1, k2, k3, k5, newId, s.heap.nsMap N, _, J.at_, J.cls, kin _ _ c1, nsN, ns_some kin nsN c3, of1, of2, F.cmp_object.mro, F.cmp_object.eq.lookup, PySem.W.ns_none_of kin nsN c4⟩
  have hr1 : Room k X.A.in1 := ⟨hr.hd, by have := hr.dp; show X.A.depth + 3 * k + 5 < recursionLimit; omega, by have := hr.un; show X.A.units + 1 + 16 * k + 200 < cLine; omega⟩
  have hfr : X.A.in1.frames = X.A.frames := rfl
  have e0 : Env0 X.prog X.w X.K X.mg X.base X.A.in1 X.stack s H := by
    have e := I.env0
    exact ⟨e.frames, e.mod, e.bs, e.bsz, e.funs, e.frf, e.hok, e.bare⟩
  have bnd := hb s [.ref p, .ref q'] I.kIn (by rw [List.append_nil]; exact (Fk.len _ _ _ _ hs))
  rw [List.append_nil] at bnd
  have call1 : wpAny (model X.prog X.w) X.A.in1 (call (.ref f) [.ref p, .ref q']) (fun v s' => ∃ b, v = .bool b ∧ EP X pins σ Q (.bool (!b)) s') X.xe s := by
    refine wpAny_call (codeAny_mono (Fk.run X.A.in1 X.stack s H ⟨[.ref p, .ref q'], []⟩ [.ref p, .ref q'] [.ref p, .ref q'] _ E0 hr1 e0 bnd (.cons rfl (.cons rfl .nil)) hs) fun r s' hq => ?_)
    cases r with
    | error e => exact hq.elim
    | ok fl =>
      cases fl with
      | ret u =>
        obtain ⟨z, H', I', rz, bb, rfl, q⟩ := I.after hq
        cases rz
        exact ⟨bb, rfl, .bl (!bb), H', I', rfl, q⟩
      | next => exact False.elim hq
      | brk => exact False.elim hq
      | cont => exact False.elim hq
  have hun : X.A.units + 1 < cLine := by have := hr.un; omega
  obtain ⟨hp, g, d, t, os⟩ := s
  exact compareOp_ne_ownEq F.cmp_object own J'.at_ J'.cls hun call1
end
section
variable {X : Cx} {C : Addr} {k : Nat} {ps : List Str} {pd : PD}
def rNeO (C : Addr) (pd : PD) : R2D := fun x y Φ => (∃ ns l, x = .ins C ns l) ∧ (∃ ns l, y = .ins C ns l) ∧ pd [] [x, y] fun d => ∃ b, d = .bl b ∧ Φ (.bl (!b))
/-- the facts of == and of what stands in the class -/
structure MthE (P : Program) (w : World) (K : PySem.W.Frag) (mg : Str → Option Value) (base : Heap) (C : Addr) (k : Nat) (ps : List Str) (pd : PD) : Prop where
  ex : ∃ (f : Addr) (fd : FuncData), FnOk P w K mg base CX0 k f fd ps (spD K pd) ∧ NeC K C f ∧ Binds K fd ps []
theorem op_neOD (O : MthE X.prog X.w X.K X.mg X.base C k ps pd) (hr : Room (k + 1) X.A) : OpR X (compareOp .NotEq) (LR2 X.K (rNeO C pd)) := by
  obtain ⟨f, fd, h1, h2, h3⟩ := O.ex
  refine opr_weak (op_neO h1 hr h3 h2) fun x y H Q ⟨G, dx, dy, Ψ, s, rx, ry, h, q⟩ => ?_
  obtain ⟨⟨ns, l, rfl⟩, ⟨ns', l', rfl⟩, h⟩ := h
  obtain ⟨p, dd, xs, rfl, hp, _, _⟩ := rep_ins.mp rx
  obtain ⟨p', dd', xs', rfl, hp', _, _⟩ := rep_ins.mp ry
  refine ⟨p, p', dd, dd', _, _, rfl, rfl, s _ _ hp, s _ _ hp', [], G, [_, _], _, StQ.bare s, .cons rx (.cons ry .nil), h, fun d v G' H' hd k' s' r' => ?_⟩
  obtain ⟨b, rfl, hd⟩ := hd
  exact ⟨b, rep_bl.mp r', q _ _ G' H' hd (grow_of k' s') k'.gh (rep_bl.mpr rfl)⟩
end
end Dz

namespace Dz
open PySem PySem.Spec PyProof.Rows L2
/-! ### x += a list, x a changing list of one's own -/
def fExtL (i : Nat) (fa : FE) : FS := fun en Ψ => ∃ l, gt en i = .cel (.lst l) ∧ fa en fun d e => ∃ l' l2, gt e i = .cel (.lst l') ∧ d = .lst l2 ∧ l'.length + l2.length ≤ 100000 ∧ Ψ.nx (st e i (.cel (.lst (l' ++ l2))))
section
variable {X : Cx} {A : Am} {e : Expr} {fa : FE} {pos : Pos}
theorem set_self {α : Type} {l : List α} {i : Nat} {a : α} (h : l[i]? = some a) : l.set i a = l := by
  apply List.ext_getElem?
  intro j
  rw [List.getElem?_set]
  by_cases hj : i = j
  · subst hj
    rw [if_pos rfl, h, if_pos (List.getElem?_eq_some_iff.mp h).1]
  · rw [if_neg hj]
theorem ds_extL {i : Nat} {x : Str} {pos' : Pos} (hN : X.N.Nodup) (hi : X.N[i]? = some x) (hx : Loc X.env.scope x) (he : DE X A e fa)
    (hf : X.fn x = true ∨ X.env.scope.names.lookup x = some .local := by first | exact .inl rfl | exact .inr rfl | assumption) : DS X A (.AugAssign (.Name x pos') .Add e pos) (fExtL i fa) := ps_weak (ps_aug hN hi hx he iop_ext hf) fun Dd σ H ⟨F, G, en, Ψ, k, h, q1, _⟩ => by
  obtain ⟨l, eg, h⟩ := h
  obtain ⟨p, u, e1, e2, e3⟩ := k.slot eg
  refine ⟨.ref p, e1, F, G, en, _, k, h, fun d ee v G1 H1 z k1 s1 r1 => ?_⟩
  obtain ⟨l', l2, eg', rfl, hl, z⟩ := z
  obtain ⟨p', u', f1, f2, f3⟩ := k1.slot eg'
  rw [e1] at f1
  have ep : p = p' := by injection f1 with f1; injection f1 with f1; injection f1
  subst ep
  obtain ⟨ys, eu, rb⟩ := f3
  subst eu
  obtain ⟨b, zs, rfl, hb, rz⟩ := rep_lst.mp r1
  refine ⟨p, b, ys, zs, rfl, rfl, f2, k1.ok.gh _ _ hb, by rw [rb.len, rz.len]; exact Nat.le_trans hl (by decide), ?_⟩
  show Dd.nx (σ.set i (some (.ref p))) (upd H1 p (.lst (ys ++ zs)))
  rw [set_self e1]
  exact q1 _ _ G1 _ z (k1.alter (u' := .lst (ys ++ zs)) eg' e1 ⟨_, rfl, rb.app rz⟩) s1
/-! ### len(set(ints)), sorted(ints) -/
def fLenSet (fa : FE) : FE := fun en Φ => fa en fun x e1 => ∃ ns : List Int, x = .lst (ns.map D.int) ∧ ns.Nodup ∧ ns.length ≤ 4000 ∧ Φ (.int (ns.length : Nat)) e1
theorem de_lenSet {p p2 q : Pos} (hg : Gl X "len") (hm : X.mg "len" = none) (hg2 : Gl X "set") (hm2 : X.mg "set" = none) (ha : DE X A e fa) (hc : X.calm = true := by rfl) (na : starEach [e] X.env = (false, eval e X.env) :: starEach [] X.env := by rfl) :
    DE X A (.Call (.Name "len" p) [.Call (.Name "set" p2) [e] [] q] [] pos) (fLenSet fa) := pe_weak (RZ.pe_lenSetI hg hm hg2 hm2 ha hc na) fun σ H Q ⟨F, G, en, Ψ, k, h, qq⟩ =>
  ⟨F, G, en, _, k, h, fun x e1 v G1 H1 z k1 s1 r1 => by
    obtain ⟨ns, rfl, hnd, hl, z⟩ := z
    obtain ⟨b, zs, rfl, hb, rz⟩ := rep_lst.mp r1
    have ez := repA_ints_inv rz
    subst ez
    exact ⟨b, ns, rfl, .inl (.inl (k1.ok.gh _ _ hb)), hnd, hl, qq _ e1 _ G1 H1 z k1 s1 (rep_int.mpr rfl)⟩⟩
def rSortedID : RAD := fun xs Φ => ∃ zs : List Int, xs = [.lst (zs.map D.int)] ∧ ∀ ys : List Int, ys.Perm zs → ys.Pairwise (· ≤ ·) → Φ (.lst (ys.map D.int))
theorem callD_sortedI : CallR X (.builtin "sorted") (LRA X.K rSortedID) := fun pins s σ H xs us Q I r ⟨G, ds, Ψ, gh, r1, ⟨zs, e, h⟩, q⟩ => by
  subst e
  obtain ⟨v, rfl, rv⟩ := repA_1 r1
  obtain ⟨b, ws, rfl, hb, rz⟩ := rep_lst.mp rv
  have ez := repA_ints_inv rz
  subst ez
  refine cr_sortedI pins s σ H _ us Q I r ⟨b, zs, rfl, .inl (.inl (gh _ _ hb)), fun ys l hp hs hl => ?_⟩
  have g : Grow G H (upd G l (.lst (ys.map V.int))) (upd H l (.lst (ys.map V.int))) := Grow.new gh hl
  exact q _ _ _ _ (h ys hp hs) g (same_upd2 gh) (rep_lst.mpr ⟨l, _, rfl, upd_same, RepA.ints ys⟩)
end
end Dz

namespace Dz
open PySem PySem.Spec PyProof.Rows L2
/-! ### o.m(..) that may be refused, in a lambda's body -/
def fMethX (C : Addr) (m : Str) (pd : PDX) (A : Am) (Ξ : XW) (fa : FE) (fr : FA) : FE := fun en Φ => fa en fun x e1 => ∃ ns l, x = .ins C ns l ∧ m ∉ ns ∧ fr e1 fun ds e2 => pd A.q (x :: ds) (fun d => Φ d e2) fun c y => Ξ c y e2
section
variable {X : Cx} {A : Am} {C : Addr} {m : Str} {k : Nat} {ps : List Str} {pdx : PDX} {e o : Expr} {es : List Expr} {pos apos : Pos} {fa : FE} {fr : FA} {Ξ : XW} {E : XK}
theorem de_methE {pl : Sem Bool} (O : MthX X.prog X.w X.K X.mg X.base C m k ps pdx) (px : Passes (L2.CX X.prog X.w) X E) (hE : ∀ cls d σ' H', WD X.K A Ξ cls d σ' H' → E cls d H') (c : Cls X.K C) (hr : Room k X.A) (he : DE X A o fa) (ha : DA X A (e :: es) fr)
    (hst : starEach (e :: es) X.env = (false, eval e X.env) :: starEach es X.env := by rfl) (hpl : (backTo pos (starEach es X.env)).any (·.1) = false := by rfl)
    (ht : eval (.Call (.Attribute o m apos) (e :: es) [] pos) X.env = (do
      let ov ← eval o X.env
      standAt apos.atName
      let (f, first) ← holding [ov] (getMethod ov m pl)
      callWith pos f first (backTo pos (starEach (e :: es) X.env)) (backToKw pos (keywordEach [] X.env))) := by rfl) : DE X A (.Call (.Attribute o m apos) (e :: es) [] pos) (fMethX C m pdx A Ξ fa fr) := by
  obtain ⟨f, fd, h1, h2, h3⟩ := O.ex
  refine pe_weak (pe_meth he c h2 h1 hr h3 .nil px ha hst hpl ht) fun σ H Q ⟨F, G, en, Ψ, k, h, q⟩ => ?_
  refine ⟨F, G, en, _, k, h, fun x e1 v G1 H1 z k1 s1 r1 => ?_⟩
  obtain ⟨ns, l, rfl, hm, z⟩ := z
  obtain ⟨a, dx, xs, rfl, ha, ra, hl⟩ := rep_ins.mp r1
  refine ⟨a, dx, _, rfl, k1.ok.gh _ _ ha, lookup_zip_no hm, F, G1, e1, _, k1, z, fun ds e2 vs G2 H2 hp k2 s2 r2 => ?_⟩
  show spX X.K pdx (V.ref a :: (vs ++ [])) H2 Q E
  rw [List.append_nil]
  refine ⟨A.q, G2, _, _, _, k2.ok.call, .cons (r1.mono s2.g) r2, hp, fun d v G3 H3 hd k3 s3 r3 => ?_, fun c y d G3 H3 hx k3 s3 r3 => ?_⟩
  · obtain ⟨k4, s4⟩ := k2.called k3 s3
    exact q d e2 v G3 H3 hd k4 ((s1.trans s2).trans s4) r3
  · obtain ⟨k4, s4⟩ := k2.called k3 s3
    exact hE c d σ H3 ⟨F, G3, e2, y, k4, r3, hx⟩
end
end Dz

namespace Dz
open PySem PySem.Spec PyProof.Rows L2
/-! ### x.extend(e), x a changing list of one's own -/
section
variable {X : Cx} {A : Am} {e : Expr} {fa : FE} {pos : Pos}
theorem ds_extend {i : Nat} {x : Str} {px apos cpos : Pos} (hN : X.N[i]? = some x) (hv : Vis X.env.scope x) (he : DE X A e fa)
    (hd : (x == ("__debug__" : Str)) = false := by decide) (hcd : (x == ("__classdict__" : Str)) = false := by decide)
    (hbase : attributeBase (.Name x px) "extend" X.env (eval (.Name x px) X.env) = eval (.Name x px) X.env := by rfl)
    (hfew : ((backTo cpos (starEach [e] X.env)).all (fun x => !x.1) && (backToKw cpos (keywordEach [] X.env)).all (fun x => x.1.isSome)
      && decide (([e] : List Expr).length + ([] : List Keyword).length + (if ([] : List Keyword).isEmpty then 0 else 1) < 30)) = true := by rfl)
    (hline : (apos.endLine == cpos.line) = true := by rfl) (hs : starEach [e] X.env = (false, eval e X.env) :: starEach [] X.env := by rfl) (hplain : (backTo cpos (starEach [] X.env)).any (·.1) = false := by rfl)
    (hsw : swapsWith (.Call (.Attribute (.Name x px) "extend" apos) [e] [] cpos) none pos.line X.env = pure false := by rfl) :
    DS X A (.Expr (.Call (.Attribute (.Name x px) "extend" apos) [e] [] cpos) pos) (fExtL i fa) :=
  ps_weak (ps_expr (pe_bm PySem.F.plainAttrs_list PySem.F.slot_list_extend PySem.F.type_list_extend mt_extend (pv i hN hv hd hcd) (pa_cons he pa_nil hs) hbase hfew hline hs hplain) hsw) fun Dd σ H ⟨F, G, en, Ψ, k, h, q1, _⟩ => by
    obtain ⟨l, eg, h⟩ := h
    obtain ⟨p, u, e1, e2, e3⟩ := k.slot eg
    obtain ⟨xs, eu, ra⟩ := e3
    subst eu
    refine ⟨.ref p, e1, .inl ⟨rfl, xs, .inl (.inl e2)⟩, F, G, en, _, k, h, fun d ee v G1 H1 z k1 s1 r1 => ?_⟩
    obtain ⟨l', l2, eg', rfl, hl, z⟩ := z
    obtain ⟨p', u', f1, f2, f3⟩ := k1.slot eg'
    rw [e1] at f1
    have ep : p = p' := by injection f1 with f1; injection f1 with f1; injection f1
    subst ep
    obtain ⟨ys, eu, rb⟩ := f3
    subst eu
    obtain ⟨b, zs, rfl, hb, rz⟩ := rep_lst.mp r1
    refine ⟨p, b, ys, zs, rfl, rfl, f2, k1.ok.gh _ _ hb, by rw [rb.len, rz.len]; exact Nat.le_trans hl (by decide), ?_⟩
    exact q1 _ _ G1 _ z (k1.alter (u' := .lst (ys ++ zs)) eg' e1 ⟨_, rfl, rb.app rz⟩) s1
end
end Dz

namespace Dz
open PySem PySem.Spec PyProof.Rows L2 PySem.Calls
/-! ### gcd(a, b, c) -/
theorem args_gcd3 (a b c : Value) : argsOk "math.gcd" ⟨[a, b, c], []⟩ := by
  unfold argsOk
  kernel_rfl
theorem run_gcd3 (a b c : Int) (t u v : Tok) : Gives (Builtin.«math.gcd» ⟨[.int a t, .int b u, .int c v], []⟩) (.int ((((Nat.gcd 0 a.natAbs).gcd b.natAbs).gcd c.natAbs : Nat) : Int)) := by
  refine .of_wp fun M B E s Q hq => ?_
  obtain ⟨h1, h2, h3, h4, h5⟩ := s
  wp_walk
  exact ⟨_, rfl, hq⟩
def rGcd3 : List V → Hp → VK → Prop := fun vs H Q => ∃ a b c : Int, vs = [.int a, .int b, .int c] ∧ Q (.int (((a.natAbs.gcd b.natAbs).gcd c.natAbs : Nat) : Int)) H
def rGcd3D : RAD := fun xs Φ => ∃ a b c : Int, xs = [.int a, .int b, .int c] ∧ Φ (.int (((a.natAbs.gcd b.natAbs).gcd c.natAbs : Nat) : Int))
section
variable {X : Cx}
theorem cr_gcd3 : CallR X (.builtin "math.gcd") rGcd3 := by
  intro pins s σ H vs us Q I r h
  obtain ⟨a, b, c, rfl, q⟩ := h
  obtain ⟨t, u, v, rfl⟩ : ∃ t u v, us = [.int a t, .int b u, .int c v] := by
    cases r with
    | cons r1 r =>
      cases r with
      | cons r2 r =>
        cases r with
        | cons r3 r =>
          cases r
          obtain ⟨t, rfl⟩ := r1
          obtain ⟨u, rfl⟩ := r2
          obtain ⟨v, rfl⟩ := r3
          exact ⟨t, u, v, rfl⟩
  have g := run_gcd3 a b c t u v
  rw [Nat.gcd_zero_left] at g
  exact call_function_meets PySem.W.MGF.kind_gcd PySem.W.MGF.plain_gcd PySem.W.MGF.entry_gcd (args_gcd3 _ _ _) g.meets ⟨.int _, H, I.tok _, ⟨_, rfl⟩, q⟩
theorem callD_gcd3 : CallR X (.builtin "math.gcd") (LRA X.K rGcd3D) := fun pins s σ H xs us Q I r ⟨G, ds, Ψ, gh, r1, h, q⟩ => by
  obtain ⟨a, b, c, rfl, z⟩ := h
  unfold RepA at r1
  obtain ⟨x, y, rfl, r1, r2⟩ := r1
  obtain ⟨v, w, rfl, rv, rw'⟩ := repA_2 r2
  cases rep_int.mp r1
  cases rep_int.mp rv
  cases rep_int.mp rw'
  exact cr_gcd3 pins s σ H _ us Q I r ⟨a, b, c, rfl, q _ _ G H z (Grow.refl _ _) gh (rep_int.mpr rfl)⟩
end
end Dz

namespace Dz
open PySem PySem.Spec PyProof.Rows L2
/-! ### min(ints, default=d), max(ints, default=d) -/
theorem min_is : ∀ (x : Int) (xs : List Int), PySem.W.minOf x xs ∈ x :: xs ∧ ∀ y ∈ x :: xs, PySem.W.minOf x xs ≤ y := by
  intro x xs
  unfold PySem.W.minOf
  induction xs generalizing x with
  | nil => exact ⟨List.mem_cons_self .., fun y hy => by rw [List.mem_singleton.mp hy]; exact Int.le_refl _⟩
  | cons a r ih =>
    rw [List.foldl_cons]
    obtain ⟨h1, h2⟩ := ih (if PySem.W.DatumOrd.lt a x = true then a else x)
    by_cases hc : a < x
    · have e : PySem.W.DatumOrd.lt a x = true := decide_eq_true hc
      rw [if_pos e] at h1 h2 ⊢
      refine ⟨List.mem_cons_of_mem _ h1, fun y hy => ?_⟩
      rcases List.mem_cons.mp hy with rfl | hy
      · exact Int.le_trans (h2 a (List.mem_cons_self ..)) (Int.le_of_lt hc)
      · exact h2 y hy
    · have e : ¬ PySem.W.DatumOrd.lt a x = true := fun z => hc (of_decide_eq_true z)
      rw [if_neg e] at h1 h2 ⊢
      refine ⟨?_, fun y hy => ?_⟩
      · rcases List.mem_cons.mp h1 with h1 | h1
        · rw [h1]; exact List.mem_cons_self ..
        · exact List.mem_cons_of_mem _ (List.mem_cons_of_mem _ h1)
      · rcases List.mem_cons.mp hy with rfl | hy
        · exact h2 _ (List.mem_cons_self ..)
        · rcases List.mem_cons.mp hy with rfl | hy
          · exact Int.le_trans (h2 x (List.mem_cons_self ..)) (Int.not_lt.mp hc)
          · exact h2 y (List.mem_cons_of_mem _ hy)
theorem max_is : ∀ (x : Int) (xs : List Int), PySem.W.maxOf x xs ∈ x :: xs ∧ ∀ y ∈ x :: xs, y ≤ PySem.W.maxOf x xs := by
  intro x xs
  unfold PySem.W.maxOf
  induction xs generalizing x with
  | nil => exact ⟨List.mem_cons_self .., fun y hy => by rw [List.mem_singleton.mp hy]; exact Int.le_refl _⟩
  | cons a r ih =>
    rw [List.foldl_cons]
    obtain ⟨h1, h2⟩ := ih (if PySem.W.DatumOrd.lt x a = true then a else x)
    by_cases hc : x < a
    · have e : PySem.W.DatumOrd.lt x a = true := decide_eq_true hc
      rw [if_pos e] at h1 h2 ⊢
      refine ⟨List.mem_cons_of_mem _ h1, fun y hy => ?_⟩
      rcases List.mem_cons.mp hy with rfl | hy
      · exact Int.le_trans (Int.le_of_lt hc) (h2 a (List.mem_cons_self ..))
      · exact h2 y hy
    · have e : ¬ PySem.W.DatumOrd.lt x a = true := fun z => hc (of_decide_eq_true z)
      rw [if_neg e] at h1 h2 ⊢
      refine ⟨?_, fun y hy => ?_⟩
      · rcases List.mem_cons.mp h1 with h1 | h1
        · rw [h1]; exact List.mem_cons_self ..
        · exact List.mem_cons_of_mem _ (List.mem_cons_of_mem _ h1)
      · rcases List.mem_cons.mp hy with rfl | hy
        · exact h2 _ (List.mem_cons_self ..)
        · rcases List.mem_cons.mp hy with rfl | hy
          · exact Int.le_trans (Int.not_lt.mp hc) (h2 x (List.mem_cons_self ..))
          · exact h2 y (List.mem_cons_of_mem _ hy)
theorem hold_ints {h : Heap} : ∀ {vs : List Value} {ns : List Int}, IntsAre vs ns → PySem.W.HoldAll h vs ns
  | _, _, .nil => ⟨_, .nil⟩
  | _, _, .cons n t r => by
    obtain ⟨as, ra⟩ := hold_ints (h := h) r
    exact ⟨_, .cons (.int n t) ra⟩
theorem holds_int {h : Heap} {v : Value} {n : Int} (r : PySem.W.Holds h v n) : ∃ t, v = .int n t := by
  obtain ⟨as, r⟩ := r
  cases r
  exact ⟨_, rfl⟩
section
variable {X : Cx}
def rMinDef (K : PySem.W.Frag) : List V → List V → Hp → VK → Prop := fun vs zs H Q => ∃ a ns z, vs = [.ref a] ∧ zs = [z] ∧ SqL K H a (ns.map V.int) ∧ (ns = [] → Q z H) ∧ ∀ m ∈ ns, (∀ y ∈ ns, m ≤ y) → Q (.int m) H
def rMaxDef (K : PySem.W.Frag) : List V → List V → Hp → VK → Prop := fun vs zs H Q => ∃ a ns z, vs = [.ref a] ∧ zs = [z] ∧ SqL K H a (ns.map V.int) ∧ (ns = [] → Q z H) ∧ ∀ m ∈ ns, (∀ y ∈ ns, y ≤ m) → Q (.int m) H
theorem crk_min (hc : X.calm = true) (hu : X.A.units + 64 < cLine) : CallRK X (.builtin "min") ["default"] (rMinDef X.K) := by
  intro pins s σ H xs zs us ws Q I r1 r2 h
  obtain ⟨a, ns, z, rfl, rfl, hs, h0, h1⟩ := h
  obtain ⟨its, rv, hl, _⟩ := I.list hs
  rw [Vals.ref1 r1]
  cases r2 with
  | cons rz r2 =>
    cases r2
    refine PySem.W.min_list_datum_default (α := Int) (I.ok.hd hc) hl.isList (hold_ints rv.ints) (by show _ + 1 + 0 < _; omega) (fun e h' tk hk => ⟨z, H, I.kept hk, rz, h0 e⟩) fun y ys i v h' tk e _ hv hk => ?_
    obtain ⟨t, rfl⟩ := holds_int hv
    obtain ⟨m1, m2⟩ := min_is y ys
    subst e
    exact ⟨.int _, H, I.kept hk, ⟨_, rfl⟩, h1 _ m1 m2⟩
theorem crk_max (hc : X.calm = true) (hu : X.A.units + 64 < cLine) : CallRK X (.builtin "max") ["default"] (rMaxDef X.K) := by
  intro pins s σ H xs zs us ws Q I r1 r2 h
  obtain ⟨a, ns, z, rfl, rfl, hs, h0, h1⟩ := h
  obtain ⟨its, rv, hl, _⟩ := I.list hs
  rw [Vals.ref1 r1]
  cases r2 with
  | cons rz r2 =>
    cases r2
    refine PySem.W.max_list_datum_default (α := Int) (I.ok.hd hc) hl.isList (hold_ints rv.ints) (by show _ + 1 + 0 < _; omega) (fun e h' tk hk => ⟨z, H, I.kept hk, rz, h0 e⟩) fun y ys i v h' tk e _ hv hk => ?_
    obtain ⟨t, rfl⟩ := holds_int hv
    obtain ⟨m1, m2⟩ := max_is y ys
    subst e
    exact ⟨.int _, H, I.kept hk, ⟨_, rfl⟩, h1 _ m1 m2⟩
def fMinDef (fa fd : FE) : FE := fun en Φ => fa en fun x e1 => fd e1 fun y e2 => ∃ ns : List Int, x = .lst (ns.map D.int) ∧ (ns = [] → Φ y e2) ∧ ∀ m ∈ ns, (∀ z ∈ ns, m ≤ z) → Φ (.int m) e2
theorem de_minDef {A : Am} {e d : Expr} {fa fd : FE} {p kp pos : Pos} (hu : X.A.units + 64 < cLine) (hg : Gl X "min") (hm : X.mg "min" = none) (he : DE X A e fa) (hd : DE X A d fd) (hc : X.calm = true := by rfl)
    (h1 : backTo pos (starEach [e] X.env) = (false, eval e X.env) :: backTo pos (starEach [] X.env) := by rfl) (h2 : (backTo pos (starEach [e] X.env)).any (·.1) = false := by rfl)
    (h3 : (backToKw pos (keywordEach [⟨some "default", d, kp⟩] X.env)).all (·.1.isSome) = true := by rfl) (h4 : (backToKw pos (keywordEach [⟨some "default", d, kp⟩] X.env)).any (·.1.isNone) = false := by rfl) (h5 : (backToKw pos (keywordEach [⟨some "default", d, kp⟩] X.env)).filterMap (·.1) = [("default" : Str)] := by rfl) (h6 : starEach [e] X.env = (false, eval e X.env) :: starEach [] X.env := by rfl) :
    DE X A (.Call (.Name "min" p) [e] [⟨some "default", d, kp⟩] pos) (fMinDef fa fd) :=
  pe_weak (pe_callBK (crk_min hc hu) hg hm (by decide +kernel) (pa_cons he pa_nil h6) (pk_cons hd pk_nil) (by decide) (by decide) h1 h2 h3 h4 h5) fun σ H Q ⟨F, G, en, Ψ, k, h, q⟩ => ⟨F, G, en, _, k, h, fun x e1 v G1 H1 z k1 s1 r1 => ⟨F, G1, e1, _, k1, z, fun y e2 v2 G2 H2 z2 k2 s2 r2 => by
    obtain ⟨ns, rfl, h0, hmin⟩ := z2
    obtain ⟨b, zs, rfl, hb, rz⟩ := rep_lst.mp (r1.mono s2.g)
    have ez := repA_ints_inv rz
    subst ez
    exact ⟨b, ns, v2, rfl, rfl, .inl (.inl (k2.ok.gh _ _ hb)), fun ee => q _ e2 _ G2 H2 (h0 ee) k2 (s1.trans s2) r2, fun m hm hle => q _ e2 _ G2 H2 (hmin m hm hle) k2 (s1.trans s2) (rep_int.mpr rfl)⟩⟩⟩
def fMaxDef (fa fd : FE) : FE := fun en Φ => fa en fun x e1 => fd e1 fun y e2 => ∃ ns : List Int, x = .lst (ns.map D.int) ∧ (ns = [] → Φ y e2) ∧ ∀ m ∈ ns, (∀ z ∈ ns, z ≤ m) → Φ (.int m) e2
theorem de_maxDef {A : Am} {e d : Expr} {fa fd : FE} {p kp pos : Pos} (hu : X.A.units + 64 < cLine) (hg : Gl X "max") (hm : X.mg "max" = none) (he : DE X A e fa) (hd : DE X A d fd) (hc : X.calm = true := by rfl)
    (h1 : backTo pos (starEach [e] X.env) = (false, eval e X.env) :: backTo pos (starEach [] X.env) := by rfl) (h2 : (backTo pos (starEach [e] X.env)).any (·.1) = false := by rfl)
    (h3 : (backToKw pos (keywordEach [⟨some "default", d, kp⟩] X.env)).all (·.1.isSome) = true := by rfl) (h4 : (backToKw pos (keywordEach [⟨some "default", d, kp⟩] X.env)).any (·.1.isNone) = false := by rfl) (h5 : (backToKw pos (keywordEach [⟨some "default", d, kp⟩] X.env)).filterMap (·.1) = [("default" : Str)] := by rfl) (h6 : starEach [e] X.env = (false, eval e X.env) :: starEach [] X.env := by rfl) :
    DE X A (.Call (.Name "max" p) [e] [⟨some "default", d, kp⟩] pos) (fMaxDef fa fd) :=
  pe_weak (pe_callBK (crk_max hc hu) hg hm (by decide +kernel) (pa_cons he pa_nil h6) (pk_cons hd pk_nil) (by decide) (by decide) h1 h2 h3 h4 h5) fun σ H Q ⟨F, G, en, Ψ, k, h, q⟩ => ⟨F, G, en, _, k, h, fun x e1 v G1 H1 z k1 s1 r1 => ⟨F, G1, e1, _, k1, z, fun y e2 v2 G2 H2 z2 k2 s2 r2 => by
    obtain ⟨ns, rfl, h0, hmin⟩ := z2
    obtain ⟨b, zs, rfl, hb, rz⟩ := rep_lst.mp (r1.mono s2.g)
    have ez := repA_ints_inv rz
    subst ez
    exact ⟨b, ns, v2, rfl, rfl, .inl (.inl (k2.ok.gh _ _ hb)), fun ee => q _ e2 _ G2 H2 (h0 ee) k2 (s1.trans s2) r2, fun m hm hle => q _ e2 _ G2 H2 (hmin m hm hle) k2 (s1.trans s2) (rep_int.mpr rfl)⟩⟩⟩
end
end Dz

namespace Dz
open PySem PySem.Spec PyProof.Rows L2
/-! ### [e for t in a if c for t1 in a1 if c1] -/
/-- what the inner for asks behind its source -/
def LcIn (g1 : FG) (ft1 : FT) (fe : FE) (vs1 : List Nat) (e4 : En) (items1 : List D) (acc : List D) (R : List D → Prop) : Prop := ∃ I1 : Nat → List D → Prop, I1 0 acc ∧
  (∀ j y acc1, items1[j]? = some y → I1 j acc1 → acc1.length < 100000 ∧ g1 y (wipeE e4 vs1) fun e5 => ft1 e5 fun b e6 =>
    if b = true then fe e6 fun d e7 => wipeE e7 vs1 = wipeE e4 vs1 ∧ I1 (j + 1) (acc1 ++ [d]) else wipeE e6 vs1 = wipeE e4 vs1 ∧ I1 (j + 1) acc1) ∧ ∀ acc1, I1 items1.length acc1 → R acc1
def LcGoal2 (g : FG) (ft : FT) (fi1 : FI) (g1 : FG) (ft1 : FT) (fe : FE) (vs vs1 : List Nat) (e1 : En) (items : List D) (Φ : D → En → Prop) : Prop := ∃ I : Nat → List D → Prop, I 0 [] ∧
  (∀ k x acc, items[k]? = some x → I k acc → g x (wipeE e1 vs) fun e2 => ft e2 fun b e3 =>
    if b = true then fi1 e3 fun items1 e4 => LcIn g1 ft1 fe vs1 e4 items1 acc fun acc1 => wipeE (wipeE e4 vs1) vs = wipeE e1 vs ∧ I (k + 1) acc1
    else wipeE e3 vs = wipeE e1 vs ∧ I (k + 1) acc) ∧ ∀ acc, I items.length acc → Φ (.lst acc) (wipeE e1 vs)
def fLc2 (fi : FI) (g : FG) (ft : FT) (fi1 : FI) (g1 : FG) (ft1 : FT) (fe : FE) (vs vs1 : List Nat) : FE := fun en Φ => fi en fun items e1 => LcGoal2 g ft fi1 g1 ft1 fe vs vs1 e1 items Φ
theorem le_lc2 {K : PySem.W.Frag} {A : Am} {fi fi1 : FI} {g g1 : FG} {ft ft1 : FT} {fe : FE} {vs vs1 : List Nat} {σ : L2.St} {H : Hp} {Q : VK} (h : LE K A (fLc2 fi g ft fi1 g1 ft1 fe vs vs1) σ H Q) :
    tLc2 (LI K A fi) (LG K A vs g) (LT K A ft) (LI K A fi1) (LG K A vs1 g1) (LT K A ft1) (LE K A fe) vs vs1 σ H Q := by
  obtain ⟨F, G, en, Ψ, k, h, q⟩ := h
  refine ⟨F, G, en, _, k, h, fun items e1 G1 H1 J hI k1 s1 Y Dd hD => ?_⟩
  obtain ⟨I, i0, it, id⟩ := hI
  obtain ⟨k2, gD, fD⟩ := k1.tmpAdd (u := .lst []) hD
  -- a step over the frame that holds the new list is a step over the frame behind it
  have thin : ∀ {xs : List V} {Ga Gb Gc : Hp}, Step F Ga Gb → Step (upd F Dd (.lst xs)) Gb Gc → Step F Ga Gc := fun {xs Ga Gb Gc} sa sb => ⟨fun z => sb.n (sa.n z), sa.g.trans sb.g, fun a u hu => by
    rw [← sa.f a u hu]
    refine sb.f a u ?_
    rw [upd_ne (fun z => by subst z; rw [fD] at hu; cases hu)]
    exact hu⟩
  refine ⟨fun i m H' => ∃ G' acc xs, I i acc ∧ EnvOk K A (upd F Dd (.lst xs)) G' H' σ (wipeE e1 vs) ∧ Step F G1 G' ∧ G' Dd = none ∧ RepA K G' acc xs ∧ i + m = items.length,
    ⟨items.length, G1, [], [], i0, (k2.wiped vs).unwipe, Step.refl _ _, gD, .nil, by omega⟩, fun i m H2 w => ?_⟩
  obtain ⟨G2, acc, xs, ia, k3, s3, g3, ra, hm⟩ := w
  by_cases hi : i < items.length
  · refine .inr ⟨Y.go G2 H2 i s3.g k3.ok.gh hi, fun H' => ∃ G' acc xs, I (i + 1) acc ∧ EnvOk K A (upd F Dd (.lst xs)) G' H' σ (wipeE e1 vs) ∧ Step F G1 G' ∧ G' Dd = none ∧ RepA K G' acc xs,
      fun H' ⟨G', acc, xs, a, b, c, d, e⟩ => ⟨m - 1, by omega, G', acc, xs, a, b, c, d, e, by omega⟩, fun x H' hy => ?_⟩
    obtain ⟨G4, g4, s4, r4⟩ := Y.yl G2 H2 i x H' _ s3.g k3.ok.gh (List.getElem?_eq_getElem hi) hy
    have k4 := k3.grow g4 s4
    have hturn := it i _ acc (List.getElem?_eq_getElem hi) ia
    have k4' : EnvOk K A (upd F Dd (.lst xs)) G4 H' (wipe σ vs) (wipeE e1 vs) := by
      have kk := k4.wiped vs
      rw [wipeE_wipeE] at kk
      exact kk
    have st4 := g4.step k3.ok.fh
    refine ⟨_, G4, _, _, _, k4', r4, hturn, fun e5 σ5 G5 H5 h5 k5 s5 w5 => ?_⟩
    have w5' : wipe σ5 vs = wipe σ vs := by rw [w5, wipe_wipe]
    refine ⟨w5', _, G5, e5, _, k5, h5, fun b e6 G6 H6 h6 k6 s6 => ?_⟩
    cases b with
    | true =>
      rw [if_pos rfl]
      refine ⟨_, G6, e6, _, k6, h6, fun items1 e7 G7 H7 J1 hI1 k7 s7 Y1 => ?_⟩
      obtain ⟨I1, j0, jt, jd⟩ := hI1
      have s27 : Step (upd F Dd (.lst xs)) G2 G7 := ((st4.trans s5).trans s6).trans s7
      have g7 : G7 Dd = none := by rw [s27.f Dd _ upd_same]; exact g3
      have sF : Step F G1 G7 := thin s3 s27
      refine ⟨fun j m H' => ∃ G' acc xs, I1 j acc ∧ EnvOk K A (upd F Dd (.lst xs)) G' H' σ5 (wipeE e7 vs1) ∧ Step F G7 G' ∧ G' Dd = none ∧ RepA K G' acc xs ∧ j + m = items1.length,
        ⟨items1.length, G7, acc, xs, j0, (k7.wiped vs1).unwipe, Step.refl _ _, g7, ra.mono s27.g, by omega⟩, fun j m H8 w8 => ?_⟩
      obtain ⟨G8, acc8, xs8, ja, k8, s8, g8, rb, hm8⟩ := w8
      by_cases hj : j < items1.length
      · refine .inr ⟨Y1.go G8 H8 j s8.g k8.ok.gh hj, fun H' => ∃ G' acc xs, I1 (j + 1) acc ∧ EnvOk K A (upd F Dd (.lst xs)) G' H' σ5 (wipeE e7 vs1) ∧ Step F G7 G' ∧ G' Dd = none ∧ RepA K G' acc xs,
          fun H' ⟨G', acc, xs, a, b, c, d, e⟩ => ⟨m - 1, by omega, G', acc, xs, a, b, c, d, e, by omega⟩, fun x H' hy => ?_⟩
        obtain ⟨G9, g9, s9, r9⟩ := Y1.yl G8 H8 j x H' _ s8.g k8.ok.gh (List.getElem?_eq_getElem hj) hy
        have k9 := k8.grow g9 s9
        obtain ⟨hlen, ht1⟩ := jt j _ acc8 (List.getElem?_eq_getElem hj) ja
        have k9' : EnvOk K A (upd F Dd (.lst xs8)) G9 H' (wipe σ5 vs1) (wipeE e7 vs1) := by
          have kk := k9.wiped vs1
          rw [wipeE_wipeE] at kk
          exact kk
        have st9 := g9.step k8.ok.fh
        refine ⟨_, G9, _, _, _, k9', r9, ht1, fun ea σa Ga Ha ha ka sa wa => ?_⟩
        have wa' : wipe σa vs1 = wipe σ5 vs1 := by rw [wa, wipe_wipe]
        refine ⟨wa', _, Ga, ea, _, ka, ha, fun b eb Gb Hb hb kb sb => ?_⟩
        cases b with
        | true =>
          rw [if_pos rfl]
          refine ⟨_, Gb, eb, _, kb, hb, fun d ec v Gc Hc hc kc sc rc => ?_⟩
          obtain ⟨we, ic⟩ := hc
          have hstep : Step (upd F Dd (.lst xs8)) G8 Gc := ((st9.trans sa).trans sb).trans sc
          have hDD : Hc Dd = some (.lst xs8) := kc.ok.fh _ _ upd_same
          have hGD : Gc Dd = none := by rw [hstep.f Dd _ upd_same]; exact g8
          refine ⟨xs8, hDD, by rw [rb.len]; exact Nat.lt_of_lt_of_le hlen (by decide), Gc, acc8 ++ [d], xs8 ++ [v], ic, ?_, thin s8 hstep, hGD, (rb.mono hstep.g).app (.cons rc .nil)⟩
          have kk := kc.wiped vs1
          rw [we, wa'] at kk
          exact (kk.unwipe).tmpSet hGD (k1.ok.bs.free fD) ⟨fun _ z => (by cases z), fun _ z => (by cases z)⟩
        | false =>
          rw [if_neg Bool.false_ne_true]
          obtain ⟨we, ic⟩ := hb
          have hstep : Step (upd F Dd (.lst xs8)) G8 Gb := (st9.trans sa).trans sb
          refine ⟨Gb, acc8, xs8, ic, ?_, thin s8 hstep, by rw [hstep.f Dd _ upd_same]; exact g8, rb.mono hstep.g⟩
          have kk := kb.wiped vs1
          rw [we, wa'] at kk
          exact kk.unwipe
      · have hjl : j = items1.length := by omega
        subst hjl
        refine .inl ⟨Y1.sp G8 H8 _ s8.g k8.ok.gh (Nat.le_refl _), ?_⟩
        obtain ⟨we, i9⟩ := jd acc8 ja
        refine ⟨G8, acc8, xs8, i9, ?_, ⟨fun z => s8.n (sF.n z), sF.g.trans s8.g, fun a u hu => by rw [← sF.f a u hu]; exact s8.f a u hu⟩, g8, rb⟩
        have kk := k8.wiped vs
        rw [we, w5'] at kk
        exact kk.unwipe
    | false =>
      rw [if_neg Bool.false_ne_true]
      obtain ⟨we, i7⟩ := h6
      have hstep : Step (upd F Dd (.lst xs)) G2 G6 := (st4.trans s5).trans s6
      refine ⟨G6, acc, xs, i7, ?_, thin s3 hstep, by rw [hstep.f Dd _ upd_same]; exact g3, ra.mono hstep.g⟩
      have kk := k6.wiped vs
      rw [we, w5'] at kk
      exact kk.unwipe
  · have hil : i = items.length := by omega
    subst hil
    refine .inl ⟨Y.sp G2 H2 _ s3.g k3.ok.gh (Nat.le_refl _), ?_⟩
    have kf := k3.tmpFrz g3 fD (k1.ok.bs.free fD) (fun _ z => by cases z)
    have sg : Same G2 (upd G2 Dd (.lst xs)) := same_new g3
    exact q _ _ (.ref Dd) (upd G2 Dd (.lst xs)) H2 (id acc ia) kf ((s1.trans s3).trans ⟨fun z => z.new (fun _ z => by cases z), sg, fun a u hu => upd_ne (fun z => by subst z; rw [fD] at hu; cases hu)⟩)
      (rep_lst.mpr ⟨Dd, xs, rfl, upd_same, ra.mono sg⟩)
section
variable {X : Cx} {A : Am}
theorem de_lc2 {elt tg iter tg1 iter1 : Expr} {ifs ifs1 : List Expr} {scope : Scope} {own : List (Str × Nat)} {vs1 : List Nat} {pos : Pos} {fi fi1 : FI} {g g1 : FG} {ft ft1 : FT} {fe : FE} (hc : X.calm = true) (hN : X.N.Nodup) (hi : DI X A tg iter fi) (ok : BlkOk X.N X.env.scope scope own) (hv : ∀ i ∈ vs1, i ∈ own.map (·.2))
    (hg : ∀ (s : Shared) (H : Hp) (C : Addr) (cl : List (Str × Addr)) (fp : List Addr), DG (X.blk s H scope (compEnvC scope cl C X.env) fp) A (own.map (·.2)) tg g) (ht : ∀ (s : Shared) (H : Hp) (C : Addr) (cl : List (Str × Addr)) (fp : List Addr), DTs (X.blk s H scope (compEnvC scope cl C X.env) fp) A ifs ft)
    (hi1 : ∀ (s : Shared) (H : Hp) (C : Addr) (cl : List (Str × Addr)) (fp : List Addr), DI (X.blk s H scope (compEnvC scope cl C X.env) fp) A tg1 iter1 fi1)
    (hg1 : ∀ (s : Shared) (H : Hp) (C : Addr) (cl : List (Str × Addr)) (fp : List Addr), DG (X.blk s H scope (compEnvC scope cl C X.env) fp) A vs1 tg1 g1) (ht1 : ∀ (s : Shared) (H : Hp) (C : Addr) (cl : List (Str × Addr)) (fp : List Addr), DTs (X.blk s H scope (compEnvC scope cl C X.env) fp) A ifs1 ft1)
    (he : ∀ (s : Shared) (H : Hp) (C : Addr) (cl : List (Str × Addr)) (fp : List Addr), DE (X.blk s H scope (compEnvC scope cl C X.env) fp) A elt fe) (hs : ∀ x, foldedSetIterable iter X.env x = pure x := by intro _; rfl) (hs1 : ∀ env x, foldedSetIterable iter1 env x = pure x := by intro _ _; rfl) :
    DE X A (.ListComp elt [⟨tg, iter, ifs, 0⟩, ⟨tg1, iter1, ifs1, 0⟩] scope pos) (fLc2 fi g ft fi1 g1 ft1 fe (own.map (·.2)) vs1) := pe_weak (pe_lc2 hc hN hi ok hv hg ht hi1 hg1 ht1 he hs hs1) fun _ _ _ h => le_lc2 h
theorem ds_setLc2 {i : Nat} {y : Str} {py : Pos} {elt tg iter tg1 iter1 : Expr} {ifs ifs1 : List Expr} {scope : Scope} {own : List (Str × Nat)} {vs1 : List Nat} {pos spos : Pos} {fi fi1 : FI} {g g1 : FG} {ft ft1 : FT} {fe : FE} (hc : X.calm = true) (hN : X.N.Nodup) (hy : X.N[i]? = some y) (hyl : X.env.scope.names.lookup y = some .local)
    (hsw : swapsWith (.ListComp elt [⟨tg, iter, ifs, 0⟩, ⟨tg1, iter1, ifs1, 0⟩] scope pos) (some (.Name y py)) spos.line X.env = pure true) (hi : DI X A tg iter fi) (ok : BlkOk X.N X.env.scope scope own) (hv : ∀ i ∈ vs1, i ∈ own.map (·.2))
    (hg : ∀ (s : Shared) (H : Hp) (C : Addr) (cl : List (Str × Addr)) (fp : List Addr), DG (X.blk s H scope (compEnvC scope cl C X.env) fp) A (own.map (·.2)) tg g) (ht : ∀ (s : Shared) (H : Hp) (C : Addr) (cl : List (Str × Addr)) (fp : List Addr), DTs (X.blk s H scope (compEnvC scope cl C X.env) fp) A ifs ft)
    (hi1 : ∀ (s : Shared) (H : Hp) (C : Addr) (cl : List (Str × Addr)) (fp : List Addr), DI (X.blk s H scope (compEnvC scope cl C X.env) fp) A tg1 iter1 fi1)
    (hg1 : ∀ (s : Shared) (H : Hp) (C : Addr) (cl : List (Str × Addr)) (fp : List Addr), DG (X.blk s H scope (compEnvC scope cl C X.env) fp) A vs1 tg1 g1) (ht1 : ∀ (s : Shared) (H : Hp) (C : Addr) (cl : List (Str × Addr)) (fp : List Addr), DTs (X.blk s H scope (compEnvC scope cl C X.env) fp) A ifs1 ft1)
    (he : ∀ (s : Shared) (H : Hp) (C : Addr) (cl : List (Str × Addr)) (fp : List Addr), DE (X.blk s H scope (compEnvC scope cl C X.env) fp) A elt fe) (hs : ∀ x, foldedSetIterable iter X.env x = pure x := by intro _; rfl) (hs1 : ∀ env x, foldedSetIterable iter1 env x = pure x := by intro _ _; rfl) :
    DS X A (.Assign [.Name y py] (.ListComp elt [⟨tg, iter, ifs, 0⟩, ⟨tg1, iter1, ifs1, 0⟩] scope pos) spos) (fAsg (fLc2 fi g ft fi1 g1 ft1 fe (own.map (·.2)) vs1) (gN i)) :=
  ps_weak (ps_setLc2 hc hN hy hyl hsw hi ok hv hg ht hi1 hg1 ht1 he hs hs1) fun Dd σ H ⟨F, G, en, Ψ, k, h, q1, _⟩ => by
    show tLc2 _ _ _ _ _ _ _ _ _ σ H fun x H1 => gName i x σ H1 Dd.nx
    refine le_lc2 ⟨F, G, en, _, k, h, fun d e1 v G1 H1 z k1 s1 r1 => ?_⟩
    exact q1 _ _ G1 H1 z (k1.put r1) s1
end
end Dz

namespace Dz
open PySem PySem.Spec PyProof.Rows L2
/-! ### a text (not) in a tuple of texts -/
theorem inV_strs {s : Str} : ∀ ss : List Str, inV (.str s) (ss.map V.str) = decide (s ∈ ss)
  | [] => rfl
  | a :: r => by
    have ih := inV_strs (s := s) r
    unfold inV at ih ⊢
    rw [List.map_cons, List.any_cons, ih]
    by_cases h : s = a
    · subst h; simp [eqV]
    · have h2 : ¬ a = s := fun z => h z.symm
      simp [eqV, h, h2]
theorem flat_strs (ss : List Str) : (ss.map V.str).all flatV = true := by
  rw [List.all_map, List.all_eq_true]
  intro x _
  rfl
def rNotInS : R2D := fun x y Φ => ∃ (s : Str) (ss : List Str), x = .str s ∧ y = .tup (ss.map D.str) ∧ Φ (.bl (!decide (s ∈ ss)))
def rInS : R2D := fun x y Φ => ∃ (s : Str) (ss : List Str), x = .str s ∧ y = .tup (ss.map D.str) ∧ Φ (.bl (decide (s ∈ ss)))
theorem opd_notinS {X : Cx} : OpR X (compareOp .NotIn) (LR2 X.K rNotInS) := opr_weak op_notIn_seq fun x y H Q ⟨G, dx, dy, Ψ, s, rx, ry, h, q⟩ => by
  obtain ⟨i, ns, rfl, rfl, z⟩ := h
  cases rep_str.mp rx
  obtain ⟨p, xs, rfl, sq, ra⟩ := rep_tup.mp ry
  cases repA_strs_inv ra
  exact ⟨p, _, rfl, .inr (sqt_mono s sq), rfl, flat_strs ns, by rw [inV_strs]; exact q _ _ G H z (Grow.refl _ _) s (rep_bl.mpr rfl)⟩
theorem opd_inS {X : Cx} : OpR X (compareOp .In) (LR2 X.K rInS) := opr_weak op_in_seq fun x y H Q ⟨G, dx, dy, Ψ, s, rx, ry, h, q⟩ => by
  obtain ⟨i, ns, rfl, rfl, z⟩ := h
  cases rep_str.mp rx
  obtain ⟨p, xs, rfl, sq, ra⟩ := rep_tup.mp ry
  cases repA_strs_inv ra
  exact ⟨p, _, rfl, .inr (sqt_mono s sq), rfl, flat_strs ns, by rw [inV_strs]; exact q _ _ G H z (Grow.refl _ _) s (rep_bl.mpr rfl)⟩
end Dz

namespace Dz
open PySem PySem.Spec PyProof.Rows L2
/-! ### a statement that is never met -/
def fFalseS : FS := fun _ _ => False
theorem ds_false {X : Cx} {A : Am} {s : Stmt} : DS X A s fFalseS := ⟨fun _ _ _ _ _ _ ⟨_, _, _, _, _, h, _⟩ => h.elim⟩
/-! ### list(range(..)) -/
section
variable {X : Cx} {A : Am} {a b e : Expr} {fa fb : FE}
abbrev FR := En → (Int → Int → En → Prop) → Prop
def LRg (K : PySem.W.Frag) (A : Am) (f : FR) : L2.St → Hp → (Int → Int → Hp → Prop) → Prop := fun σ H Q => ∃ (F G : Hp) (en : En) (Ψ : Int → Int → En → Prop), EnvOk K A F G H σ en ∧ f en Ψ ∧
  ∀ i j en' G' H', Ψ i j en' → EnvOk K A F G' H' σ en' → Step F G G' → Q i j H'
abbrev DR (X : Cx) (A : Am) (e : Expr) (f : FR) : Prop := PRg X e (LRg X.K A f)
def fRg1 (fa : FE) : FR := fun en Φ => fa en fun x e1 => ∃ n : Int, x = .int n ∧ Φ 0 n e1
def fRg2 (fa fb : FE) : FR := fun en Φ => fa en fun x e1 => fb e1 fun y e2 => ∃ i j : Int, x = .int i ∧ y = .int j ∧ Φ i j e2
theorem dr_1 {p pos : Pos} (hg : Gl X "range") (hm : X.mg "range" = none) (ha : DE X A a fa) (na : starEach [a] X.env = (false, eval a X.env) :: starEach [] X.env := by rfl) : DR X A (.Call (.Name "range" p) [a] [] pos) (fRg1 fa) :=
  fun pins s σ H Q I h => prg_1 (p := p) (pos := pos) hg hm ha na pins s σ H Q I (by
    obtain ⟨F, G, en, Ψ, k, h, q⟩ := h
    exact ⟨F, G, en, _, k, h, fun d e1 v G1 H1 z k1 s1 r1 => by
      obtain ⟨n, rfl, z⟩ := z
      exact ⟨n, rep_int.mp r1, q _ _ e1 G1 H1 z k1 s1⟩⟩)
theorem dr_2 {p pos : Pos} (hg : Gl X "range") (hm : X.mg "range" = none) (ha : DE X A a fa) (hb : DE X A b fb) (na : starEach [a, b] X.env = (false, eval a X.env) :: starEach [b] X.env := by rfl)
    (nb : starEach [b] X.env = (false, eval b X.env) :: starEach [] X.env := by rfl) (hp : (backTo pos (starEach [b] X.env)).any (·.1) = false := by rfl) : DR X A (.Call (.Name "range" p) [a, b] [] pos) (fRg2 fa fb) :=
  fun pins s σ H Q I h => prg_2 (p := p) (pos := pos) hg hm ha hb na nb hp pins s σ H Q I (by
    obtain ⟨F, G, en, Ψ, k, h, q⟩ := h
    exact ⟨F, G, en, _, k, h, fun d e1 v G1 H1 z k1 s1 r1 => ⟨F, G1, e1, _, k1, z, fun y e2 v2 G2 H2 z2 k2 s2 r2 => by
      obtain ⟨i, j, rfl, rfl, z2⟩ := z2
      exact ⟨i, j, rep_int.mp r1, rep_int.mp r2, q _ _ e2 G2 H2 z2 k2 (s1.trans s2)⟩⟩⟩)
def rgD (i j : Int) : List D := (List.range (j - i).toNat).map fun k : Nat => D.int (i + (k : Int))
theorem repA_rg {K : PySem.W.Frag} {G : Hp} (i j : Int) : RepA K G (rgD i j) (rgV i j) := by
  unfold rgD rgV
  have := RepA.ints (K := K) (G := G) ((List.range (j - i).toNat).map fun k : Nat => i + (k : Int))
  rw [List.map_map, List.map_map] at this
  exact this
def fLstRg (f : FR) : FE := fun en Φ => f en fun i j e1 => (-100000 ≤ i ∧ i ≤ 100000 ∧ -100000 ≤ j ∧ j ≤ 100000) ∧ Φ (.lst (rgD i j)) e1
theorem de_listRg {p pos : Pos} {f : FR} (hc : X.calm = true) (hg : Gl X "list") (hm : X.mg "list" = none) (he : DR X A e f) (na : starEach [e] X.env = (false, eval e X.env) :: starEach [] X.env := by rfl) : DE X A (.Call (.Name "list" p) [e] [] pos) (fLstRg f) :=
  pe_weak (pe_listRg hc hg hm he na) fun σ H Q ⟨F, G, en, Ψ, k, h, q⟩ => ⟨F, G, en, _, k, h, fun i j e1 G1 H1 z k1 s1 => by
    obtain ⟨⟨b1, b2, b3, b4⟩, z⟩ := z
    refine ⟨⟨by omega, by omega, by omega, by omega, by omega⟩, fun p hp => ?_⟩
    have g : Grow G1 H1 (upd G1 p (.lst (rgV i j))) (upd H1 p (.lst (rgV i j))) := Grow.new k1.ok.gh hp
    exact q _ e1 _ _ _ z (k1.grow g (same_upd2 k1.ok.gh)) (s1.trans (g.step k1.ok.fh)) (rep_lst.mpr ⟨p, _, rfl, upd_same, (repA_rg i j).mono g.g⟩)⟩
end
/-! ### {text: text, ..} -/
section
variable {X : Cx} {A : Am}
def strPs (kvs : List (Str × Str)) : List (TE × TE) := kvs.map fun kv => (tC (.str kv.1), tC (.str kv.2))
theorem cps_nil {pos : Pos} : PPs X pos [] [] (strPs []) := pps_nil
theorem cps_cons {pos p1 p2 : Pos} {x y : Str} {j1 j2} {ks : List (Option Expr)} {vs : List Expr} {kvs : List (Str × Str)} (h : PPs X pos ks vs (strPs kvs)) :
    PPs X pos (some (.Constant (.str x) j1 p1) :: ks) (.Constant (.str y) j2 p2 :: vs) (strPs ((x, y) :: kvs)) := pps_cons pe_str pe_str h
theorem pairs_str (σ : L2.St) (Q : List (V × V) → Hp → Prop) : ∀ (kvs : List (Str × Str)) (H : Hp) (acc : List (V × V) → List (V × V)), Q (acc (kvs.map fun kv => (V.str kv.1, V.str kv.2))) H → tPairs (strPs kvs) σ H (fun ps H2 => Q (acc ps) H2)
  | [], H, acc, h => h
  | kv :: r, H, acc, h => pairs_str σ Q r H (fun ps => acc ((V.str kv.1, V.str kv.2) :: ps)) h
def fDispS (kvs : List (Str × Str)) : FE := fun en Φ => Φ (.dct (kvs.map fun kv => Sum.inr kv.1) (kvs.map fun kv => .str kv.2)) en
theorem zip_of (kvs : List (Str × Str)) : (kvs.map fun kv => (Sum.inr kv.1 : Key)).zip (kvs.map fun kv => V.str kv.2) = kvs.map fun kv => (Sum.inr kv.1, V.str kv.2) := by
  induction kvs with
  | nil => rfl
  | cons a r ih => rw [List.map_cons, List.map_cons, List.zip_cons_cons, ih, List.map_cons]
theorem repA_str2 {K : PySem.W.Frag} {G : Hp} (kvs : List (Str × Str)) : RepA K G (kvs.map fun kv => D.str kv.2) (kvs.map fun kv => V.str kv.2) := by
  have := repA_strs (K := K) (G := G) (kvs.map (·.2))
  rw [List.map_map, List.map_map] at this
  exact this
theorem de_dispS {pos : Pos} {keys : List (Option Expr)} {values : List Expr} (kvs : List (Str × Str)) (h : PPs X pos keys values (strPs kvs)) (hl2 : keys.length = kvs.length) (hm : mergeK [] (kvs.map fun kv => (Sum.inr kv.1, V.str kv.2)) = kvs.map fun kv => (Sum.inr kv.1, V.str kv.2))
    (hall : keys.all (·.isSome) = true := by rfl) (hl : keys.length = values.length := by rfl) (h0 : keys ≠ [] := by exact fun z => nomatch z) (h15 : keys.length ≤ 15 := by decide) : DE X A (.Dict keys values pos) (fDispS kvs) :=
  pe_weak (pe_disp h hall hl h0 h15) fun σ H Q ⟨F, G, en, Ψ, k, h, q⟩ => fun p hp => pairs_str σ (fun ps H2 => H2 p = some (.dK []) ∧ ∃ kvs : List (Key × V), ps = kvs.map (fun kv => (kV kv.1, kv.2)) ∧ kvs.length ≤ 15 ∧ Q (.ref p) (upd H2 p (.dK (mergeK [] kvs)))) kvs _ id ⟨upd_same, kvs.map fun kv => (Sum.inr kv.1, V.str kv.2), by rw [List.map_map]; rfl, by rw [List.length_map, ← hl2]; exact h15, by
    rw [hm, upd_upd]
    have g : Grow G H (upd G p (.dK (kvs.map fun kv => (Sum.inr kv.1, V.str kv.2)))) (upd H p (.dK (kvs.map fun kv => (Sum.inr kv.1, V.str kv.2)))) := Grow.new k.ok.gh hp
    refine q _ en _ _ _ h (k.grow g (same_upd2 k.ok.gh)) (g.step k.ok.fh) (rep_dct.mpr ⟨p, kvs.map fun kv => V.str kv.2, rfl, ?_, (repA_str2 kvs).mono g.g, by rw [List.length_map, List.length_map]⟩)
    rw [zip_of]
    exact upd_same⟩
end
/-! ### x[lo:hi:step] of a list -/
def pickL {α : Type} (xs : List α) (lo hi st : Option Int) : List α := (sliceRange (sliceBounds lo hi st xs.length).1 (sliceBounds lo hi st xs.length).2.1 (sliceBounds lo hi st xs.length).2.2).filterMap (xs[·]?)
theorem mem_pickL {α : Type} {xs : List α} {lo hi st : Option Int} {x : α} (h : x ∈ pickL xs lo hi st) : x ∈ xs := by
  unfold pickL at h
  obtain ⟨i, _, e⟩ := List.mem_filterMap.mp h
  exact List.mem_of_getElem? e
theorem repA_fm {K : PySem.W.Frag} {G : Hp} {l : List D} {xs : List V} (r : RepA K G l xs) : ∀ idx : List Nat, RepA K G (idx.filterMap (l[·]?)) (idx.filterMap (xs[·]?))
  | [] => .nil
  | i :: t => by
    rw [List.filterMap_cons, List.filterMap_cons]
    cases e : l[i]? with
    | none =>
      have : xs[i]? = none := by
        rw [List.getElem?_eq_none_iff, r.len]
        exact List.getElem?_eq_none_iff.mp e
      simp only [this]
      exact repA_fm r t
    | some d =>
      obtain ⟨x, e2, rx⟩ := r.get e
      simp only [e2]
      exact .cons rx (repA_fm r t)
theorem vals_fm {xs : List V} {us : List Value} (r : Vals xs us) : ∀ idx : List Nat, Vals (idx.filterMap (xs[·]?)) (idx.filterMap (us[·]?))
  | [] => .nil
  | i :: t => by
    rw [List.filterMap_cons, List.filterMap_cons]
    cases e : xs[i]? with
    | none =>
      simp only [r.none_of e]
      exact vals_fm r t
    | some d =>
      obtain ⟨x, e2, rx⟩ := r.get e
      simp only [e2]
      exact .cons rx (vals_fm r t)
theorem pickL_len {α : Type} (xs : List α) (lo hi st : Option Int) : (pickL xs lo hi st).length ≤ xs.length := by
  have hl : (pickL xs lo hi st).length ≤ (sliceRange (sliceBounds lo hi st xs.length).1 (sliceBounds lo hi st xs.length).2.1 (sliceBounds lo hi st xs.length).2.2).length := List.length_filterMap_le _ _
  refine Nat.le_trans hl (sliceRange_length_le _ _ _ _ ?_ ?_)
  all_goals intro hc
  all_goals simp only [sliceBounds] at hc ⊢
  all_goals simp only [hc, if_true, if_false]
  all_goals constructor
  · cases lo <;> simp only [] <;> omega
  · cases hi <;> simp only [] <;> omega
  · cases lo <;> simp only [] <;> omega
  · cases hi <;> simp only [] <;> omega
section
variable {X : Cx} {A : Am}
def tSl3 (K : PySem.W.Frag) (te : TE) (tl th ts : TO) : TE := fun σ H Q => te σ H fun x H1 => tl σ H1 fun l H2 => th σ H2 fun u H3 => ts σ H3 fun st H4 => ∃ a xs, x = .ref a ∧ SqL K H4 a xs ∧ st ≠ some 0 ∧ ∀ p, H4 p = none → Q (.ref p) (upd H4 p (.lst (pickL xs l u st)))
theorem pe_slice3 {e st : Expr} {lo hi : Option Expr} {te : TE} {tl th ts : TO} {p2 pos : Pos} (he : PE X e te) (hl : PO X lo tl) (hu : PO X hi th) (hs : PO X (some st) ts) : PE X (.Subscript e (.Slice lo hi (some st) p2) pos) (tSl3 X.K te tl th ts) := by
  refine ⟨fun pins s σ H Q I h => Subscript_ (thn (he.run pins s σ H _ I h) fun v s1 ⟨x, H1, I1, r1, q1⟩ => ?_)⟩
  refine wpAny_Slice (thn (hl.run pins s1 σ H1 _ I1 q1) fun vl s2 ⟨l, H2, I2, pl, q2⟩ => thn (hu.run pins s2 σ H2 _ I2 q2) fun vu s3 ⟨u, H3, I3, pu, q3⟩ => thn (hs.run pins s3 σ H3 _ I3 q3) fun vs s4 ⟨o, H4, I4, ps, q4⟩ => ?_)
  obtain ⟨a, xs, ex, hx, h0, q⟩ := q4
  subst ex
  cases r1
  have I5 : Inv X pins σ H4 { s4 with heap := s4.heap.push { cls := .type "slice", data := .fields #[vl, vu, vs] } } := I4.kept (t' := s4.toks) fun b ob z => Heap.get?_push_of_some _ z
  obtain ⟨its, r, ht, hz⟩ := I5.list hx
  have hlen := r.length
  show wpAny (model X.prog X.w) X.A (subscriptTail e (.Slice lo hi (some st) p2) (.ref a) (.ref s4.heap.objs.size)) (EP X pins σ Q) X.xe { s4 with heap := s4.heap.push { cls := .type "slice", data := .fields #[vl, vu, vs] } }
  refine tail_any (ops := [.ref a, .ref s4.heap.objs.size]) ht.isList.typeIs (PySem.slot_list_getitem.lookup) ?_ (by with_unfolding_all rfl)
  have hsz : its.toArray.size ≤ sizeLine := by rw [List.size_toArray]; omega
  refine wpAny_getItem_list_slice ht.isList (Heap.IsSliceOf.new _ vl vu vs) pl pu ps h0 ?_ hsz
  have ep : slicePick its.toArray l u o = (pickL its l u o).toArray := by
    unfold slicePick pickL
    rw [List.size_toArray]
    simp only [List.getElem?_toArray]
  rw [ep]
  refine ⟨.ref _, _, I5.laid (t' := s4.toks) (o := .lst (pickL xs l u o)) (fun b ob z => Heap.get?_push_of_some _ z) (Nat.le_refl _) ?_, rfl, q _ (I5.hok.fresh (Nat.le_refl _))⟩
  refine ⟨Nat.le_trans (pickL_len _ _ _ _) hz, pickL its l u o, 0, ?_, Heap.get?_push_size _ rfl⟩
  unfold pickL
  rw [hlen]
  exact vals_fm r _
def fSlice3 (fa : FE) (fl fu fs : FO) : FE := fun en Φ => fa en fun x e1 => fl e1 fun l e2 => fu e2 fun u e3 => fs e3 fun st e4 => ∃ w, x = .lst w ∧ st ≠ some 0 ∧ Φ (.lst (pickL w l u st)) e4
theorem de_slice3 {e st : Expr} {lo hi : Option Expr} {p2 pos : Pos} {fa : FE} {fl fu fs : FO} (he : DE X A e fa) (hl : DO X A lo fl) (hu : DO X A hi fu) (hs : DO X A (some st) fs) : DE X A (.Subscript e (.Slice lo hi (some st) p2) pos) (fSlice3 fa fl fu fs) :=
  pe_weak (pe_slice3 he hl hu hs) fun σ H Q ⟨F, G, en, Ψ, k, h, q⟩ => ⟨F, G, en, _, k, h, fun x e1 v G1 H1 z k1 s1 r1 => ⟨F, G1, e1, _, k1, z, fun l e2 G2 H2 z k2 s2 => ⟨F, G2, e2, _, k2, z, fun u e3 G3 H3 z k3 s3 => ⟨F, G3, e3, _, k3, z, fun st e4 G4 H4 z k4 s4 => by
    obtain ⟨w, rfl, h0, z⟩ := z
    have s14 := s2.trans (s3.trans s4)
    obtain ⟨p, xs, rfl, sq, ra⟩ := rep_lst.mp (r1.mono s14.g)
    refine ⟨p, xs, rfl, .inl (.inl (k4.ok.gh _ _ sq)), h0, fun p' hp => ?_⟩
    have g : Grow G4 H4 (upd G4 p' (.lst (pickL xs l u st))) (upd H4 p' (.lst (pickL xs l u st))) := Grow.new k4.ok.gh hp
    refine q _ e4 _ _ _ z (k4.grow g (same_upd2 k4.ok.gh)) ((s1.trans s14).trans (g.step k4.ok.fh)) (rep_lst.mpr ⟨p', _, rfl, upd_same, RepA.mono g.g _ _ ?_⟩)
    unfold pickL
    rw [ra.len]
    exact repA_fm ra _⟩⟩⟩⟩
end
end Dz

/-! enumerate(tuple) -/
namespace Dz
open PySem PySem.Spec PyProof.Rows L2
section
open AutoSeq1 (wpAny_loadPart')
abbrev itCell (p : Addr) : Obj := { cls := .type "tuple_iterator", data := .fields #[.ref p, .int 0 0] }
abbrev enCell (i : Addr) : Obj := { cls := .type "enumerate", data := .fields #[.none, .bool false, .ref i, rawInt 0, .none, .none] }
theorem meets_enumT (p : Addr) (its : Array Value) : Meets (Builtin.«enumerate.__new__» ⟨[.type "enumerate", .ref p], []⟩) (fun _ R u => u.heap.IsTuple p its ∧
    R (.ok (.ret (.ref (u.heap.push (itCell p)).objs.size))) { u with heap := (u.heap.push (itCell p)).push (enCell u.heap.objs.size) }) :=
  .of_wp fun prg wd Ar R u hu => by
    obtain ⟨hp, gg, dd, kk, oo⟩ := u
    obtain ⟨hl, hr⟩ := hu
    have hsub := sub_enumerate
    have hT : Heap.IsTuple (Shared.heap ⟨hp, gg, dd, kk, oo⟩) p its := hl
    have q1 : ∀ {B : Around} {E : Value → Shared → Prop} {Q : Value → Shared → Prop}, Q (.ref hp.objs.size) ⟨hp.push (itCell p), gg, dd, kk, oo⟩ → wpAny (model prg wd) B (pyIter (.ref p)) Q E ⟨hp, gg, dd, kk, oo⟩ :=
      fun q => wpAny_pyIter_tuple hT q
    wp_walk using q1
    refine wpAny_stack_any fun sk => wpAny_pure ?_
    split
    · rename_i cc _ _ _ _ _
      cases (cc == Value.type "enumerate") <;> (wp_walk using q1; exact ⟨_, rfl, hr⟩)
    · wp_walk using q1
      exact ⟨_, rfl, hr⟩
theorem call_enumT {prg : Program} {wd : World} {Ar : Around} {E : Value → Shared → Prop} {u : Shared} {p : Addr} {its : Array Value} {Q : Value → Shared → Prop} (hl : u.heap.IsTuple p its)
    (k : ∀ h', IsEnum h' (u.heap.objs.size + 1) u.heap.objs.size 0 .none → h'.IsTupleIter u.heap.objs.size p 0 → (∀ b o, u.heap.get? b = some o → h'.get? b = some o) → Q (.ref (u.heap.objs.size + 1)) { u with heap := h' }) :
    wpAny (model prg wd) Ar (call (.type "enumerate") [.ref p]) Q E u := by
  have hz : (u.heap.push (itCell p)).objs.size = u.heap.objs.size + 1 := Heap.size_push ..
  have he : IsEnum ((u.heap.push (itCell p)).push (enCell u.heap.objs.size)) (u.heap.objs.size + 1) u.heap.objs.size 0 .none := by
    rw [← hz]
    exact Heap.get?_push_size _ rfl
  refine callType_new F.called_enumerate (by decide) (F.typeCall_enumerate_1 _) (F.newCall_enumerate_1 _) (fun ob => F.args_object_init_2 ob _) F.entry_enumerate_new (meets_enumT p its) ⟨hl, ?_⟩
  show _ ∧ _
  rw [hz]
  exact ⟨⟨_, he, rfl⟩, k _ he ⟨_, Heap.get?_push_of_some _ (Heap.get?_push_size _ rfl), rfl, rfl⟩ fun b o z => Heap.get?_push_of_some _ (Heap.get?_push_of_some _ z)⟩
end
/-- the tuple at a, each item in a new pair -/
def IteT (K : PySem.W.Frag) (a : Addr) : It :=
  ⟨fun i H => ∃ (xs : List V) (x : V), SqT K H a xs ∧ xs[i]? = some x, fun i H v H' => ∃ T x, v = .ref T ∧ H T = none ∧ H' = upd H T (.tup [.int (i : Nat), x]) ∧ ∀ xs, SqT K H a xs → xs[i]? = some x, fun i H => ∃ xs : List V, SqT K H a xs ∧ xs.length ≤ i⟩
theorem turn_enumT {P : Program} {w : World} {K : PySem.W.Frag} {elts : List Expr} {kk : Nat} {tpos : Pos} (a e it : Addr) :
    Turn P w K (.Tuple elts kk tpos) (IteT K a) [e, it] e (fun i h => (∃ old, IsEnum h e it ((i : Nat) : Int) old) ∧ h.IsTupleIter it a i ∧ e ≠ it) where
  mem := List.mem_cons_self
  obj := fun i h st b hb => by
    obtain ⟨⟨old, he⟩, ⟨o, ho, hc, hd⟩, _⟩ := st
    rcases List.mem_cons.mp hb with z | z
    · exact ⟨_, z ▸ he, fun v q => by cases q⟩
    · exact ⟨o, (List.mem_singleton.mp z) ▸ ho, fun v q => by rw [hd] at q; cases q⟩
  keep := fun i h h' st k => by
    obtain ⟨⟨old, he⟩, hi, hne⟩ := st
    exact ⟨⟨old, k e List.mem_cons_self _ he⟩, hi.at fun o q => k it (List.mem_cons_of_mem _ List.mem_cons_self) o q, hne⟩
  item := by
    intro X hP hw hK hc i pins s σ H E I hf st hg
    cases hP; cases hw; cases hK
    obtain ⟨⟨old, he⟩, hit, hne⟩ := st
    obtain ⟨xs, x, hq, hx⟩ := hg
    obtain ⟨its, rv, tp, hz⟩ := I.tuple hq
    obtain ⟨u, hu, ru⟩ := rv.get hx
    have hel : e < s.heap.objs.size := Heap.lt_size he
    have hil : it < s.heap.objs.size := by obtain ⟨_, q, _⟩ := hit; exact Heap.lt_size q
    have hai : a ≠ it := by
      rintro rfl
      obtain ⟨o, ho, hcl, _⟩ := hit
      obtain ⟨o', ho', hcl', _⟩ := tp
      rw [ho] at ho'
      cases ho'
      rw [hcl] at hcl'
      exact absurd hcl' (by decide)
    have hae : e ≠ a := by
      rintro rfl
      obtain ⟨o', ho', hcl', _⟩ := tp
      rw [he] at ho'
      cases ho'
      have hcl' : Value.type "enumerate" = Value.type "tuple" := hcl'
      exact absurd hcl' (by decide)
    have hef : e ∉ [it, a] := by
      intro z
      rcases List.mem_cons.mp z with z | z
      · exact hne z
      · exact hae (List.mem_singleton.mp z)
    have hlt : i < its.toArray.size := by
      rw [List.size_toArray]
      exact (List.getElem?_eq_some_iff.mp hu).1
    refine wpAny_pyNext_enum_itemD (Draws.tuple (A := X.A.in1) (show X.A.in1.handled = none from I.ok.hd hc) it a hai its.toArray) he ⟨hit, tp⟩ hlt hne hef fun y h' tk hy ho hst hT hsz hk => ?_
    have hyu : y = u := by
      have : its.toArray[i]? = some u := by simpa using hu
      rw [this] at hy
      exact (Option.some.inj hy).symm
    subst hyu
    refine ⟨_, rfl, wpAny_letOwnedTupleGo_enum (s := { s with heap := h', toks := tk + 1 }) ho fun h'' he' sb => ?_⟩
    have hT2 : h''.get? s.heap.objs.size = some { cls := .type "tuple", data := .seq #[.int i tk, y] } := (sb.2 _ (Nat.ne_of_gt hel)).trans hT
    have new : ObjOk X.prog X.w (upd H s.heap.objs.size (.tup [.int (i : Nat), x])) h'' s.heap.objs.size (.tup [.int (i : Nat), x]) := ⟨by show 2 ≤ sizeLine; decide, [.int i tk, y], .cons ⟨_, rfl⟩ (.cons ru .nil), _, hT2, rfl, _, rfl⟩
    have I1 : L2.Inv X pins σ (upd H s.heap.objs.size (.tup [.int (i : Nat), x])) { s with heap := h'', toks := tk + 1 } := by
      refine I.turnedNew (ch := [e, it]) (fun b ob hb q => ?_) hf (Nat.le_refl _) new
      have hbe : b ≠ e := fun z => hb (z ▸ List.mem_cons_self)
      have hbi : b ≠ it := fun z => hb (z ▸ List.mem_cons_of_mem _ List.mem_cons_self)
      exact (sb.2 b hbe).trans (hk b ob hbe hbi q)
    refine ⟨.ref s.heap.objs.size, _, I1, rfl, ⟨_, x, rfl, I.hok.fresh (Nat.le_refl _), rfl, fun ys hy2 => ?_⟩, ⟨⟨y, ?_⟩, hst.1.at fun o q => (sb.2 it (Ne.symm hne)).trans q, hne⟩, fun b hb => ?_⟩
    · rw [I.tuple_inj hy2 hq]; exact hx
    · have e1 : ((i + 1 : Nat) : Int) = (i : Int) + 1 := by omega
      rw [e1]
      exact he'
    · have hb' : b < s.heap.objs.size := by
        rcases List.mem_cons.mp hb with z | z
        · exact z ▸ hel
        · exact (List.mem_singleton.mp z) ▸ hil
      rw [upd_ne (Nat.ne_of_lt hb')]
      exact (hf b hb).1
  done := by
    intro X hP hw hK hc i pins s σ H E I hf st hg
    cases hP; cases hw; cases hK
    obtain ⟨⟨old, he⟩, hit, hne⟩ := st
    obtain ⟨xs, hq, hx⟩ := hg
    obtain ⟨its, rv, tp, hz⟩ := I.tuple hq
    obtain ⟨f0, f1, f2, f3, f4, f5⟩ := hf it (List.mem_cons_of_mem _ List.mem_cons_self)
    have hl := rv.length
    have hnone : its.toArray[i]? = none := by
      simp only [List.getElem?_toArray]
      exact List.getElem?_eq_none (by omega)
    have D : Draws X.prog X.w X.A.in1 it [it, a] i (fun _ _ => True) (fun j h => j = i ∧ h.IsTupleIter it a j ∧ h.IsTuple a its.toArray) :=
      { live := fun j h st => by obtain ⟨_, ⟨o, ho, _⟩, _⟩ := st; exact ⟨o, ho⟩
        frame := fun j h h' st k => ⟨st.1, st.2.1.at fun o q => k it List.mem_cons_self o q, st.2.2.at fun o q => k a (List.mem_cons_of_mem _ List.mem_cons_self) o q⟩
        item := fun j u Q E' hj st _ => absurd st.1 (Nat.ne_of_lt hj)
        done := fun u Q E' st hE => wpAny_nextOf_tuple_end (show X.A.in1.handled = none from I.ok.hd hc) st.2.1 st.2.2 hnone hE }
    exact wpAny_pyNext_enum_endD D he ⟨rfl, hit, tp⟩ fun h' eb => ⟨rfl, I.turned (t' := s.toks) (fun b o hb q => eb b o hb q) f0 f1 f3 f4 f5⟩
  self := fun A i s Q E st h => let ⟨⟨_, he⟩, _⟩ := st; wpAny_pyIter_enum he h
def iEnumT (K : PySem.W.Frag) (ta : TA) : TI := fun σ H R => ta σ H fun vs H1 => ∃ a xs, vs = [.ref a] ∧ SqT K H1 a xs ∧ R (IteT K a) H1
theorem pi_enumT {X : Cx} {e : Expr} {ta : TA} {p pos tpos : Pos} {elts : List Expr} {kk : Nat} (hg : Gl X "enumerate") (hm : X.mg "enumerate" = none) (ha : PA X [e] ta) (hs : starEach [e] X.env = [(false, eval e X.env)] := by rfl) :
    PI X (.Tuple elts kk tpos) (.Call (.Name "enumerate" p) [e] [] pos) (iEnumT X.K ta) := by
  refine ⟨fun pins s σ H R I h => Call_ (ld_blt I hg hm boot_enumerate (PyProof.Rows.callWith_type1 (thn (ha.run pos pins s σ H _ I h) fun us s1 ⟨vs, H1, I1, r1, q1⟩ => ?_) hs rfl))⟩
  obtain ⟨a, xs, ex, hq, q⟩ := q1
  subst ex
  cases r1 with
  | cons r rr =>
    cases rr
    cases r
    obtain ⟨its, rv, tp, hz⟩ := I1.tuple hq
    refine call_enumT (its := its.toArray) tp fun h' he hit hk => wpAny_pyIter_enum he ?_
    have I2 : L2.Inv X pins σ H1 { s1 with heap := h' } := I1.kept (t' := s1.toks) hk
    refine ⟨s1.heap.objs.size + 1, [s1.heap.objs.size + 1, s1.heap.objs.size], _, _, H1, rfl, I2, turn_enumT a (s1.heap.objs.size + 1) s1.heap.objs.size, ⟨⟨.none, he⟩, hit, Nat.succ_ne_self _⟩, fun b hb => ?_, q⟩
    have hle : s1.heap.objs.size ≤ b := by
      rcases List.mem_cons.mp hb with z | z
      · rw [z]; exact Nat.le_add_right _ _
      · rw [List.mem_singleton.mp z]; exact Nat.le_refl _
    exact I1.fpOk hle (I1.hok.fresh hle)
section
variable {K : PySem.W.Frag} {G : Hp} {a : Addr} {xs : List V} {la : List D}
theorem yl_enuT (sa : SqT K G a xs) (ra : RepA K G la xs) : Yl K (IteT K a) G (enuD la) where
  go := fun G1 H1 k g h hk => by
    rw [enuD_len] at hk
    exact ⟨xs, _, sqt_mono h (sqt_mono g sa), List.getElem?_eq_getElem (by rw [ra.len]; omega)⟩
  yl := fun G1 H1 k x H2 d g h hd hy => by
    obtain ⟨T, v, rfl, hT, rfl, h1⟩ := hy
    obtain ⟨dx, e1, rfl⟩ := enuD_get hd
    obtain ⟨v', f1, f2⟩ := ra.get e1
    rw [h1 xs (sqt_mono h (sqt_mono g sa))] at f1
    cases f1
    exact pairT h hT (rep_int.mpr rfl) (f2.mono g)
  sp := fun G1 H1 k g h hk => by
    rw [enuD_len] at hk
    exact ⟨xs, sqt_mono h (sqt_mono g sa), by rw [ra.len]; omega⟩
end
def fIEnuT (fr : FA) : FI := fun en Φ => fr en fun ds e => ∃ la, ds = [.tup la] ∧ Φ (enuD la) e
theorem di_enuT {X : Cx} {A : Am} {e : Expr} {elts : List Expr} {kk : Nat} {p pos tpos : Pos} {fr : FA} (hg : Gl X "enumerate") (hm : X.mg "enumerate" = none) (ha : DA X A [e] fr) (hs : starEach [e] X.env = [(false, eval e X.env)] := by rfl) :
    DI X A (.Tuple elts kk tpos) (.Call (.Name "enumerate" p) [e] [] pos) (fIEnuT fr) := pi_weak (pi_enumT hg hm ha hs) fun σ H R ⟨F, G, en, Ψ, k, h, q⟩ =>
  ⟨F, G, en, _, k, h, fun ds e1 vs G1 H1 z k1 s1 r1 => by
    obtain ⟨la, rfl, z⟩ := z
    obtain ⟨v, rfl, rx⟩ := repA_1 r1
    obtain ⟨pa, xs, rfl, sa, ra⟩ := rep_tup.mp rx
    exact ⟨pa, xs, rfl, sqt_mono k1.ok.gh sa, q _ e1 G1 H1 _ z k1 s1 (yl_enuT sa ra)⟩⟩
end Dz

namespace Dz
open PySem PySem.Spec PyProof.Rows L2
/-! ### a changing list that is read and goes on changing -/
section
variable {X : Cx} {A : Am} {pos : Pos}
def fLenC (i : Nat) : FE := fun en Φ => ∃ l, gt en i = .cel (.lst l) ∧ Φ (.int (l.length : Nat)) en
theorem de_lenC (i : Nat) {x : Str} {p px : Pos} (hg : Gl X "len") (hm : X.mg "len" = none) (hN : X.N[i]? = some x := by rfl) (hv : Vis X.env.scope x := by first | exact Or.inl rfl | exact Or.inr (Or.inl rfl) | exact Or.inr (Or.inr rfl)) (hd : (x == ("__debug__" : Str)) = false := by decide)
    (hcd : (x == ("__classdict__" : Str)) = false := by decide) (he : starEach [.Name x px] X.env = (false, eval (.Name x px) X.env) :: starEach [] X.env := by rfl) (hpl : (backTo pos (starEach [] X.env)).any (·.1) = false := by rfl) : DE X A (.Call (.Name "len" p) [.Name x px] [] pos) (fLenC i) :=
  pe_weak (pe_callB call_len_seq hg hm (by decide +kernel) (pa_cons (pv i hN hv hd hcd) pa_nil he) (by decide) (by decide) he hpl) fun σ H Q ⟨F, G, en, Ψ, k, h, q⟩ => by
    obtain ⟨l, eg, h⟩ := h
    obtain ⟨a, u, e1, e2, e3⟩ := k.slot eg
    obtain ⟨xs, eu, ra⟩ := e3
    subst eu
    exact ⟨.ref a, e1, a, xs, rfl, .inl (.inl (.inl e2)), by rw [ra.len]; exact q _ en _ G H h k (Step.refl _ _) (rep_int.mpr rfl)⟩
def fIxC (i : Nat) (fk : FE) : FE := fun en Φ => ∃ l0, gt en i = .cel (.lst l0) ∧ fk en fun d e => ∃ l j y, gt e i = .cel (.lst l) ∧ d = .int j ∧ atI l j = some y ∧ Φ y e
theorem de_ixC (i : Nat) {x : Str} {px : Pos} {b : Expr} {fk : FE} (hk : DE X A b fk) (hN : X.N[i]? = some x := by rfl) (hv : Vis X.env.scope x := by first | exact Or.inl rfl | exact Or.inr (Or.inl rfl) | exact Or.inr (Or.inr rfl)) (hd : (x == ("__debug__" : Str)) = false := by decide)
    (hcd : (x == ("__classdict__" : Str)) = false := by decide) (hs : PlainIx b := by exact fun _ _ => rfl) : DE X A (.Subscript (.Name x px) b pos) (fIxC i fk) :=
  pe_weak (pe_ix ix_list (pv i hN hv hd hcd) hk hs) fun σ H Q ⟨F, G, en, Ψ, k, h, q⟩ => by
    obtain ⟨l0, eg0, h⟩ := h
    obtain ⟨a0, u0, e10, _, _⟩ := k.slot eg0
    refine ⟨.ref a0, e10, F, G, en, _, k, h, fun d e1 v G1 H1 z k1 s1 r1 => ?_⟩
    obtain ⟨l, j, y, eg, rfl, hy, z⟩ := z
    obtain ⟨a, u, e1', e2, e3⟩ := k1.slot eg
    have ea : a0 = a := by
      rw [e10] at e1'
      injection e1' with e1'; injection e1' with e1'; injection e1'
    subst ea
    obtain ⟨xs, eu, ra⟩ := e3
    subst eu
    obtain ⟨jj, f1, f2⟩ := atI_len (xs := xs) ra.len hy
    obtain ⟨w, f3, f4⟩ := ra.get f2
    refine ⟨a0, xs, j, w, rfl, rep_int.mp r1, .inl (.inl e2), ?_, q y e1 w G1 H1 z k1 s1 f4⟩
    unfold atI
    rw [f1]
    exact f3
end
/-! ### lcm of greater numbers -/
theorem cr_lcm64 {X : Cx} : CallR X (.builtin "math.lcm") (fun vs H Q => ∃ i j : Nat, vs = [.int (i : Int), .int (j : Int)] ∧ i < 2 ^ 60 ∧ j < 2 ^ 60 ∧ Q (.int ((Nat.lcm i j : Nat) : Int)) H) := by
  intro pins s σ H vs us Q I r h
  obtain ⟨a, b, rfl, ha, hb, q⟩ := h
  obtain ⟨t, u, rfl⟩ := Vals.int2 r
  have e : ((((Nat.lcm 1 (a : Int).natAbs).lcm (b : Int).natAbs : Nat) : Int)) = ((Nat.lcm a b : Nat) : Int) := by
    rw [Nat.lcm_one_left, Int.natAbs_natCast, Int.natAbs_natCast]
  have hm : Nat.lcm a b ≤ a * b := Nat.div_le_self _ _
  have hab : a * b ≤ 2 ^ 60 * 2 ^ 60 := Nat.mul_le_mul (by omega) (by omega)
  refine PySem.W.mg_lcm_v (by omega) (by omega) e ?_ ⟨.int _, H, I.tok _, ⟨_, rfl⟩, q⟩
  rw [Int.natAbs_natCast]
  have hlt : Nat.lcm a b < 2 ^ 128 := by omega
  have : (Nat.lcm a b).log2 < 128 := by
    by_cases h0 : Nat.lcm a b = 0
    · rw [h0]; decide
    · exact (Nat.log2_lt h0).mpr hlt
  exact Nat.lt_of_lt_of_le this (by decide)
def rLcm64 : RAD := fun xs Φ => ∃ i j : Nat, xs = [.int (i : Int), .int (j : Int)] ∧ i < 2 ^ 60 ∧ j < 2 ^ 60 ∧ Φ (.int ((Nat.lcm i j : Nat) : Int))
theorem callD_lcm64 {X : Cx} : CallR X (.builtin "math.lcm") (LRA X.K rLcm64) := fun pins s σ H xs us Q I r ⟨G, ds, Ψ, gh, r1, h, q⟩ => by
  obtain ⟨i, j, rfl, hi, hj, z⟩ := h
  obtain ⟨v, w, rfl, rv, rw'⟩ := repA_2 r1
  cases rep_int.mp rv
  cases rep_int.mp rw'
  exact cr_lcm64 pins s σ H _ us Q I r ⟨i, j, rfl, hi, hj, q _ _ G H z (Grow.refl _ _) gh (rep_int.mpr rfl)⟩
/-! ### a text in a dict -/
def rInDct : R2D := fun x y Φ => ∃ z ks l, x = .str z ∧ y = .dct ks l ∧ Φ (.bl (getK ks l (Sum.inr z)).isSome)
theorem opd_inDct {X : Cx} (hu : X.A.units + 64 < cLine) : OpR X (compareOp .In) (LR2 X.K rInDct) := fun pins s σ H x y v u Q I rx ry ⟨G, dx, dy, Ψ, gh, r1, r2, ⟨z, ks, l, e1, e2, h⟩, q⟩ => by
  subst e1 e2
  cases rep_str.mp r1
  obtain ⟨p, xs, rfl, hp, ra, hl⟩ := rep_dct.mp r2
  obtain rfl : u = Value.ref p := ry
  refine d_in (o := valV (ks.zip xs) (Sum.inr z)) (by omega) I (DGet.k (k := .inr z) (gh _ _ hp)) rx fun s' I' => ⟨.bl _, H, I', rfl, ?_⟩
  rw [repA_valN ra]
  exact q _ _ G H h (Grow.refl _ _) gh (rep_bl.mpr rfl)
theorem yesT {X Y : En → Prop} {e : En} (h : X e) : fYes e (fun b e3 => if b = true then X e3 else Y e3) := (show if true = true then X e else Y e from by rw [if_pos rfl]; exact h)
end Dz

/-! DzDf: defs with defaults that are always called with all arguments. -/
namespace Dz
open PySem PySem.Spec PyProof.Rows L2
section
variable {P : Program} {w : World} {K : PySem.W.Frag} {mg : Str → Option Value} {base : Heap}
theorem fn_dzd {x qual : Str} {s0 : Stmt} {dvs : List V} {f : Addr} {fd : FuncData} {N ps : List Str} {k : Nat} {pd : PD} {fb : Am → FS} (Fk : FunD K x qual (defArgs s0) (defBody s0) (defScope s0) dvs [] f fd) (S : FnScope N ps (defScope s0)) (hlen : ∀ A ds Ψ, pd A ds Ψ → ds.length = ps.length)
    (hb : ∀ (A : Am) (cdv : Value) (Ar : Around) (outer : List PySem.Env) (s : Shared) (H : Hp) (E : XK), Room k (Ar.deeper (envOfC qual (defScope s0) s.heap.objs.size f cdv)) → DSs (cxOf CX0 P w K mg base N qual (defScope s0) f cdv Ar outer s H E).nox A (defBody s0) (fb A))
    (hm : ∀ (A : Am) ds Ψ, pd A.q ds Ψ → fb A (ds.map EV.dat ++ List.replicate (N.length - ds.length) EV.un) { nx := fun _ => Ψ .non, rt := Ψ }) : FnOk P w K mg base CX0 (k + 1) f fd ps (spD K pd) := by
  refine Fk.ok S (fun vs H Q E h => ?_) (fun cdv A outer s H vs Q E hr h => ?_)
  · obtain ⟨A, G, ds, Ψ, _, r, hp, _⟩ := h
    rw [r.len]
    exact hlen A ds Ψ hp
  · obtain ⟨Am', G, ds, Ψ, k0, r, hp, q⟩ := h
    refine ⟨_, PSs.nox (hb ⟨Am', minus Am' H, G⟩ cdv A outer s H E hr), minus Am' H, G, _, _, EnvOk.start ⟨k0, Fro.refl _, Step.refl _ _⟩ r, hm ⟨Am', minus Am' H, G⟩ ds Ψ hp, fun e σ' G' H' hn k1 s1 => ?_, fun d v G' H' hd k1 s1 r1 => ?_, fun _ _ _ _ z => z.elim, fun _ _ _ _ z => z.elim⟩
    · exact q .non .non G' H' hn k1.ok.st s1 (rep_non.mpr rfl)
    · exact q d v G' H' hd k1.st s1 r1
theorem fund_mk {x qual : Str} {st : Stmt} {f T : Addr} {oc : Value} {od an : Option Addr} {osl : Array (Option Value)} {kV doc pm cdv ct : Value} {d0 : V} {o : Obj} {its : Array Value} {n : Nat}
    (l : K.lookup f = some ⟨oc, od, .func (PySem.W.fnOf x qual (defArgs st) (defBody st) (defScope st) (.ref T) kV doc pm an cdv ct), osl⟩)
    (c : PySem.W.codeIn K cdv qual = true) (k : PySem.W.keepIn K (.ref f) = true) (lT : K.lookup T = some o) (oT : o.data = .seq its n) (rT : Vals [d0] its.toList) :
    FunD K x qual (defArgs st) (defBody st) (defScope st) [d0] [] f (PySem.W.fnOf x qual (defArgs st) (defBody st) (defScope st) (.ref T) kV doc pm an cdv ct) :=
  ⟨⟨oc, od, _, kV, doc, pm, an, cdv, ct, osl, rfl, l, c, .inr ⟨by simp, T, o, its.toList, n, rfl, lT, by rw [oT], rT⟩, .inl rfl⟩, k⟩
theorem FunD.all1 {x qual : Str} {params : Arguments} {body : List Stmt} {scope : Scope} {d0 : V} {f : Addr} {fd : FuncData} {ps : List Str} (F : FunD K x qual params body scope [d0] [] f fd)
    (h : ∀ (T : Addr) (kV doc pm : Value) (an : Option Addr) (cdv ct : Value) (us its : List Value), us.length = ps.length → its.length = 1 →
      ∃ k, bindArgs (PySem.W.fnOf x qual params body scope (.ref T) kV doc pm an cdv ct) ⟨us, []⟩ = seqItems? (.ref T) >>= k ∧ k (some its.toArray) = pure (ps.zip us)) : Binds K fd ps [] := by
  obtain ⟨ds, v, b⟩ := F.binds1 (ps := ps) ps.length 1 (by simp) (by simp) (fun T kV doc pm an cdv ct us its h1 h2 => by
    obtain ⟨k, e1, e2⟩ := h T kV doc pm an cdv ct us its h1 h2
    refine ⟨k, e1, ?_⟩
    have h3 : its.drop 1 = [] := List.drop_eq_nil_of_le (Nat.le_of_eq h2)
    rw [e2, h3, List.append_nil])
  have v : Vals [] ds := v
  cases v
  exact b
end
end Dz

/-! DzDx: a def with a default that may raise, called with all arguments. -/
namespace Dz
open PySem PySem.Spec PyProof.Rows L2
section
variable {P : Program} {w : World} {K : PySem.W.Frag} {mg : Str → Option Value} {base : Heap}
theorem fn_dzdx {x qual : Str} {s0 : Stmt} {dvs : List V} {f : Addr} {fd : FuncData} {N ps : List Str} {k : Nat} {pd : PDX} {fb : Am → XW → FS} (Fk : FunD K x qual (defArgs s0) (defBody s0) (defScope s0) dvs [] f fd) (S : FnScope N ps (defScope s0)) (hlen : ∀ A ds Ψ Ξ, pd A ds Ψ Ξ → ds.length = ps.length)
    (hb : ∀ (A : Am) (Ξ : XW) (cdv : Value) (Ar : Around) (outer : List PySem.Env) (s : Shared) (H : Hp) (E : XK), Room k (Ar.deeper (envOfC qual (defScope s0) s.heap.objs.size f cdv)) →
      Takes (cxOf (L2.CX P w) P w K mg base N qual (defScope s0) f cdv Ar outer s H E) (WD K A Ξ) → DSs (cxOf (L2.CX P w) P w K mg base N qual (defScope s0) f cdv Ar outer s H E) A (defBody s0) (fb A Ξ))
    (hm : ∀ (A : Am) ds Ψ (Ξ : XQ), pd A.q ds Ψ Ξ → fb A Ξ.w (ds.map EV.dat ++ List.replicate (N.length - ds.length) EV.un) { nx := fun _ => Ψ .non, rt := Ψ }) : FnOk P w K mg base (L2.CX P w) (k + 1) f fd ps (spX K pd) := by
  refine Fk.ok S (fun vs H Q E h => ?_) (fun cdv A outer s H vs Q E hr h => ?_)
  · obtain ⟨A, G, ds, Ψ, Ξ, _, r, hp, _⟩ := h
    rw [r.len]
    exact hlen A ds Ψ Ξ hp
  · obtain ⟨Am', G, ds, Ψ, Ξ, k0, r, hp, q, qx⟩ := h
    have tk : Takes (cxOf (L2.CX P w) P w K mg base N qual (defScope s0) f cdv A outer s H E) (WD K ⟨Am', minus Am' H, G⟩ Ξ.w) := (takes_of rfl rfl rfl rfl).imp fun c d σ H' z => by
      obtain ⟨G', x, z1, z2, z3, z4⟩ := z.out
      exact qx c x d G' H' z1 z2 z3 z4
    refine ⟨_, hb ⟨Am', minus Am' H, G⟩ Ξ.w cdv A outer s H E hr tk, minus Am' H, G, _, _, EnvOk.start ⟨k0, Fro.refl _, Step.refl _ _⟩ r, hm ⟨Am', minus Am' H, G⟩ ds Ψ Ξ hp, fun e σ' G' H' hn k1 s1 => ?_, fun d v G' H' hd k1 s1 r1 => ?_, fun _ _ _ _ z => z.elim, fun _ _ _ _ z => z.elim⟩
    · exact q .non .non G' H' hn k1.ok.st s1 (rep_non.mpr rfl)
    · exact q d v G' H' hd k1.st s1 r1
end
end Dz

/-! DzXi: raising an own exception whose __init__ calls its own base's __init__ and sets two fields. -/
namespace Dz
open PySem PySem.Spec PyProof.Rows L2
/-- an own class whose __init__ is that of ValueError, looked up through it -/
structure OwnInit (K : PySem.W.Frag) (S : Addr) : Prop where
  rd : PySem.W.readsIn K S (.type "type") = true
  ga : PySem.W.specialIn K (.ref S) "__getattribute__" = some (some (.builtin "type.__getattribute__"))
  fc : PySem.W.findCls K (.ref S) (.type "type") "__init__" = some (.val (.builtin "ValueError.__init__"))
section
variable {X : Cx} {e : Expr} {es : List Expr} {ta : TA} {x : Str} {S : Addr} {p1 p2 pos : Pos}
theorem pe_ownveinit {pl : Sem Bool} (hg : Gl X x) (hm : X.mg x = some (.ref S)) (T : OwnInit X.K S) (ha : PA X (e :: es) ta) (hdb : (x == ("__debug__" : Str)) = false := by decide)
    (hc : eval (.Call (.Attribute (.Name x p1) "__init__" p2) (e :: es) [] pos) X.env = (eval (.Name x p1) X.env >>= fun ov => standAt p2.atName >>= fun _ => holding [ov] (getMethod ov "__init__" pl) >>= fun r => callWith pos r.1 r.2 (backTo pos (starEach (e :: es) X.env)) (backToKw pos (keywordEach [] X.env))) := by rfl)
    (hst : starEach (e :: es) X.env = (false, eval e X.env) :: starEach es X.env := by rfl) (hno : (backTo pos (starEach es X.env)).any (·.1) = false := by rfl) : PE X (.Call (.Attribute (.Name x p1) "__init__" p2) (e :: es) [] pos) (tVeI X.K ta) := by
  constructor
  intro pins s σ H Q I h
  refine PySem.W.methodCall_KW (ld_glob I hg hm ?_ hdb) hc
  refine PySem.W.method_cls I.kIn T.ga (PySem.W.cls_value I.kIn T.rd T.fc (by decide +kernel) ?_)
  have run := (ha.run pos pins { s with toks := s.toks + 1 } σ H _ (I.tok _) h)
  refine PyProof.Rows.callWith_method1 (thn run fun us s1 hh => ?_) hst hno
  obtain ⟨vs, H1, J, r, a, C, ws, ev, hl, O, ea, q⟩ := hh
  subst ev
  cases r with
  | @cons _ u0 _ ur r0 rs =>
    obtain rfl : u0 = Value.ref a := r0
    have hz : ur.length ≤ sizeLine := by rw [← Paired.length rs, sizeLine_eq]; omega
    exact oinit_ok O J ea hz fun s2 J2 => ⟨.non, H1, J2, rfl, q⟩
end
/-! ### __init__(self, row, why): S.__init__(self, f'..{why}'); self.row = row; self.why = why -/
def spNI (K : PySem.W.Frag) (f g : Str) : Sp := fun vs H Q _ => ∃ (a C : Addr) (x : V) (w : Str), vs = [.ref a, x, .str w] ∧ w.length ≤ 1000 ∧ H a = some (exo a C none) ∧ OexC K C ∧ PySem.W.findIn K (.ref C) f = some none ∧ PySem.W.findIn K (.ref C) g = some none ∧
  ∀ dx, H dx = none → dx ≠ a → Q .non (upd (upd (upd H dx (exd dx [(f, x)])) a (exo a C (some dx))) dx (exd dx [(g, .str w), (f, x)]))
/-! ### raise C(place, why) -/
def fRaiseO (Ξ : XW) (c : Value) (f g : Str) (fr : FA) : FS := fun en _ => fr en fun xs e1 => ∃ (d : D) (w : Str), xs = [d, .str w] ∧ w.length ≤ 1000 ∧ Ξ c (some ([g, f], [.str w, d])) e1
theorem upd_chain {H : Hp} {a d : Addr} {o1 o2 o3 o4 o5 : HO} (ha : H a = none) (hd : d ≠ a) : upd (del (upd (upd (upd (upd H a o1) d o2) a o3) d o4) a) d o5 = upd H d o5 := by
  funext b
  by_cases h1 : b = d
  · subst h1; rw [upd_same, upd_same]
  · rw [upd_ne h1, upd_ne h1]
    by_cases h2 : b = a
    · subst h2; rw [del_same, ha]
    · rw [del_ne h2, upd_ne h1, upd_ne h2, upd_ne h1, upd_ne h2]
section
variable {X : Cx} {A : Am} {Ξ : XW} {C fI : Addr} {x f g : Str} {k : Nat} {fd : FuncData} {e1 e2 : Expr} {fr : FA} {p pos pos' : Pos}
/-- what is known of the class and of its __init__ -/
structure MkO (P : Program) (w : World) (K : PySem.W.Frag) (mg : Str → Option Value) (base : Heap) (x : Str) (C : Addr) (k : Nat) (f g : Str) : Prop where
  ox : OexC K C
  gC : mg x = some (.ref C)
  nf : PySem.W.findIn K (.ref C) f = some none
  ng : PySem.W.findIn K (.ref C) g = some none
  ex : ∃ (fI : Addr) (fd : FuncData) (ps : List Str), PySem.W.findIn K (.ref C) "__init__" = some (some (.ref fI)) ∧ PySem.W.typeIn K (.ref fI) = some (.type "function") ∧ FnOk P w K mg base CX0 k fI fd ps (spNI K f g) ∧ Binds K fd ps []
theorem ds_raiseO (M : MkO X.prog X.w X.K X.mg X.base x C k f g) (hc : X.calm = true) (tk : Takes X (WD X.K A Ξ)) (hr : Room (k + 1) X.A) (hg : Gl X x) (ha : DA X A [e1, e2] fr) (hdb : (x == ("__debug__" : Str)) = false := by decide)
    (he : starEach [e1, e2] X.env = (false, eval e1 X.env) :: starEach [e2] X.env := by rfl) (hpl : (backTo pos (starEach [e2] X.env)).any (·.1) = false := by rfl) :
    DS X A (.Raise (some (.Call (.Name x p) [e1, e2] [] pos)) none pos') (fRaiseO Ξ (.ref C) f g fr) := by
  obtain ⟨fI, fd, ps, i1, i2, i3, i4⟩ := M.ex
  refine ps_weak (ps_raise hc tk (pmk_oex M.ox i1 i2 i3 hr i4 .nil (fun _ _ _ _ _ _ _ z => z.elim) hg M.gC ha hdb he hpl)) fun Dd σ H ⟨F, G, en, Ψ, kk, h, _⟩ => ?_
  refine ⟨F, G, en, _, kk, h, fun ds e vs G1 H1 hh k1 s1 r1 => ?_⟩
  obtain ⟨d, w, rfl, hw, hx⟩ := hh
  unfold RepA at r1
  obtain ⟨v1, rr, rfl, p1, r1⟩ := r1
  unfold RepA at r1
  obtain ⟨v2, rr, rfl, p2, r1⟩ := r1
  unfold RepA at r1
  subst r1
  cases rep_str.mp p2
  refine ⟨(show 2 ≤ 1000 by decide), fun a hna => ?_⟩
  refine ⟨a, C, v1, w, rfl, hw, upd_same, M.ox, M.nf, M.ng, fun dx hdx hne => ⟨rfl, dx, [(g, .str w), (f, v1)], by rw [upd_ne (Ne.symm hne), upd_same], upd_same, by rw [upd_ne hne] at hdx; exact hdx, ?_⟩⟩
  have hd1 : H1 dx = none := by rw [upd_ne hne] at hdx; exact hdx
  rw [upd_chain hna hne]
  have gr : Grow G1 H1 G1 (upd H1 dx (.xd [(g, .str w), (f, v1)])) := Grow.tmp hd1
  exact ⟨F, G1, e, some ([g, f], [.str w, d]), k1.grow gr (k1.ok.gh.trans (same_new hd1)), ⟨dx, [.str w, v1], rfl, upd_same, .cons (rep_str.mpr rfl) (.cons p1 .nil), rfl⟩, hx⟩
end
end Dz

/-! DzTm: a try with several except clauses, each with or without a name. -/
namespace Dz
open PySem PySem.Spec PyProof.Rows L2
/-- a clause: the class, where its name stands, its suite -/
abbrev Cla := Value × Option Nat × (Addr → Value → Option Addr → TS)
def freed (D : Ends) (i : Nat) : Ends := { nx := fun σ' H' => D.nx (σ'.set i none) H', rt := D.rt, bk := fun σ' H' => D.bk (σ'.set i none) H', ct := fun σ' H' => D.ct (σ'.set i none) H' }
def sayC (D : Ends) (oi : Option Nat) (ts : Addr → Value → Option Addr → TS) (a : Addr) (cls : Value) (d : Option Addr) (σ : L2.St) (H : Hp) : Prop := match oi with
  | none => ts a cls d D σ H
  | some i => ts a cls d (freed D i) (σ.set i (some (.ref a))) H
def wClas (K : PySem.W.Frag) (n : Nat) (W0 : WX) (D : Ends) : List Cla → WX
  | [] => W0
  | (c, oi, ts) :: r => fun cls d σ H => ∃ b, PySem.W.exmOne K cls c = some b ∧ (b = true → ∀ a, H a = none → σ.length = n → sayC D oi ts a cls d σ H) ∧ (b = false → wClas K n W0 D r cls d σ H)
/-- a clause's name -/
inductive NmOk (X : Cx) : Option Str → Option Nat → Prop
  | no : NmOk X none none
  | yes {n : Str} {i : Nat} (hi : X.N[i]? = some n) (hl : X.env.kindOf n = some .local) : NmOk X (some n) (some i)
inductive ClasOk (X : Cx) : List ExceptHandler → List Cla → Prop
  | nil : ClasOk X [] []
  | cons {x : Str} {c : Value} {oi : Option Nat} {on : Option Str} {ts : Addr → Value → Option Addr → TS} {b0 : Stmt} {sui : List Stmt} {np pq : Pos} {hds : List ExceptHandler} {l : List Cla} (hc : Names X x c) (hn : NmOk X on oi)
      (hsu : ∀ (a : Addr) (oe : Obj) (cls : Value) (d : Option Addr) (pn : List (Addr × Obj)), Zc cls d oe → (∃ vs, oe.data = .fields vs) → PSs (X.suite a ((a, oe) :: pn)) (b0 :: sui) (ts a cls d)) (r : ClasOk X hds l) :
      ClasOk X (.ExceptHandler (some (.Name x np)) on (b0 :: sui) pq :: hds) ((c, oi, ts) :: l)
section
variable {X : Cx} {body : List Stmt} {hd0 : ExceptHandler} {hds : List ExceptHandler} {l : List Cla} {pos : Pos} {tb : WX → TS} {W0 : WX}
theorem ps_try_clas (hst : X.stack = X.env :: X.outer) (hfr0 : X.env.frame = some X.env.locals) (hN : X.N.Nodup) (tk : Takes X W0)
    (hb : ∀ (W : WX) (pn : List (Addr × Obj)) (xe : Value → Shared → Prop), Takes (X.tr pn xe) W → PassesOwn (model X.prog X.w) X.A X.env xe → PSs (X.tr pn xe) body (tb W)) (hh : ClasOk X (hd0 :: hds) l) :
    PS X (.Try body (hd0 :: hds) [] [] pos) (fun D σ H => tb (wClas X.K X.N.length W0 D l) D σ H) := by
  constructor
  intro pins s σ H D I h
  have okX := I.ok
  have frX : X.A.frames = some (X.env :: X.outer) := by rw [okX.frames, hst]
  have inTry := I.toTry (fun e s₁ => wpAny (model X.prog X.w) X.A (noteFrame e X.env) (fun _ s₂ => wpAny (model X.prog X.w) X.A (setFlight e none) (fun _ s₃ => wpAny (model X.prog X.w) X.A (handleBy e X.env (hd0 :: hds)) (SP X pins D) X.xe s₃) X.xe s₂) X.xe s₁)
  refine wpAny_Try_except ?_
  refine wpAny_mono ((hb (wClas X.K X.N.length W0 D l) (X.pn ++ pins) _ (fun u s' caught => ?_) PassesOwn.looking).run [] s σ H D inTry h) (fun fl s1 hsp => ?_) (fun e s1 he => he)
  · -- it is caught, or goes on
    obtain ⟨a, B, sI, pins', σ1, H1, cls, d, rfl, J', nb, up, sky, na, os, ag, wish⟩ := caught
    have J : Inv X pins σ1 H1 sI := J'.ofTry okX
    rw [hst] at sky
    show wpAny (model X.prog X.w) X.A (noteFrame (.ref a) X.env) _ _ _
    refine Sky.land Zc.steady frX hfr0 sky fun h3 fl3 up3 => ?_
    have J3 : Inv X pins σ1 H1 { s' with heap := h3 } := J.landed nb fl3.1 (up.trans up3) os ag
    obtain ⟨oe3, vs3, he3, hz3, hd3⟩ := fl3.there
    have aNo : a ∉ frs (X.env :: X.outer) := fun hm => by
      obtain ⟨_, o', e', hnf⟩ := fl3.2.2.1.mem hm
      rw [he3] at e'
      cases e'
      exact hnf _ hd3
    have aL : a ≠ X.env.locals := fun z => aNo (List.mem_filterMap.mpr ⟨X.env, List.mem_cons_self, by rw [hfr0, z]⟩)
    have aF : a ∉ X.fs := fun hm => by
      obtain ⟨e, he, q⟩ := List.mem_filterMap.mp hm
      exact aNo (List.mem_filterMap.mpr ⟨e, List.mem_cons_of_mem _ he, q⟩)
    have S3 := J3.suite he3 hd3 na aL aF
    have go : ∀ {hs : List ExceptHandler} {cl : List Cla}, ClasOk X hs cl → wClas X.K X.N.length W0 D cl cls d σ1 H1 → wpAny (model X.prog X.w) X.A (handleBy (.ref a) X.env hs) (SP X pins D) X.xe { s' with heap := h3 } := by
      intro hs cl hk
      induction hk with
      | nil =>
        intro wi
        refine wpAny_handleBy_nil ?_
        obtain ⟨f1, f2, f3, oe, vs, T, oT, ts', he, hz, hdd, h1, hr⟩ := id fl3
        have last : wpAny (model X.prog X.w) X.A (setFlight (.ref a) X.env.frame) (fun _ s4 => wpAny (model X.prog X.w) X.A (throw (.ref a) : Sem Flow) (SP X pins D) X.xe s4) X.xe { s' with heap := h3 } := by
          rw [hfr0]
          exact HandSPX.setFlight_upZ fl3 fun h4 hh4 up4 => wpAny_throw (tk _ _ ⟨a, B, sI, pins, σ1, H1, cls, d, rfl, J, nb, (up.trans up3).trans up4, .inr (.inr (by rw [hst]; exact hh4)), na, os, ag, wi⟩)
        unfold PySem.passOn
        refine wpAny_bind (wpAny_field he hdd h1 ?_)
        rw [if_neg (show ¬ ((Value.ref T == Value.none) = true) from by simp)]
        first | exact wpAny_bind (wpAny_pure (wpAny_bind last)) | exact wpAny_bind last
      | @cons x c oi on ts b0 sui np pq hds2 l2 hc hn hsu r ih =>
        intro wi
        obtain ⟨b, hb1, hyes, hno⟩ := wi
        refine wpAny_handleBy_cons (codeAny_handlers_test ?_) (by intro q; cases q)
        have lookT : PySem.W.Looks (model X.prog X.w) h3 (typeOf (.ref a)) cls := fun A' Q' E' s'' k q => wpAny_typeOf_ref (k _ _ he3) (by rw [hz3.1]; exact q)
        have meets := PySem.W.exm_one (M := model X.prog X.w) (J3.kIn) lookT hb1
        have named : ∀ {Q E : Value → Shared → Prop}, Q c { s' with heap := h3 } → wpAny (model X.prog X.w) (X.A.mark (some (.ref a))) (eval (.Name x np) X.env) Q E { s' with heap := h3 } := fun {Q E} q => by
          obtain ⟨g1, g2, g3 | ⟨g3, g4, g5⟩⟩ := hc
          · exact ld_glob (X := X.suite a ((a, oe3) :: (X.pn ++ pins))) S3 g1 g3 q g2
          · exact ld_blt (X := X.suite a ((a, oe3) :: (X.pn ++ pins))) S3 g1 g3 g4 q g5 g2
        refine named (meets.here ?_)
        cases b with
        | false =>
          show wpAny _ X.A (handleBy (.ref a) X.env hds2) _ _ _
          exact ih (hno rfl)
        | true =>
          have yes := hyes rfl a na J.len
          cases hn with
          | no =>
            refine codeAny_handlers_suite (HandSPX.lands_againZ fl3 fun h4 fl4 up4 => ?_)
            have J4 : Inv X pins σ1 H1 { s' with heap := h4 } := J.landed nb fl4.1 ((up.trans up3).trans up4) os ag
            obtain ⟨oe4, vs4, he4, hz4, hd4⟩ := fl4.there
            have S4 := J4.suite he4 hd4 na aL aF
            have yes : ts a cls d D σ1 H1 := yes
            refine wpAny_mono ((hsu a oe4 cls d (X.pn ++ pins) hz4 ⟨_, hd4⟩).run [] _ _ H1 _ S4 yes) (fun f s6 hsp => ?_) (fun _ _ z => False.elim z)
            cases f with
            | ret u => obtain ⟨v6, σ6, H6, S6, r6, q6⟩ := hsp; exact ⟨_, _, _, S6.unsuite okX, r6, q6⟩
            | next => obtain ⟨σ6, H6, S6, q6⟩ := hsp; exact ⟨_, _, S6.unsuite okX, q6⟩
            | brk => obtain ⟨σ6, H6, S6, q6⟩ := hsp; exact ⟨_, _, S6.unsuite okX, q6⟩
            | cont => obtain ⟨σ6, H6, S6, q6⟩ := hsp; exact ⟨_, _, S6.unsuite okX, q6⟩
          | @yes n i hi hl =>
            refine codeAny_handlers_suite_as (HandSPX.lands_againZ fl3 fun h4 fl4 up4 => ?_)
            have J4 : Inv X pins σ1 H1 { s' with heap := h4 } := J.landed nb fl4.1 ((up.trans up3).trans up4) os ag
            obtain ⟨oe4, vs4, he4, hz4, hd4⟩ := fl4.there
            have S4 := J4.suite he4 hd4 na aL aF
            have yes : ts a cls d (freed D i) (σ1.set i (some (.ref a))) H1 := yes
            refine store_ok (X := X.suite a ((a, oe4) :: (X.pn ++ pins))) (v := .ref a) S4 hN hi (.inl hl) rfl (fun s5 S5 => ?_) (.inr hl)
            refine wpAny_mono ((hsu a oe4 cls d (X.pn ++ pins) hz4 ⟨_, hd4⟩).run [] s5 _ H1 _ S5 yes) (fun f s6 hsp => ?_) (fun _ _ z => False.elim z)
            have away : ∀ {σ6 : L2.St} {H6 : Hp} {Q : Shared → Prop}, Inv (X.suite a ((a, oe4) :: (X.pn ++ pins))) [] σ6 H6 s6 → (∀ s7, Inv X pins (σ6.set i none) H6 s7 → Q s7) →
                wpAny (model X.prog X.w) X.A (do bindName X.env n .none; unbindBehindTheSuite X.env n pq) (fun _ s7 => Q s7) X.xe s6 := fun {σ6 H6 Q} S6 hq => gone_ok (S6.unsuite okX) hN hi hl hq
            cases f with
            | ret u => obtain ⟨v6, σ6, H6, S6, r6, q6⟩ := hsp; exact away S6 fun s7 J7 => ⟨_, _, _, J7, r6, q6⟩
            | next => obtain ⟨σ6, H6, S6, q6⟩ := hsp; exact away S6 fun s7 J7 => ⟨_, _, J7, q6⟩
            | brk => obtain ⟨σ6, H6, S6, q6⟩ := hsp; exact away S6 fun s7 J7 => ⟨_, _, J7, q6⟩
            | cont => obtain ⟨σ6, H6, S6, q6⟩ := hsp; exact away S6 fun s7 J7 => ⟨_, _, J7, q6⟩
    exact go hh wish
  · cases fl with
    | ret u => obtain ⟨v, σ1, H1, J', r, q⟩ := hsp; exact ⟨v, σ1, H1, J'.ofTry okX, r, q⟩
    | next => obtain ⟨σ1, H1, J', q⟩ := hsp; exact wpAny_execs_nil ⟨σ1, H1, J'.ofTry okX, q⟩
    | brk => obtain ⟨σ1, H1, J', q⟩ := hsp; exact ⟨σ1, H1, J'.ofTry okX, q⟩
    | cont => obtain ⟨σ1, H1, J', q⟩ := hsp; exact ⟨σ1, H1, J'.ofTry okX, q⟩
end
end Dz

/-! DzLt: a def that makes lambdas (its own table of code objects is followed), called by the law. -/
namespace Dz
open PySem PySem.Spec PyProof.Rows L2 LamX
/-- the changing objects that all know: what is drawn from, and the table -/
def TabQ (q : Str) (T : Addr) (A : AQ) : Prop := ∃ p ns, A = [(p, drawOk ns), (T, tabOk q)]
def spTb (K : PySem.W.Frag) (q : Str) (T : Addr) (pd : PD) : Sp := fun vs H Q _ => ∃ (A : AQ) (F G : Hp) (ds : List D) (Ψ : D → Prop), TabQ q T A ∧ StQ K A F G H ∧ NE F ∧ NT G ∧ RepA K G ds vs ∧ pd A ds Ψ ∧
  ∀ d v G' H', Ψ d → StQ K A F G' H' → Step F G G' → Rep K G' d v → Q v H'
section
variable {P : Program} {w : World} {K : PySem.W.Frag} {mg : Str → Option Value} {base : Heap}
theorem fn_dzt {x q : Str} {s0 : Stmt} {f c T : Addr} {N ps : List Str} {k : Nat} {pd : PD} {fb : Am → FS} {oc kV doc pm ct : Value} {od an : Option Addr} {osl : Array (Option Value)}
    (lk : K.lookup f = some ⟨oc, od, .func (PySem.W.fnOf x x (defArgs s0) (defBody s0) (defScope s0) .none kV doc pm an (.ref c) ct), osl⟩) (hcd : PySem.W.codeIn K (.ref c) x = true) (S : FnScope N ps (defScope s0)) (hlen : ∀ A ds Ψ, pd A ds Ψ → ds.length = ps.length)
    (hb : ∀ (A : Am) (Ar : Around) (outer : List PySem.Env) (s : Shared) (H : Hp) (E : XK), Room k (Ar.deeper (envOfC x (defScope s0) s.heap.objs.size f (.ref c))) → DSs (cxOf CX0 P w K mg base N x (defScope s0) f (.ref c) Ar outer s H E).nox A (defBody s0) (fb A))
    (hm : ∀ (A : Am) ds Ψ, TabQ q T A.q → NE A.F0 → NT A.G0 → pd A.q ds Ψ → fb A (ds.map EV.dat ++ List.replicate (N.length - ds.length) EV.un) { nx := fun _ => Ψ .non, rt := Ψ }) :
    FnOk P w K mg base CX0 (k + 1) f (PySem.W.fnOf x x (defArgs s0) (defBody s0) (defScope s0) .none kV doc pm an (.ref c) ct) ps (spTb K q T pd) := by
  refine fn_of lk hcd S (fun vs H Q E h => ?_) fun Ar outer s H vs Q E hr h => ?_
  · obtain ⟨A, F, G, ds, Ψ, _, _, _, _, r, hp, _⟩ := h
    rw [r.len]
    exact hlen A ds Ψ hp
  · obtain ⟨A, F, G, ds, Ψ, hq, k0, nF, nG, r, hp, qq⟩ := h
    refine ⟨_, (hb ⟨A, F, G⟩ Ar outer s H E hr).nox, F, G, _, _, EnvOk.start ⟨k0, Fro.refl _, Step.refl _ _⟩ r, hm ⟨A, F, G⟩ ds Ψ hq nF nG hp, fun e σ' G' H' hn k1 s1 => ?_, fun d v G' H' hd k1 s1 r1 => ?_, fun _ _ _ _ z => z.elim, fun _ _ _ _ z => z.elim⟩
    · have k2 := k1.shrink
      exact qq .non .non G' H' hn k2.ok.st s1 (rep_non.mpr rfl)
    · exact qq d v G' H' hd ⟨k1.st.gh, k1.bs.trans k1.st.fh, fun q hq => k1.bs.free (k1.st.fa q hq), k1.st.am⟩ s1 r1
end
def fCallT (q : Str) (T : Addr) (pd : PD) (A : Am) (fr : FA) : FE := fun en Φ => TabQ q T A.q ∧ NE A.F0 ∧ NT A.G0 ∧ fr en fun ds e => noCel e = true ∧ pd A.q ds fun d => Φ d e
structure OwnTb (P : Program) (w : World) (K : PySem.W.Frag) (mg : Str → Option Value) (base : Heap) (x : Str) (k : Nat) (ps : List Str) (q : Str) (T : Addr) (pd : PD) : Prop where
  ex : ∃ (f : Addr) (fd : FuncData), FnOk P w K mg base CX0 k f fd ps (spTb K q T pd) ∧ mg x = some (.ref f) ∧ PySem.W.keepIn K (.ref f) = true ∧ Binds K fd ps []
section
variable {X : Cx} {A : Am} {k : Nat} {ps : List Str} {pd : PD} {x q : Str} {T : Addr} {p pos : Pos} {e : Expr} {es : List Expr} {fr : FA}
theorem de_ownTb (O : OwnTb X.prog X.w X.K X.mg X.base x k ps q T pd) (hr : Room k X.A) (hg : Gl X x) (ha : DA X A (e :: es) fr) (hdb : (x == ("__debug__" : Str)) = false := by decide)
    (he : starEach (e :: es) X.env = (false, eval e X.env) :: starEach es X.env := by rfl) (hpl : (backTo pos (starEach es X.env)).any (·.1) = false := by rfl) : DE X A (.Call (.Name x p) (e :: es) [] pos) (fCallT q T pd A fr) := by
  obtain ⟨f, fd, h1, h2, h3, h4⟩ := O.ex
  refine pe_weak (pe_call h1 hr hg h2 h3 h4 .nil pass0 ha hdb he hpl) fun σ H Q h => ?_
  obtain ⟨F, G, en, Ψ, k0, ⟨hq, nF, nG, h⟩, qq⟩ := h
  refine ⟨F, G, en, _, k0, h, fun ds e1 vs G1 H1 hp k1 s1 r1 => ?_⟩
  show spTb X.K q T pd (vs ++ []) H1 Q _
  rw [List.append_nil]
  refine ⟨A.q, F, G1, ds, _, hq, k1.ok.st, k1.ok.bz.n nF, k1.ok.bg.n nG, r1, hp.2, fun d v G2 H2 hd k2 s2 r2 => ?_⟩
  have kk := k1.slots (A' := ⟨A.q, F, G1⟩) (e' := e1) (σ' := σ) hp.1 rfl ⟨k2, Fro.refl _, s2⟩ s2
  exact qq d e1 v G2 H2 hd kk (s1.trans s2) r2
end
end Dz

/-! DzDo: a def called with its last arguments left out. -/
namespace Dz
open PySem PySem.Spec PyProof.Rows L2
def fCallXd (pd : PDX) (A : Am) (Ξ : XW) (dls : List D) (fr : FA) : FE := fun en Φ => fr en fun ds e => pd A.q (ds ++ dls) (fun d => Φ d e) (fun c x => Ξ c x e)
def fCallDd (pd : PD) (A : Am) (dls : List D) (fr : FA) : FE := fun en Φ => fr en fun ds e => pd A.q (ds ++ dls) (fun d => Φ d e)
structure OwnXd (P : Program) (w : World) (K : PySem.W.Frag) (mg : Str → Option Value) (base : Heap) (x : Str) (k : Nat) (ps : List Str) (dls : List D) (pd : PDX) : Prop where
  ex : ∃ (f : Addr) (fd : FuncData) (us : List Value) (dvs : List V), FnOk P w K mg base (L2.CX P w) k f fd ps (spX K pd) ∧ mg x = some (.ref f) ∧ PySem.W.keepIn K (.ref f) = true ∧ Binds K fd ps us ∧ Vals dvs us ∧ ∀ G, RepA K G dls dvs
structure OwnDd (P : Program) (w : World) (K : PySem.W.Frag) (mg : Str → Option Value) (base : Heap) (x : Str) (k : Nat) (ps : List Str) (dls : List D) (pd : PD) : Prop where
  ex : ∃ (f : Addr) (fd : FuncData) (us : List Value) (dvs : List V), FnOk P w K mg base CX0 k f fd ps (spD K pd) ∧ mg x = some (.ref f) ∧ PySem.W.keepIn K (.ref f) = true ∧ Binds K fd ps us ∧ Vals dvs us ∧ ∀ G, RepA K G dls dvs
section
variable {X : Cx} {A : Am} {k : Nat} {ps : List Str} {pd : PD} {px : PDX} {x : Str} {p pos : Pos} {e : Expr} {es : List Expr} {fr : FA} {Ξ : XW} {dls : List D}
theorem de_ownXd (O : OwnXd X.prog X.w X.K X.mg X.base x k ps dls px) (tk : Takes X (WD X.K A Ξ)) (hr : Room k X.A) (hg : Gl X x) (ha : DA X A (e :: es) fr) (hdb : (x == ("__debug__" : Str)) = false := by decide)
    (he : starEach (e :: es) X.env = (false, eval e X.env) :: starEach es X.env := by rfl) (hpl : (backTo pos (starEach es X.env)).any (·.1) = false := by rfl) : DE X A (.Call (.Name x p) (e :: es) [] pos) (fCallXd px A Ξ dls fr) := by
  obtain ⟨f, fd, us, dvs, h1, h2, h3, h4, h5, h6⟩ := O.ex
  refine pe_weak (pe_callSD (E := WE (WD X.K A Ξ)) h1 hr hg h2 h3 h4 h5 (fun σ => passAt tk σ) ha hdb he hpl) fun σ H Q ⟨F, G, en, Ψ, k0, h, q⟩ => ?_
  refine ⟨F, G, en, _, k0, h, fun ds e1 vs G1 H1 hp k1 s1 r1 => ?_⟩
  refine ⟨A.q, G1, ds ++ dls, _, _, k1.ok.call, r1.app (h6 G1), hp, fun d v G2 H2 hd k2 s2 r2 => ?_, fun c y d G2 H2 hx k2 s2 r2 => ?_⟩
  · obtain ⟨k3, s3⟩ := k1.called k2 s2
    exact q d e1 v G2 H2 hd k3 (s1.trans s3) r2
  · obtain ⟨k3, s3⟩ := k1.called k2 s2
    exact ⟨F, G2, e1, y, k3, r2, hx⟩
theorem de_ownDd (O : OwnDd X.prog X.w X.K X.mg X.base x k ps dls pd) (hr : Room k X.A) (hg : Gl X x) (ha : DA X A (e :: es) fr) (hdb : (x == ("__debug__" : Str)) = false := by decide)
    (he : starEach (e :: es) X.env = (false, eval e X.env) :: starEach es X.env := by rfl) (hpl : (backTo pos (starEach es X.env)).any (·.1) = false := by rfl) : DE X A (.Call (.Name x p) (e :: es) [] pos) (fCallDd pd A dls fr) := by
  obtain ⟨f, fd, us, dvs, h1, h2, h3, h4, h5, h6⟩ := O.ex
  refine pe_weak (pe_call h1 hr hg h2 h3 h4 h5 pass0 ha hdb he hpl) fun σ H Q ⟨F, G, en, Ψ, k0, h, q⟩ => ?_
  refine ⟨F, G, en, _, k0, h, fun ds e1 vs G1 H1 hp k1 s1 r1 => ?_⟩
  refine ⟨A.q, G1, ds ++ dls, _, k1.ok.call, r1.app (h6 G1), hp, fun d v G2 H2 hd k2 s2 r2 => ?_⟩
  obtain ⟨k3, s3⟩ := k1.called k2 s2
  exact q d e1 v G2 H2 hd k3 (s1.trans s3) r2
end
end Dz

/-! DzSp: a text split at ", ", by its list of signs (little work for the kernel). -/
namespace Dz
open PySem PySem.Spec PyProof.Rows L2
open PySem.Builtin.Str
def spStep (x y : Str) (hi limit : Nat) (u : Array Nat × Nat) (i : Nat) : Array Nat × Nat := if ((u.1.size < limit ∧ u.2 ≤ i) ∧ i + y.length ≤ hi) ∧ subAt x y i = true then (u.1.push i, i + y.length) else u
theorem sp_fold (x y : Str) (hi limit : Nat) : ∀ (l : List Nat) (u : Array Nat × Nat), (forIn l u (PySem.StrLaws.occBody x y hi limit)).run = l.foldl (spStep x y hi limit) u
  | [], u => rfl
  | a :: l, u => by
    rw [List.forIn_cons, List.foldl_cons]
    unfold PySem.StrLaws.occBody spStep
    split
    · exact sp_fold x y hi limit l _
    · exact sp_fold x y hi limit l _
/-- the places of c, d side by side, from place i on, free from f on -/
def spWalk (c d : Nat) : List Nat → Nat → Nat → List Nat
  | [], _, _ => []
  | a :: r, i, f => if f ≤ i ∧ (a :: r).take 2 = [c, d] then i :: spWalk c d r (i + 1) (i + 2) else spWalk c d r (i + 1) f
theorem sp_at (x : Str) (c d : Nat) (i : Nat) : subAt x ⟨#[c, d]⟩ i = true ↔ (x.cps.toList.drop i).take 2 = [c, d] := by
  unfold subAt
  have e : (x.cps.extract i (i + Str.length ⟨#[c, d]⟩)).toList = (x.cps.toList.drop i).take 2 := by
    rw [Array.toList_extract, List.extract_eq_take_drop]
    show List.take (i + 2 - i) _ = _
    rw [Nat.add_sub_cancel_left]
  rw [← e]
  constructor
  · intro h
    have h := eq_of_beq h
    rw [h]
  · intro h
    have : x.cps.extract i (i + Str.length ⟨#[c, d]⟩) = #[c, d] := Array.toList_inj.mp h
    rw [this]
    exact beq_self_eq_true _
theorem sp_walk (x : Str) (c d : Nat) (hi : Nat) : ∀ (r : List Nat) (i : Nat) (A : Array Nat) (f : Nat), x.cps.toList.drop i = r → i + r.length = hi → A.size ≤ i →
    ((List.range' i (r.length + 1)).foldl (spStep x ⟨#[c, d]⟩ hi (hi + 1)) (A, f)).1.toList = A.toList ++ spWalk c d r i f
  | [], i, A, f, hd, hl, hA => by
    have e : List.range' i (([] : List Nat).length + 1) = [i] := rfl
    rw [e, List.foldl_cons, List.foldl_nil]
    unfold spStep spWalk
    rw [if_neg (fun z => by
      have h2 : i + 2 ≤ hi := z.1.2
      simp only [List.length_nil] at hl
      omega), List.append_nil]
  | a :: r, i, A, f, hd, hl, hA => by
    have e : List.range' i ((a :: r).length + 1) = i :: List.range' (i + 1) (r.length + 1) := rfl
    have hd2 : x.cps.toList.drop (i + 1) = r := by
      rw [← List.drop_drop, hd]
      rfl
    rw [List.length_cons] at hl
    rw [e, List.foldl_cons]
    unfold spWalk
    by_cases h : f ≤ i ∧ (a :: r).take 2 = [c, d]
    · rw [if_pos h]
      have hs : subAt x ⟨#[c, d]⟩ i = true := (sp_at x c d i).mpr (by rw [hd]; exact h.2)
      have h2 : i + 2 ≤ hi := by
        cases r with
        | nil => cases h.2
        | cons b r => rw [List.length_cons] at hl; omega
      have es : spStep x ⟨#[c, d]⟩ hi (hi + 1) (A, f) i = (A.push i, i + 2) := by
        unfold spStep
        exact if_pos ⟨⟨⟨by show A.size < hi + 1; omega, h.1⟩, h2⟩, hs⟩
      rw [es, sp_walk x c d hi r (i + 1) (A.push i) (i + 2) hd2 (by omega) (by rw [Array.size_push]; omega), Array.toList_push, List.append_assoc]
      rfl
    · rw [if_neg h]
      have es : spStep x ⟨#[c, d]⟩ hi (hi + 1) (A, f) i = (A, f) := by
        unfold spStep
        refine if_neg fun z => h ⟨z.1.1.2, ?_⟩
        have := (sp_at x c d i).mp z.2
        rw [hd] at this
        exact this
      rw [es, sp_walk x c d hi r (i + 1) A f hd2 (by omega) (by omega)]
theorem sp_occ (x : Str) (c d : Nat) (L : List Nat) (h : x.cps.toList = L) : occurrences x ⟨#[c, d]⟩ 0 x.length (x.length + 1) = spWalk c d L 0 0 := by
  have hl : x.length = L.length := by
    rw [← h]
    exact (Array.length_toList).symm
  rw [PySem.StrLaws.occ_eq, sp_fold]
  have := sp_walk x c d x.length L 0 #[] 0 (by rw [List.drop_zero]; exact h) (by omega) (by show 0 ≤ 0; omega)
  rw [hl] at this ⊢
  exact this
def spParts (L : List Nat) (cuts : List Nat) : List Str := ((0 :: cuts.map (· + 2)).zip (cuts ++ [L.length])).map fun p => ⟨((L.drop p.1).take (p.2 - p.1)).toArray⟩
theorem sp_parts (x : Str) (L : List Nat) (h : x.cps.toList = L) (cuts : List Nat) : partsBetween x cuts 2 = spParts L cuts := by
  have hl : x.length = L.length := by
    rw [← h]
    exact (Array.length_toList).symm
  unfold partsBetween spParts
  rw [hl]
  refine List.map_congr_left fun p hp => ?_
  apply Str.ext'
  apply Array.toList_inj.mp
  show (strSub x p.1 p.2).cps.toList = _
  rw [PySem.StrLaws.strSub_toList, h]
theorem sp_kind (x : Str) (h : x.cps.toList.all (fun z => decide (z < 256)) = true) : PySem.Builtin.Str.strKind x = 1 := by
  unfold PySem.Builtin.Str.strKind
  have e : x.cps.all (fun z => decide (z < 256)) = true := by rw [← Array.all_toList]; exact h
  rw [if_pos e]
theorem sp_split (x : Str) (L : List Nat) (h : x.cps.toList = L) (hk : 2 ≤ L.length) (hk2 : L.all (fun z => decide (z < 256)) = true) (hs : (", " : Str) = ⟨#[44, 32]⟩) (hn : (spWalk 44 32 L 0 0).isEmpty = false) : Txt.split x ", " = spParts L (spWalk 44 32 L 0 0) := by
  have hl : x.length = L.length := by
    rw [← h]
    exact (Array.length_toList).symm
  have k1 : PySem.Builtin.Str.strKind x = 1 := sp_kind x (by rw [h]; exact hk2)
  have k2 : PySem.Builtin.Str.strKind (⟨#[44, 32]⟩ : Str) = 1 := sp_kind _ (by decide)
  have k3 : Str.length (⟨#[44, 32]⟩ : Str) = 2 := rfl
  unfold Txt.split
  rw [hs, k1, k2, k3, hl]
  have e : (decide (L.length < 2) || decide (1 < 1)) = false := by
    rw [decide_eq_false (by omega), decide_eq_false (by omega)]
    rfl
  rw [e, if_neg Bool.false_ne_true]
  have q := sp_occ x 44 32 L h
  rw [hl] at q
  rw [q, hn, if_neg Bool.false_ne_true]
  exact sp_parts x L h _
end Dz

namespace K57
open PySem PySem.Spec PyProof.Rows L2 Dz
def topS (i : Nat) : Stmt := PySem.Challenge.pw_allstitches_k57_whole_spread.main.body.getD i (.Pass ⟨0, 0, 0, 0⟩)
def isWh : D → Bool
  | .int _ => true
  | _ => false
theorem eqD_ii {i j : Int} : eqD (.int i) (.int j) = (i == j) := by unfold eqD; rfl
def pd_is_whole : PD := fun _ ds Φ => ∃ d, ds = [d] ∧ (tyN d).isSome = true ∧ Φ (.bl (isWh d))
theorem iteDec {p A B : Prop} [Decidable p] (h1 : p → A) (h2 : ¬ p → B) : if decide p = true then A else B := by
  by_cases h : p
  · rw [if_pos (decide_eq_true h)]; exact h1 h
  · rw [if_neg (by rw [decide_eq_true_iff]; exact h)]; exact h2 h
/-! ### the kinds -/
structure Kd where
  takes : Nat
  makes : Nat
  back : Str
  mirror : Str
def kindL : List (Str × Nat × Nat × Str × Str) := [("k", 1, 1, "p", "k"), ("p", 1, 1, "k", "p"), ("ktbl", 1, 1, "ptbl", "ktbl"), ("ptbl", 1, 1, "ktbl", "ptbl"), ("sl", 1, 1, "slf", "sl"), ("slf", 1, 1, "sl", "slf"), ("yo", 0, 1, "yo", "yo"), ("co", 0, 1, "co", "co"), ("bo", 1, 0, "bo", "bo"), ("kfb", 1, 2, "pfb", "kfb"), ("pfb", 1, 2, "kfb", "pfb"), ("m1l", 0, 1, "m1lp", "m1r"), ("m1r", 0, 1, "m1rp", "m1l"), ("m1lp", 0, 1, "m1l", "m1rp"), ("m1rp", 0, 1, "m1r", "m1lp"), ("k2tog", 2, 1, "p2tog", "ssk"), ("ssk", 2, 1, "ssp", "k2tog"), ("p2tog", 2, 1, "k2tog", "ssp"), ("ssp", 2, 1, "ssk", "p2tog"), ("cdd", 3, 1, "cddp", "cdd"), ("cddp", 3, 1, "cdd", "cddp"), ("c2f", 2, 2, "c2fw", "c2b"), ("c2b", 2, 2, "c2bw", "c2f"), ("c2fw", 2, 2, "c2f", "c2bw"), ("c2bw", 2, 2, "c2b", "c2fw"), ("c4f", 4, 4, "c4fw", "c4b"), ("c4b", 4, 4, "c4bw", "c4f"), ("c4fw", 4, 4, "c4f", "c4bw"), ("c4bw", 4, 4, "c4b", "c4fw")]
def findL : List (Str × Nat × Nat × Str × Str) → Str → Option Kd
  | [], _ => none
  | (k, a, b, c, d) :: r, z => if k = z then some ⟨a, b, c, d⟩ else findL r z
def kindRow (z : Str) : Option Kd := findL kindL z
def kdD (r : Kd) : D := .tup [.int r.takes, .int r.makes, .str r.back, .str r.mirror]
def strange : List Str := ["K", "", "yarn", "k2"]
def kindTab (z : Str) : Option (Option D) := match kindRow z with
  | some r => some (some (kdD r))
  | none => if z ∈ strange then some none else none
def names0 : List Str := kindL.map (·.1)
structure TxtK (w : World) (K : PySem.W.Frag) (mg : Str → Option Value) (kd : Addr) : Prop where
  mg_KINDS : mg "KINDS" = some (.ref kd)
  tab_KINDS : KTab K w kd kindTab
  keys_KINDS : KKeys K w kd names0
  mg_MOST_BEFORE : ∃ t, mg "MOST_BEFORE" = some (.int 60 t)
  mg_MOST_GROUP : ∃ t, mg "MOST_GROUP" = some (.int 30 t)
  mg_MOST_AFTER : ∃ t, mg "MOST_AFTER" = some (.int 60 t)
  mg_isinstance : mg "isinstance" = none
  mg_str : mg "str" = none
  mg_tuple : mg "tuple" = none
  mg_len : mg "len" = none
  mg_all : mg "all" = none
  mg_any : mg "any" = none
  mg_sum : mg "sum" = none
  mg_sorted : mg "sorted" = none
  mg_list : mg "list" = none
  mg_int : mg "int" = none
  mg_abs : mg "abs" = none
  mg_range : mg "range" = none

/-! ### what the defs give -/
def isKindD : D → Bool
  | .str z => (kindRow z).isSome
  | _ => false
def okKind (d : D) : Bool := (tyN d).isSome && match d with
  | .str z => (kindTab z).isSome
  | _ => true
def yarnB (z : Str) : Bool := z.length == 1 && (!decide (z.cps.toList < ("a" : Str).cps.toList) && !decide (("z" : Str).cps.toList < z.cps.toList))
def isYarnD : D → Bool
  | .str z => yarnB z
  | _ => false
def okYarn (d : D) : Bool := (tyN d).isSome && match d with
  | .str z => decide (z.length ≤ 1000)
  | _ => true
def isCellD : D → Bool
  | .tup [a, b] => isKindD a && isYarnD b
  | _ => false
def okCell (d : D) : Bool := (tyN d).isSome && match d with
  | .tup [a, b] => okKind a && okYarn b
  | _ => true
def isWordD : D → Bool
  | .tup l => l.all isCellD
  | _ => false
def okWord (d : D) : Bool := (tyN d).isSome && match d with
  | .tup l => l.all okCell && decide (l.length ≤ 1000)
  | _ => true
def pd_is_kind : PD := fun _ ds Φ => ∃ d, ds = [d] ∧ okKind d = true ∧ Φ (.bl (isKindD d))
def pd_is_yarn : PD := fun _ ds Φ => ∃ d, ds = [d] ∧ okYarn d = true ∧ Φ (.bl (isYarnD d))
def pd_is_cell : PD := fun _ ds Φ => ∃ d, ds = [d] ∧ okCell d = true ∧ Φ (.bl (isCellD d))
def pd_is_word : PD := fun _ ds Φ => ∃ d, ds = [d] ∧ okWord d = true ∧ Φ (.bl (isWordD d))
/-! ### words -/
abbrev Wd := List (Str × Str)
def encC (c : Str × Str) : D := .tup [.str c.1, .str c.2]
def Good (ws : Wd) : Prop := ws.length ≤ 1000 ∧ ∀ c ∈ ws, (kindRow c.1).isSome = true
def tk (z : Str) : Int := match kindRow z with | some r => r.takes | none => 0
def mk' (z : Str) : Int := match kindRow z with | some r => r.makes | none => 0
def bk (z : Str) : Str := match kindRow z with | some r => r.back | none => z
def mi (z : Str) : Str := match kindRow z with | some r => r.mirror | none => z
def pd_takes : PD := fun _ ds Φ => ∃ ws, Good ws ∧ ds = [.tup (ws.map encC)] ∧ Φ (.int ((ws.map fun c => tk c.1).sum))
def pd_makes : PD := fun _ ds Φ => ∃ ws, Good ws ∧ ds = [.tup (ws.map encC)] ∧ Φ (.int ((ws.map fun c => mk' c.1).sum))
def pd_behind : PD := fun _ ds Φ => ∃ ws, Good ws ∧ ds = [.tup (ws.map encC)] ∧ Φ (.tup ((ws.reverse.map fun c => (bk c.1, c.2)).map encC))
def pd_mirrored_word : PD := fun _ ds Φ => ∃ ws, Good ws ∧ ds = [.tup (ws.map encC)] ∧ Φ (.tup ((ws.reverse.map fun c => (mi c.1, c.2)).map encC))
def dKeys : List Key := kindL.map fun r => Sum.inr r.1
def dVals : List D := kindL.map fun r => kdD ⟨r.2.1, r.2.2.1, r.2.2.2.1, r.2.2.2.2⟩
def kinds0 : D := .dct dKeys dVals
def pd_law_takes : PD := fun _ ds Φ => ∃ ws, Good ws ∧ ds = [.tup (ws.map encC), kinds0] ∧ Φ (.int ((ws.map fun c => tk c.1).sum))
def pd_law_makes : PD := fun _ ds Φ => ∃ ws, Good ws ∧ ds = [.tup (ws.map encC), kinds0] ∧ Φ (.int ((ws.map fun c => mk' c.1).sum))
def pd_law_back : PD := fun _ ds Φ => ∃ ws, Good ws ∧ ds = [.tup (ws.map encC), kinds0] ∧ Φ (.tup ((ws.reverse.map fun c => (bk c.1, c.2)).map encC))
def pd_law_mirror : PD := fun _ ds Φ => ∃ ws, Good ws ∧ ds = [.tup (ws.map encC), kinds0] ∧ Φ (.tup ((ws.reverse.map fun c => (mi c.1, c.2)).map encC))
theorem getK_L (z : Str) : ∀ L : List (Str × Nat × Nat × Str × Str), getK (L.map fun r => Sum.inr r.1) (L.map fun r => kdD ⟨r.2.1, r.2.2.1, r.2.2.2.1, r.2.2.2.2⟩) (Sum.inr z) = (findL L z).map kdD
  | [] => rfl
  | (k, a, b, c, d) :: r => by
    simp only [List.map_cons, getK, findL]
    by_cases h : k = z
    · subst h; simp
    · have h' : ¬ (Sum.inr k : Key) = Sum.inr z := fun q => h (Sum.inr.inj q)
      rw [if_neg h, if_neg h']
      exact getK_L z r
theorem getK_kinds {z : Str} {r : Kd} (h : kindRow z = some r) : getK dKeys dVals (Sum.inr z) = some (kdD r) := by
  have := getK_L z kindL
  unfold dKeys dVals
  rw [this]
  show (kindRow z).map kdD = _
  rw [h]; rfl
theorem tab_of {z : Str} {r : Kd} (h : kindRow z = some r) : kindTab z = some (some (kdD r)) := by unfold kindTab; rw [h]
theorem some_of {z : Str} (h : (kindRow z).isSome = true) : ∃ r, kindRow z = some r := Option.isSome_iff_exists.mp h
theorem tk_eq {z : Str} {r : Kd} (h : kindRow z = some r) : tk z = r.takes := by unfold tk; rw [h]
theorem mk_eq {z : Str} {r : Kd} (h : kindRow z = some r) : mk' z = r.makes := by unfold mk'; rw [h]
theorem bk_eq {z : Str} {r : Kd} (h : kindRow z = some r) : bk z = r.back := by unfold bk; rw [h]
theorem mi_eq {z : Str} {r : Kd} (h : kindRow z = some r) : mi z = r.mirror := by unfold mi; rw [h]
theorem map_ints {α : Type} (ws : List α) (f : α → Int) : ws.map (fun c => D.int (f c)) = (ws.map f).map D.int := by rw [List.map_map]; rfl

def unC : D → Str × Str
  | .tup [.str a, .str b] => (a, b)
  | _ => ("", "")
def takesD (l : List D) : Int := ((l.map unC).map fun c => tk c.1).sum
def isRowD : D → Bool
  | .tup [.tup a, .tup b, .tup c] => (a.all isCellD && (b.all isCellD && c.all isCellD)) && ((decide (a.length ≤ 60) && (decide (b.length ≤ 30) && decide (c.length ≤ 60))) && (if b.isEmpty then c.isEmpty else decide (0 < takesD b)))
  | _ => false
def okRow (d : D) : Bool := (tyN d).isSome && match d with
  | .tup [a, b, c] => okWord a && (okWord b && okWord c)
  | _ => true
abbrev pd_law_number : PD := pdNumber
abbrev pd_law_take : PD := pdTake
abbrev pd_law_pick : PD := pdPick
def pd_is_row : PD := fun _ ds Φ => ∃ d, ds = [d] ∧ okRow d = true ∧ Φ (.bl (isRowD d))
theorem cell_un {d : D} (h : isCellD d = true) : d = encC (unC d) ∧ (kindRow (unC d).1).isSome = true := by
  cases d with
  | tup l =>
    match l, h with
    | [a, b], h =>
      have h : (isKindD a && isYarnD b) = true := h
      rw [Bool.and_eq_true] at h
      cases a with
      | str x =>
        cases b with
        | str y => exact ⟨rfl, h.1⟩
        | _ => exact absurd h.2 (by unfold isYarnD; exact Bool.false_ne_true)
      | _ => exact absurd h.1 (by unfold isKindD; exact Bool.false_ne_true)
    | [], h => cases h
    | [_], h => cases h
    | _ :: _ :: _ :: _, h => cases h
  | _ => cases h
theorem word_un : ∀ {l : List D}, l.all isCellD = true → l = (l.map unC).map encC ∧ ∀ c ∈ l.map unC, (kindRow c.1).isSome = true
  | [], _ => ⟨rfl, fun c h => nomatch h⟩
  | d :: l, h => by
    rw [List.all_cons, Bool.and_eq_true] at h
    obtain ⟨h1, h2⟩ := cell_un h.1
    obtain ⟨h3, h4⟩ := word_un h.2
    refine ⟨?_, fun c hc => ?_⟩
    · rw [List.map_cons, List.map_cons, ← h1, ← h3]
    · rw [List.map_cons] at hc
      rcases List.mem_cons.mp hc with e | hc
      · rw [e]; exact h2
      · exact h4 c hc
theorem isW_tup {d : D} (h : isWordD d = true) : ∃ l, d = .tup l ∧ l.all isCellD = true := by
  cases d with
  | tup l => exact ⟨l, rfl, h⟩
  | _ => cases h

section
variable {P : Program} {w : World} {K : PySem.W.Frag} {mg : Str → Option Value} {base : Heap} {kd : Addr}
abbrev s_is_kind : Stmt := topS 11
theorem sc_is_kind : FnScope ["thing"] ["thing"] (defScope s_is_kind) := ⟨rfl, rfl, rfl, by decide +kernel, rfl, by decide +kernel, by decide +kernel⟩
theorem ok_is_kind {f : Addr} {fd : FuncData} (F : Fun K "is_kind" "is_kind" s_is_kind f fd) (T : TxtK w K mg kd)  : FnOk P w K mg base CX0 1 f fd ["thing"] (spD K pd_is_kind) :=
  fn_dz F sc_is_kind (fun A ds Ψ h => by
      obtain ⟨d, rfl, _⟩ := h; rfl) (fun A cdv Ar outer s H E hr =>
    (dss_one (ds_ret (de_andT (de_callB callD_isi rfl T.mg_isinstance (by decide +kernel) (da_cons (de_var 0) (da_cons (de_bltn (v := .ty "str") (d := .ty "str") rfl T.mg_str (by decide +kernel) rfl (fun _ => rep_ty.mpr rfl)) da_nil))) (de_one (de_cmp (opd_ink T.tab_KINDS) (de_var 0) (de_glob (v := .ref kd) (d := .tok kd) rfl T.mg_KINDS rfl (fun _ => rep_tok.mpr rfl)) (by rfl)))))))
    (fun A ds Ψ h => by
      obtain ⟨d, rfl, ok, h⟩ := h
      cases d with
      | str z =>
        refine ⟨by decide, _, rfl, true, rfl, ?_⟩
        unfold okKind at ok
        unfold isKindD at h
        have hz : (kindTab z).isSome = true := ok
        obtain ⟨r, hr⟩ := Option.isSome_iff_exists.mp hz
        refine iteT ⟨rfl, r, hr, ?_⟩
        have e : r.isSome = (kindRow z).isSome := by
          unfold kindTab at hr
          cases q : kindRow z with
          | some k => rw [q] at hr; cases hr; rfl
          | none =>
            rw [q] at hr
            simp only at hr
            split at hr
            · cases hr; rfl
            · cases hr
        rw [e]
        exact h
      | _ =>
        first
          | exact ⟨by decide, _, rfl, false, rfl, iteF h⟩
          | (unfold okKind at ok; cases ok))

abbrev s_is_yarn : Stmt := topS 12
theorem sc_is_yarn : FnScope ["thing"] ["thing"] (defScope s_is_yarn) := ⟨rfl, rfl, rfl, by decide +kernel, rfl, by decide +kernel, by decide +kernel⟩
theorem ok_is_yarn {f : Addr} {fd : FuncData} (F : Fun K "is_yarn" "is_yarn" s_is_yarn f fd) (T : TxtK w K mg kd)  : FnOk P w K mg base CX0 1 f fd ["thing"] (spD K pd_is_yarn) :=
  fn_dz F sc_is_yarn (fun A ds Ψ h => by
      obtain ⟨d, rfl, _⟩ := h; rfl) (fun A cdv Ar outer s H E hr =>
    (dss_one (ds_ret (de_andT (de_callB callD_isi rfl T.mg_isinstance (by decide +kernel) (da_cons (de_var 0) (da_cons (de_bltn (v := .ty "str") (d := .ty "str") rfl T.mg_str (by decide +kernel) rfl (fun _ => rep_ty.mpr rfl)) da_nil))) (de_andT (de_cmp (opd_eq hr.units) (de_callB callD_len rfl T.mg_len (by decide +kernel) (da_cons (de_var 0) da_nil)) de_int) (de_one (de_chain opd_le opd_le de_str (de_var 0) de_str)))))))
    (fun A ds Ψ h => by
      obtain ⟨d, rfl, ok, h⟩ := h
      cases d with
      | str z =>
        refine ⟨by decide, _, rfl, true, rfl, ?_⟩
        have hz : z.length ≤ 1000 := of_decide_eq_true ok
        refine iteT ⟨Nat.le_trans hz (by decide), rfl, rfl, _, rfl, ?_⟩
        have h : Ψ (.bl (z.length == 1 && (!decide (z.cps.toList < ("a" : Str).cps.toList) && !decide (("z" : Str).cps.toList < z.cps.toList)))) := h
        have e1 : (((z.length : Nat) : Int) == 1) = (z.length == 1) := by
          rw [Bool.eq_iff_iff, beq_iff_eq, beq_iff_eq]; omega
        rw [eqD_ii, e1]
        cases c : z.length == 1 with
        | false => rw [c] at h; exact iteF h
        | true =>
          rw [c] at h
          refine iteT ⟨_, rfl, ?_⟩
          cases c2 : !decide (z.cps.toList < ("a" : Str).cps.toList) with
          | false => rw [c2] at h; exact iteF h
          | true => rw [c2] at h; exact iteT h
      | _ =>
        first
          | exact ⟨by decide, _, rfl, false, rfl, iteF h⟩
          | (unfold okYarn at ok; cases ok))

abbrev s_is_cell : Stmt := topS 13
theorem sc_is_cell : FnScope ["thing"] ["thing"] (defScope s_is_cell) := ⟨rfl, rfl, rfl, by decide +kernel, rfl, by decide +kernel, by decide +kernel⟩
theorem ok_is_cell {f : Addr} {fd : FuncData} (F : Fun K "is_cell" "is_cell" s_is_cell f fd) (T : TxtK w K mg kd) (G_is_kind : Own P w K mg base "is_kind" 1 ["thing"] pd_is_kind) (G_is_yarn : Own P w K mg base "is_yarn" 1 ["thing"] pd_is_yarn) : FnOk P w K mg base CX0 2 f fd ["thing"] (spD K pd_is_cell) :=
  fn_dz F sc_is_cell (fun A ds Ψ h => by
      obtain ⟨d, rfl, _⟩ := h; rfl) (fun A cdv Ar outer s H E hr =>
    (dss_one (ds_ret (de_andT (de_callB callD_isi rfl T.mg_isinstance (by decide +kernel) (da_cons (de_var 0) (da_cons (de_bltn (v := .ty "tuple") (d := .ty "tuple") rfl T.mg_tuple (by decide +kernel) rfl (fun _ => rep_ty.mpr rfl)) da_nil))) (de_andT (de_cmp (opd_eq hr.units) (de_callB callD_len rfl T.mg_len (by decide +kernel) (da_cons (de_var 0) da_nil)) de_int) (de_andT (de_own G_is_kind (hr.mono (by decide)) rfl (da_cons (de_ix (ixd hr.units) (de_var 0) de_int) da_nil)) (de_one (de_own G_is_yarn (hr.mono (by decide)) rfl (da_cons (de_ix (ixd hr.units) (de_var 0) de_int) da_nil)))))))))
    (fun A ds Ψ h => by
      obtain ⟨d, rfl, ok, h⟩ := h
      cases d with
      | tup l =>
        refine ⟨by decide, _, rfl, true, rfl, iteT ⟨rfl, rfl, _, rfl, ?_⟩⟩
        match l, ok, h with
        | [], ok, h => exact iteF h
        | [a], ok, h => exact iteF h
        | [a, b], ok, h =>
          unfold okCell at ok
          have ok' : (okKind a && okYarn b) = true := ok
          rw [Bool.and_eq_true] at ok'
          refine iteT ⟨_, rfl, a, rfl, ok'.1, _, rfl, ?_⟩
          have h : Ψ (.bl (isKindD a && isYarnD b)) := h
          cases c : isKindD a with
          | false => rw [c] at h; exact iteF h
          | true => rw [c] at h; exact iteT ⟨_, rfl, b, rfl, ok'.2, h⟩
        | a :: b :: c :: r, ok, h =>
          have e : eqD (.int ((a :: b :: c :: r).length : Nat)) (.int 2) = false := by
            rw [eqD_ii]
            simp only [List.length_cons]
            rw [beq_eq_false_iff_ne]
            omega
          rw [e]
          exact iteF h
      | _ =>
        first
          | exact ⟨by decide, _, rfl, false, rfl, iteF h⟩
          | (unfold okCell at ok; cases ok))

abbrev s_is_word : Stmt := topS 14
theorem sc_is_word : FnScope ["thing", "cell"] ["thing"] (defScope s_is_word) := ⟨rfl, rfl, rfl, by decide +kernel, rfl, by decide +kernel, by decide +kernel⟩
theorem ok_is_word {f : Addr} {fd : FuncData} (F : Fun K "is_word" "is_word" s_is_word f fd) (T : TxtK w K mg kd) (G_is_cell : Own P w K mg base "is_cell" 2 ["thing"] pd_is_cell) : FnOk P w K mg base CX0 3 f fd ["thing"] (spD K pd_is_word) :=
  fn_dz F sc_is_word (fun A ds Ψ h => by
      obtain ⟨d, rfl, _⟩ := h; rfl) (fun A cdv Ar outer s H E hr =>
    (dss_one (ds_ret (de_andT (de_callB callD_isi rfl T.mg_isinstance (by decide +kernel) (da_cons (de_var 0) (da_cons (de_bltn (v := .ty "tuple") (d := .ty "tuple") rfl T.mg_tuple (by decide +kernel) rfl (fun _ => rep_ty.mpr rfl)) da_nil))) (de_one (de_callB (callD_all rfl) rfl T.mg_all (by decide +kernel) (da_cons (de_lc rfl sc_is_word.nd (di_seq (de_var 0)) (blkOk_by (own := [("cell", 1)]) (N := ["thing", "cell"]) (sc := defScope s_is_word) (by decide +kernel)) (fun _ _ _ _ _ => (dg_name (i := 1) sc_is_word.nd rfl (Or.inl rfl))) (fun _ _ _ _ _ => dts_nil) (fun _ _ _ _ _ => (de_own G_is_cell (hr.mono (by decide)) rfl (da_cons (de_var 1) da_nil)))) da_nil)))))))
    (fun A ds Ψ h => by
      obtain ⟨d, rfl, ok, h⟩ := h
      cases d with
      | tup l =>
        unfold okWord at ok
        have ok' : (l.all okCell && decide (l.length ≤ 1000)) = true := ok
        rw [Bool.and_eq_true] at ok'
        have hl : l.length ≤ 1000 := of_decide_eq_true ok'.2
        refine ⟨by decide, _, rfl, true, rfl, iteT ⟨l, rfl, ?_⟩⟩
        refine lc_map0 (α := D) l id (fun c => .bl (isCellD c)) (List.map_id l).symm (by omega) (fun x hx J acc hJ => ?_) ?_
        · exact ⟨x, rfl, List.all_eq_true.mp ok'.1 x hx, rfl, hJ⟩
        · refine ⟨l.map isCellD, by rw [List.map_map]; rfl, ?_⟩
          have e : (l.map isCellD).all id = l.all isCellD := by rw [List.all_map]; rfl
          rw [e]
          exact h
      | _ =>
        first
          | exact ⟨by decide, _, rfl, false, rfl, iteF h⟩
          | (unfold okWord at ok; cases ok))

abbrev s_takes : Stmt := topS 15
theorem sc_takes : FnScope ["word", "kind", "_"] ["word"] (defScope s_takes) := ⟨rfl, rfl, rfl, by decide +kernel, rfl, by decide +kernel, by decide +kernel⟩
theorem ok_takes {f : Addr} {fd : FuncData} (F : Fun K "takes" "takes" s_takes f fd) (T : TxtK w K mg kd)  : FnOk P w K mg base CX0 1 f fd ["word"] (spD K pd_takes) :=
  fn_dz F sc_takes (fun A ds Ψ h => by
      obtain ⟨ws, _, rfl, _⟩ := h; rfl) (fun A cdv Ar outer s H E hr =>
    (dss_one (ds_ret (de_callB (callD_sum rfl) rfl T.mg_sum (by decide +kernel) (da_cons (de_lc rfl sc_takes.nd (di_seq (de_var 0)) (blkOk_by (own := [("kind", 1), ("_", 2)]) (N := ["word", "kind", "_"]) (sc := defScope s_takes) (by decide +kernel)) (fun _ _ _ _ _ => (dg_tup (n := 2) rfl (dgs_cons (dg_name (i := 1) sc_takes.nd rfl (Or.inl rfl)) (dgs_cons (dg_name (i := 2) sc_takes.nd rfl (Or.inl rfl)) dgs_nil)))) (fun _ _ _ _ _ => dts_nil) (fun _ _ _ _ _ => (de_ix (ixd hr.units) (de_ix (ixk T.tab_KINDS) (de_glob (v := .ref kd) (d := .tok kd) rfl T.mg_KINDS rfl (fun _ => rep_tok.mpr rfl)) (de_var 1)) de_int))) da_nil)))))
    (fun A ds Ψ h => by
      obtain ⟨ws, gw, rfl, h⟩ := h
      refine ⟨_, rfl, ?_⟩
      refine lc_map0 ws encC (fun c => .int (tk c.1)) rfl (Nat.le_trans gw.1 (by decide)) (fun c hc J acc hJ => ?_) ?_
      · obtain ⟨r, hr⟩ := some_of (gw.2 c hc)
        refine ⟨rfl, rfl, rfl, kdD r, tab_of hr, _, rfl, rfl, ?_⟩
        rw [tk_eq hr] at hJ
        exact hJ
      · exact ⟨ws.map fun c => tk c.1, by rw [map_ints], h⟩)

abbrev s_makes : Stmt := topS 16
theorem sc_makes : FnScope ["word", "kind", "_"] ["word"] (defScope s_makes) := ⟨rfl, rfl, rfl, by decide +kernel, rfl, by decide +kernel, by decide +kernel⟩
theorem ok_makes {f : Addr} {fd : FuncData} (F : Fun K "makes" "makes" s_makes f fd) (T : TxtK w K mg kd)  : FnOk P w K mg base CX0 1 f fd ["word"] (spD K pd_makes) :=
  fn_dz F sc_makes (fun A ds Ψ h => by
      obtain ⟨ws, _, rfl, _⟩ := h; rfl) (fun A cdv Ar outer s H E hr =>
    (dss_one (ds_ret (de_callB (callD_sum rfl) rfl T.mg_sum (by decide +kernel) (da_cons (de_lc rfl sc_makes.nd (di_seq (de_var 0)) (blkOk_by (own := [("kind", 1), ("_", 2)]) (N := ["word", "kind", "_"]) (sc := defScope s_makes) (by decide +kernel)) (fun _ _ _ _ _ => (dg_tup (n := 2) rfl (dgs_cons (dg_name (i := 1) sc_makes.nd rfl (Or.inl rfl)) (dgs_cons (dg_name (i := 2) sc_makes.nd rfl (Or.inl rfl)) dgs_nil)))) (fun _ _ _ _ _ => dts_nil) (fun _ _ _ _ _ => (de_ix (ixd hr.units) (de_ix (ixk T.tab_KINDS) (de_glob (v := .ref kd) (d := .tok kd) rfl T.mg_KINDS rfl (fun _ => rep_tok.mpr rfl)) (de_var 1)) de_int))) da_nil)))))
    (fun A ds Ψ h => by
      obtain ⟨ws, gw, rfl, h⟩ := h
      refine ⟨_, rfl, ?_⟩
      refine lc_map0 ws encC (fun c => .int (mk' c.1)) rfl (Nat.le_trans gw.1 (by decide)) (fun c hc J acc hJ => ?_) ?_
      · obtain ⟨r, hr⟩ := some_of (gw.2 c hc)
        refine ⟨rfl, rfl, rfl, kdD r, tab_of hr, _, rfl, rfl, ?_⟩
        rw [mk_eq hr] at hJ
        exact hJ
      · exact ⟨ws.map fun c => mk' c.1, by rw [map_ints], h⟩)

abbrev s_is_row : Stmt := topS 30
theorem sc_is_row : FnScope ["thing", "before", "group", "after", "word"] ["thing"] (defScope s_is_row) := ⟨rfl, rfl, rfl, by decide +kernel, rfl, by decide +kernel, by decide +kernel⟩
theorem ok_is_row {f : Addr} {fd : FuncData} (F : Fun K "is_row" "is_row" s_is_row f fd) (T : TxtK w K mg kd) (G_is_word : Own P w K mg base "is_word" 3 ["thing"] pd_is_word) (G_takes : Own P w K mg base "takes" 1 ["word"] pd_takes) : FnOk P w K mg base CX0 4 f fd ["thing"] (spD K pd_is_row) :=
  fn_dz F sc_is_row (fun A ds Ψ h => by
      obtain ⟨d, rfl, _⟩ := h; rfl) (fun A cdv Ar outer s H E hr =>
    (dss_cons (ds_if (PW.pt (dw_or (dt_not (dt_truth (de_callB callD_isi rfl T.mg_isinstance (by decide +kernel) (da_cons (de_var 0) (da_cons (de_bltn (v := .ty "tuple") (d := .ty "tuple") rfl T.mg_tuple (by decide +kernel) rfl (fun _ => rep_ty.mpr rfl)) da_nil))) (by intro _; rfl))) (dw_or1 (dt_cmp (opd_ne hr.units) (de_callB callD_len rfl T.mg_len (by decide +kernel) (da_cons (de_var 0) da_nil)) de_int))))
      (dss_one (ds_ret de_bl))
      dss_nil)
    (dss_cons (ds_if (dt_not (dt_truth (de_callB (callD_all rfl) rfl T.mg_all (by decide +kernel) (da_cons (de_lc rfl sc_is_row.nd (di_seq (de_var 0)) (blkOk_by (own := [("word", 4)]) (N := ["thing", "before", "group", "after", "word"]) (sc := defScope s_is_row) (by decide +kernel)) (fun _ _ _ _ _ => (dg_name (i := 4) sc_is_row.nd rfl (Or.inl rfl))) (fun _ _ _ _ _ => dts_nil) (fun _ _ _ _ _ => (de_own G_is_word (hr.mono (by decide)) rfl (da_cons (de_var 4) da_nil)))) da_nil)) (by intro _; rfl)))
      (dss_one (ds_ret de_bl))
      dss_nil)
    (dss_cons (ds_asg (vs := [0, 1, 2, 3, 4]) (de_var 0) (dg_tup (n := 3) rfl (dgs_cons (dg_name (i := 1) sc_is_row.nd rfl (Or.inl rfl)) (dgs_cons (dg_name (i := 2) sc_is_row.nd rfl (Or.inl rfl)) (dgs_cons (dg_name (i := 3) sc_is_row.nd rfl (Or.inl rfl)) dgs_nil)))))
    (dss_cons (ds_if (PW.pt (dw_or (dt_cmp opd_gt (de_callB callD_len rfl T.mg_len (by decide +kernel) (da_cons (de_var 1) da_nil)) (de_constI rfl T.mg_MOST_BEFORE)) (dw_or (dt_cmp opd_gt (de_callB callD_len rfl T.mg_len (by decide +kernel) (da_cons (de_var 2) da_nil)) (de_constI rfl T.mg_MOST_GROUP)) (dw_or1 (dt_cmp opd_gt (de_callB callD_len rfl T.mg_len (by decide +kernel) (da_cons (de_var 3) da_nil)) (de_constI rfl T.mg_MOST_AFTER))))))
      (dss_one (ds_ret de_bl))
      dss_nil)
    (dss_cons (ds_if (dt_not (dt_truth (de_var 2) (by intro _; rfl)))
      (dss_one (ds_ret (de_notT (de_var 3))))
      dss_nil)
    (dss_one (ds_ret (de_cmp opd_gt (de_own G_takes (hr.mono (by decide)) rfl (da_cons (de_var 2) da_nil)) de_int)))))))))
    (fun A ds Ψ h => by
      obtain ⟨d, rfl, ok, h⟩ := h
      cases d with
      | tup l =>
        refine ⟨by decide, _, rfl, true, rfl, iteF ⟨rfl, rfl, _, rfl, ?_⟩⟩
        by_cases hl : l.length = 3
        · match l, hl with
          | [a, b, c], hl =>
            refine iteF ?_
            unfold okRow at ok
            have ok' : (okWord a && (okWord b && okWord c)) = true := ok
            rw [Bool.and_eq_true, Bool.and_eq_true] at ok'
            refine ⟨_, rfl, ?_⟩
            refine lc_map0 (α := D) [a, b, c] id (fun d => .bl (isWordD d)) rfl (by simp) (fun x hx J acc hJ => ?_) ?_
            · refine ⟨x, rfl, ?_, rfl, hJ⟩
              simp only [List.mem_cons, List.not_mem_nil, or_false] at hx
              rcases hx with rfl | rfl | rfl
              · exact ok'.1
              · exact ok'.2.1
              · exact ok'.2.2
            · refine ⟨[isWordD a, isWordD b, isWordD c], rfl, _, rfl, ?_⟩
              cases hw : [isWordD a, isWordD b, isWordD c].all id with
              | false =>
                refine iteT ?_
                have e : isRowD (.tup [a, b, c]) = false := by
                  cases a with
                  | tup a =>
                    cases b with
                    | tup b =>
                      cases c with
                      | tup c =>
                        have hw : (isWordD (.tup a) && (isWordD (.tup b) && (isWordD (.tup c) && true))) = false := hw
                        rw [Bool.and_true] at hw
                        have hw : (a.all isCellD && (b.all isCellD && c.all isCellD)) = false := hw
                        unfold isRowD
                        simp only [hw, Bool.false_and]
                      | _ => rfl
                    | _ => rfl
                  | _ => rfl
                rw [e] at h
                exact h
              | true =>
                refine iteF ?_
                have hw' : isWordD a = true ∧ isWordD b = true ∧ isWordD c = true := by
                  have hw : (isWordD a && (isWordD b && (isWordD c && true))) = true := hw
                  rw [Bool.and_eq_true, Bool.and_eq_true, Bool.and_true] at hw
                  exact hw
                obtain ⟨a, rfl, ha⟩ := isW_tup hw'.1
                obtain ⟨b, rfl, hb⟩ := isW_tup hw'.2.1
                obtain ⟨c, rfl, hc⟩ := isW_tup hw'.2.2
                have hR : isRowD (.tup [.tup a, .tup b, .tup c]) = ((decide (a.length ≤ 60) && (decide (b.length ≤ 30) && decide (c.length ≤ 60))) && (if b.isEmpty then c.isEmpty else decide (0 < takesD b))) := by
                  unfold isRowD
                  simp only [ha, hb, hc, Bool.true_and]
                rw [hR] at h
                refine ⟨rfl, rfl, _, rfl, ?_⟩
                by_cases h1 : a.length ≤ 60
                · rw [decide_eq_false (by omega)]
                  refine iteF ⟨_, rfl, ?_⟩
                  by_cases h2 : b.length ≤ 30
                  · rw [decide_eq_false (by omega)]
                    refine iteF ⟨_, rfl, ?_⟩
                    by_cases h3 : c.length ≤ 60
                    · rw [decide_eq_false (by omega)]
                      refine iteF ⟨_, rfl, ?_⟩
                      rw [decide_eq_true h1, decide_eq_true h2, decide_eq_true h3, Bool.true_and, Bool.true_and, Bool.true_and] at h
                      cases hb0 : b.isEmpty with
                      | true =>
                        rw [hb0, if_pos rfl] at h
                        refine iteT ⟨_, rfl, ?_⟩
                        show Ψ (.bl (!(!c.isEmpty)))
                        rw [Bool.not_not]
                        exact h
                      | false =>
                        rw [hb0, if_neg Bool.false_ne_true] at h
                        refine iteF ?_
                        obtain ⟨w1, w2⟩ := word_un hb
                        exact ⟨b.map unC, ⟨by rw [List.length_map]; omega, w2⟩, by rw [← w1], h⟩
                    · rw [decide_eq_true (by omega)]
                      rw [decide_eq_false h3, Bool.and_false, Bool.and_false, Bool.false_and] at h
                      exact iteT h
                  · rw [decide_eq_true (by omega)]
                    rw [decide_eq_false h2, Bool.false_and, Bool.and_false, Bool.false_and] at h
                    exact iteT h
                · rw [decide_eq_true (by omega)]
                  rw [decide_eq_false h1, Bool.false_and, Bool.false_and] at h
                  exact iteT h
        · have e1 : eqD (.int (l.length : Nat)) (.int 3) = false := by
            rw [eqD_ii, beq_eq_false_iff_ne]
            omega
          rw [e1]
          refine iteT ?_
          have e2 : isRowD (.tup l) = false := by
            unfold isRowD
            split
            · rename_i a b c heq
              have heq : l = [.tup a, .tup b, .tup c] := by injection heq
              exact absurd (by rw [heq]; rfl) hl
            · rfl
          rw [e2] at h
          exact h
      | _ =>
        first
          | exact ⟨by decide, _, rfl, false, rfl, iteT h⟩
          | (unfold okRow at ok; cases ok))

abbrev s_law_number : Stmt := topS 59
theorem sc_law_number : FnScope ["script", "index", "cell", "blend"] ["script", "index"] (defScope s_law_number) := ⟨rfl, rfl, rfl, by decide +kernel, rfl, by decide +kernel, by decide +kernel⟩
theorem ok_law_number {f : Addr} {fd : FuncData} (F : Fun K "_law_number" "_law_number" s_law_number f fd) (T : TxtK w K mg kd)  : FnOk P w K mg base CX0 1 f fd ["script", "index"] (spD K pd_law_number) :=
  fn_dz F sc_law_number (fun A ds Ψ h => by
      obtain ⟨ns, i, rfl, _⟩ := h; rfl) (fun A cdv Ar outer s H E hr =>
    (dss_cons (ds_if (dt_cmp (opd_eq hr.units) (de_var 0) (de_lst da_nil))
      (dss_one (ds_ret (de_callTy callD_int rfl T.mg_int (by decide +kernel) (da_cons (de_op opd_mod (de_op opd_add (de_op opd_mul (de_var 1) de_int) de_int) de_int) da_nil))))
      dss_nil)
    (dss_cons (ds_asg (vs := [0, 1, 2, 3]) (de_ix (ixd hr.units) (de_var 0) (de_op opd_mod (de_var 1) (de_callB callD_len rfl T.mg_len (by decide +kernel) (da_cons (de_var 0) da_nil)))) (dg_name (i := 2) sc_law_number.nd rfl (Or.inl rfl)))
    (dss_cons (ds_if (dt_cmp opd_ge (de_callB callD_abs rfl T.mg_abs (by decide +kernel) (da_cons (de_var 2) da_nil)) (de_op opd_pow de_int de_int))
      (dss_one (ds_asg (vs := [0, 1, 2, 3]) (de_op opd_mod (de_var 2) (de_op opd_pow de_int de_int)) (dg_name (i := 2) sc_law_number.nd rfl (Or.inl rfl))))
      dss_nil)
    (dss_cons (ds_asg (vs := [0, 1, 2, 3]) (de_op opd_mod (de_op opd_add (de_op opd_mul (de_op opd_add (de_var 2) (de_op opd_mul de_int (de_var 1))) de_int) (de_op opd_mul de_int (de_callB callD_len rfl T.mg_len (by decide +kernel) (da_cons (de_var 0) da_nil)))) de_int) (dg_name (i := 3) sc_law_number.nd rfl (Or.inl rfl)))
    (dss_one (ds_ret (de_callTy callD_int rfl T.mg_int (by decide +kernel) (da_cons (de_op opd_mod (de_op opd_add (de_op opd_mul (de_op opd_mod (de_op opd_mul (de_var 3) de_int) de_int) de_int) (de_var 1)) de_int) da_nil)))))))))
    (fun A ds Ψ h => by
      obtain ⟨ns, i, rfl, hl, h⟩ := h
      refine ⟨Nat.zero_le _, pl_fro_ints 11 ns, rfl, _, rfl, ?_⟩
      cases ns with
      | nil => exact iteT ⟨.inr ⟨by decide, by decide⟩, by decide, h _ (Int.emod_nonneg _ (by decide))⟩
      | cons n r =>
        refine iteF ⟨?_, ?_⟩
        · show (0 : Int) < (((n :: r).map D.int).length : Nat)
          simp only [List.length_map, List.length_cons]
          omega
        · have hpos : (0 : Int) < (((n :: r).map D.int).length : Nat) := by
            simp only [List.length_map, List.length_cons]
            omega
          obtain ⟨d, hd, e⟩ := atI_in (l := (n :: r).map D.int) (Int.emod_nonneg i (Int.ne_of_gt hpos)) (Int.emod_lt_of_pos i hpos)
          obtain ⟨c, _, rfl⟩ := List.mem_map.mp hd
          refine ⟨_, e, ⟨by decide, by decide, by decide⟩, _, rfl, ?_⟩
          refine ite2 (fun _ => ⟨⟨by decide, by decide, by decide⟩, by decide, ?_⟩) (fun _ => ?_)
          all_goals exact ⟨.inl ⟨by decide, by decide⟩, .inr ⟨by decide, by decide⟩, .inl ⟨by decide, by decide⟩, by decide, .inr ⟨by decide, by decide⟩, by decide, .inr ⟨by decide, by decide⟩, by decide, h _ (Int.emod_nonneg _ (by decide))⟩)

end
def tableT : Str := "k 1 1 p k, p 1 1 k p, ktbl 1 1 ptbl ktbl, ptbl 1 1 ktbl ptbl, sl 1 1 slf sl, slf 1 1 sl slf, yo 0 1 yo yo, co 0 1 co co, bo 1 0 bo bo, kfb 1 2 pfb kfb, pfb 1 2 kfb pfb, m1l 0 1 m1lp m1r, m1r 0 1 m1rp m1l, m1lp 0 1 m1l m1rp, m1rp 0 1 m1r m1lp, k2tog 2 1 p2tog ssk, ssk 2 1 ssp k2tog, p2tog 2 1 k2tog ssp, ssp 2 1 ssk p2tog, cdd 3 1 cddp cdd, cddp 3 1 cdd cddp, c2f 2 2 c2fw c2b, c2b 2 2 c2bw c2f, c2fw 2 2 c2f c2bw, c2bw 2 2 c2b c2fw, c4f 4 4 c4fw c4b, c4b 4 4 c4bw c4f, c4fw 4 4 c4f c4bw, c4bw 4 4 c4b c4fw"
def textL : List Str := ["k 1 1 p k", "p 1 1 k p", "ktbl 1 1 ptbl ktbl", "ptbl 1 1 ktbl ptbl", "sl 1 1 slf sl", "slf 1 1 sl slf", "yo 0 1 yo yo", "co 0 1 co co", "bo 1 0 bo bo", "kfb 1 2 pfb kfb", "pfb 1 2 kfb pfb", "m1l 0 1 m1lp m1r", "m1r 0 1 m1rp m1l", "m1lp 0 1 m1l m1rp", "m1rp 0 1 m1r m1lp", "k2tog 2 1 p2tog ssk", "ssk 2 1 ssp k2tog", "p2tog 2 1 k2tog ssp", "ssp 2 1 ssk p2tog", "cdd 3 1 cddp cdd", "cddp 3 1 cdd cddp", "c2f 2 2 c2fw c2b", "c2b 2 2 c2bw c2f", "c2fw 2 2 c2f c2bw", "c2bw 2 2 c2b c2fw", "c4f 4 4 c4fw c4b", "c4b 4 4 c4bw c4f", "c4fw 4 4 c4f c4bw", "c4bw 4 4 c4b c4fw"]
def tableL : List Nat := [107, 32, 49, 32, 49, 32, 112, 32, 107, 44, 32, 112, 32, 49, 32, 49, 32, 107, 32, 112, 44, 32, 107, 116, 98, 108, 32, 49, 32, 49, 32, 112, 116, 98, 108, 32, 107, 116, 98, 108, 44, 32, 112, 116, 98, 108, 32, 49, 32, 49, 32, 107, 116, 98, 108, 32, 112, 116, 98, 108, 44, 32, 115, 108, 32, 49, 32, 49, 32, 115, 108, 102, 32, 115, 108, 44, 32, 115, 108, 102, 32, 49, 32, 49, 32, 115, 108, 32, 115, 108, 102, 44, 32, 121, 111, 32, 48, 32, 49, 32, 121, 111, 32, 121, 111, 44, 32, 99, 111, 32, 48, 32, 49, 32, 99, 111, 32, 99, 111, 44, 32, 98, 111, 32, 49, 32, 48, 32, 98, 111, 32, 98, 111, 44, 32, 107, 102, 98, 32, 49, 32, 50, 32, 112, 102, 98, 32, 107, 102, 98, 44, 32, 112, 102, 98, 32, 49, 32, 50, 32, 107, 102, 98, 32, 112, 102, 98, 44, 32, 109, 49, 108, 32, 48, 32, 49, 32, 109, 49, 108, 112, 32, 109, 49, 114, 44, 32, 109, 49, 114, 32, 48, 32, 49, 32, 109, 49, 114, 112, 32, 109, 49, 108, 44, 32, 109, 49, 108, 112, 32, 48, 32, 49, 32, 109, 49, 108, 32, 109, 49, 114, 112, 44, 32, 109, 49, 114, 112, 32, 48, 32, 49, 32, 109, 49, 114, 32, 109, 49, 108, 112, 44, 32, 107, 50, 116, 111, 103, 32, 50, 32, 49, 32, 112, 50, 116, 111, 103, 32, 115, 115, 107, 44, 32, 115, 115, 107, 32, 50, 32, 49, 32, 115, 115, 112, 32, 107, 50, 116, 111, 103, 44, 32, 112, 50, 116, 111, 103, 32, 50, 32, 49, 32, 107, 50, 116, 111, 103, 32, 115, 115, 112, 44, 32, 115, 115, 112, 32, 50, 32, 49, 32, 115, 115, 107, 32, 112, 50, 116, 111, 103, 44, 32, 99, 100, 100, 32, 51, 32, 49, 32, 99, 100, 100, 112, 32, 99, 100, 100, 44, 32, 99, 100, 100, 112, 32, 51, 32, 49, 32, 99, 100, 100, 32, 99, 100, 100, 112, 44, 32, 99, 50, 102, 32, 50, 32, 50, 32, 99, 50, 102, 119, 32, 99, 50, 98, 44, 32, 99, 50, 98, 32, 50, 32, 50, 32, 99, 50, 98, 119, 32, 99, 50, 102, 44, 32, 99, 50, 102, 119, 32, 50, 32, 50, 32, 99, 50, 102, 32, 99, 50, 98, 119, 44, 32, 99, 50, 98, 119, 32, 50, 32, 50, 32, 99, 50, 98, 32, 99, 50, 102, 119, 44, 32, 99, 52, 102, 32, 52, 32, 52, 32, 99, 52, 102, 119, 32, 99, 52, 98, 44, 32, 99, 52, 98, 32, 52, 32, 52, 32, 99, 52, 98, 119, 32, 99, 52, 102, 44, 32, 99, 52, 102, 119, 32, 52, 32, 52, 32, 99, 52, 102, 32, 99, 52, 98, 119, 44, 32, 99, 52, 98, 119, 32, 52, 32, 52, 32, 99, 52, 98, 32, 99, 52, 102, 119]
theorem table_list : tableT.cps.toList = tableL := by decide +kernel
theorem table_few : 2 ≤ tableL.length := by decide +kernel
theorem table_low : tableL.all (fun z => decide (z < 256)) = true := by decide +kernel
theorem table_cuts : (spWalk 44 32 tableL 0 0).isEmpty = false := by decide +kernel
theorem table_parts : spParts tableL (spWalk 44 32 tableL 0 0) = textL := by decide +kernel
theorem split_table : Txt.split tableT ", " = textL := (sp_split tableT tableL table_list table_few table_low (by decide +kernel) table_cuts).trans table_parts
/-- a row of the table, read -/
def readRow (t : Str) : Option (Str × Int × Int × Str × Str) := match Txt.split t " " with
  | [a, b, c, d, e] => match PySem.intText? b, PySem.intText? c with
    | some m, some n => if b.length ≤ 640 ∧ c.length ≤ 640 then some (a, m, n, d, e) else none
    | _, _ => none
  | _ => none
theorem read_all : textL.map readRow = kindL.map fun r => some (r.1, (r.2.1 : Int), (r.2.2.1 : Int), r.2.2.2.1, r.2.2.2.2) := by decide +kernel
theorem fit_all : textL.all (fun t => decide (t.length ≤ 1000)) = true := by decide +kernel
theorem fresh_all : ∀ k ∈ List.range 29, (kindL[k]?.any fun r => !hasK (dKeys.take k) (Sum.inr r.1)) = true := by decide +kernel
theorem keys_len : dKeys.length = 29 := by decide +kernel
theorem kinds_len : kindL.length = 29 := by decide +kernel
theorem texts_len : textL.length = 29 := by decide +kernel
theorem read_row {t : Str} {r : Str × Int × Int × Str × Str} (h : readRow t = some r) : ∃ b c, Txt.split t " " = [r.1, b, c, r.2.2.2.1, r.2.2.2.2] ∧ PySem.intText? b = some r.2.1 ∧ PySem.intText? c = some r.2.2.1 ∧ b.length ≤ 640 ∧ c.length ≤ 640 := by
  unfold readRow at h
  split at h
  · rename_i a b c d e hs
    split at h
    · rename_i m n h1 h2
      split at h
      · rename_i hz
        cases h
        exact ⟨b, c, hs, h1, h2, hz.1, hz.2⟩
      · cases h
    · cases h
  · cases h
def pd_law_kinds : PD := fun _ ds Φ => ds = [] ∧ Φ kinds0
/-! ### rows -/
abbrev Rw := Wd × Wd × Wd
def encW (ws : Wd) : D := .tup (ws.map encC)
def encR (r : Rw) : D := .tup [encW r.1, encW r.2.1, encW r.2.2]
def GoodR (r : Rw) : Prop := Good r.1 ∧ Good r.2.1 ∧ Good r.2.2
def tkW (ws : Wd) : Int := (ws.map fun c => tk c.1).sum
def needsN (r : Rw) : Int := tkW r.1 + tkW r.2.2
def pd_needs : PD := fun _ ds Φ => ∃ r, GoodR r ∧ ds = [encR r] ∧ Φ (.int (needsN r))
section
variable {P : Program} {w : World} {K : PySem.W.Frag} {mg : Str → Option Value} {base : Heap} {kd : Addr}
abbrev s_needs : Stmt := topS 31
theorem sc_needs : FnScope ["row"] ["row"] (defScope s_needs) := ⟨rfl, rfl, rfl, by decide +kernel, rfl, by decide +kernel, by decide +kernel⟩
theorem ok_needs {f : Addr} {fd : FuncData} (F : Fun K "needs" "needs" s_needs f fd) (T : TxtK w K mg kd) (G_takes : Own P w K mg base "takes" 1 ["word"] pd_takes) : FnOk P w K mg base CX0 2 f fd ["row"] (spD K pd_needs) :=
  fn_dz F sc_needs (fun A ds Ψ h => by
      obtain ⟨r, _, rfl, _⟩ := h; rfl) (fun A cdv Ar outer s H E hr =>
    (dss_one (ds_ret (de_op opd_add (de_own G_takes (hr.mono (by decide)) rfl (da_cons (de_ix (ixd hr.units) (de_var 0) de_int) da_nil)) (de_own G_takes (hr.mono (by decide)) rfl (da_cons (de_ix (ixd hr.units) (de_var 0) de_int) da_nil))))))
    (fun A ds Ψ h => by
      obtain ⟨r, hg, rfl, h⟩ := h
      exact ⟨_, rfl, r.1, hg.1, rfl, _, rfl, r.2.2, hg.2.2, rfl, h⟩)

abbrev s_law_take : Stmt := topS 60
theorem sc_law_take : FnScope ["draw", "many"] ["draw", "many"] (defScope s_law_take) := ⟨rfl, rfl, rfl, by decide +kernel, rfl, by decide +kernel, by decide +kernel⟩
theorem ok_law_take {f : Addr} {fd : FuncData} (F : Fun K "_law_take" "_law_take" s_law_take f fd) (T : TxtK w K mg kd) (G_law_number : Own P w K mg base "_law_number" 1 ["script", "index"] pdNumber) : FnOk P w K mg base CX0 2 f fd ["draw", "many"] (spD K pdTake) :=
  fn_dz F sc_law_take (fun A ds Ψ h => by
      obtain ⟨p, ns, m, rfl, _⟩ := h; rfl) (fun A cdv Ar outer s H E hr =>
    (dss_cons (ds_drawInc 0)
    (dss_one (ds_ret (de_op opd_mod (de_callTy callD_int rfl T.mg_int (by decide +kernel) (da_cons (de_own G_law_number (hr.mono (by decide)) rfl (da_cons (de_drawIx 0) (da_cons (de_callTy callD_int rfl T.mg_int (by decide +kernel) (da_cons (de_drawIx 0) da_nil)) da_nil))) da_nil)) (de_var 1))))))
    (fun A ds Ψ h => by
      obtain ⟨p, ns, m, rfl, d, hm, h⟩ := h
      exact ⟨p, ns, rfl, d, p, ns, rfl, d, .inl ⟨rfl, p, ns, rfl, d, .inr ⟨rfl, fun n => ⟨ns, n, rfl, d.few, fun r hr => ⟨hm, h _ (Int.emod_nonneg r (Int.ne_of_gt hm)) (Int.emod_lt_of_pos r hm)⟩⟩⟩⟩⟩)

abbrev s_law_pick : Stmt := topS 61
theorem sc_law_pick : FnScope ["draw", "items"] ["draw", "items"] (defScope s_law_pick) := ⟨rfl, rfl, rfl, by decide +kernel, rfl, by decide +kernel, by decide +kernel⟩
theorem ok_law_pick {f : Addr} {fd : FuncData} (F : Fun K "_law_pick" "_law_pick" s_law_pick f fd) (T : TxtK w K mg kd) (G_law_take : Own P w K mg base "_law_take" 2 ["draw", "many"] pdTake) : FnOk P w K mg base CX0 3 f fd ["draw", "items"] (spD K pdPick) :=
  fn_dz F sc_law_pick (fun A ds Ψ h => by
      obtain ⟨p, ns, l, rfl | rfl, _⟩ := h <;> rfl) (fun A cdv Ar outer s H E hr =>
    (dss_one (ds_ret (de_ix (ixd hr.units) (de_var 1) (de_own G_law_take (hr.mono (by decide)) rfl (da_cons (de_var 0) (da_cons (de_callB callD_len rfl T.mg_len (by decide +kernel) (da_cons (de_var 1) da_nil)) da_nil)))))))
    (fun A ds Ψ h => by
      obtain ⟨p, ns, l, e, d, hl, h⟩ := h
      have hpos : (0 : Int) < (l.length : Nat) := by
        cases l with
        | nil => exact absurd rfl hl
        | cons a r => simp only [List.length_cons]; omega
      rcases e with rfl | rfl
      all_goals
        refine ⟨p, ns, _, rfl, d, hpos, fun r h0 h1 => ?_⟩
        obtain ⟨x, hx, e⟩ := atI_in h0 h1
        exact ⟨x, e, h x hx⟩)

abbrev s_law_kinds : Stmt := topS 64
theorem sc_law_kinds : FnScope ["found", "table", "told", "row"] [] (defScope s_law_kinds) := ⟨rfl, rfl, rfl, by decide +kernel, rfl, by decide +kernel, by decide +kernel⟩
theorem ok_law_kinds {f : Addr} {fd : FuncData} (F : Fun K "_law_kinds" "_law_kinds" s_law_kinds f fd) (T : TxtK w K mg kd)  : FnOk P w K mg base CX0 1 f fd [] (spD K pd_law_kinds) :=
  fn_dz F sc_law_kinds (fun A ds Ψ h => by
      obtain ⟨rfl, _⟩ := h; rfl) (fun A cdv Ar outer s H E hr =>
    (dss_cons (ds_setN (i := 0) sc_law_kinds.nd rfl (Or.inl rfl) dn_dct)
    (dss_cons (ds_asg (vs := [0, 1, 2, 3]) de_str (dg_name (i := 1) sc_law_kinds.nd rfl (Or.inl rfl)))
    (dss_cons (ds_for (vs := [0, 1, 2, 3]) PassesOwn.never rfl (di_seq (de_split (de_var 1) de_str)) (dg_name (i := 2) sc_law_kinds.nd rfl (Or.inl rfl))
      (dss_cons (ds_asg (vs := [0, 1, 2, 3]) (de_split (de_var 2) de_str) (dg_name (i := 3) sc_law_kinds.nd rfl (Or.inl rfl)))
      (dss_one (ds_putD (i := 0) (hu_of hr) rfl (Or.inl rfl) (de_ix (ixd hr.units) (de_var 3) de_int) (de_tup (da_cons (de_callTy callD_int rfl T.mg_int (by decide +kernel) (da_cons (de_ix (ixd hr.units) (de_var 3) de_int) da_nil)) (da_cons (de_callTy callD_int rfl T.mg_int (by decide +kernel) (da_cons (de_ix (ixd hr.units) (de_var 3) de_int) da_nil)) (da_cons (de_ix (ixd hr.units) (de_var 3) de_int) (da_cons (de_ix (ixd hr.units) (de_var 3) de_int) da_nil)))))))))
    (dss_one (ds_ret (de_var 0)))))))
    (fun A ds Ψ h => by
      obtain ⟨rfl, h⟩ := h
      have e : (Txt.split tableT ", ").map D.str = textL.map D.str := by rw [split_table]
      refine ⟨tableT, rfl, (", " : Str), rfl, by decide +kernel, by decide +kernel, _, rfl, ?_⟩
      rw [show ((Txt.split tableT ", ").map D.str) = textL.map D.str from e]
      refine ⟨fun k en => ∃ x y, en = [.cel (.dct (dKeys.take k) (dVals.take k)), .dat (.str tableT), x, y], ⟨.un, .un, rfl⟩, ?_, ?_⟩
      · rintro k x en hx ⟨y1, y2, rfl⟩
        have hk : k < 29 := by
          have := (List.getElem?_eq_some_iff.mp hx).1
          rw [List.length_map, texts_len] at this
          exact this
        rw [List.getElem?_map] at hx
        obtain ⟨t, ht⟩ : ∃ t, textL[k]? = some t := ⟨textL[k]'(by rw [texts_len]; exact hk), List.getElem?_eq_getElem _⟩
        obtain ⟨r, hr⟩ : ∃ r, kindL[k]? = some r := ⟨kindL[k]'(by rw [kinds_len]; exact hk), List.getElem?_eq_getElem _⟩
        rw [ht] at hx
        have ex : D.str t = x := Option.some.inj hx
        subst ex
        have hread : readRow t = some (r.1, (r.2.1 : Int), (r.2.2.1 : Int), r.2.2.2.1, r.2.2.2.2) := by
          have e1 : (textL.map readRow)[k]? = (kindL.map fun r => some (r.1, (r.2.1 : Int), (r.2.2.1 : Int), r.2.2.2.1, r.2.2.2.2))[k]? := by rw [read_all]
          rw [List.getElem?_map, List.getElem?_map, ht, hr] at e1
          exact Option.some.inj e1
        obtain ⟨b, c, hs, hb, hc, hb2, hc2⟩ := read_row hread
        have hfit : t.length ≤ 1000 := of_decide_eq_true (List.all_eq_true.mp fit_all t (List.mem_of_getElem? ht))
        refine ⟨t, rfl, (" " : Str), rfl, by decide +kernel, Nat.le_trans (Nat.add_le_add_right hfit 2) (by decide), ?_⟩
        rw [hs]
        refine ⟨.str b, rfl, _, hb, hb2, .str c, rfl, _, hc, hc2, _, rfl, _, rfl, (by show 4 ≤ 100000; decide), _, _, rfl, _, rfl, _, rfl, _, _, rfl, ?_, ?_⟩
        · rw [List.length_take, keys_len]
          omega
        · have hfr : hasK (dKeys.take k) (Sum.inr r.1) = false := by
            have := fresh_all k (List.mem_range.mpr hk)
            rw [hr] at this
            simpa using this
          refine ⟨.dat (.str t), .dat (.lst ([r.1, b, c, r.2.2.2.1, r.2.2.2.2].map D.str)), ?_⟩
          have e1 : putKs (dKeys.take k) (Sum.inr r.1) = dKeys.take (k + 1) := by
            unfold putKs
            rw [hfr, if_neg Bool.false_ne_true, List.take_add_one]
            have : dKeys[k]? = some (Sum.inr r.1) := by
              unfold dKeys
              rw [List.getElem?_map, hr]; rfl
            rw [this]; rfl
          have e2 : putKd (dKeys.take k) (dVals.take k) (Sum.inr r.1) (.tup [.int r.2.1, .int r.2.2.1, .str r.2.2.2.1, .str r.2.2.2.2]) = dVals.take (k + 1) := by
            unfold putKd
            rw [hfr, if_neg Bool.false_ne_true, List.take_add_one]
            have : dVals[k]? = some (kdD ⟨r.2.1, r.2.2.1, r.2.2.2.1, r.2.2.2.2⟩) := by
              unfold dVals
              rw [List.getElem?_map, hr]; rfl
            rw [this]; rfl
          show [EV.cel (.dct (putKs (dKeys.take k) (Sum.inr r.1)) (putKd (dKeys.take k) (dVals.take k) (Sum.inr r.1) (.tup [.int r.2.1, .int r.2.2.1, .str r.2.2.2.1, .str r.2.2.2.2]))), _, _, _] = _
          rw [e1, e2]
      · rintro en ⟨y1, y2, rfl⟩
        rw [List.length_map, texts_len]
        have e1 : dKeys.take 29 = dKeys := List.take_of_length_le (by rw [keys_len]; exact Nat.le_refl _)
        have e2 : dVals.take 29 = dVals := List.take_of_length_le (by unfold dVals; rw [List.length_map, kinds_len]; exact Nat.le_refl _)
        show Ψ (.dct (dKeys.take 29) (dVals.take 29))
        rw [e1, e2]
        exact h)

abbrev s_law_takes : Stmt := topS 65
theorem sc_law_takes : FnScope ["word", "kinds", "kind", "yarn"] ["word", "kinds"] (defScope s_law_takes) := ⟨rfl, rfl, rfl, by decide +kernel, rfl, by decide +kernel, by decide +kernel⟩
theorem ok_law_takes {f : Addr} {fd : FuncData} (F : Fun K "_law_takes" "_law_takes" s_law_takes f fd) (T : TxtK w K mg kd)  : FnOk P w K mg base CX0 1 f fd ["word", "kinds"] (spD K pd_law_takes) :=
  fn_dz F sc_law_takes (fun A ds Ψ h => by
      obtain ⟨ws, _, rfl, _⟩ := h; rfl) (fun A cdv Ar outer s H E hr =>
    (dss_one (ds_ret (de_callB (callD_sum rfl) rfl T.mg_sum (by decide +kernel) (da_cons (de_lc rfl sc_law_takes.nd (di_seq (de_var 0)) (blkOk_by (own := [("kind", 2), ("yarn", 3)]) (N := ["word", "kinds", "kind", "yarn"]) (sc := defScope s_law_takes) (by decide +kernel)) (fun _ _ _ _ _ => (dg_tup (n := 2) rfl (dgs_cons (dg_name (i := 2) sc_law_takes.nd rfl (Or.inl rfl)) (dgs_cons (dg_name (i := 3) sc_law_takes.nd rfl (Or.inl rfl)) dgs_nil)))) (fun _ _ _ _ _ => dts_nil) (fun _ _ _ _ _ => (de_ix (ixd hr.units) (de_ix (ixd hr.units) (de_var 1) (de_var 2)) de_int))) da_nil)))))
    (fun A ds Ψ h => by
      obtain ⟨ws, gw, rfl, h⟩ := h
      refine ⟨_, rfl, ?_⟩
      refine lc_map0 ws encC (fun c => .int (tk c.1)) rfl (Nat.le_trans gw.1 (by decide)) (fun c hc J acc hJ => ?_) ?_
      · obtain ⟨r, hr⟩ := some_of (gw.2 c hc)
        refine ⟨rfl, rfl, kdD r, getK_kinds hr, _, rfl, rfl, ?_⟩
        rw [tk_eq hr] at hJ
        exact hJ
      · exact ⟨ws.map fun c => tk c.1, by rw [map_ints], h⟩)

end
end K57

/-! DzHp: small helps for readings. -/
namespace Dz
open PySem PySem.Spec PyProof.Rows L2
theorem iteEqX {b c : Bool} {A B : Prop} (e : b = c) (h : if c = true then A else B) : if b = true then A else B := by subst e; exact h
theorem iteB {b : Bool} {A B : Prop} (h1 : b = true → A) (h2 : b = false → B) : if b = true then A else B := by
  cases b with
  | true => exact h1 rfl
  | false => exact h2 rfl
theorem gN_env {i : Nat} {d : D} {e e' : En} {Φ : En → Prop} (h : Dz.st e i (.dat d) = e') (k : Φ e') : gN i d e Φ := by subst h; exact k
theorem gCs_go {g : FG} {gs : FGs} {d : D} {r : List D} {en : En} {Φ : En → Prop} (k : g d en fun e => gs r e Φ) : gCs g gs (d :: r) en Φ := k
theorem envEq {fs : FS} {e e' : En} {Ψ : Ed} (h : e = e') (k : fs e' Ψ) : fs e Ψ := by subst h; exact k
theorem chain_le {a b c : Int} {Φ : D → Prop} (h : Φ (.bl (decide (a ≤ b) && decide (b ≤ c)))) : rLeD (.int a) (.int b) fun z => ∃ k, z = .bl k ∧ if k = true then rLeD (.int b) (.int c) Φ else Φ z := by
  refine ⟨_, rfl, iteB (fun h1 => ?_) (fun h1 => ?_)⟩
  · rw [h1, Bool.true_and] at h; exact h
  · rw [h1, Bool.false_and] at h; rw [h1]; exact h
theorem and_go {p : Bool} {B F : Prop} (h1 : p = true → B) (h2 : p = false → F) : ∃ k, truD (.bl p) = some k ∧ if k = true then B else F := ⟨p, rfl, iteB h1 h2⟩
/-- a and b, both tests -/
theorem and_bl {p q : Bool} {B : (D → Prop) → Prop} {Φ : D → Prop} (h : Φ (.bl (p && q))) (hb : p = true → (Φ (.bl q) → B Φ)) : ∃ k, truD (.bl p) = some k ∧ if k = true then B Φ else Φ (.bl p) := and_go (fun e => hb e (by rw [e, Bool.true_and] at h; exact h)) (fun e => by rw [e, Bool.false_and] at h; rw [e]; exact h)
end Dz

namespace K57
open PySem PySem.Spec PyProof.Rows L2 Dz
structure TxtP (w : World) (K : PySem.W.Frag) (mg : Str → Option Value) (kd : Addr) : Prop extends TxtK w K mg kd where
  mg_bool : mg "bool" = none
  mg_dict : mg "dict" = none
  mg_min : mg "min" = none
  mg_max : mg "max" = none
  mg_set : mg "set" = none
  mg_enumerate : mg "enumerate" = none
  mg_divmod : mg "divmod" = none
  mg_lcm : mg "lcm" = some (.builtin "math.lcm")
  mg_MOST_BASE : ∃ t, mg "MOST_BASE" = some (.int 99 t)
  mg_MOST_RISE : ∃ t, mg "MOST_RISE" = some (.int 9 t)
  mg_MOST_PARTS : ∃ t, mg "MOST_PARTS" = some (.int 40 t)
  mg_MOST_ROWS : ∃ t, mg "MOST_ROWS" = some (.int 20 t)
  mg_MOST_CHANGE : ∃ t, mg "MOST_CHANGE" = some (.int 12 t)
  mg_MOST_MEASURE : ∃ t, mg "MOST_MEASURE" = some (.int 120 t)
  mg_MOST_GROWTH : ∃ t, mg "MOST_GROWTH" = some (.int 12 t)
  mg_MOST_TOTAL : ∃ t, mg "MOST_TOTAL" = some (.int 10000 t)
  mg_MOST_GAPS : ∃ t, mg "MOST_GAPS" = some (.int 60 t)

/-! ### cells, words and rows that are in order -/
def CellOk (c : Str × Str) : Prop := (kindRow c.1).isSome = true ∧ yarnB c.2 = true
def WOk (ws : Wd) : Prop := ws.length ≤ 1000 ∧ ∀ c ∈ ws, CellOk c
def ROk (r : Rw) : Prop := WOk r.1 ∧ WOk r.2.1 ∧ WOk r.2.2
theorem WOk.good {ws : Wd} (h : WOk ws) : Good ws := ⟨h.1, fun c hc => (h.2 c hc).1⟩
theorem ROk.good {r : Rw} (h : ROk r) : GoodR r := ⟨h.1.good, h.2.1.good, h.2.2.good⟩
theorem yarn_len {z : Str} (h : yarnB z = true) : z.length ≤ 1000 := by
  unfold yarnB at h
  simp only [Bool.and_eq_true, beq_iff_eq] at h
  omega
theorem cell_is {c : Str × Str} (h : CellOk c) : isCellD (encC c) = true := by
  unfold encC isCellD isKindD isYarnD
  simp only [h.1, h.2, Bool.and_self]
theorem cell_ok {c : Str × Str} (h : CellOk c) : okCell (encC c) = true := by
  obtain ⟨r, hr⟩ := Option.isSome_iff_exists.mp h.1
  unfold encC okCell okKind okYarn
  simp only [tab_of hr, yarn_len h.2, decide_true, Option.isSome_some, Bool.and_true]
  rfl
theorem word_is {ws : Wd} (h : WOk ws) : (ws.map encC).all isCellD = true := by
  rw [List.all_eq_true]
  intro d hd
  obtain ⟨c, hc, rfl⟩ := List.mem_map.mp hd
  exact cell_is (h.2 c hc)
theorem word_ok {ws : Wd} (h : WOk ws) : okWord (encW ws) = true := by
  have e : (ws.map encC).all okCell = true := by
    rw [List.all_eq_true]
    intro d hd
    obtain ⟨c, hc, rfl⟩ := List.mem_map.mp hd
    exact cell_ok (h.2 c hc)
  unfold encW okWord
  simp only [e, List.length_map, h.1, decide_true, Bool.and_true]
  rfl
theorem row_ok {r : Rw} (h : ROk r) : okRow (encR r) = true := by
  unfold encR okRow
  simp only [word_ok h.1, word_ok h.2.1, word_ok h.2.2, Bool.and_self]
  rfl
def mkW (ws : Wd) : Int := (ws.map fun c => mk' c.1).sum
theorem un_enc (ws : Wd) : (ws.map encC).map unC = ws := by
  rw [List.map_map]
  have : (unC ∘ encC) = id := by funext c; rfl
  rw [this, List.map_id]
theorem takes_enc (ws : Wd) : takesD (ws.map encC) = tkW ws := by unfold takesD tkW; rw [un_enc]
def rowB (r : Rw) : Bool := (decide (r.1.length ≤ 60) && (decide (r.2.1.length ≤ 30) && decide (r.2.2.length ≤ 60))) && (if r.2.1.isEmpty then r.2.2.isEmpty else decide (0 < tkW r.2.1))
theorem row_is {r : Rw} (h : ROk r) : isRowD (encR r) = rowB r := by
  have e : ∀ ws : Wd, (ws.map encC).isEmpty = ws.isEmpty := fun ws => by cases ws <;> rfl
  unfold encR encW isRowD rowB
  simp only [word_is h.1, word_is h.2.1, word_is h.2.2, List.length_map, takes_enc, Bool.true_and, e]
def gainN (r : Rw) : Int := mkW r.1 + mkW r.2.2 - needsN r
/-! ### parts -/
inductive Pt where
  | row (r : Rw) | blk (b e : Int) (rs : List Rw)
def encP : Pt → D
  | .row r => .tup [.str "row", encR r]
  | .blk b e rs => .tup [.str "block", .tup [.int b, .int e], .tup (rs.map encR)]
def rowsP : Pt → List Rw
  | .row r => [r]
  | .blk _ _ rs => rs
def POk (p : Pt) : Prop := (rowsP p).length ≤ 100 ∧ ∀ r ∈ rowsP p, ROk r
def lineB (b e : Int) : Bool := (decide (-99 ≤ b) && decide (b ≤ 99)) && (decide (-9 ≤ e) && decide (e ≤ 9))
def repB (rs : List Rw) : Bool := (decide (1 ≤ rs.length) && decide (rs.length ≤ 20)) && (rs.all rowB && (rs.all (fun r => tkW r.2.1 == mkW r.2.1) && (decide (-12 ≤ (rs.map gainN).sum) && decide ((rs.map gainN).sum ≤ 12))))
def partB : Pt → Bool
  | .row r => rowB r
  | .blk b e rs => lineB b e && repB rs
def pd_is_line : PD := fun _ ds Φ => ∃ b e : Int, ds = [.tup [.int b, .int e]] ∧ Φ (.bl (lineB b e))
def pd_gain : PD := fun _ ds Φ => ∃ r, GoodR r ∧ ds = [encR r] ∧ Φ (.int (gainN r))
def pd_gain_of : PD := fun _ ds Φ => ∃ rs : List Rw, rs.length ≤ 100 ∧ (∀ r ∈ rs, GoodR r) ∧ ds = [.tup (rs.map encR)] ∧ Φ (.int ((rs.map gainN).sum))
def pd_are_repeatable : PD := fun _ ds Φ => ∃ rs : List Rw, rs.length ≤ 100 ∧ (∀ r ∈ rs, ROk r) ∧ ds = [.tup (rs.map encR)] ∧ Φ (.bl (repB rs))
def pd_is_part : PD := fun _ ds Φ => ∃ p : Pt, POk p ∧ ds = [encP p] ∧ Φ (.bl (partB p))
def pd_rows_of : PD := fun _ ds Φ => ∃ p : Pt, ds = [encP p] ∧ Φ (.tup ((rowsP p).map encR))
section
variable {P : Program} {w : World} {K : PySem.W.Frag} {mg : Str → Option Value} {base : Heap} {kd : Addr}
abbrev s_is_whole : Stmt := topS 8
theorem sc_is_whole : FnScope ["thing"] ["thing"] (defScope s_is_whole) := ⟨rfl, rfl, rfl, by decide +kernel, rfl, by decide +kernel, by decide +kernel⟩
theorem ok_is_whole {f : Addr} {fd : FuncData} (F : Fun K "is_whole" "is_whole" s_is_whole f fd) (T : TxtP w K mg kd)  : FnOk P w K mg base CX0 1 f fd ["thing"] (spD K pd_is_whole) :=
  fn_dz F sc_is_whole (fun A ds Ψ h => by
      obtain ⟨d, rfl, _⟩ := h; rfl) (fun A cdv Ar outer s H E hr =>
    (dss_one (ds_ret (de_andT (de_callB callD_isi rfl T.mg_isinstance (by decide +kernel) (da_cons (de_var 0) (da_cons (de_bltn (v := .ty "int") (d := .ty "int") rfl T.mg_int (by decide +kernel) rfl (fun _ => rep_ty.mpr rfl)) da_nil))) (de_one (de_notT (de_callB callD_isi rfl T.mg_isinstance (by decide +kernel) (da_cons (de_var 0) (da_cons (de_bltn (v := .ty "bool") (d := .ty "bool") rfl T.mg_bool (by decide +kernel) rfl (fun _ => rep_ty.mpr rfl)) da_nil)))))))))
    (fun A ds Ψ h => by
      obtain ⟨d, rfl, ok, h⟩ := h
      cases d with
      | int i => exact ⟨by decide, _, rfl, true, rfl, iteT ⟨by decide, _, rfl, false, rfl, h⟩⟩
      | bl b => exact ⟨by decide, _, rfl, true, rfl, iteT ⟨by decide, _, rfl, true, rfl, h⟩⟩
      | non => exact ⟨by decide, _, rfl, false, rfl, iteF h⟩
      | str _ => exact ⟨by decide, _, rfl, false, rfl, iteF h⟩
      | tup _ => exact ⟨by decide, _, rfl, false, rfl, iteF h⟩
      | lst _ => exact ⟨by decide, _, rfl, false, rfl, iteF h⟩
      | dct _ _ => exact ⟨by decide, _, rfl, false, rfl, iteF h⟩
      | _ => cases ok)

abbrev s_is_line : Stmt := topS 20
theorem sc_is_line : FnScope ["thing", "base", "rise"] ["thing"] (defScope s_is_line) := ⟨rfl, rfl, rfl, by decide +kernel, rfl, by decide +kernel, by decide +kernel⟩
theorem ok_is_line {f : Addr} {fd : FuncData} (F : Fun K "is_line" "is_line" s_is_line f fd) (T : TxtP w K mg kd) (G_is_whole : Own P w K mg base "is_whole" 1 ["thing"] pd_is_whole) : FnOk P w K mg base CX0 2 f fd ["thing"] (spD K pd_is_line) :=
  fn_dz F sc_is_line (fun A ds Ψ h => by
      obtain ⟨b, e, rfl, _⟩ := h; rfl) (fun A cdv Ar outer s H E hr =>
    (dss_cons (ds_if (PW.pt (dw_or (dt_not (dt_truth (de_callB callD_isi rfl T.mg_isinstance (by decide +kernel) (da_cons (de_var 0) (da_cons (de_bltn (v := .ty "tuple") (d := .ty "tuple") rfl T.mg_tuple (by decide +kernel) rfl (fun _ => rep_ty.mpr rfl)) da_nil))) (by intro _; rfl))) (dw_or1 (dt_cmp (opd_ne hr.units) (de_callB callD_len rfl T.mg_len (by decide +kernel) (da_cons (de_var 0) da_nil)) de_int))))
      (dss_one (ds_ret de_bl))
      dss_nil)
    (dss_cons (ds_asg (vs := [0, 1, 2]) (de_var 0) (dg_tup (n := 2) rfl (dgs_cons (dg_name (i := 1) sc_is_line.nd rfl (Or.inl rfl)) (dgs_cons (dg_name (i := 2) sc_is_line.nd rfl (Or.inl rfl)) dgs_nil))))
    (dss_cons (ds_if (PW.pt (dw_or (dt_not (dt_truth (de_own G_is_whole (hr.mono (by decide)) rfl (da_cons (de_var 1) da_nil)) (by intro _; rfl))) (dw_or1 (dt_not (dt_truth (de_own G_is_whole (hr.mono (by decide)) rfl (da_cons (de_var 2) da_nil)) (by intro _; rfl))))))
      (dss_one (ds_ret de_bl))
      dss_nil)
    (dss_one (ds_ret (de_andT (de_chain opd_le opd_le (de_un und_neg (de_constI rfl T.mg_MOST_BASE)) (de_var 1) (de_constI rfl T.mg_MOST_BASE)) (de_one (de_chain opd_le opd_le (de_un und_neg (de_constI rfl T.mg_MOST_RISE)) (de_var 2) (de_constI rfl T.mg_MOST_RISE))))))))))
    (fun A ds Ψ h => by
      obtain ⟨b, e, rfl, h⟩ := h
      refine ⟨by decide, _, rfl, true, rfl, iteF ⟨rfl, rfl, _, rfl, iteF ⟨rfl, rfl, ?_⟩⟩⟩
      refine ⟨_, rfl, rfl, _, rfl, iteF ⟨_, rfl, rfl, _, rfl, iteF ?_⟩⟩
      unfold lineB at h
      refine ⟨_, rfl, iteB (fun h1 => ?_) (fun h1 => ⟨_, rfl, iteF (by rw [h1] at h; exact h)⟩)⟩
      rw [h1, Bool.true_and] at h
      refine ⟨_, rfl, iteB (fun h2 => ?_) (fun h2 => (by rw [h2] at h; show Ψ (.bl _); rw [h2]; exact h))⟩
      rw [h2, Bool.true_and] at h
      refine ⟨_, rfl, iteB (fun h3 => ?_) (fun h3 => (by rw [h3] at h; exact h))⟩
      rw [h3, Bool.true_and] at h
      exact h)

abbrev s_gain : Stmt := topS 32
theorem sc_gain : FnScope ["row"] ["row"] (defScope s_gain) := ⟨rfl, rfl, rfl, by decide +kernel, rfl, by decide +kernel, by decide +kernel⟩
theorem ok_gain {f : Addr} {fd : FuncData} (F : Fun K "gain" "gain" s_gain f fd) (T : TxtP w K mg kd) (G_makes : Own P w K mg base "makes" 1 ["word"] pd_makes) (G_needs : Own P w K mg base "needs" 2 ["row"] pd_needs) : FnOk P w K mg base CX0 3 f fd ["row"] (spD K pd_gain) :=
  fn_dz F sc_gain (fun A ds Ψ h => by
      obtain ⟨r, _, rfl, _⟩ := h; rfl) (fun A cdv Ar outer s H E hr =>
    (dss_one (ds_ret (de_op opd_sub (de_op opd_add (de_own G_makes (hr.mono (by decide)) rfl (da_cons (de_ix (ixd hr.units) (de_var 0) de_int) da_nil)) (de_own G_makes (hr.mono (by decide)) rfl (da_cons (de_ix (ixd hr.units) (de_var 0) de_int) da_nil))) (de_own G_needs (hr.mono (by decide)) rfl (da_cons (de_var 0) da_nil))))))
    (fun A ds Ψ h => by
      obtain ⟨r, hg, rfl, h⟩ := h
      exact ⟨_, rfl, r.1, hg.1, rfl, _, rfl, r.2.2, hg.2.2, rfl, r, hg, rfl, h⟩)

abbrev s_gain_of : Stmt := topS 33
theorem sc_gain_of : FnScope ["rows", "row"] ["rows"] (defScope s_gain_of) := ⟨rfl, rfl, rfl, by decide +kernel, rfl, by decide +kernel, by decide +kernel⟩
theorem ok_gain_of {f : Addr} {fd : FuncData} (F : Fun K "gain_of" "gain_of" s_gain_of f fd) (T : TxtP w K mg kd) (G_gain : Own P w K mg base "gain" 3 ["row"] pd_gain) : FnOk P w K mg base CX0 4 f fd ["rows"] (spD K pd_gain_of) :=
  fn_dz F sc_gain_of (fun A ds Ψ h => by
      obtain ⟨r, _, _, rfl, _⟩ := h; rfl) (fun A cdv Ar outer s H E hr =>
    (dss_one (ds_ret (de_callB (callD_sum rfl) rfl T.mg_sum (by decide +kernel) (da_cons (de_lc rfl sc_gain_of.nd (di_seq (de_var 0)) (blkOk_by (own := [("row", 1)]) (N := ["rows", "row"]) (sc := defScope s_gain_of) (by decide +kernel)) (fun _ _ _ _ _ => (dg_name (i := 1) sc_gain_of.nd rfl (Or.inl rfl))) (fun _ _ _ _ _ => dts_nil) (fun _ _ _ _ _ => (de_own G_gain (hr.mono (by decide)) rfl (da_cons (de_var 1) da_nil)))) da_nil)))))
    (fun A ds Ψ h => by
      obtain ⟨rs, hl, hg, rfl, h⟩ := h
      refine ⟨_, rfl, ?_⟩
      refine lc_map0 (α := Rw) rs encR (fun r => .int (gainN r)) rfl (by omega) (fun x hx J acc hJ => ⟨x, hg x hx, rfl, rfl, hJ⟩) ?_
      exact ⟨rs.map gainN, by rw [map_ints], h⟩)

abbrev s_are_repeatable : Stmt := topS 34
theorem sc_are_repeatable : FnScope ["thing", "row"] ["thing"] (defScope s_are_repeatable) := ⟨rfl, rfl, rfl, by decide +kernel, rfl, by decide +kernel, by decide +kernel⟩
theorem ok_are_repeatable {f : Addr} {fd : FuncData} (F : Fun K "are_repeatable" "are_repeatable" s_are_repeatable f fd) (T : TxtP w K mg kd) (G_is_row : Own P w K mg base "is_row" 4 ["thing"] pd_is_row) (G_takes : Own P w K mg base "takes" 1 ["word"] pd_takes) (G_makes : Own P w K mg base "makes" 1 ["word"] pd_makes) (G_gain_of : Own P w K mg base "gain_of" 4 ["rows"] pd_gain_of) : FnOk P w K mg base CX0 5 f fd ["thing"] (spD K pd_are_repeatable) :=
  fn_dz F sc_are_repeatable (fun A ds Ψ h => by
      obtain ⟨r, _, _, rfl, _⟩ := h; rfl) (fun A cdv Ar outer s H E hr =>
    (dss_cons (ds_if (PW.pt (dw_or (dt_not (dt_truth (de_callB callD_isi rfl T.mg_isinstance (by decide +kernel) (da_cons (de_var 0) (da_cons (de_bltn (v := .ty "tuple") (d := .ty "tuple") rfl T.mg_tuple (by decide +kernel) rfl (fun _ => rep_ty.mpr rfl)) da_nil))) (by intro _; rfl))) (dw_or1 (dt_not (dt_chain opd_le opd_le de_int (de_callB callD_len rfl T.mg_len (by decide +kernel) (da_cons (de_var 0) da_nil)) (de_constI rfl T.mg_MOST_ROWS))))))
      (dss_one (ds_ret de_bl))
      dss_nil)
    (dss_cons (ds_if (dt_not (dt_truth (de_callB (callD_all rfl) rfl T.mg_all (by decide +kernel) (da_cons (de_lc rfl sc_are_repeatable.nd (di_seq (de_var 0)) (blkOk_by (own := [("row", 1)]) (N := ["thing", "row"]) (sc := defScope s_are_repeatable) (by decide +kernel)) (fun _ _ _ _ _ => (dg_name (i := 1) sc_are_repeatable.nd rfl (Or.inl rfl))) (fun _ _ _ _ _ => dts_nil) (fun _ _ _ _ _ => (de_own G_is_row (hr.mono (by decide)) rfl (da_cons (de_var 1) da_nil)))) da_nil)) (by intro _; rfl)))
      (dss_one (ds_ret de_bl))
      dss_nil)
    (dss_cons (ds_if (dt_not (dt_truth (de_callB (callD_all rfl) rfl T.mg_all (by decide +kernel) (da_cons (de_lc rfl sc_are_repeatable.nd (di_seq (de_var 0)) (blkOk_by (own := [("row", 1)]) (N := ["thing", "row"]) (sc := defScope s_are_repeatable) (by decide +kernel)) (fun _ _ _ _ _ => (dg_name (i := 1) sc_are_repeatable.nd rfl (Or.inl rfl))) (fun _ _ _ _ _ => dts_nil) (fun _ _ _ _ _ => (de_cmp (opd_eq hr.units) (de_own G_takes (hr.mono (by decide)) rfl (da_cons (de_ix (ixd hr.units) (de_var 1) de_int) da_nil)) (de_own G_makes (hr.mono (by decide)) rfl (da_cons (de_ix (ixd hr.units) (de_var 1) de_int) da_nil))))) da_nil)) (by intro _; rfl)))
      (dss_one (ds_ret de_bl))
      dss_nil)
    (dss_one (ds_ret (de_chain opd_le opd_le (de_un und_neg (de_constI rfl T.mg_MOST_CHANGE)) (de_own G_gain_of (hr.mono (by decide)) rfl (da_cons (de_var 0) da_nil)) (de_constI rfl T.mg_MOST_CHANGE))))))))
    (fun A ds Ψ h => by
      obtain ⟨rs, hl, hr, rfl, h⟩ := h
      have hL : (rs.map encR).length = rs.length := List.length_map _
      refine ⟨by decide, _, rfl, true, rfl, iteF ?_⟩
      have hb : ∀ x : Bool, repB rs = x → Ψ (.bl x) := fun x e => by rw [← e]; exact h
      unfold repB at hb
      have hlb : (((List.map encR rs).length : Nat) : Int) = (rs.length : Int) := by rw [hL]
      refine ⟨_, rfl, iteB (fun h1 => ?_) (fun h1 => ⟨_, rfl, ?_⟩)⟩
      · have h1' : 1 ≤ rs.length := by have := of_decide_eq_true h1; rw [hL] at this; omega
        refine ⟨_, rfl, iteB (fun h2 => ?_) (fun h2 => ?_)⟩
        · have h2' : ¬ rs.length ≤ 20 := by
            intro z
            rw [Bool.not_eq_true', decide_eq_false_iff_not, hlb] at h2
            omega
          exact hb false (by rw [decide_eq_false h2', Bool.and_false, Bool.false_and])
        · have h2' : rs.length ≤ 20 := by
            rw [Bool.not_eq_false', decide_eq_true_eq, hlb] at h2
            omega
          have hb2 : ∀ x : Bool, (rs.all rowB && (rs.all (fun r => tkW r.2.1 == mkW r.2.1) && (decide (-12 ≤ (rs.map gainN).sum) && decide ((rs.map gainN).sum ≤ 12)))) = x → Ψ (.bl x) := fun x e => hb x (by rw [decide_eq_true h1', decide_eq_true h2', Bool.and_self, Bool.true_and, e])
          refine ⟨_, rfl, ?_⟩
          refine lc_map0 (α := Rw) rs encR (fun r => .bl (rowB r)) rfl (by omega) (fun x hx J acc hJ => ⟨encR x, rfl, row_ok (hr x hx), rfl, by rw [row_is (hr x hx)]; exact hJ⟩) ?_
          have eA : (rs.map rowB).all id = rs.all rowB := by rw [List.all_map]; rfl
          refine ⟨rs.map rowB, by rw [List.map_map]; rfl, _, rfl, iteEqX (congrArg not eA) ?_⟩
          refine iteB (fun h3 => ?_) (fun h3 => ?_)
          · rw [Bool.not_eq_true'] at h3
            exact hb2 false (by rw [h3, Bool.false_and])
          rw [Bool.not_eq_false'] at h3
          refine ⟨_, rfl, ?_⟩
          refine lc_map0 (α := Rw) rs encR (fun r => .bl (tkW r.2.1 == mkW r.2.1)) rfl (by omega) (fun x hx J acc hJ => ⟨_, rfl, x.2.1, (hr x hx).good.2.1, rfl, _, rfl, x.2.1, (hr x hx).good.2.1, rfl, rfl, rfl, rfl, by rw [eqD_ii]; exact hJ⟩) ?_
          have eB : (rs.map fun r => tkW r.2.1 == mkW r.2.1).all id = rs.all (fun r => tkW r.2.1 == mkW r.2.1) := by rw [List.all_map]; rfl
          refine ⟨rs.map fun r => tkW r.2.1 == mkW r.2.1, by rw [List.map_map]; rfl, _, rfl, iteEqX (congrArg not eB) ?_⟩
          refine iteB (fun h4 => ?_) (fun h4 => ?_)
          · rw [Bool.not_eq_true'] at h4
            exact hb2 false (by rw [h4, Bool.false_and, Bool.and_false])
          rw [Bool.not_eq_false'] at h4
          have hb3 : ∀ x : Bool, (decide (-12 ≤ (rs.map gainN).sum) && decide ((rs.map gainN).sum ≤ 12)) = x → Ψ (.bl x) := fun x e => hb2 x (by rw [h3, h4, Bool.true_and, Bool.true_and, e])
          refine ⟨rs, hl, fun r h => (hr r h).good, rfl, _, rfl, iteB (fun h5 => ?_) (fun h5 => ?_)⟩
          · exact hb3 _ (by rw [h5, Bool.true_and])
          · exact hb3 false (by rw [h5, Bool.false_and])
      · have h1' : ¬ 1 ≤ rs.length := by
          have := of_decide_eq_false h1
          rw [hL] at this
          omega
        exact iteT (hb false (by rw [decide_eq_false h1', Bool.false_and, Bool.false_and])))

abbrev s_is_part : Stmt := topS 35
theorem sc_is_part : FnScope ["thing"] ["thing"] (defScope s_is_part) := ⟨rfl, rfl, rfl, by decide +kernel, rfl, by decide +kernel, by decide +kernel⟩
theorem ok_is_part {f : Addr} {fd : FuncData} (F : Fun K "is_part" "is_part" s_is_part f fd) (T : TxtP w K mg kd) (G_is_row : Own P w K mg base "is_row" 4 ["thing"] pd_is_row) (G_is_line : Own P w K mg base "is_line" 2 ["thing"] pd_is_line) (G_are_repeatable : Own P w K mg base "are_repeatable" 5 ["thing"] pd_are_repeatable) : FnOk P w K mg base CX0 6 f fd ["thing"] (spD K pd_is_part) :=
  fn_dz F sc_is_part (fun A ds Ψ h => by
      obtain ⟨p, _, rfl, _⟩ := h; rfl) (fun A cdv Ar outer s H E hr =>
    (dss_cons (ds_if (PW.pt (dw_or (dt_not (dt_truth (de_callB callD_isi rfl T.mg_isinstance (by decide +kernel) (da_cons (de_var 0) (da_cons (de_bltn (v := .ty "tuple") (d := .ty "tuple") rfl T.mg_tuple (by decide +kernel) rfl (fun _ => rep_ty.mpr rfl)) da_nil))) (by intro _; rfl))) (dw_or (dt_not (dt_truth (de_var 0) (by intro _; rfl))) (dw_or1 (dt_not (dt_truth (de_callB callD_isi rfl T.mg_isinstance (by decide +kernel) (da_cons (de_ix (ixd hr.units) (de_var 0) de_int) (da_cons (de_bltn (v := .ty "str") (d := .ty "str") rfl T.mg_str (by decide +kernel) rfl (fun _ => rep_ty.mpr rfl)) da_nil))) (by intro _; rfl)))))))
      (dss_one (ds_ret de_bl))
      dss_nil)
    (dss_cons (ds_if (dt_cmp (opd_eq hr.units) (de_ix (ixd hr.units) (de_var 0) de_int) de_str)
      (dss_one (ds_ret (de_andT (de_cmp (opd_eq hr.units) (de_callB callD_len rfl T.mg_len (by decide +kernel) (da_cons (de_var 0) da_nil)) de_int) (de_one (de_own G_is_row (hr.mono (by decide)) rfl (da_cons (de_ix (ixd hr.units) (de_var 0) de_int) da_nil))))))
      dss_nil)
    (dss_one (ds_ret (de_andT (de_cmp (opd_eq hr.units) (de_ix (ixd hr.units) (de_var 0) de_int) de_str) (de_andT (de_cmp (opd_eq hr.units) (de_callB callD_len rfl T.mg_len (by decide +kernel) (da_cons (de_var 0) da_nil)) de_int) (de_andT (de_own G_is_line (hr.mono (by decide)) rfl (da_cons (de_ix (ixd hr.units) (de_var 0) de_int) da_nil)) (de_one (de_own G_are_repeatable (hr.mono (by decide)) rfl (da_cons (de_ix (ixd hr.units) (de_var 0) de_int) da_nil)))))))))))
    (fun A ds Ψ h => by
      obtain ⟨p, hp, rfl, h⟩ := h
      cases p with
      | row r =>
        have hr : ROk r := hp.2 r List.mem_cons_self
        refine ⟨by decide, _, rfl, true, rfl, iteF ⟨true, rfl, iteF ⟨_, rfl, by decide, _, rfl, true, rfl, iteF ?_⟩⟩⟩
        refine ⟨_, rfl, by decide +kernel, by decide +kernel, _, rfl, iteEqX (c := true) (by decide +kernel) (iteT ⟨rfl, rfl, true, rfl, iteT ⟨_, rfl, encR r, rfl, row_ok hr, ?_⟩⟩)⟩
        rw [row_is hr]
        exact h
      | blk b e rs =>
        refine ⟨by decide, _, rfl, true, rfl, iteF ⟨true, rfl, iteF ⟨_, rfl, by decide, _, rfl, true, rfl, iteF ?_⟩⟩⟩
        refine ⟨_, rfl, by decide +kernel, by decide +kernel, _, rfl, iteEqX (c := false) (by decide +kernel) (iteF ?_)⟩
        refine ⟨_, rfl, by decide +kernel, by decide +kernel, true, by decide +kernel, iteT ⟨rfl, rfl, true, rfl, iteT ⟨_, rfl, b, e, rfl, _, rfl, iteB (fun h1 => ?_) (fun h1 => ?_)⟩⟩⟩
        · refine ⟨_, rfl, rs, hp.1, hp.2, rfl, ?_⟩
          have h : Ψ (.bl (lineB b e && repB rs)) := h
          rw [h1, Bool.true_and] at h
          exact h
        · have h : Ψ (.bl (lineB b e && repB rs)) := h
          rw [h1, Bool.false_and] at h
          rw [h1]
          exact h)

abbrev s_rows_of : Stmt := topS 36
theorem sc_rows_of : FnScope ["part"] ["part"] (defScope s_rows_of) := ⟨rfl, rfl, rfl, by decide +kernel, rfl, by decide +kernel, by decide +kernel⟩
theorem ok_rows_of {f : Addr} {fd : FuncData} (F : Fun K "rows_of" "rows_of" s_rows_of f fd) (T : TxtP w K mg kd)  : FnOk P w K mg base CX0 1 f fd ["part"] (spD K pd_rows_of) :=
  fn_dz F sc_rows_of (fun A ds Ψ h => by
      obtain ⟨p, rfl, _⟩ := h; rfl) (fun A cdv Ar outer s H E hr =>
    (dss_cons (ds_if (dt_cmp (opd_eq hr.units) (de_ix (ixd hr.units) (de_var 0) de_int) de_str)
      (dss_one (ds_ret (de_tup (da_cons (de_ix (ixd hr.units) (de_var 0) de_int) da_nil))))
      dss_nil)
    (dss_one (ds_ret (de_ix (ixd hr.units) (de_var 0) de_int)))))
    (fun A ds Ψ h => by
      obtain ⟨p, rfl, h⟩ := h
      cases p with
      | row r => exact ⟨_, rfl, by decide +kernel, by decide +kernel, _, rfl, iteEqX (c := true) (by decide +kernel) (iteT ⟨_, rfl, (by show 1 ≤ 100000; decide), h⟩)⟩
      | blk b r rs => exact ⟨_, rfl, by decide +kernel, by decide +kernel, _, rfl, iteEqX (c := false) (by decide +kernel) (iteF ⟨_, rfl, h⟩)⟩)

end
end K57

namespace K57
open PySem PySem.Spec PyProof.Rows L2 Dz
/-! ### what words take and make, as natural numbers -/
def tkN (z : Str) : Nat := match kindRow z with | some r => r.takes | none => 0
def mkN (z : Str) : Nat := match kindRow z with | some r => r.makes | none => 0
theorem tk_N (z : Str) : tk z = (tkN z : Int) := by unfold tk tkN; cases kindRow z <;> rfl
theorem mk_N (z : Str) : mk' z = (mkN z : Int) := by unfold mk' mkN; cases kindRow z <;> rfl
def tkw (ws : Wd) : Nat := (ws.map fun c => tkN c.1).sum
def mkw (ws : Wd) : Nat := (ws.map fun c => mkN c.1).sum
theorem tkW_n : ∀ ws : Wd, tkW ws = (tkw ws : Int)
  | [] => rfl
  | c :: r => by
    have ih := tkW_n r
    unfold tkW tkw at ih ⊢
    rw [List.map_cons, List.map_cons, List.sum_cons, List.sum_cons, ih, tk_N, Int.natCast_add]
theorem mkW_n : ∀ ws : Wd, mkW ws = (mkw ws : Int)
  | [] => rfl
  | c :: r => by
    have ih := mkW_n r
    unfold mkW mkw at ih ⊢
    rw [List.map_cons, List.map_cons, List.sum_cons, List.sum_cons, ih, mk_N, Int.natCast_add]
/-! ### measure and growth -/
theorem fold_dvd {α : Type} {f : Nat → α → Nat} (hf : ∀ a x, a ∣ f a x) : ∀ (l : List α) (a k : Nat), (l.take k).foldl f a ∣ l.foldl f a
  | [], a, k => by rw [List.take_nil]; exact Nat.dvd_refl _
  | x :: l, a, 0 => by
    have h := fold_dvd hf l (f a x) 0
    rw [List.take_zero] at h ⊢
    exact Nat.dvd_trans (hf a x) h
  | x :: l, a, k + 1 => by rw [List.take_succ_cons]; exact fold_dvd hf l (f a x) k
theorem fold_take {α : Type} {f : Nat → α → Nat} {l : List α} {a k : Nat} {x : α} (h : l[k]? = some x) : (l.take (k + 1)).foldl f a = f ((l.take k).foldl f a) x := by
  rw [List.take_succ, h, List.foldl_append]
  rfl
def stepM (m : Nat) : Pt → Nat
  | .row _ => m
  | .blk _ _ rs => Nat.lcm m (if rs.length % 2 = 1 then 4 * rs.length else 2 * rs.length)
def stepU (u : Nat) (g : Wd) : Nat := if tkw g = mkw g then u else u * tkw g
def stepC (c : Nat) (g : Wd) : Nat := Nat.lcm c (tkw g)
def stepG (w : Nat) (g : Wd) : Nat := if tkw g < mkw g then w * mkw g else w
def grpsR (rs : List Rw) : List Wd := (rs.filter fun r => !r.2.1.isEmpty).map fun r => r.2.1
def grps (ps : List Pt) : List Wd := (ps.map fun p => grpsR (rowsP p)).flatten
def measureN (ps : List Pt) : Nat := Nat.lcm (ps.foldl stepM 2) ((grps ps).foldl stepU 1 * (grps ps).foldl stepC 1)
def growthN (ps : List Pt) : Nat := (grps ps).foldl stepG 1
theorem stepM_odd {m : Nat} {b e : Int} {rs : List Rw} (h : rs.length % 2 = 1) : stepM m (.blk b e rs) = Nat.lcm m (4 * rs.length) := congrArg (Nat.lcm m) (if_pos h)
theorem stepM_even {m : Nat} {b e : Int} {rs : List Rw} (h : ¬ rs.length % 2 = 1) : stepM m (.blk b e rs) = Nat.lcm m (2 * rs.length) := congrArg (Nat.lcm m) (if_neg h)
theorem stepU_ne {u : Nat} {g : Wd} (h : ¬ tkw g = mkw g) : stepU u g = u * tkw g := if_neg h
theorem stepU_eq {u : Nat} {g : Wd} (h : tkw g = mkw g) : stepU u g = u := if_pos h
theorem stepG_lt {u : Nat} {g : Wd} (h : tkw g < mkw g) : stepG u g = u * mkw g := if_pos h
theorem stepG_ge {u : Nat} {g : Wd} (h : ¬ tkw g < mkw g) : stepG u g = u := if_neg h
theorem dvd_M (m : Nat) (p : Pt) : m ∣ stepM m p := by
  cases p with
  | row r => exact Nat.dvd_refl _
  | blk b e rs => exact Nat.dvd_lcm_left _ _
theorem dvd_U (u : Nat) (g : Wd) : u ∣ stepU u g := by
  unfold stepU
  split
  · exact Nat.dvd_refl _
  · exact Nat.dvd_mul_right _ _
theorem dvd_C (c : Nat) (g : Wd) : c ∣ stepC c g := Nat.dvd_lcm_left _ _
theorem dvd_G (u : Nat) (g : Wd) : u ∣ stepG u g := by
  unfold stepG
  split
  · exact Nat.dvd_mul_right _ _
  · exact Nat.dvd_refl _
/-- parts in order, few, of small measure -/
structure PsOk (ps : List Pt) : Prop where
  few : ps.length ≤ 100
  all : ∀ p ∈ ps, POk p ∧ 1 ≤ (rowsP p).length
  tk : ∀ g ∈ grps ps, 1 ≤ tkw g
  sm : measureN ps ≤ 1000000
  sg : growthN ps ≤ 1000000
theorem mem_grps {ps : List Pt} {g : Wd} (h : g ∈ grps ps) : ∃ p ∈ ps, ∃ r ∈ rowsP p, g = r.2.1 := by
  unfold grps at h
  obtain ⟨l, hl, hg⟩ := List.mem_flatten.mp h
  obtain ⟨p, hp, rfl⟩ := List.mem_map.mp hl
  unfold grpsR at hg
  obtain ⟨r, hr, rfl⟩ := List.mem_map.mp hg
  exact ⟨p, hp, r, (List.mem_filter.mp hr).1, rfl⟩
theorem PsOk.good {ps : List Pt} (h : PsOk ps) {g : Wd} (hg : g ∈ grps ps) : Good g := by
  obtain ⟨p, hp, r, hr, rfl⟩ := mem_grps hg
  exact ((h.all p hp).1.2 r hr).good.2.1
theorem fold_pos {α : Type} {f : Nat → α → Nat} : ∀ (l : List α) (a : Nat), 0 < a → (∀ x ∈ l, ∀ a, 0 < a → 0 < f a x) → 0 < l.foldl f a
  | [], a, h, _ => h
  | x :: l, a, h, hf => fold_pos l (f a x) (hf x List.mem_cons_self a h) fun y hy => hf y (List.mem_cons_of_mem _ hy)
theorem PsOk.posM {ps : List Pt} (h : PsOk ps) : 0 < ps.foldl stepM 2 := fold_pos ps 2 (by decide) fun p hp a ha => by
  cases p with
  | row r => exact ha
  | blk b e rs =>
    have := (h.all _ hp).2
    have h1 : 1 ≤ rs.length := this
    refine Nat.lcm_pos ha ?_
    split <;> omega
theorem PsOk.posU {ps : List Pt} (h : PsOk ps) : 0 < (grps ps).foldl stepU 1 := fold_pos _ 1 (by decide) fun g hg a ha => by
  have := h.tk g hg
  unfold stepU
  split
  · exact ha
  · exact Nat.mul_pos ha this
theorem PsOk.posC {ps : List Pt} (h : PsOk ps) : 0 < (grps ps).foldl stepC 1 := fold_pos _ 1 (by decide) fun g hg a ha => Nat.lcm_pos ha (h.tk g hg)
theorem PsOk.posL {ps : List Pt} (h : PsOk ps) : 0 < measureN ps := Nat.lcm_pos h.posM (Nat.mul_pos h.posU h.posC)
theorem PsOk.posG {ps : List Pt} (h : PsOk ps) : 0 < growthN ps := fold_pos _ 1 (by decide) fun g hg a ha => by
  unfold stepG
  split
  · exact Nat.mul_pos ha (by omega)
  · exact ha
theorem PsOk.leM {ps : List Pt} (h : PsOk ps) (k : Nat) : (ps.take k).foldl stepM 2 ≤ 1000000 := Nat.le_trans (Nat.le_of_dvd h.posL (Nat.dvd_trans (fold_dvd dvd_M ps 2 k) (Nat.dvd_lcm_left _ _))) h.sm
theorem PsOk.leUC {ps : List Pt} (h : PsOk ps) : (grps ps).foldl stepU 1 * (grps ps).foldl stepC 1 ≤ 1000000 := Nat.le_trans (Nat.le_of_dvd h.posL (Nat.dvd_lcm_right _ _)) h.sm
theorem PsOk.leU {ps : List Pt} (h : PsOk ps) (k : Nat) : ((grps ps).take k).foldl stepU 1 ≤ 1000000 := by
  have h1 : ((grps ps).take k).foldl stepU 1 ≤ (grps ps).foldl stepU 1 := Nat.le_of_dvd h.posU (fold_dvd dvd_U _ 1 k)
  exact Nat.le_trans h1 (Nat.le_trans (Nat.le_mul_of_pos_right _ h.posC) h.leUC)
theorem PsOk.leC {ps : List Pt} (h : PsOk ps) (k : Nat) : ((grps ps).take k).foldl stepC 1 ≤ 1000000 := by
  have h1 : ((grps ps).take k).foldl stepC 1 ≤ (grps ps).foldl stepC 1 := Nat.le_of_dvd h.posC (fold_dvd dvd_C _ 1 k)
  exact Nat.le_trans h1 (Nat.le_trans (Nat.le_mul_of_pos_left _ h.posU) h.leUC)
theorem PsOk.leG {ps : List Pt} (h : PsOk ps) (k : Nat) : ((grps ps).take k).foldl stepG 1 ≤ 1000000 := Nat.le_trans (Nat.le_of_dvd h.posG (fold_dvd dvd_G _ 1 k)) h.sg
theorem PsOk.tkS {ps : List Pt} (h : PsOk ps) {g : Wd} (hg : g ∈ grps ps) : tkw g ≤ 1000000 := by
  obtain ⟨k, hk⟩ := List.getElem?_of_mem hg
  have h1 := h.leC (k + 1)
  rw [fold_take hk] at h1
  have h2 : tkw g ∣ stepC (((grps ps).take k).foldl stepC 1) g := Nat.dvd_lcm_right _ _
  refine Nat.le_trans (Nat.le_of_dvd ?_ h2) h1
  refine Nat.lcm_pos (Nat.pos_of_dvd_of_pos (fold_dvd dvd_C _ 1 k) h.posC) (h.tk g hg)
theorem grpsR_le (rs : List Rw) : (grpsR rs).length ≤ rs.length := by
  unfold grpsR
  rw [List.length_map]
  exact List.length_filter_le _ _
theorem grps_le : ∀ l : List Pt, (∀ p ∈ l, (rowsP p).length ≤ 100) → (grps l).length ≤ l.length * 100
  | [], _ => Nat.zero_le _
  | p :: l, hl => by
    have ih := grps_le l fun q hq => hl q (List.mem_cons_of_mem _ hq)
    unfold grps at ih ⊢
    rw [List.map_cons, List.flatten_cons, List.length_append, List.length_cons, Nat.succ_mul]
    have h1 := hl p List.mem_cons_self
    have h2 := grpsR_le (rowsP p)
    omega
theorem grps_len {ps : List Pt} (h : PsOk ps) (k : Nat) : (grps (ps.take k)).length ≤ 10000 := by
  have := grps_le (ps.take k) fun p hp => (h.all p (List.mem_of_mem_take hp)).1.1
  have h2 : (ps.take k).length ≤ ps.length := by rw [List.length_take]; omega
  have := h.few
  omega
theorem grps_all {ps : List Pt} (h : PsOk ps) : (grps ps).length ≤ 10000 := by
  have := grps_len h ps.length
  rw [List.take_length] at this
  exact this
theorem grps_take {ps : List Pt} {k : Nat} {p : Pt} (h : ps[k]? = some p) : grps (ps.take (k + 1)) = grps (ps.take k) ++ grpsR (rowsP p) := by
  unfold grps
  rw [List.take_succ, h, List.map_append, List.flatten_append]
  show _ ++ (grpsR (rowsP p) ++ []) = _
  rw [List.append_nil]
theorem grpsR_take {rs : List Rw} {j : Nat} {r : Rw} (h : rs[j]? = some r) : grpsR (rs.take (j + 1)) = grpsR (rs.take j) ++ (if r.2.1.isEmpty then [] else [r.2.1]) := by
  unfold grpsR
  rw [List.take_succ, h, List.filter_append, List.map_append]
  congr 1
  cases he : r.2.1.isEmpty with
  | true => simp [he]
  | false => simp [he]
/-- a piece that is none refused -/
structure PieceOk (w : Str) (b e : Int) (ps : List Pt) : Prop where
  way : w = "flat" ∨ w = "round"
  line : lineB b e = true
  few : ps.length ≤ 40
  part : ∀ p ∈ ps, partB p = true
  ok : PsOk ps
  sm : measureN ps ≤ 120
  sg : growthN ps ≤ 12
def pd_check_piece : PD := fun _ ds Φ => ∃ w b e ps, ds = [.str w, .tup [.int b, .int e], .tup (ps.map encP)] ∧ PieceOk w b e ps ∧ Φ .non
def nsP : List Str := ["way", "cast", "parts"]
abbrev pieceD (cP : Addr) (w : Str) (b e : Int) (ps : List Pt) : D := .ins cP nsP [.str w, .tup [.int b, .int e], .tup (ps.map encP)]
def pd_Piece_init : PDI := fun _ ds Ψ _ => ∃ w b e ps, ds = [.str w, .tup [.int b, .int e], .tup (ps.map encP)] ∧ PieceOk w b e ps ∧ Ψ nsP [.str w, .tup [.int b, .int e], .tup (ps.map encP)]
def pd_groups_of : PD := fun _ ds Φ => ∃ ps, PsOk ps ∧ ds = [.tup (ps.map encP)] ∧ Φ (.lst ((grps ps).map encW))
def pd_measure_of : PD := fun _ ds Φ => ∃ ps, PsOk ps ∧ ds = [.tup (ps.map encP)] ∧ Φ (.int (measureN ps : Nat))
def pd_growth_of : PD := fun _ ds Φ => ∃ ps, PsOk ps ∧ ds = [.tup (ps.map encP)] ∧ Φ (.int (growthN ps : Nat))
section
variable {P : Program} {w : World} {K : PySem.W.Frag} {mg : Str → Option Value} {base : Heap} {kd cP : Addr}
abbrev s_groups_of : Stmt := topS 37
theorem sc_groups_of : FnScope ["parts", "part", "row"] ["parts"] (defScope s_groups_of) := ⟨rfl, rfl, rfl, by decide +kernel, rfl, by decide +kernel, by decide +kernel⟩
theorem ok_groups_of {f : Addr} {fd : FuncData} (F : Fun K "groups_of" "groups_of" s_groups_of f fd) (T : TxtP w K mg kd) (G_rows_of : Own P w K mg base "rows_of" 1 ["part"] pd_rows_of) : FnOk P w K mg base CX0 2 f fd ["parts"] (spD K pd_groups_of) :=
  fn_dz F sc_groups_of (fun A ds Ψ h => by
      obtain ⟨ps, _, rfl, _⟩ := h; rfl) (fun A cdv Ar outer s H E hr =>
    (dss_one (ds_ret (de_lc2 (vs1 := [2]) rfl sc_groups_of.nd (di_seq (de_var 0)) (blkOk_by (own := [("part", 1), ("row", 2)]) (N := ["parts", "part", "row"]) (sc := defScope s_groups_of) (by decide +kernel)) (by decide) (fun _ _ _ _ _ => (dg_name (i := 1) sc_groups_of.nd rfl (Or.inl rfl))) (fun _ _ _ _ _ => dts_nil) (fun _ _ _ _ _ => (di_seq (de_own G_rows_of (hr.mono (by decide)) rfl (da_cons (de_var 1) da_nil)))) (fun _ _ _ _ _ => (dg_name (i := 2) sc_groups_of.nd rfl (Or.inl rfl))) (fun _ _ _ _ _ => (dts_one (dt_truth (de_ix (ixd hr.units) (de_var 2) de_int) (by intro _; rfl)))) (fun _ _ _ _ _ => (de_ix (ixd hr.units) (de_var 2) de_int))))))
    (fun A ds Ψ h => by
      obtain ⟨ps, hp, rfl, h⟩ := h
      refine ⟨_, rfl, fun k acc => acc = (grps (ps.take k)).map encW, by show [] = (grps (ps.take 0)).map encW; rw [List.take_zero]; rfl, ?_, ?_⟩
      · rintro k x acc hx rfl
        rw [List.getElem?_map] at hx
        obtain ⟨p, hpk, rfl⟩ : ∃ p, ps[k]? = some p ∧ encP p = x := by
          cases hq : ps[k]? with
          | none => rw [hq] at hx; cases hx
          | some p => rw [hq] at hx; exact ⟨p, rfl, Option.some.inj hx⟩
        have hm := List.mem_of_getElem? hpk
        rw [yes_eq]
        refine ⟨p, rfl, _, rfl, fun j acc1 => acc1 = (grps (ps.take k)).map encW ++ (grpsR ((rowsP p).take j)).map encW, ?_, ?_, ?_⟩
        · show _ = _ ++ (grpsR ((rowsP p).take 0)).map encW
          rw [List.take_zero]
          exact (List.append_nil _).symm
        · rintro j y acc1 hy rfl
          rw [List.getElem?_map] at hy
          obtain ⟨r, hrj, rfl⟩ : ∃ r, (rowsP p)[j]? = some r ∧ encR r = y := by
            cases hq : (rowsP p)[j]? with
            | none => rw [hq] at hy; cases hy
            | some r => rw [hq] at hy; exact ⟨r, rfl, Option.some.inj hy⟩
          refine ⟨?_, ?_⟩
          · rw [List.length_append, List.length_map, List.length_map]
            have h1 := grps_len hp k
            have h2 := grpsR_le ((rowsP p).take j)
            have h3 : ((rowsP p).take j).length ≤ (rowsP p).length := by rw [List.length_take]; omega
            have h4 := (hp.all p hm).1.1
            omega
          · have eE : (r.2.1.map encC).isEmpty = r.2.1.isEmpty := by cases r.2.1 <;> rfl
            refine ⟨_, rfl, !r.2.1.isEmpty, by rw [← eE]; rfl, iteB (fun h1 => ⟨_, rfl, rfl, ?_⟩) (fun h1 => ⟨rfl, ?_⟩)⟩
            · have h1 : r.2.1.isEmpty = false := by simpa using h1
              show _ = _ ++ _
              rw [grpsR_take hrj, h1, List.map_append, List.append_assoc]
              rfl
            · have h1 : r.2.1.isEmpty = true := by simpa using h1
              show _ = _ ++ _
              rw [grpsR_take hrj, h1, if_pos rfl, List.append_nil]
        · rintro acc1 rfl
          refine ⟨rfl, ?_⟩
          show _ = _
          rw [grps_take hpk, List.map_append, List.length_map, List.take_length]
      · rintro acc rfl
        show Ψ _
        rw [List.length_map, List.take_length]
        exact h)

abbrev s_measure_of : Stmt := topS 38
theorem sc_measure_of : FnScope ["parts", "measure", "part", "many", "parted", "common", "group"] ["parts"] (defScope s_measure_of) := ⟨rfl, rfl, rfl, by decide +kernel, rfl, by decide +kernel, by decide +kernel⟩
theorem ok_measure_of {f : Addr} {fd : FuncData} (F : Fun K "measure_of" "measure_of" s_measure_of f fd) (T : TxtP w K mg kd) (G_groups_of : Own P w K mg base "groups_of" 2 ["parts"] pd_groups_of) (G_takes : Own P w K mg base "takes" 1 ["word"] pd_takes) (G_makes : Own P w K mg base "makes" 1 ["word"] pd_makes) : FnOk P w K mg base CX0 3 f fd ["parts"] (spD K pd_measure_of) :=
  fn_dz F sc_measure_of (fun A ds Ψ h => by
      obtain ⟨ps, _, rfl, _⟩ := h; rfl) (fun A cdv Ar outer s H E hr =>
    (dss_cons (ds_asg (vs := [0, 1, 2, 3, 4, 5, 6]) de_int (dg_name (i := 1) sc_measure_of.nd rfl (Or.inl rfl)))
    (dss_cons (ds_for (vs := [0, 1, 2, 3, 4, 5, 6]) PassesOwn.never rfl (di_seq (de_var 0)) (dg_name (i := 2) sc_measure_of.nd rfl (Or.inl rfl))
      (dss_one (ds_if (dt_cmp (opd_eq hr.units) (de_ix (ixd hr.units) (de_var 2) de_int) de_str)
        (dss_cons (ds_asg (vs := [0, 1, 2, 3, 4, 5, 6]) (de_callB callD_len rfl T.mg_len (by decide +kernel) (da_cons (de_ix (ixd hr.units) (de_var 2) de_int) da_nil)) (dg_name (i := 3) sc_measure_of.nd rfl (Or.inl rfl)))
        (dss_one (ds_asg (vs := [0, 1, 2, 3, 4, 5, 6]) (de_callBf callD_lcm rfl T.mg_lcm (da_cons (de_var 1) (da_cons (de_if (dt_truth (de_op opd_mod (de_var 3) de_int) (by intro _; rfl)) (de_op opd_mulT de_int (de_var 3)) (de_op opd_mulT de_int (de_var 3))) da_nil))) (dg_name (i := 1) sc_measure_of.nd rfl (Or.inl rfl)))))
        dss_nil)))
    (dss_cons (ds_asg (vs := [0, 1, 2, 3, 4, 5, 6]) de_int (dg_name (i := 4) sc_measure_of.nd rfl (Or.inl rfl)))
    (dss_cons (ds_asg (vs := [0, 1, 2, 3, 4, 5, 6]) de_int (dg_name (i := 5) sc_measure_of.nd rfl (Or.inl rfl)))
    (dss_cons (ds_for (vs := [0, 1, 2, 3, 4, 5, 6]) PassesOwn.never rfl (di_seq (de_own G_groups_of (hr.mono (by decide)) rfl (da_cons (de_var 0) da_nil))) (dg_name (i := 6) sc_measure_of.nd rfl (Or.inl rfl))
      (dss_cons (ds_asg (vs := [0, 1, 2, 3, 4, 5, 6]) (de_callBf callD_lcm rfl T.mg_lcm (da_cons (de_var 5) (da_cons (de_own G_takes (hr.mono (by decide)) rfl (da_cons (de_var 6) da_nil)) da_nil))) (dg_name (i := 5) sc_measure_of.nd rfl (Or.inl rfl)))
      (dss_one (ds_if (dt_cmp (opd_ne hr.units) (de_own G_takes (hr.mono (by decide)) rfl (da_cons (de_var 6) da_nil)) (de_own G_makes (hr.mono (by decide)) rfl (da_cons (de_var 6) da_nil)))
        (dss_one (ds_asg (vs := [0, 1, 2, 3, 4, 5, 6]) (de_op opd_mulT (de_var 4) (de_own G_takes (hr.mono (by decide)) rfl (da_cons (de_var 6) da_nil))) (dg_name (i := 4) sc_measure_of.nd rfl (Or.inl rfl))))
        dss_nil))))
    (dss_one (ds_ret (de_callBf callD_lcm rfl T.mg_lcm (da_cons (de_var 1) (da_cons (de_op opd_mulT (de_var 4) (de_var 5)) da_nil)))))))))))
    (fun A ds Ψ h => by
      obtain ⟨ps, hp, rfl, h⟩ := h
      refine gN_env (e' := [.dat (.tup (ps.map encP)), .dat (.int 2), .un, .un, .un, .un, .un]) rfl ?_
      refine ⟨_, rfl, fun k e => ∃ a b, e = [.dat (.tup (ps.map encP)), .dat (.int ((ps.take k).foldl stepM 2 : Nat)), a, b, .un, .un, .un], ⟨.un, .un, by rw [List.take_zero]; rfl⟩, ?_, ?_⟩
      · rintro k x e hx ⟨a, b, rfl⟩
        rw [List.getElem?_map] at hx
        obtain ⟨p, hpk, rfl⟩ : ∃ p, ps[k]? = some p ∧ encP p = x := by
          cases hq : ps[k]? with
          | none => rw [hq] at hx; cases hx
          | some p => rw [hq] at hx; exact ⟨p, rfl, Option.some.inj hx⟩
        have hm := List.mem_of_getElem? hpk
        have hle := hp.leM k
        refine gN_env (e' := [.dat (.tup (ps.map encP)), .dat (.int ((ps.take k).foldl stepM 2 : Nat)), .dat (encP p), b, .un, .un, .un]) rfl ?_
        cases p with
        | row r =>
          refine ⟨_, rfl, by decide +kernel, by decide +kernel, _, rfl, iteEqX (c := false) (by decide +kernel) (iteF ⟨.dat (encP (.row r)), b, ?_⟩)⟩
          rw [fold_take hpk]
          rfl
        | blk b2 e2 rs =>
          have hl := (hp.all _ hm).1.1
          have hl : rs.length ≤ 100 := hl
          have hL : (rs.map encR).length = rs.length := List.length_map _
          refine ⟨_, rfl, by decide +kernel, by decide +kernel, _, rfl, iteEqX (c := true) (by decide +kernel) (iteT ⟨_, rfl, ?_⟩)⟩
          have hmod : (((rs.map encR).length : Nat) : Int) % 2 = ((rs.length % 2 : Nat) : Int) := by rw [hL]; exact (Int.natCast_emod _ _).symm
          refine ⟨by decide, _, rfl, iteB (fun h1 => ?_) (fun h1 => ?_)⟩
          · have h1 : rs.length % 2 = 1 := by rw [bne_iff_ne, hmod] at h1; omega
            refine .inr ⟨.inl ⟨by decide, by decide⟩, (ps.take k).foldl stepM 2, 4 * rs.length, by rw [Int.natCast_mul, ← hL]; rfl, by omega, by omega, .dat (encP (.blk b2 e2 rs)), .dat (.int ((rs.map encR).length : Nat)), ?_⟩
            rw [fold_take hpk, stepM_odd h1]
            rfl
          · have h1 : ¬ rs.length % 2 = 1 := by rw [bne_eq_false_iff_eq, hmod] at h1; omega
            refine .inr ⟨.inl ⟨by decide, by decide⟩, (ps.take k).foldl stepM 2, 2 * rs.length, by rw [Int.natCast_mul, ← hL]; rfl, by omega, by omega, .dat (encP (.blk b2 e2 rs)), .dat (.int ((rs.map encR).length : Nat)), ?_⟩
            rw [fold_take hpk, stepM_even h1]
            rfl
      · rintro e ⟨a, b, rfl⟩
        rw [List.length_map, List.take_length]
        refine ⟨ps, hp, rfl, _, rfl, fun k e => ∃ c, e = [.dat (.tup (ps.map encP)), .dat (.int (ps.foldl stepM 2 : Nat)), a, b, .dat (.int (((grps ps).take k).foldl stepU 1 : Nat)), .dat (.int (((grps ps).take k).foldl stepC 1 : Nat)), c], ⟨.un, by rw [List.take_zero]; rfl⟩, ?_, ?_⟩
        · rintro k x e hx ⟨c, rfl⟩
          rw [List.getElem?_map] at hx
          obtain ⟨g, hgk, rfl⟩ : ∃ g, (grps ps)[k]? = some g ∧ encW g = x := by
            cases hq : (grps ps)[k]? with
            | none => rw [hq] at hx; cases hx
            | some p => rw [hq] at hx; exact ⟨p, rfl, Option.some.inj hx⟩
          have hm := List.mem_of_getElem? hgk
          have hg := hp.good hm
          have b1 := hp.leU k
          have b2 := hp.leC k
          have b3 := hp.tkS hm
          refine gN_env (e' := [.dat (.tup (ps.map encP)), .dat (.int (ps.foldl stepM 2 : Nat)), a, b, .dat (.int (((grps ps).take k).foldl stepU 1 : Nat)), .dat (.int (((grps ps).take k).foldl stepC 1 : Nat)), .dat (encW g)]) rfl ?_
          refine ⟨g, hg, rfl, ((grps ps).take k).foldl stepC 1, tkw g, by rw [← tkW_n]; rfl, by omega, by omega, ?_⟩
          refine gN_env (e' := [.dat (.tup (ps.map encP)), .dat (.int (ps.foldl stepM 2 : Nat)), a, b, .dat (.int (((grps ps).take k).foldl stepU 1 : Nat)), .dat (.int (((grps ps).take (k + 1)).foldl stepC 1 : Nat)), .dat (encW g)]) (by rw [fold_take hgk]; rfl) ?_
          refine ⟨g, hg, rfl, g, hg, rfl, rfl, rfl, _, rfl, iteB (fun h1 => ?_) (fun h1 => ?_)⟩
          · have h1 : ¬ tkw g = mkw g := by
              intro z
              have e1 : eqD (.int (tkW g)) (.int (mkW g)) = true := by rw [eqD_ii, tkW_n, mkW_n, z]; exact beq_self_eq_true _
              have h1 : (!eqD (.int (tkW g)) (.int (mkW g))) = true := h1
              rw [e1] at h1
              cases h1
            refine ⟨g, hg, rfl, .inr ⟨.inl ⟨by omega, by omega⟩, .dat (encW g), ?_⟩⟩
            rw [fold_take (f := stepU) hgk, stepU_ne h1, Int.natCast_mul, ← tkW_n]
            rfl
          · have h1 : tkw g = mkw g := by
              have h1 : (!eqD (.int (tkW g)) (.int (mkW g))) = false := h1
              rw [eqD_ii, tkW_n, mkW_n] at h1
              have h1 : ((tkw g : Int) == (mkw g : Int)) = true := by simpa using h1
              rw [beq_iff_eq] at h1
              omega
            refine ⟨.dat (encW g), ?_⟩
            rw [fold_take (f := stepU) hgk, stepU_eq h1]
        · rintro e ⟨c, rfl⟩
          rw [List.length_map, List.take_length]
          have b1 := hp.leUC
          have b2 := hp.leM ps.length
          rw [List.take_length] at b2
          have b3 := hp.leU (grps ps).length
          rw [List.take_length] at b3
          refine .inr ⟨.inl ⟨by omega, by omega⟩, ps.foldl stepM 2, (grps ps).foldl stepU 1 * (grps ps).foldl stepC 1, by rw [Int.natCast_mul], by omega, by omega, h⟩)

abbrev s_growth_of : Stmt := topS 39
theorem sc_growth_of : FnScope ["parts", "growth", "group"] ["parts"] (defScope s_growth_of) := ⟨rfl, rfl, rfl, by decide +kernel, rfl, by decide +kernel, by decide +kernel⟩
theorem ok_growth_of {f : Addr} {fd : FuncData} (F : Fun K "growth_of" "growth_of" s_growth_of f fd) (T : TxtP w K mg kd) (G_groups_of : Own P w K mg base "groups_of" 2 ["parts"] pd_groups_of) (G_takes : Own P w K mg base "takes" 1 ["word"] pd_takes) (G_makes : Own P w K mg base "makes" 1 ["word"] pd_makes) : FnOk P w K mg base CX0 3 f fd ["parts"] (spD K pd_growth_of) :=
  fn_dz F sc_growth_of (fun A ds Ψ h => by
      obtain ⟨ps, _, rfl, _⟩ := h; rfl) (fun A cdv Ar outer s H E hr =>
    (dss_cons (ds_asg (vs := [0, 1, 2]) de_int (dg_name (i := 1) sc_growth_of.nd rfl (Or.inl rfl)))
    (dss_cons (ds_for (vs := [0, 1, 2]) PassesOwn.never rfl (di_seq (de_own G_groups_of (hr.mono (by decide)) rfl (da_cons (de_var 0) da_nil))) (dg_name (i := 2) sc_growth_of.nd rfl (Or.inl rfl))
      (dss_one (ds_if (dt_cmp opd_gt (de_own G_makes (hr.mono (by decide)) rfl (da_cons (de_var 2) da_nil)) (de_own G_takes (hr.mono (by decide)) rfl (da_cons (de_var 2) da_nil)))
        (dss_one (ds_asg (vs := [0, 1, 2]) (de_op opd_mulT (de_var 1) (de_own G_makes (hr.mono (by decide)) rfl (da_cons (de_var 2) da_nil))) (dg_name (i := 1) sc_growth_of.nd rfl (Or.inl rfl))))
        dss_nil)))
    (dss_one (ds_ret (de_var 1))))))
    (fun A ds Ψ h => by
      obtain ⟨ps, hp, rfl, h⟩ := h
      refine ⟨ps, hp, rfl, _, rfl, fun k e => ∃ c, e = [.dat (.tup (ps.map encP)), .dat (.int (((grps ps).take k).foldl stepG 1 : Nat)), c], ⟨.un, by rw [List.take_zero]; rfl⟩, ?_, ?_⟩
      · rintro k x e hx ⟨c, rfl⟩
        rw [List.getElem?_map] at hx
        obtain ⟨g, hgk, rfl⟩ : ∃ g, (grps ps)[k]? = some g ∧ encW g = x := by
          cases hq : (grps ps)[k]? with
          | none => rw [hq] at hx; cases hx
          | some p => rw [hq] at hx; exact ⟨p, rfl, Option.some.inj hx⟩
        have hm := List.mem_of_getElem? hgk
        have hg := hp.good hm
        have b1 := hp.leG k
        refine gN_env (e' := [.dat (.tup (ps.map encP)), .dat (.int (((grps ps).take k).foldl stepG 1 : Nat)), .dat (encW g)]) rfl ?_
        refine ⟨g, hg, rfl, g, hg, rfl, _, rfl, iteB (fun h1 => ?_) (fun h1 => ?_)⟩
        · have h1 : tkw g < mkw g := by
            have h1 : decide (tkW g < mkW g) = true := h1
            rw [decide_eq_true_eq, tkW_n, mkW_n] at h1
            omega
          refine ⟨g, hg, rfl, .inr ⟨.inl ⟨by omega, by omega⟩, .dat (encW g), ?_⟩⟩
          rw [fold_take (f := stepG) hgk, stepG_lt h1, Int.natCast_mul, ← mkW_n]
          rfl
        · have h1 : ¬ tkw g < mkw g := by
            have h1 : decide (tkW g < mkW g) = false := h1
            rw [decide_eq_false_iff_not, tkW_n, mkW_n] at h1
            omega
          refine ⟨.dat (encW g), ?_⟩
          rw [fold_take (f := stepG) hgk, stepG_ge h1]
      · rintro e ⟨c, rfl⟩
        rw [List.length_map, List.take_length]
        exact h)

abbrev s_check_piece : Stmt := topS 41
theorem sc_check_piece : FnScope ["way", "cast", "parts", "position", "part"] ["way", "cast", "parts"] (defScope s_check_piece) := ⟨rfl, rfl, rfl, by decide +kernel, rfl, by decide +kernel, by decide +kernel⟩
theorem ok_check_piece {f : Addr} {fd : FuncData} (F : Fun K "check_piece" "check_piece" s_check_piece f fd) (T : TxtP w K mg kd) (G_is_line : Own P w K mg base "is_line" 2 ["thing"] pd_is_line) (G_is_part : Own P w K mg base "is_part" 6 ["thing"] pd_is_part) (G_measure_of : Own P w K mg base "measure_of" 3 ["parts"] pd_measure_of) (G_growth_of : Own P w K mg base "growth_of" 3 ["parts"] pd_growth_of) : FnOk P w K mg base CX0 7 f fd ["way", "cast", "parts"] (spD K pd_check_piece) :=
  fn_dz F sc_check_piece (fun A ds Ψ h => by
      obtain ⟨w, b, e, ps, rfl, _⟩ := h; rfl) (fun A cdv Ar outer s H E hr =>
    (dss_cons (ds_if (PW.pt (dw_or (dt_not (dt_truth (de_callB callD_isi rfl T.mg_isinstance (by decide +kernel) (da_cons (de_var 0) (da_cons (de_bltn (v := .ty "str") (d := .ty "str") rfl T.mg_str (by decide +kernel) rfl (fun _ => rep_ty.mpr rfl)) da_nil))) (by intro _; rfl))) (dw_or (dt_cmp opd_notinS (de_var 0) (de_tup (da_cons de_str (da_cons de_str da_nil))) (by rfl)) (dw_or1 (dt_not (dt_truth (de_own G_is_line (hr.mono (by decide)) rfl (da_cons (de_var 1) da_nil)) (by intro _; rfl)))))))
      (dss_one ds_false)
      dss_nil)
    (dss_cons (ds_if (PW.pt (dw_or (dt_not (dt_truth (de_callB callD_isi rfl T.mg_isinstance (by decide +kernel) (da_cons (de_var 2) (da_cons (de_bltn (v := .ty "tuple") (d := .ty "tuple") rfl T.mg_tuple (by decide +kernel) rfl (fun _ => rep_ty.mpr rfl)) da_nil))) (by intro _; rfl))) (dw_or1 (dt_cmp opd_gt (de_callB callD_len rfl T.mg_len (by decide +kernel) (da_cons (de_var 2) da_nil)) (de_constI rfl T.mg_MOST_PARTS)))))
      (dss_one ds_false)
      dss_nil)
    (dss_cons (ds_for (vs := [0, 1, 2, 3, 4]) PassesOwn.never rfl (di_enuT rfl T.mg_enumerate (da_cons (de_var 2) da_nil)) (dg_tup (n := 2) rfl (dgs_cons (dg_name (i := 3) sc_check_piece.nd rfl (Or.inl rfl)) (dgs_cons (dg_name (i := 4) sc_check_piece.nd rfl (Or.inl rfl)) dgs_nil)))
      (dss_one (ds_if (dt_not (dt_truth (de_own G_is_part (hr.mono (by decide)) rfl (da_cons (de_var 4) da_nil)) (by intro _; rfl)))
        (dss_one ds_false)
        dss_nil)))
    (dss_one (ds_if (PW.pt (dw_or (dt_cmp opd_gt (de_own G_measure_of (hr.mono (by decide)) rfl (da_cons (de_var 2) da_nil)) (de_constI rfl T.mg_MOST_MEASURE)) (dw_or1 (dt_cmp opd_gt (de_own G_growth_of (hr.mono (by decide)) rfl (da_cons (de_var 2) da_nil)) (de_constI rfl T.mg_MOST_GROWTH)))))
      (dss_one ds_false)
      dss_nil))))))
    (fun A ds Ψ h => by
      obtain ⟨w, b, e, ps, rfl, ho, h⟩ := h
      have hL : (ps.map encP).length = ps.length := List.length_map _
      refine ⟨by decide, _, rfl, true, rfl, iteF ⟨by decide, w, ["flat", "round"], rfl, rfl, _, rfl, iteEqX (c := false) ?_ (iteF ?_)⟩⟩
      · have : w ∈ (["flat", "round"] : List Str) := by
          rcases ho.way with z | z
          · rw [z]; exact List.mem_cons_self
          · rw [z]; exact List.mem_cons_of_mem _ List.mem_cons_self
        rw [decide_eq_true this]
        rfl
      refine ⟨b, e, rfl, _, rfl, iteEqX (c := false) (by rw [ho.line]; rfl) (iteF ?_)⟩
      refine ⟨by decide, _, rfl, true, rfl, iteF ⟨_, rfl, iteEqX (c := false) (decide_eq_false (by have := ho.few; rw [hL]; omega)) (iteF ?_)⟩⟩
      refine ⟨_, rfl, fun k en => ∃ x y, en = [.dat (.str w), .dat (.tup [.int b, .int e]), .dat (.tup (ps.map encP)), x, y], ⟨.un, .un, rfl⟩, ?_, ?_⟩
      · rintro k x en hx ⟨y, z, rfl⟩
        obtain ⟨v, hv, rfl⟩ := enuD_get hx
        rw [List.getElem?_map] at hv
        obtain ⟨p, hpk, rfl⟩ : ∃ p, ps[k]? = some p ∧ encP p = v := by
          cases hq : ps[k]? with
          | none => rw [hq] at hv; cases hv
          | some p => rw [hq] at hv; exact ⟨p, rfl, Option.some.inj hv⟩
        have hm := List.mem_of_getElem? hpk
        exact ⟨rfl, rfl, p, (ho.ok.all p hm).1, rfl, _, rfl, iteEqX (c := false) (by rw [ho.part p hm]; rfl) (iteF ⟨_, _, rfl⟩)⟩
      · rintro en ⟨y, z, rfl⟩
        refine ⟨ps, ho.ok, rfl, _, rfl, iteEqX (c := false) (decide_eq_false (by have := ho.sm; omega)) (iteF ⟨ps, ho.ok, rfl, _, rfl, iteEqX (c := false) (decide_eq_false (by have := ho.sg; omega)) (iteF h)⟩)⟩)

end
structure TxtC (w : World) (K : PySem.W.Frag) (mg : Str → Option Value) (kd cP : Addr) : Prop extends TxtP w K mg kd where
  cl_Piece : Cls K cP
  na_way : NoAttr K cP "way"
  na_cast : NoAttr K cP "cast"
  na_parts : NoAttr K cP "parts"
section
variable {P : Program} {w : World} {K : PySem.W.Frag} {mg : Str → Option Value} {base : Heap} {kd cP : Addr}
abbrev s_Piece_init : Stmt := inClass (topS 40) 0
theorem sc_Piece_init : FnScope ["self", "way", "cast", "parts"] ["self", "way", "cast", "parts"] (defScope s_Piece_init) := ⟨rfl, rfl, rfl, by decide +kernel, rfl, by decide +kernel, by decide +kernel⟩
theorem ok_Piece_init {f : Addr} {fd : FuncData} (F : Fun K "__init__" "Piece.__init__" s_Piece_init f fd) (T : TxtC w K mg kd cP) (G_check_piece : Own P w K mg base "check_piece" 7 ["way", "cast", "parts"] pd_check_piece) : FnOk P w K mg base (L2.CX P w) 8 f fd ["self", "way", "cast", "parts"] (spI K cP pd_Piece_init) :=
  fn_dzi F sc_Piece_init (fun A ds Ψ Ξ h => by
      obtain ⟨w, b, e, ps, rfl, _⟩ := h; rfl) (fun A Ξ cdv Ar outer s H E hr tk =>
    (dss_cons (ds_expr (de_own G_check_piece (hr.mono (by decide)) rfl (da_cons (de_var 1) (da_cons (de_var 2) (da_cons (de_var 3) da_nil)))))
    (dss_cons (ds_fput (i := 0) T.cl_Piece T.na_way rfl (Or.inl rfl) (de_var 1))
    (dss_cons (ds_fput (i := 0) T.cl_Piece T.na_cast rfl (Or.inl rfl) (de_var 2))
    (dss_one (ds_fput (i := 0) T.cl_Piece T.na_parts rfl (Or.inl rfl) (de_var 3)))))))
    (fun A ds Ψ Ξ p dx h => by
      obtain ⟨w, b, e, ps, rfl, ho, h⟩ := h
      refine ⟨w, b, e, ps, rfl, ho, p, dx, [], [], rfl, List.not_mem_nil, by decide, p, dx, _, _, rfl, by decide +kernel, by decide, p, dx, _, _, rfl, by decide +kernel, by decide, ?_⟩
      exact ⟨_, _, rfl, h⟩)

end
end K57

/-! W57: gaps in a ring, spread evenly. -/
namespace X57
/-- the spread gaps -/
def spr (T : Int) (n : Nat) : List Int := (List.range n).map fun (k : Nat) => ((k : Int) + 1) * T / n - (k : Int) * T / n
def rot (l : List Int) (s : Nat) : List Int := l.drop s ++ l.take s
def win (g : List Int) (i w : Nat) : Int := (((g ++ g).drop i).take w).sum
/-- the gap at a place of the ring -/
def at' (g : List Int) (k : Nat) : Int := g.getD (k % g.length) 0
/-- the sum of the first ones, going round -/
def pre (g : List Int) : Nat → Int
  | 0 => 0
  | k + 1 => pre g k + at' g k
theorem pre_add (g : List Int) (i : Nat) : ∀ w, pre g (i + w) = pre g i + ((List.range w).map fun j => at' g (i + j)).sum
  | 0 => by simp
  | w + 1 => by
    rw [← Nat.add_assoc]
    show pre g (i + w) + at' g (i + w) = _
    rw [pre_add g i w, List.range_succ, List.map_append, List.sum_append]
    simp
    omega
theorem take_sum (g : List Int) : ∀ k, k ≤ g.length → (g.take k).sum = pre g k
  | 0, _ => by simp [pre]
  | k + 1, h => by
    have hk : k < g.length := by omega
    rw [List.take_succ, List.getElem?_eq_getElem hk, List.sum_append, take_sum g k (by omega)]
    show pre g k + ([g[k]].sum) = pre g k + at' g k
    unfold at'
    rw [Nat.mod_eq_of_lt hk, List.getD_eq_getElem?_getD, List.getElem?_eq_getElem hk]
    simp
theorem gg_get (g : List Int) {m : Nat} (h : m < 2 * g.length) : (g ++ g)[m]? = some (at' g m) := by
  have hn : 0 < g.length := by omega
  unfold at'
  rcases Nat.lt_or_ge m g.length with h1 | h1
  · rw [List.getElem?_append_left h1, Nat.mod_eq_of_lt h1, List.getD_eq_getElem?_getD, List.getElem?_eq_getElem h1]; rfl
  · rw [List.getElem?_append_right h1]
    have h2 : m - g.length < g.length := by omega
    have h3 : m % g.length = m - g.length := by rw [Nat.mod_eq_sub_mod h1, Nat.mod_eq_of_lt h2]
    rw [h3, List.getD_eq_getElem?_getD, List.getElem?_eq_getElem h2]; rfl
theorem win_pre (g : List Int) {i w : Nat} (h : i + w ≤ 2 * g.length) : win g i w = pre g (i + w) - pre g i := by
  have key : ∀ w, i + w ≤ 2 * g.length → win g i w = pre g (i + w) - pre g i := by
    intro w
    induction w with
    | zero => intro _; simp [win]
    | succ w ih =>
      intro h
      have ih := ih (by omega)
      have e : (((g ++ g).drop i).take (w + 1)) = (((g ++ g).drop i).take w) ++ [at' g (i + w)] := by
        rw [List.take_succ, List.getElem?_drop, gg_get g (by omega)]
        rfl
      show (((g ++ g).drop i).take (w + 1)).sum = _
      rw [e, List.sum_append]
      show win g i w + _ = pre g (i + w) + at' g (i + w) - pre g i
      rw [ih]
      simp
      omega
  exact key w h
theorem at_add (g : List Int) (k : Nat) : at' g (k + g.length) = at' g k := by unfold at'; rw [Nat.add_mod_right]
theorem pre_len (g : List Int) : pre g g.length = g.sum := by rw [← take_sum g g.length (Nat.le_refl _), List.take_length]
theorem pre_round (g : List Int) : ∀ k, pre g (k + g.length) = pre g k + g.sum
  | 0 => by rw [Nat.zero_add, pre_len]; simp [pre]
  | k + 1 => by
    have e : k + 1 + g.length = (k + g.length) + 1 := by omega
    rw [e]
    show pre g (k + g.length) + at' g (k + g.length) = pre g k + at' g k + g.sum
    rw [pre_round g k, at_add]
    omega
/-! ### the spread gaps are even -/
theorem spr_len (T : Int) (n : Nat) : (spr T n).length = n := by unfold spr; rw [List.length_map, List.length_range]
theorem fl_add {T : Int} {n : Nat} (hn : 0 < n) (k : Int) : (k + n) * T / n = k * T / n + T := by
  rw [Int.add_mul, Int.mul_comm (n : Int) T, Int.add_mul_ediv_right _ _ (by omega)]
theorem spr_at {T : Int} {n : Nat} (hn : 0 < n) (k : Nat) : at' (spr T n) k = ((k : Int) + 1) * T / n - (k : Int) * T / n := by
  have hk : k % n < n := Nat.mod_lt _ hn
  have e1 : at' (spr T n) k = (((k % n : Nat) : Int) + 1) * T / n - ((k % n : Nat) : Int) * T / n := by
    unfold at' spr
    rw [List.length_map, List.length_range, List.getD_eq_getElem?_getD, List.getElem?_map, List.getElem?_range hk]
    rfl
  have key : ∀ q r : Nat, (((r + q * n : Nat) : Int) + 1) * T / n - ((r + q * n : Nat) : Int) * T / n = ((r : Int) + 1) * T / n - (r : Int) * T / n := by
    intro q r
    induction q with
    | zero => simp
    | succ q ih =>
      have e2 : ((r + (q + 1) * n : Nat) : Int) = ((r + q * n : Nat) : Int) + n := by rw [Nat.succ_mul]; push_cast; omega
      have e3 : ((r + q * n : Nat) : Int) + (n : Int) + 1 = ((r + q * n : Nat) : Int) + 1 + n := by omega
      rw [e2, e3, fl_add hn, fl_add hn]
      omega
  rw [e1, ← key (k / n) (k % n)]
  have e4 : k % n + k / n * n = k := by rw [Nat.mul_comm]; exact Nat.mod_add_div k n
  rw [e4]
theorem spr_pre {T : Int} {n : Nat} (hn : 0 < n) : ∀ k, pre (spr T n) k = (k : Int) * T / n
  | 0 => by simp [pre]
  | k + 1 => by
    show pre (spr T n) k + at' (spr T n) k = _
    rw [spr_pre hn k, spr_at hn]
    push_cast
    omega
theorem spr_sum {T : Int} {n : Nat} (hn : 0 < n) : (spr T n).sum = T := by
  have h := pre_len (spr T n)
  rw [← h, spr_len, spr_pre hn, Int.mul_comm, Int.mul_ediv_cancel _ (by omega)]
/-! ### turned ones -/
theorem rot_len (l : List Int) {s : Nat} (h : s ≤ l.length) : (rot l s).length = l.length := by
  unfold rot
  rw [List.length_append, List.length_drop, List.length_take]
  omega
theorem rot_at (l : List Int) {s : Nat} (h : s ≤ l.length) (hl : 0 < l.length) (k : Nat) : at' (rot l s) k = at' l (s + k) := by
  have hk : k % l.length < l.length := Nat.mod_lt _ hl
  have e : (s + k) % l.length = (s + k % l.length) % l.length := by rw [Nat.add_mod_mod]
  unfold at'
  rw [rot_len l h, e, List.getD_eq_getElem?_getD, List.getD_eq_getElem?_getD]
  congr 1
  generalize k % l.length = m at hk
  unfold rot
  rcases Nat.lt_or_ge m (l.length - s) with h1 | h1
  · rw [List.getElem?_append_left (by rw [List.length_drop]; exact h1), List.getElem?_drop, Nat.mod_eq_of_lt (by omega)]
  · rw [List.getElem?_append_right (by rw [List.length_drop]; exact h1), List.length_drop, List.getElem?_take_of_lt (by omega)]
    have : (s + m) % l.length = m - (l.length - s) := by
      rw [Nat.mod_eq_sub_mod (by omega), Nat.mod_eq_of_lt (by omega)]
      omega
    rw [this]
theorem rot_pre (l : List Int) {s : Nat} (h : s ≤ l.length) (hl : 0 < l.length) : ∀ k, pre (rot l s) k = pre l (s + k) - pre l s
  | 0 => by simp [pre]
  | k + 1 => by
    show pre (rot l s) k + at' (rot l s) k = pre l (s + k) + at' l (s + k) - pre l s
    rw [rot_pre l h hl k, rot_at l h hl]
    omega
theorem rot_sum (l : List Int) (s : Nat) : (rot l s).sum = l.sum := by
  have h : l.sum = (l.take s ++ l.drop s).sum := by rw [List.take_append_drop]
  unfold rot
  rw [h, List.sum_append, List.sum_append]
  omega
/-- all stretches of a width have sums that differ by 1 at most -/
def EvenW (g : List Int) (w : Nat) : Prop := ∀ i j, i < g.length → j < g.length → win g i w - win g j w ≤ 1
def Even (g : List Int) : Prop := ∀ w, 1 ≤ w → w < g.length → EvenW g w
theorem fl_two {T : Int} {n : Nat} (hn : 0 < n) (a b w : Int) : ((a + w) * T / n - a * T / n) - ((b + w) * T / n - b * T / n) ≤ 1 := by
  have hn' : (0 : Int) < n := by omega
  have h1 := Int.mul_ediv_add_emod ((a + w) * T) n
  have h2 := Int.mul_ediv_add_emod (a * T) n
  have h3 := Int.mul_ediv_add_emod ((b + w) * T) n
  have h4 := Int.mul_ediv_add_emod (b * T) n
  have r1 := Int.emod_nonneg ((a + w) * T) (show (n : Int) ≠ 0 by omega)
  have r2 := Int.emod_lt_of_pos (a * T) hn'
  have r3 := Int.emod_lt_of_pos ((b + w) * T) hn'
  have r4 := Int.emod_nonneg (b * T) (show (n : Int) ≠ 0 by omega)
  have e1 : (a + w) * T = a * T + w * T := Int.add_mul _ _ _
  have e2 : (b + w) * T = b * T + w * T := Int.add_mul _ _ _
  generalize (a + w) * T / n = p at *
  generalize a * T / n = q at *
  generalize (b + w) * T / n = r at *
  generalize b * T / n = s at *
  refine Int.not_lt.mp fun hlt => ?_
  have h5 : (2 : Int) ≤ p - q - (r - s) := by omega
  have h6 : (n : Int) * 2 ≤ n * (p - q - (r - s)) := Int.mul_le_mul_of_nonneg_left h5 (by omega)
  have h7 : (n : Int) * (p - q - (r - s)) = n * p - n * q - (n * r - n * s) := by rw [Int.mul_sub, Int.mul_sub, Int.mul_sub]
  omega
theorem spr_even {T : Int} {n s : Nat} (hn : 0 < n) (hs : s < n) : ∀ w, w ≤ n → EvenW (rot (spr T n) s) w := by
  intro w hw i j hi hj
  have hl : (spr T n).length = n := spr_len T n
  have hr : (rot (spr T n) s).length = n := by rw [rot_len _ (by omega), hl]
  rw [hr] at hi hj
  rw [win_pre _ (by rw [hr]; omega), win_pre _ (by rw [hr]; omega)]
  rw [rot_pre _ (by omega) (by omega), rot_pre _ (by omega) (by omega), rot_pre _ (by omega) (by omega), rot_pre _ (by omega) (by omega), spr_pre hn, spr_pre hn, spr_pre hn, spr_pre hn, spr_pre hn]
  have h := fl_two (T := T) hn ((s + i : Nat) : Int) ((s + j : Nat) : Int) (w : Int)
  have e1 : ((s + (i + w) : Nat) : Int) = ((s + i : Nat) : Int) + w := by push_cast; omega
  have e2 : ((s + (j + w) : Nat) : Int) = ((s + j : Nat) : Int) + w := by push_cast; omega
  rw [e1, e2]
  omega
/-! ### gaps that are even are turned spread ones -/
def sg (f : Nat → Int) : Nat → Int
  | 0 => 0
  | n + 1 => sg f n + f n
theorem sg_tel (h : Nat → Int) : ∀ n, sg (fun i => h (i + 1) - h i) n = h n - h 0
  | 0 => by simp [sg]
  | n + 1 => by
    show sg _ n + (h (n + 1) - h n) = _
    rw [sg_tel h n]
    omega
theorem sg_add (f g : Nat → Int) : ∀ n, sg (fun i => f i + g i) n = sg f n + sg g n
  | 0 => by simp [sg]
  | n + 1 => by
    show sg _ n + (f n + g n) = sg f n + f n + (sg g n + g n)
    rw [sg_add f g n]
    omega
theorem sg_congr {f g : Nat → Int} : ∀ n, (∀ i, i < n → f i = g i) → sg f n = sg g n
  | 0, _ => rfl
  | n + 1, h => by
    show sg f n + f n = sg g n + g n
    rw [sg_congr n fun i hi => h i (by omega), h n (by omega)]
theorem sg_const (c : Int) : ∀ n : Nat, sg (fun _ => c) n = n * c
  | 0 => by simp [sg]
  | n + 1 => by
    show sg _ n + c = _
    rw [sg_const c n]
    push_cast
    rw [Int.add_mul]
    omega
theorem sg_le1 {f : Nat → Int} : ∀ n : Nat, (∀ i, i < n → f i ≤ 1) → sg f n ≤ n
  | 0, _ => by simp [sg]
  | n + 1, h => by
    have := sg_le1 n fun i hi => h i (by omega)
    have := h n (by omega)
    show sg f n + f n ≤ _
    push_cast
    omega
theorem sg_lt {f : Nat → Int} : ∀ n : Nat, (∀ i, i < n → f i ≤ 1) → (∃ i, i < n ∧ f i ≤ 0) → sg f n + 1 ≤ n
  | 0, _, ⟨i, hi, _⟩ => by omega
  | n + 1, h, ⟨i, hi, h0⟩ => by
    show sg f n + f n + 1 ≤ _
    push_cast
    by_cases e : i = n
    · subst e
      have := sg_le1 i fun j hj => h j (by omega)
      omega
    · have := sg_lt n (fun j hj => h j (by omega)) ⟨i, by omega, h0⟩
      have := h n (by omega)
      omega
theorem pre_tot (g : List Int) : ∀ w : Nat, sg (fun i => pre g (i + w) - pre g i) g.length = w * g.sum
  | 0 => by
    rw [sg_congr (g := fun _ => 0) g.length fun i _ => by simp, sg_const]
    simp
  | w + 1 => by
    have e : sg (fun i => pre g (i + (w + 1)) - pre g i) g.length = sg (fun i => (pre g (i + w) - pre g i) + (pre g (i + 1 + w) - pre g (i + w))) g.length := sg_congr _ fun i _ => by
      have : i + (w + 1) = i + 1 + w := by omega
      rw [this]
      omega
    rw [e, sg_add, pre_tot g w, sg_tel (fun i => pre g (i + w)), Nat.add_comm g.length w, pre_round]
    simp only [Nat.zero_add]
    push_cast
    rw [Int.add_mul]
    omega
theorem near {g : List Int} {w : Nat} (hw : w ≤ g.length) (he : EvenW g w) {i : Nat} (hi : i < g.length) : (g.length : Int) * (pre g (i + w) - pre g i) - w * g.sum + 1 ≤ g.length ∧ (w : Int) * g.sum - g.length * (pre g (i + w) - pre g i) + 1 ≤ g.length := by
  have ew : ∀ j, j < g.length → win g j w = pre g (j + w) - pre g j := fun j hj => win_pre g (by omega)
  have hs := pre_tot g w
  constructor
  · have e : sg (fun j => (pre g (i + w) - pre g i) + -(pre g (j + w) - pre g j)) g.length = g.length * (pre g (i + w) - pre g i) - w * g.sum := by
      rw [sg_add, sg_const]
      have : sg (fun j => -(pre g (j + w) - pre g j)) g.length = -(w * g.sum) := by
        have h2 : sg (fun j => -(pre g (j + w) - pre g j) + (pre g (j + w) - pre g j)) g.length = 0 := by
          rw [sg_congr (g := fun _ => 0) g.length fun j _ => by omega, sg_const]
          simp
        rw [sg_add, hs] at h2
        omega
      rw [this]
      omega
    rw [← e]
    refine sg_lt _ (fun j hj => ?_) ⟨i, hi, by omega⟩
    have := he i j hi hj
    rw [ew i hi, ew j hj] at this
    omega
  · have e : sg (fun j => (pre g (j + w) - pre g j) + -(pre g (i + w) - pre g i)) g.length = w * g.sum - g.length * (pre g (i + w) - pre g i) := by
      rw [sg_add, sg_const, hs, Int.mul_neg]
      omega
    rw [← e]
    refine sg_lt _ (fun j hj => ?_) ⟨i, hi, by omega⟩
    have := he j i hj hi
    rw [ew i hi, ew j hj] at this
    omega
theorem max_at (d : Nat → Int) : ∀ n, 0 < n → ∃ s, s < n ∧ ∀ k, k < n → d k ≤ d s
  | 1, _ => ⟨0, by omega, fun k hk => by have : k = 0 := by omega
                                         subst this; exact Int.le_refl _⟩
  | n + 2, _ => by
    obtain ⟨s, hs, h⟩ := max_at d (n + 1) (by omega)
    by_cases hd : d (n + 1) ≤ d s
    · exact ⟨s, by omega, fun k hk => by
        by_cases e : k = n + 1
        · subst e; exact hd
        · exact h k (by omega)⟩
    · exact ⟨n + 1, by omega, fun k hk => by
        by_cases e : k = n + 1
        · subst e; exact Int.le_refl _
        · have := h k (by omega); omega⟩
theorem list_ext {a b : List Int} (hl : a.length = b.length) (h : ∀ k, k < a.length → at' a k = at' b k) : a = b := by
  refine List.ext_getElem? fun k => ?_
  rcases Nat.lt_or_ge k a.length with hk | hk
  · have := h k hk
    unfold at' at this
    rw [Nat.mod_eq_of_lt hk, Nat.mod_eq_of_lt (by omega), List.getD_eq_getElem?_getD, List.getD_eq_getElem?_getD, List.getElem?_eq_getElem hk, List.getElem?_eq_getElem (by omega)] at this
    rw [List.getElem?_eq_getElem hk, List.getElem?_eq_getElem (by omega)]
    exact congrArg some this
  · rw [List.getElem?_eq_none hk, List.getElem?_eq_none (by omega)]
theorem even_rot {g : List Int} (hn : 0 < g.length) (he : Even g) : ∃ s, s < g.length ∧ g = rot (spr g.sum g.length) s := by
  obtain ⟨n, hN⟩ : ∃ n, n = g.length := ⟨_, rfl⟩
  obtain ⟨T, hT⟩ : ∃ T, T = g.sum := ⟨_, rfl⟩
  rw [← hN, ← hT]
  have hn0 : 0 < n := by omega
  obtain ⟨s, hs, hmax⟩ := max_at (fun k => (n : Int) * pre g k - k * T) n hn0
  have per : ∀ k, (n : Int) * pre g (k + n) - ((k + n : Nat) : Int) * T = n * pre g k - k * T := fun k => by
    have e : pre g (k + n) = pre g k + T := by rw [hN, hT]; exact pre_round g k
    rw [e]
    push_cast
    rw [Int.mul_add, Int.add_mul]
    omega
  have all : ∀ w, w ≤ n → pre g (s + w) - pre g s = (w : Int) * T / n := by
    intro w hw
    have hle : (n : Int) * pre g (s + w) - ((s + w : Nat) : Int) * T ≤ n * pre g s - s * T := by
      rcases Nat.lt_or_ge (s + w) n with h | h
      · exact hmax _ h
      · have h1 := per (s + w - n)
        have e : s + w - n + n = s + w := by omega
        rw [e] at h1
        rw [h1]
        exact hmax _ (by omega)
    have hgt : (w : Int) * T - n * (pre g (s + w) - pre g s) < n := by
      rcases Nat.eq_zero_or_pos w with h0 | h0
      · subst h0; simp; omega
      · rcases Nat.lt_or_ge w n with h1 | h1
        · have := (near (by omega) (he w h0 (by omega)) (i := s) (by omega)).2
          rw [← hN, ← hT] at this
          omega
        · have e : w = n := by omega
          subst e
          have e2 : pre g (s + w) = pre g s + T := by rw [hN, hT]; exact pre_round g s
          rw [e2]
          have : (w : Int) * T - w * (pre g s + T - pre g s) = 0 := by
            have : pre g s + T - pre g s = T := by omega
            rw [this]
            omega
          omega
    have hd : (n : Int) * (pre g (s + w) - pre g s) ≤ w * T := by
      push_cast at hle
      rw [Int.add_mul] at hle
      rw [Int.mul_sub]
      omega
    have hn' : (0 : Int) < n := by omega
    have h1 := Int.mul_ediv_add_emod ((w : Int) * T) n
    have r1 := Int.emod_nonneg ((w : Int) * T) (show (n : Int) ≠ 0 by omega)
    have r2 := Int.emod_lt_of_pos ((w : Int) * T) hn'
    generalize (w : Int) * T / n = q at *
    generalize pre g (s + w) - pre g s = x at *
    rcases Int.lt_trichotomy x q with h | h | h
    · have : (n : Int) * (x + 1) ≤ n * q := Int.mul_le_mul_of_nonneg_left (by omega) (by omega)
      rw [Int.mul_add] at this
      omega
    · exact h
    · have : (n : Int) * (q + 1) ≤ n * x := Int.mul_le_mul_of_nonneg_left (by omega) (by omega)
      rw [Int.mul_add] at this
      omega
  have gaps : ∀ k, k < n → at' g (s + k) = at' (spr T n) k := fun k hk => by
    have h1 := all k (by omega)
    have h2 := all (k + 1) (by omega)
    rw [spr_at hn0]
    have e : pre g (s + (k + 1)) = pre g (s + k) + at' g (s + k) := rfl
    rw [e] at h2
    push_cast at h2
    omega
  have hmod : ∀ k, at' g k = at' g (k % n) := fun k => by unfold at'; rw [← hN, Nat.mod_mod]
  have hsm : ∀ k, at' (spr T n) k = at' (spr T n) (k % n) := fun k => by unfold at'; rw [spr_len, Nat.mod_mod]
  refine ⟨(n - s) % n, Nat.mod_lt _ hn0, list_ext (by rw [rot_len _ (by rw [spr_len]; exact Nat.le_of_lt (Nat.mod_lt _ hn0)), spr_len, hN]) fun j hj => ?_⟩
  rw [rot_at _ (by rw [spr_len]; exact Nat.le_of_lt (Nat.mod_lt _ hn0)) (by rw [spr_len]; exact hn0)]
  have hk : (j + n - s) % n < n := Nat.mod_lt _ hn0
  have h1 := gaps _ hk
  have e1 : (s + (j + n - s) % n) % n = j := by
    rw [Nat.add_mod_mod]
    have : s + (j + n - s) = j + n := by omega
    rw [this, Nat.add_mod_right, Nat.mod_eq_of_lt (by omega)]
  rw [hmod, e1] at h1
  have e2 : ((n - s) % n + j) % n = (j + n - s) % n := by
    rw [Nat.mod_add_mod]
    have : n - s + j = j + n - s := by omega
    rw [this]
  rw [h1, hsm ((n - s) % n + j), e2]
end X57

namespace K57
open PySem PySem.Spec PyProof.Rows L2 Dz
structure TxtX (w : World) (K : PySem.W.Frag) (mg : Str → Option Value) (kd cP cE cU : Addr) : Prop extends TxtC w K mg kd cP where
  cl_Even : Cls K cE
  na_shift : NoAttr K cE "shift"
  cl_Uneven : Cls K cU
  na_one : NoAttr K cU "one"
  na_other : NoAttr K cU "other"
  na_width : NoAttr K cU "width"
structure TxX (K : PySem.W.Frag) (mg : Str → Option Value) (x : Str) (cX : Addr) : Prop where
  q : PySem.W.excIn K cX [.type "ValueError", .type "Exception", .type "BaseException", .type "object"] "ValueError.__new__" = true
  g : mg x = some (.ref cX)
  k : PySem.W.keepIn K (.ref cX) = true
  b : PySem.W.subIn K (.ref cX) (.type "BaseException") = some true
  t : PySem.W.typeIn K (.ref cX) = some (.type "type")
/-! ### lists of integers -/
def encG (g : List Int) : D := .lst (g.map D.int)
theorem eqL_int : ∀ a b : List Int, eqL (a.map D.int) (b.map D.int) = decide (a = b)
  | [], [] => by simp [eqL]
  | [], y :: b => by simp [eqL]
  | x :: a, [] => by simp [eqL]
  | x :: a, y :: b => by
    have ih := eqL_int a b
    simp only [List.map_cons, eqL, ih, eqD_ii]
    by_cases h1 : x = y
    · by_cases h2 : a = b
      · simp [h1, h2]
      · simp [h1, h2]
    · simp [h1]
theorem eqG (a b : List Int) : eqD (encG a) (encG b) = decide (a = b) := by unfold encG; rw [← eqL_int]; unfold eqD; rfl
theorem plG (a : List Int) : plD 12 (encG a) = true := by
  unfold encG
  have key : ∀ l : List Int, plL 11 (l.map D.int) = true := fun l => by
    induction l with
    | nil => rfl
    | cons x l ih => simp only [List.map_cons]; unfold plL; rw [ih]; rfl
  exact key a
theorem rg_int (n : Nat) : rngD 0 ((n : Int)).toNat = (List.range n).map fun (k : Nat) => D.int (k : Int) := by
  unfold rngD
  simp
theorem sIx_le {n d k : Nat} (h : k ≤ n) : HT.sIx n d (some (k : Int)) = k := by
  rw [HT.sIx_nat]
  exact Nat.min_eq_left h
theorem cut_from (l : List Int) {k : Nat} (h : k ≤ l.length) : Dz.cutD (l.map D.int) (some (k : Int)) none = (l.drop k).map D.int := by
  unfold Dz.cutD
  rw [List.length_map, sIx_le h]
  show ((l.map D.int).drop k).take (l.length - k) = _
  rw [List.take_of_length_le (by rw [List.length_drop, List.length_map]; omega), List.map_drop]
theorem cut_to (l : List Int) {k : Nat} (h : k ≤ l.length) : Dz.cutD (l.map D.int) none (some (k : Int)) = (l.take k).map D.int := by
  unfold Dz.cutD
  rw [List.length_map, sIx_le h]
  show ((l.map D.int).drop 0).take (k - 0) = _
  rw [List.drop_zero, Nat.sub_zero, List.map_take]
theorem cut_win (l : List Int) {i j : Nat} (hi : i ≤ l.length) (hj : j ≤ l.length) : Dz.cutD (l.map D.int) (some (i : Int)) (some (j : Int)) = ((l.drop i).take (j - i)).map D.int := by
  unfold Dz.cutD
  rw [List.length_map, sIx_le hi, sIx_le hj, List.map_take, List.map_drop]
def GapsOk (g : List Int) : Prop := (1 ≤ g.length ∧ g.length ≤ 60) ∧ ∀ x ∈ g, 0 ≤ x ∧ x ≤ 10000
def gapB : D → Bool
  | .int i => decide (0 ≤ i) && decide (i ≤ 10000)
  | _ => false
def gapsB : D → Bool
  | .lst l => (decide (1 ≤ l.length) && decide (l.length ≤ 60)) && l.all gapB
  | _ => false
def okGaps (d : D) : Bool := (tyN d).isSome && match d with
  | .lst l => l.all (fun x => (tyN x).isSome) && decide (l.length ≤ 1000)
  | _ => true
def numB : D → Bool
  | .int i => decide (1 ≤ i) && decide (i ≤ 60)
  | _ => false
def pd_is_gap : PD := fun _ ds Φ => ∃ d, ds = [d] ∧ (tyN d).isSome = true ∧ Φ (.bl (gapB d))
def pd_check_gaps : PD := fun _ ds Φ => ∃ g, ds = [encG g] ∧ GapsOk g ∧ Φ .non
def pd_check_gapsX (cG : Addr) : PDX := fun _ ds _ Ξ => ∃ d, ds = [d] ∧ okGaps d = true ∧ gapsB d = false ∧ Ξ (.ref cG) none
def pd_spread_gaps : PD := fun _ ds Φ => ∃ (T : Int) (n : Nat), ds = [.int T, .int (n : Nat)] ∧ 1 ≤ n ∧ n ≤ 60 ∧ Φ (encG (X57.spr T n))
def turnG (g : List Int) (s : Int) : List Int := X57.rot (X57.spr g.sum g.length) (s % (g.length : Int)).toNat
def pd_turned_gaps : PD := fun _ ds Φ => ∃ g s, ds = [encG g, .int s] ∧ (1 ≤ g.length ∧ g.length ≤ 60) ∧ Φ (encG (turnG g s))
def pd_stretch_sum : PD := fun _ ds Φ => ∃ (g : List Int) (i w : Nat), ds = [encG g, .int (i : Nat), .int (w : Nat)] ∧ g.length ≤ 60 ∧ i ≤ g.length ∧ w ≤ g.length ∧ Φ (.int (X57.win g i w))
def pd_spread : PD := fun _ ds Φ => ∃ (T : Int) (n : Nat), ds = [.int T, .int (n : Nat)] ∧ (0 ≤ T ∧ T ≤ 10000) ∧ 1 ≤ n ∧ n ≤ 60 ∧ Φ (encG (X57.spr T n))
def pd_spreadX (cG : Addr) : PDX := fun _ ds _ Ξ => ∃ a b, ds = [a, b] ∧ (tyN a).isSome = true ∧ (tyN b).isSome = true ∧ (gapB a && numB b) = false ∧ Ξ (.ref cG) none
abbrev evenD (cE : Addr) (s : Int) : D := .ins cE ["shift"] [.int s]
def nsU : List Str := ["one", "other", "width"]
abbrev unevenD (cU : Addr) (i j w : Int) : D := .ins cU nsU [.int i, .int j, .int w]
def pd_Even_init : PDI := fun _ ds Ψ _ => ∃ s : Int, ds = [.int s] ∧ Ψ ["shift"] [.int s]
def pd_Uneven_init : PDI := fun _ ds Ψ _ => ∃ i j w : Int, ds = [.int i, .int j, .int w] ∧ Ψ nsU [.int i, .int j, .int w]
def pd_Even_bool (cE : Addr) : PD := fun _ ds Φ => ∃ s, ds = [evenD cE s] ∧ Φ (.bl true)
def pd_Uneven_bool (cU : Addr) : PD := fun _ ds Φ => ∃ i j w, ds = [unevenD cU i j w] ∧ Φ (.bl false)
def pd_Even_shows (cE : Addr) : PD := fun _ ds Φ => ∃ s g, ds = [evenD cE s, encG g] ∧ GapsOk g ∧ Φ (.bl (decide (g = turnG g s)))
def showU (g : List Int) (i j w : Int) : Bool := ((decide (0 ≤ i) && decide (i < g.length)) && ((decide (0 ≤ j) && decide (j < g.length)) && (decide (1 ≤ w) && decide (w ≤ g.length)))) && decide (2 ≤ X57.win g i.toNat w.toNat - X57.win g j.toNat w.toNat)
def pd_Uneven_shows (cU : Addr) : PD := fun _ ds Φ => ∃ i j w g, ds = [unevenD cU i j w, encG g] ∧ GapsOk g ∧ Φ (.bl (showU g i j w))
section
variable {P : Program} {w : World} {K : PySem.W.Frag} {mg : Str → Option Value} {base : Heap} {kd cP cE cU cG : Addr}
abbrev s_is_gap : Stmt := topS 53
theorem sc_is_gap : FnScope ["thing"] ["thing"] (defScope s_is_gap) := ⟨rfl, rfl, rfl, by decide +kernel, rfl, by decide +kernel, by decide +kernel⟩
theorem ok_is_gap {f : Addr} {fd : FuncData} (F : Fun K "is_gap" "is_gap" s_is_gap f fd) (T : TxtX w K mg kd cP cE cU) (G_is_whole : Own P w K mg base "is_whole" 1 ["thing"] pd_is_whole) : FnOk P w K mg base CX0 2 f fd ["thing"] (spD K pd_is_gap) :=
  fn_dz F sc_is_gap (fun A ds Ψ h => by
      obtain ⟨d, rfl, _⟩ := h; rfl) (fun A cdv Ar outer s H E hr =>
    (dss_one (ds_ret (de_andT (de_own G_is_whole (hr.mono (by decide)) rfl (da_cons (de_var 0) da_nil)) (de_one (de_chain opd_le opd_le de_int (de_var 0) (de_constI rfl T.mg_MOST_TOTAL)))))))
    (fun A ds Ψ h => by
      obtain ⟨d, rfl, ok, h⟩ := h
      refine ⟨d, rfl, ok, _, rfl, iteB (fun h1 => ?_) (fun h1 => ?_)⟩
      · cases d with
        | int i =>
          have h : Ψ (.bl (decide (0 ≤ i) && decide (i ≤ 10000))) := h
          refine ⟨_, rfl, iteB (fun h2 => ?_) (fun h2 => ?_)⟩
          · rw [h2, Bool.true_and] at h; exact h
          · rw [h2, Bool.false_and] at h; exact h
        | _ => cases h1
      · have e : gapB d = false := by cases d with
          | int i => cases h1
          | _ => rfl
        rw [e] at h
        show Ψ (.bl (isWh d))
        rw [h1]
        exact h)

abbrev s_check_gaps : Stmt := topS 54
theorem sc_check_gaps : FnScope ["gaps", "gap"] ["gaps"] (defScope s_check_gaps) := ⟨rfl, rfl, rfl, by decide +kernel, rfl, by decide +kernel, by decide +kernel⟩
theorem ok_check_gaps {f : Addr} {fd : FuncData} (F : Fun K "check_gaps" "check_gaps" s_check_gaps f fd) (T : TxtX w K mg kd cP cE cU) (G_is_gap : Own P w K mg base "is_gap" 2 ["thing"] pd_is_gap) : FnOk P w K mg base CX0 3 f fd ["gaps"] (spD K pd_check_gaps) :=
  fn_dz F sc_check_gaps (fun A ds Ψ h => by
      obtain ⟨g, rfl, _⟩ := h; rfl) (fun A cdv Ar outer s H E hr =>
    (dss_one (ds_if (PW.pt (dw_or (dt_not (dt_truth (de_callB callD_isi rfl T.mg_isinstance (by decide +kernel) (da_cons (de_var 0) (da_cons (de_bltn (v := .ty "list") (d := .ty "list") rfl T.mg_list (by decide +kernel) rfl (fun _ => rep_ty.mpr rfl)) da_nil))) (by intro _; rfl))) (dw_or (dt_not (dt_chain opd_le opd_le de_int (de_callB callD_len rfl T.mg_len (by decide +kernel) (da_cons (de_var 0) da_nil)) (de_constI rfl T.mg_MOST_GAPS))) (dw_or1 (dt_not (dt_truth (de_callB (callD_all rfl) rfl T.mg_all (by decide +kernel) (da_cons (de_lc rfl sc_check_gaps.nd (di_seq (de_var 0)) (blkOk_by (own := [("gap", 1)]) (N := ["gaps", "gap"]) (sc := defScope s_check_gaps) (by decide +kernel)) (fun _ _ _ _ _ => (dg_name (i := 1) sc_check_gaps.nd rfl (Or.inl rfl))) (fun _ _ _ _ _ => dts_nil) (fun _ _ _ _ _ => (de_own G_is_gap (hr.mono (by decide)) rfl (da_cons (de_var 1) da_nil)))) da_nil)) (by intro _; rfl)))))))
      (dss_one ds_false)
      dss_nil)))
    (fun A ds Ψ h => by
      obtain ⟨g, rfl, hg, h⟩ := h
      have hL : (g.map D.int).length = g.length := List.length_map _
      refine ⟨by decide, _, rfl, true, rfl, iteF ⟨_, rfl, iteB (fun h1 => ⟨_, rfl, iteB (fun h2 => ?_) (fun h2 => ?_)⟩) (fun h1 => ?_)⟩⟩
      · exfalso
        have := hg.1.2
        rw [Bool.not_eq_true', decide_eq_false_iff_not, hL] at h2
        omega
      · refine ⟨_, rfl, ?_⟩
        refine lc_map0 (α := Int) g D.int (fun i => .bl (gapB (.int i))) rfl (by have := hg.1.2; omega) (fun x hx J acc hJ => ⟨_, rfl, rfl, rfl, hJ⟩) ?_
        have e : (g.map fun i => gapB (.int i)).all id = true := by
          rw [List.all_eq_true]
          intro b hb
          obtain ⟨x, hx, rfl⟩ := List.mem_map.mp hb
          have := hg.2 x hx
          show (decide (0 ≤ x) && decide (x ≤ 10000)) = true
          rw [decide_eq_true this.1, decide_eq_true this.2]; rfl
        refine ⟨g.map fun i => gapB (.int i), by rw [List.map_map]; rfl, _, rfl, iteEqX (c := false) (by rw [e]; rfl) (iteF h)⟩
      · exfalso
        have := hg.1.1
        have h1 := of_decide_eq_false h1
        rw [hL] at h1
        omega)

theorem ok_check_gapsX {f : Addr} {fd : FuncData} (F : Fun K "check_gaps" "check_gaps" s_check_gaps f fd) (T : TxtX w K mg kd cP cE cU) (G_is_gap : Own P w K mg base "is_gap" 2 ["thing"] pd_is_gap) (TX_BadGaps : TxX K mg "BadGaps" cG) : FnOk P w K mg base (L2.CX P w) 3 f fd ["gaps"] (spX K (pd_check_gapsX cG)) :=
  fn_dzx F sc_check_gaps (fun A ds Ψ Ξ h => by
      obtain ⟨g, rfl, _⟩ := h; rfl) (fun A Ξ cdv Ar outer s H E hr tk =>
    (dss_one (ds_if (PW.pt (dw_or (dt_not (dt_truth (de_callB callD_isi rfl T.mg_isinstance (by decide +kernel) (da_cons (de_var 0) (da_cons (de_bltn (v := .ty "list") (d := .ty "list") rfl T.mg_list (by decide +kernel) rfl (fun _ => rep_ty.mpr rfl)) da_nil))) (by intro _; rfl))) (dw_or (dt_not (dt_chain opd_le opd_le de_int (de_callB callD_len rfl T.mg_len (by decide +kernel) (da_cons (de_var 0) da_nil)) (de_constI rfl T.mg_MOST_GAPS))) (dw_or1 (dt_not (dt_truth (de_callB (callD_all rfl) rfl T.mg_all (by decide +kernel) (da_cons (de_lc rfl sc_check_gaps.nd (di_seq (de_var 0)) (blkOk_by (own := [("gap", 1)]) (N := ["gaps", "gap"]) (sc := defScope s_check_gaps) (by decide +kernel)) (fun _ _ _ _ _ => (dg_name (i := 1) sc_check_gaps.nd rfl (Or.inl rfl))) (fun _ _ _ _ _ => dts_nil) (fun _ _ _ _ _ => (de_own G_is_gap (hr.mono (by decide)) rfl (da_cons (de_var 1) da_nil)))) da_nil)) (by intro _; rfl)))))))
      (dss_one (ds_raise1 rfl tk PySem.F.excBase_ValueError TX_BadGaps.q TX_BadGaps.g TX_BadGaps.k (raises_own TX_BadGaps.b TX_BadGaps.t) rfl (de_join (DJ.cons de_str (DJ.cons (de_fmt (de_constI rfl T.mg_MOST_GAPS)) (DJ.cons de_str (DJ.cons (de_fmt (de_constI rfl T.mg_MOST_TOTAL)) DJ.nil)))))))
      dss_nil)))
    (fun A ds Ψ Ξ h => by
      obtain ⟨d, rfl, ok, hb, hx⟩ := h
      have fin : ∀ {en : En}, fRaise1 Ξ.w (.ref cG) (fJs [fC (.str "not a list of 1 to "), fFmt (fC (.int 60)), fC (.str " integers from 0 to "), fFmt (fC (.int 10000))] Str.empty) en { nx := fun _ => False, rt := fun _ => False } :=
        ⟨_, rfl, by decide +kernel, .inr ⟨60, rfl, by decide +kernel, _, rfl, by decide +kernel, _, rfl, by decide +kernel, .inr ⟨10000, rfl, by decide +kernel, _, rfl, by decide +kernel, hx⟩⟩⟩
      cases d with
      | lst l =>
        have ok : (l.all (fun x => (tyN x).isSome) && decide (l.length ≤ 1000)) = true := ok
        rw [Bool.and_eq_true, decide_eq_true_eq, List.all_eq_true] at ok
        have hb : ((decide (1 ≤ l.length) && decide (l.length ≤ 60)) && l.all gapB) = false := hb
        refine ⟨by decide, _, rfl, true, rfl, iteF ⟨_, rfl, iteB (fun h1 => ⟨_, rfl, iteB (fun h2 => fin) (fun h2 => ?_)⟩) (fun h1 => ⟨_, rfl, iteT fin⟩)⟩⟩
        have h1 : 1 ≤ l.length := by have := of_decide_eq_true h1; omega
        have h2 : l.length ≤ 60 := by rw [Bool.not_eq_false', decide_eq_true_eq] at h2; omega
        rw [decide_eq_true h1, decide_eq_true h2, Bool.and_self, Bool.true_and] at hb
        refine ⟨_, rfl, ?_⟩
        refine lc_map0 (α := D) l id (fun i => .bl (gapB i)) (by rw [List.map_id]) (by omega) (fun x hx J acc hJ => ⟨_, rfl, ok.1 x hx, rfl, hJ⟩) ?_
        have e : (l.map gapB).all id = false := by rw [← hb, List.all_map]; rfl
        exact ⟨l.map gapB, by rw [List.map_map]; rfl, _, rfl, iteEqX (c := true) (by rw [e]; rfl) (iteT fin)⟩
      | int _ => exact ⟨by decide, _, rfl, false, rfl, iteT fin⟩
      | bl _ => exact ⟨by decide, _, rfl, false, rfl, iteT fin⟩
      | non => exact ⟨by decide, _, rfl, false, rfl, iteT fin⟩
      | str _ => exact ⟨by decide, _, rfl, false, rfl, iteT fin⟩
      | tup _ => exact ⟨by decide, _, rfl, false, rfl, iteT fin⟩
      | dct _ _ => exact ⟨by decide, _, rfl, false, rfl, iteT fin⟩
      | _ => cases ok)

abbrev s_spread_gaps : Stmt := topS 55
theorem sc_spread_gaps : FnScope ["total", "parts", "k"] ["total", "parts"] (defScope s_spread_gaps) := ⟨rfl, rfl, rfl, by decide +kernel, rfl, by decide +kernel, by decide +kernel⟩
theorem ok_spread_gaps {f : Addr} {fd : FuncData} (F : Fun K "spread_gaps" "spread_gaps" s_spread_gaps f fd) (T : TxtX w K mg kd cP cE cU)  : FnOk P w K mg base CX0 1 f fd ["total", "parts"] (spD K pd_spread_gaps) :=
  fn_dz F sc_spread_gaps (fun A ds Ψ h => by
      obtain ⟨T, n, rfl, _⟩ := h; rfl) (fun A cdv Ar outer s H E hr =>
    (dss_one (ds_ret (de_lc rfl sc_spread_gaps.nd (di_rng1 rfl T.mg_range (da_cons (de_var 1) da_nil)) (blkOk_by (own := [("k", 2)]) (N := ["total", "parts", "k"]) (sc := defScope s_spread_gaps) (by decide +kernel)) (fun _ _ _ _ _ => (dg_name (i := 2) sc_spread_gaps.nd rfl (Or.inl rfl))) (fun _ _ _ _ _ => dts_nil) (fun _ _ _ _ _ => (de_op opd_sub (de_op opd_div (de_op opd_mulT (de_op opd_add (de_var 2) de_int) (de_var 0)) (de_var 1)) (de_op opd_div (de_op opd_mulT (de_var 2) (de_var 0)) (de_var 1))))))))
    (fun A ds Ψ h => by
      obtain ⟨T, n, rfl, h1, h2, h⟩ := h
      refine ⟨_, rfl, by omega, by omega, ?_⟩
      refine lc_map0 (α := Nat) (List.range n) (fun k => .int (k : Int)) (fun k => .int (((k : Int) + 1) * T / n - (k : Int) * T / n)) (rg_int n) (by rw [List.length_range]; omega) (fun k hk J acc hJ => ?_) ?_
      · have hk := List.mem_range.mp hk
        exact .inr ⟨.inl ⟨by omega, by omega⟩, ⟨by omega, by omega⟩, .inr ⟨.inl ⟨by omega, by omega⟩, ⟨by omega, by omega⟩, rfl, hJ⟩⟩
      · have e : encG (X57.spr T n) = .lst ((List.range n).map fun (k : Nat) => .int (((k : Int) + 1) * T / n - (k : Int) * T / n)) := by unfold encG X57.spr; rw [List.map_map]; rfl
        rw [e] at h
        exact h)

abbrev s_turned_gaps : Stmt := topS 56
theorem sc_turned_gaps : FnScope ["gaps", "shift", "found", "first"] ["gaps", "shift"] (defScope s_turned_gaps) := ⟨rfl, rfl, rfl, by decide +kernel, rfl, by decide +kernel, by decide +kernel⟩
theorem ok_turned_gaps {f : Addr} {fd : FuncData} (F : Fun K "turned_gaps" "turned_gaps" s_turned_gaps f fd) (T : TxtX w K mg kd cP cE cU) (G_spread_gaps : Own P w K mg base "spread_gaps" 1 ["total", "parts"] pd_spread_gaps) : FnOk P w K mg base CX0 2 f fd ["gaps", "shift"] (spD K pd_turned_gaps) :=
  fn_dz F sc_turned_gaps (fun A ds Ψ h => by
      obtain ⟨g, s, rfl, _⟩ := h; rfl) (fun A cdv Ar outer s H E hr =>
    (dss_cons (ds_asg (vs := [0, 1, 2, 3]) (de_own G_spread_gaps (hr.mono (by decide)) rfl (da_cons (de_callB (callD_sum rfl) rfl T.mg_sum (by decide +kernel) (da_cons (de_var 0) da_nil)) (da_cons (de_callB callD_len rfl T.mg_len (by decide +kernel) (da_cons (de_var 0) da_nil)) da_nil))) (dg_name (i := 2) sc_turned_gaps.nd rfl (Or.inl rfl)))
    (dss_cons (ds_asg (vs := [0, 1, 2, 3]) (de_op opd_mod (de_var 1) (de_callB callD_len rfl T.mg_len (by decide +kernel) (da_cons (de_var 0) da_nil))) (dg_name (i := 3) sc_turned_gaps.nd rfl (Or.inl rfl)))
    (dss_one (ds_ret (de_op opd_add (de_slice (de_var 2) (do_pt (de_var 3)) do_no) (de_slice (de_var 2) do_no (do_pt (de_var 3)))))))))
    (fun A ds Ψ h => by
      obtain ⟨g, s, rfl, hg, h⟩ := h
      have hL : (g.map D.int).length = g.length := List.length_map _
      have hm := Int.emod_nonneg s (show (g.length : Int) ≠ 0 by omega)
      have hm2 := Int.emod_lt_of_pos s (show (0 : Int) < g.length by omega)
      obtain ⟨f, hf⟩ : ∃ f : Nat, s % (g.length : Int) = (f : Int) := ⟨_, (Int.toNat_of_nonneg hm).symm⟩
      have hfl : f ≤ (X57.spr g.sum g.length).length := by rw [X57.spr_len]; omega
      refine ⟨g, rfl, g.sum, g.length, by rw [← hL], hg.1, hg.2, by show (0 : Int) < (((g.map D.int).length : Nat) : Int); rw [hL]; omega, f, ?_, f, ?_, ?_⟩
      · show D.int (s % (((g.map D.int).length : Nat) : Int)) = _
        rw [hL, hf]
      · show D.int (s % (((g.map D.int).length : Nat) : Int)) = _
        rw [hL, hf]
      show (Dz.cutD ((X57.spr g.sum g.length).map D.int) (some (f : Int)) none).length + (Dz.cutD ((X57.spr g.sum g.length).map D.int) none (some (f : Int))).length ≤ 100000 ∧ Ψ (.lst (Dz.cutD ((X57.spr g.sum g.length).map D.int) (some (f : Int)) none ++ Dz.cutD ((X57.spr g.sum g.length).map D.int) none (some (f : Int))))
      rw [cut_from _ hfl, cut_to _ hfl, ← List.map_append]
      refine ⟨by rw [List.length_map, List.length_map, List.length_drop, List.length_take, X57.spr_len]; omega, ?_⟩
      have e : turnG g s = X57.rot (X57.spr g.sum g.length) f := by unfold turnG; rw [hf, Int.toNat_natCast]
      rw [e] at h
      exact h)

abbrev s_stretch_sum : Stmt := topS 57
theorem sc_stretch_sum : FnScope ["gaps", "first", "width"] ["gaps", "first", "width"] (defScope s_stretch_sum) := ⟨rfl, rfl, rfl, by decide +kernel, rfl, by decide +kernel, by decide +kernel⟩
theorem ok_stretch_sum {f : Addr} {fd : FuncData} (F : Fun K "stretch_sum" "stretch_sum" s_stretch_sum f fd) (T : TxtX w K mg kd cP cE cU)  : FnOk P w K mg base CX0 1 f fd ["gaps", "first", "width"] (spD K pd_stretch_sum) :=
  fn_dz F sc_stretch_sum (fun A ds Ψ h => by
      obtain ⟨g, i, w, rfl, _⟩ := h; rfl) (fun A cdv Ar outer s H E hr =>
    (dss_one (ds_ret (de_callB (callD_sum rfl) rfl T.mg_sum (by decide +kernel) (da_cons (de_slice (de_op opd_add (de_var 0) (de_var 0)) (do_pt (de_var 1)) (do_pt (de_op opd_add (de_var 1) (de_var 2)))) da_nil)))))
    (fun A ds Ψ h => by
      obtain ⟨g, i, w, rfl, hg, hi, hw, h⟩ := h
      refine ⟨by show (g.map D.int).length + (g.map D.int).length ≤ 100000; rw [List.length_map]; omega, ?_⟩
      refine ⟨_, rfl, _, rfl, ?_⟩
      have e : ((i : Int) + (w : Int)) = ((i + w : Nat) : Int) := by push_cast; rfl
      have hc : Dz.cutD (g.map D.int ++ g.map D.int) (some (i : Int)) (some ((i : Int) + (w : Int))) = (((g ++ g).drop i).take w).map D.int := by
        rw [e, ← List.map_append, cut_win _ (by rw [List.length_append]; omega) (by rw [List.length_append]; omega), Nat.add_sub_cancel_left]
      show rSumD [.lst (Dz.cutD (g.map D.int ++ g.map D.int) (some (i : Int)) (some ((i : Int) + (w : Int))))] Ψ
      rw [hc]
      exact ⟨_, rfl, h⟩)

end
end K57

/-! DzSs0: set(set(list of ints)). -/
namespace Dz
open PySem PySem.Spec PyProof.Rows L2
abbrev noneSet (w : World) : Obj := { cls := .type "set", dict := none, data := .set #[] 0 (.fresh 0 0 (!w.params.followText "set-order")) }
section
variable {P : Program} {w : World} {A : Around} {E : Value → Shared → Prop} {s : Shared}
set_option maxHeartbeats 3200000 in
theorem set_of_list {l : Addr} {items : Array Value} (ns : List Int) {Q : Value → Shared → Prop} (hh : A.handled = none) (hl : s.heap.IsList l items) (hit : IntsAre items.toList ns) (hb : ns.length + 1 < scanBound)
    (hQ : ∀ (h' : Heap) (tk c : Nat), SetR w h' s.heap.objs.size (fun j => decide (j ∈ ns)) c → c ≤ ns.length → (∀ b o, s.heap.get? b = some o → h'.get? b = some o) → Q (.ref s.heap.objs.size) { s with heap := h', toks := tk }) : wpAny (model P w) A (call (.type "set") [.ref l]) Q E s := by
  have many : items.size = ns.length := by
    have z := IntsAre.length hit
    rw [Array.length_toList] at z
    exact z
  obtain ⟨c0, tl0, hmro⟩ := PySem.F.called_set.mro
  have hmade := PySem.F.called_set.made
  have hsub := PySem.F.called_set.sub
  refine wpAny_call (codeAny_of_tree ?_)
  show wpAny _ _ (callAny (.type "set") _) _ _ _
  refine wpAny_pure ⟨Code.quiet_builtin _ (by decide +kernel), codeAny_builtin PySem.F.entry_type_call ?_⟩
  rw [Around.under_plain (weight_type_call_type "set" [.ref l] []) rfl]
  have n1 := PySem.F.called_set.notType
  have n2 := PySem.F.called_set.canCreate
  have n3 := PySem.F.typeCall_set_1 (.ref l)
  repeat (any_goals (first | assumption | wp_step))
  refine codeAny_mono (code_set_led1 (.ref l) (E := E) (Q₁ := fun obj s₁ => obj = .ref s.heap.objs.size ∧ s₁ = { s with heap := s.heap.push (noneSet w) }) ⟨rfl, rfl⟩) fun r s₁ hr => ?_
  cases r with
  | error e => exact hr
  | ok fl =>
    cases fl with
    | next => exact hr
    | brk => exact hr
    | cont => exact hr
    | ret obj =>
      obtain ⟨rfl, rfl⟩ := hr
      obtain ⟨h1, eh1⟩ : ∃ h1, h1 = s.heap.push (noneSet w) := ⟨_, rfl⟩
      have z1 : h1.objs.size = s.heap.objs.size + 1 := by rw [eh1]; exact Heap.size_push ..
      have at1 : h1.get? s.heap.objs.size = some (noneSet w) := by rw [eh1]; exact Heap.get?_push_size _ rfl
      have up1 : ∀ b o, s.heap.get? b = some o → h1.get? b = some o := fun b o e => by rw [eh1]; exact Heap.get?_push_of_some _ e
      rw [← eh1]
      have hT : Shared.TypeIs { s with heap := h1 } (.ref s.heap.objs.size) "set" := ⟨_, at1, rfl⟩
      have hli := PySem.F.called_set.init.lookup
      have hbi := PySem.F.called_set.init.bind (.ref s.heap.objs.size)
      repeat (any_goals (first | assumption | wp_step))
      refine codeAny_mono (codeAny_call_builtin (R := wants (fun r s₂ => r = .none ∧ ∃ h' tk c, s₂ = { s with heap := h', toks := tk } ∧ SetR w h' s.heap.objs.size (fun j => decide (j ∈ ns)) c ∧ c ≤ ns.length ∧ (∀ b o, s.heap.get? b = some o → h'.get? b = some o)) E)
        PySem.F.called_set.init.plain PySem.F.entry_set_init (check_set_init_1 hT ?_)) fun r₂ s₂ hr₂ => ?_
      · obtain ⟨⟨ocls, odict, odata, oslots⟩, hol, hcl, nl, hdl⟩ := hl
        simp only at hcl hdl
        subst hcl hdl
        have hol' := up1 _ _ hol
        have sb1 := PySem.F.sub_list_set
        have sb2 := PySem.F.sub_list_frozenset
        have sb3 : (Value.type "list" == Value.type "dict") = false := by decide
        have hl1 : h1.IsList l items := ⟨_, hol', rfl, nl, rfl⟩
        unfold Builtin.«set.__init__» noKeywords Builtin.Frozenset.updateFrom
        generalize hPI : pyIter = PI
        wp_walk
        subst hPI
        refine wpAny_pyIter_list hl1 (wpAny_bind (wpAny_runValue ?_))
        have hlS : l < s.heap.objs.size := Heap.lt_size hol
        have nh : A.in1.in1.in1.handled = none := by simp [hh]
        have nI : l ≠ h1.objs.size := Nat.ne_of_lt (by rw [z1]; exact Nat.lt_succ_of_lt hlS)
        have nS : s.heap.objs.size ∉ [h1.objs.size, l] := by
          simp only [List.mem_cons, List.mem_singleton, List.not_mem_nil, or_false, not_or]
          exact ⟨Nat.ne_of_lt (by rw [z1]; exact Nat.lt_succ_self _), Nat.ne_of_gt hlS⟩
        have vals : ∀ (i : Nat) (v : Value), items[i]? = some v → ∃ k t, ns[i]? = some k ∧ v = .int k t := fun i v hv => by
          have hi : i < ns.length := by rw [← many]; exact (Array.getElem?_eq_some_iff.mp hv).1
          obtain ⟨t, e⟩ := PyProof.Rows.IntsAre.int_at hit i v (by rw [Array.getElem?_toList]; exact hv)
          exact ⟨ns[i], t, List.getElem?_eq_getElem hi, by rw [e, List.getD_eq_getElem?_getD, List.getElem?_eq_getElem hi] <;> rfl⟩
        refine set_update_ints ((Walks.list nh _ l nI items).toS) s.heap.objs.size nS ns many hb vals (items.size - 0) 0 _ (by omega) (Nat.zero_le _) ⟨⟨_, Heap.get?_push_size _ rfl, rfl, rfl⟩, hl1.at (fun o e => Heap.get?_push_of_some _ e)⟩ ⟨0, Nat.le_refl 0, setR_new_at (Heap.get?_push_of_some _ at1)⟩ fun s' c' hm hc' hS' => ?_
        obtain ⟨h', g2, d', tk', os'⟩ := s'
        have e1 : g2 = s.gens := hm.gens
        have e2 : d' = s.drawn := hm.drawn
        have e3 : os' = s.os := hm.os
        subst e1 e2 e3
        show wpAny _ _ _ _ _ _
        refine wpAny_pure ?_
        show wpAny _ _ (ret Value.none) _ _ _
        rw [many] at hc'
        refine wpAny_pure ⟨rfl, h', tk', c', rfl, hS', hc', fun b o e => ?_⟩
        have b0 : b < s.heap.objs.size := Heap.lt_size e
        exact hm.heap b o (by simp only [List.mem_cons, List.mem_singleton, List.not_mem_nil, or_false, not_or]; exact ⟨Nat.ne_of_lt b0, Nat.ne_of_lt (by rw [z1]; exact Nat.lt_succ_of_lt b0)⟩) (Heap.get?_push_of_some _ (up1 b o e))
      · cases r₂ with
        | error e => exact hr₂
        | ok fl₂ =>
          cases fl₂ with
          | next => exact hr₂.elim
          | brk => exact hr₂.elim
          | cont => exact hr₂.elim
          | ret r =>
            obtain ⟨rfl, h', tk, c', rfl, y1, y2, y3⟩ := hr₂
            repeat (any_goals (first | assumption | wp_step))
            exact hQ _ _ _ y1 y2 y3
end
end Dz

namespace Dz
open PySem PySem.Spec PyProof.Rows L2
/-! ### sorted(set(e)), e a list of few ints -/
def tSortedSet (K : PySem.W.Frag) (ta : TE) : TE := fun σ H Q => ta σ H fun x H1 => ∃ (l : Addr) (ns : List Int), x = .ref l ∧ SqL K H1 l (ns.map V.int) ∧ ns.length < 64 ∧
  ∀ (ms : List Int) (p : Addr), ms.Pairwise (· < ·) → (∀ k : Int, k ∈ ms ↔ k ∈ ns) → H1 p = none → Q (.ref p) (upd H1 p (.lst (ms.map V.int)))
section
variable {X : Cx} {a : Expr} {ta : TE} {p p2 q pos : Pos}
theorem pe_sortedSet (hc : X.calm = true) (hg : Gl X "sorted") (hm : X.mg "sorted" = none) (hg2 : Gl X "set") (hm2 : X.mg "set" = none) (ha : PE X a ta) (na : starEach [a] X.env = (false, eval a X.env) :: starEach [] X.env := by rfl) :
    PE X (.Call (.Name "sorted" p) [.Call (.Name "set" p2) [a] [] q] [] pos) (tSortedSet X.K ta) := by
  constructor
  intro pins s σ H Q I h
  refine Call_ (ld_blt (u := .builtin "sorted") I hg hm (by decide +kernel) ?_)
  refine PyProof.Rows.callWith_builtin1 (PyProof.Rows.args_cons ?_ rfl) rfl rfl
  refine Call_ (ld_blt I hg2 hm2 PyProof.Rows.boot_set ?_)
  refine PyProof.Rows.callWith_type1 (PyProof.Rows.args_cons (thn (ha.run pins s σ H _ I h) fun v s1 ⟨x, H1, I1, r1, q1⟩ => PyProof.Rows.args_nil ?_) na) na rfl
  obtain ⟨l, ns, rfl, hq, hl, q1⟩ := q1
  cases r1
  obtain ⟨its, rv, pl, hz⟩ := I1.list hq
  have hi : IntsAre its.toArray.toList ns := ints_of_vals rv
  refine set_of_list ns (I1.ok.hd hc) pl.isList hi (by unfold scanBound; omega) fun h' tk c R cl k => ?_
  refine PyProof.Rows.args_nil ?_
  refine sorted_set R (I1.ok.hd hc) (by omega) fun s' p out c2 ms k2 g2 o2 hp hget hms hpw hmem hlen => ?_
  have hlm : (ms.map V.int).length ≤ sizeLine := by rw [List.length_map, hlen, sizeLine_eq]; omega
  have hle : s1.heap.objs.size ≤ p := Nat.le_trans (by
    obtain ⟨o, _, _, _, ho, _⟩ := R
    exact Nat.le_of_lt (Heap.lt_size ho)) hp
  have hn : H1 p = none := I1.hok.fresh hle
  have kk : ∀ b o, s1.heap.get? b = some o → s'.heap.get? b = some o := fun b o e => k2 b o (k b o e)
  have J : Inv X pins σ (upd H1 p (.lst (ms.map V.int))) { s1 with heap := s'.heap, gens := s'.gens, drawn := s'.drawn, toks := s'.toks } :=
    I1.call (ch := []) (Un.laid kk hle hn) (I1.hok.laid kk hle ⟨hlm, out.toList, c2, vals_of_ints hms, hget⟩) (by rw [g2]; exact I1.bare) (fun _ z => nomatch z)
  have e : s' = { s1 with heap := s'.heap, gens := s'.gens, drawn := s'.drawn, toks := s'.toks } := by
    obtain ⟨x1, x2, x3, x4, x5⟩ := s'
    have o2 : x5 = s1.os := o2
    subst o2
    rfl
  rw [e]
  exact ⟨.ref p, _, J, rfl, q1 ms p hpw (fun j => by rw [hmem j, decide_eq_true_eq]) hn⟩
end
def fSortedSet (fa : FE) : FE := fun en Φ => fa en fun x e1 => ∃ ns : List Int, x = .lst (ns.map D.int) ∧ ns.length < 64 ∧ ∀ ms : List Int, ms.Pairwise (· < ·) → (∀ k : Int, k ∈ ms ↔ k ∈ ns) → Φ (.lst (ms.map D.int)) e1
section
variable {X : Cx} {A : Am} {e : Expr} {fa : FE} {p p2 q pos : Pos}
theorem de_sortedSet (hc : X.calm = true) (hg : Gl X "sorted") (hm : X.mg "sorted" = none) (hg2 : Gl X "set") (hm2 : X.mg "set" = none) (ha : DE X A e fa) (na : starEach [e] X.env = (false, eval e X.env) :: starEach [] X.env := by rfl) :
    DE X A (.Call (.Name "sorted" p) [.Call (.Name "set" p2) [e] [] q] [] pos) (fSortedSet fa) := pe_weak (pe_sortedSet hc hg hm hg2 hm2 ha na) fun σ H Q ⟨F, G, en, Ψ, k, h, qq⟩ =>
  ⟨F, G, en, _, k, h, fun x e1 v G1 H1 z k1 s1 r1 => by
    obtain ⟨ns, rfl, hl, z⟩ := z
    obtain ⟨b, zs, rfl, hb, rz⟩ := rep_lst.mp r1
    have ez := repA_ints_inv rz
    subst ez
    refine ⟨b, ns, rfl, .inl (.inl (k1.ok.gh _ _ hb)), hl, fun ms p hp hm hn => ?_⟩
    have g : Grow G1 H1 (upd G1 p (.lst (ms.map V.int))) (upd H1 p (.lst (ms.map V.int))) := Grow.new k1.ok.gh hn
    exact qq _ e1 _ _ _ (z ms hp hm) (k1.grow g (same_upd2 k1.ok.gh)) (s1.trans (g.step k1.ok.fh)) (rep_lst.mpr ⟨p, _, rfl, upd_same, RepA.ints ms⟩)⟩
end
end Dz

/-! DzIx: list.index of ints, divmod, x[i], x[j] = a, b. -/
namespace Dz
open PySem PySem.Spec PyProof.Rows L2
def fIndexI (fa fb : FE) : FE := fun en Φ => fa en fun x e1 => ∃ ns : List Int, x = .lst (ns.map D.int) ∧ fb e1 fun y e2 => ∃ (k : Int) (j : Nat), y = .int k ∧ ns[j]? = some k ∧ (∀ m, m < j → ns[m]? ≠ some k) ∧ Φ (.int (j : Nat)) e2
theorem ty_index : typeOf (.builtin "list.index") = pure (.type "method_descriptor") := by show builtinType _ = _; rw [builtinType_eq_fast]; kernel_rfl
section
variable {X : Cx} {A : Am} {o e : Expr} {fa fb : FE} {apos cpos : Pos}
theorem de_index (ho : DE X A o fa) (he : DE X A e fb)
    (hbase : attributeBase o "index" X.env (eval o X.env) = eval o X.env := by rfl)
    (hfew : ((backTo cpos (starEach [e] X.env)).all (fun x => !x.1) && (backToKw cpos (keywordEach [] X.env)).all (fun x => x.1.isSome) && decide ([e].length + ([] : List Keyword).length + (if ([] : List Keyword).isEmpty then 0 else 1) < 30)) = true := by rfl)
    (hline : (apos.endLine == cpos.line) = true := by rfl) (hs : starEach [e] X.env = (false, eval e X.env) :: starEach [] X.env := by rfl) (hpl : (backTo cpos (starEach [] X.env)).any (·.1) = false := by rfl) :
    DE X A (.Call (.Attribute o "index" apos) [e] [] cpos) (fIndexI fa fb) := by
  refine pe_weak (pe_bm PySem.F.plainAttrs_list PySem.F.slot_list_index ty_index mt_index ho (pa_cons he pa_nil hs) hbase hfew hline hs hpl) fun σ H Q ⟨F, G, en, Ψ, k, h, q⟩ => ?_
  refine ⟨F, G, en, _, k, h, fun x e1 v G1 H1 z k1 s1 r1 => ?_⟩
  obtain ⟨ns, rfl, z⟩ := z
  obtain ⟨b, zs, rfl, hb, rz⟩ := rep_lst.mp r1
  have ez := repA_ints_inv rz
  subst ez
  refine ⟨.inl ⟨rfl, _, .inl (.inl (k1.ok.gh _ _ hb))⟩, F, G1, e1, _, k1, z, fun y e2 v2 G2 H2 z2 k2 s2 r2 => ?_⟩
  obtain ⟨i, j, rfl, hj, hno, z2⟩ := z2
  cases rep_int.mp r2
  refine ⟨b, ns.map V.int, .int i, j, .int i, rfl, rfl, .inl (.inl (k2.ok.gh _ _ (s2.g _ _ hb))), rfl, ?_, by rw [List.getElem?_map, hj]; rfl, by unfold eqV; exact beq_self_eq_true _, fun m z' hm hz => ?_, q _ e2 _ G2 H2 z2 k2 (s1.trans s2) (rep_int.mpr rfl)⟩
  · rw [List.all_map, List.all_eq_true]
    intro x _
    rfl
  · rw [List.getElem?_map] at hz
    cases hq : ns[m]? with
    | none => rw [hq] at hz; cases hz
    | some w =>
      rw [hq] at hz
      cases hz
      unfold eqV
      exact beq_eq_false_iff_ne.mpr fun e => hno m hm (by rw [hq, e])
end
def rDivmodD : RAD := fun xs Φ => ∃ i j : Int, xs = [.int i, .int j] ∧ CDiv i j ∧ Φ (.tup [.int (i / j), .int (i % j)])
theorem callD_divmod {X : Cx} : CallR X (.builtin "divmod") (LRA X.K rDivmodD) := fun pins s σ H xs us Q I r ⟨G, ds, Ψ, gh, r1, ⟨i, j, e, hc, h⟩, q⟩ => by
  subst e
  obtain ⟨v1, v2, rfl, p1, p2⟩ := repA_2 r1
  cases rep_int.mp p1
  cases rep_int.mp p2
  refine call_divmod pins s σ H _ us Q I r ⟨i, j, rfl, hc, fun p hp => ?_⟩
  have g : Grow G H (upd G p (.tup [.int (i / j), .int (i % j)])) (upd H p (.tup [.int (i / j), .int (i % j)])) := Grow.new gh hp
  exact q _ _ _ _ h g (same_upd2 gh) (rep_tup.mpr ⟨p, _, rfl, .inl (.inl upd_same), .cons (rep_int.mpr rfl) (.cons (rep_int.mpr rfl) .nil)⟩)
/-- x[k] = .., as a target -/
def gSetI (i : Nat) (fk : FE) : FG := fun d en Φ => (∃ o, gt en i = .cel o) ∧ fk en fun kd e2 => ∃ k j l, kd = .int k ∧ gt e2 i = .cel (.lst l) ∧ ixN l.length k = some j ∧ Φ (st e2 i (.cel (.lst (l.set j d))))
theorem dg_setI {X : Cx} {A : Am} {vs : List Nat} {kx : Expr} {fk : FE} {i : Nat} {x : Str} {px pos' : Pos} (hN : X.N[i]? = some x) (hv : Vis X.env.scope x) (hk : DE X A kx fk)
    (hd : (x == ("__debug__" : Str)) = false := by decide) (hcd : (x == ("__classdict__" : Str)) = false := by decide)
    (ha : ∀ v, assign (.Subscript (.Name x px) kx pos') X.env v = (holding [v] (eval (.Name x px) X.env) >>= fun ov => holding [v, ov] (eval kx X.env) >>= fun iv => standAt pos' >>= fun _ => holding [v, ov, iv] (setItem ov iv v) >>= fun _ => release [v, ov, iv] []) := by intro _; rfl) :
    DG X A vs (.Subscript (.Name x px) kx pos') (gSetI i fk) := pg_weak (pg_sub (pv i hN hv hd hcd) hk set_list ha) fun v σ H Q ⟨F, G, en, d, Ψ, k, r, ⟨⟨o, eg⟩, h⟩, q⟩ => by
  obtain ⟨p, u, f1, f2, f3⟩ := k.slot eg
  refine ⟨.ref p, f1, F, G, en, _, k, h, fun dk e2 kv G2 H2 z k2 s2 r2 => ?_⟩
  obtain ⟨ki, j, l, rfl, eg', hj, z⟩ := z
  obtain ⟨p', u', g1, g2, g3⟩ := k2.slot eg'
  rw [f1] at g1
  have ep : p = p' := by injection g1 with g1; injection g1 with g1; injection g1
  subst ep
  obtain ⟨xs, eu, ra⟩ := g3
  subst eu
  cases rep_int.mp r2
  refine ⟨p, xs, ki, j, rfl, rfl, g2, by rw [ra.len]; exact hj, ?_⟩
  exact q _ σ G2 _ z (k2.alter (u' := .lst (xs.set j v)) eg' f1 ⟨_, rfl, RepA.set (r.mono s2.g) j ra⟩) s2 rfl
end Dz

/-! DzIs: an object of one of two own classes. -/
namespace Dz
open PySem PySem.Spec PyProof.Rows L2
/-- an object of C2 is none of C -/
structure IsN (K : PySem.W.Frag) (C2 C : Addr) : Prop where
  me : C8.InsC K C2
  no : PySem.W.kitOne K (.ref C2) (.ref C) = some false
def rIsO2 (C C2 : Addr) : RAD := fun xs Φ => ∃ x, xs = [x, .tok C] ∧ (((∃ ns l, x = .ins C ns l) ∧ Φ (.bl true)) ∨ ((∃ ns l, x = .ins C2 ns l) ∧ Φ (.bl false)))
theorem callD_isO2 {X : Cx} {C C2 : Addr} (c : C8.InsC X.K C) (n : IsN X.K C2 C) : CallR X (.builtin "isinstance") (LRA X.K (rIsO2 C C2)) := fun pins s σ H xs us Q I r ⟨G, ds, Ψ, gh, r1, h, q⟩ => by
  obtain ⟨x, rfl, h⟩ := h
  obtain ⟨v, w, rfl, rv, rw'⟩ := repA_2 r1
  cases rep_tok.mp rw'
  rcases h with ⟨⟨ns, l, rfl⟩, z⟩ | ⟨⟨ns, l, rfl⟩, z⟩
  · obtain ⟨a, dx, ys, rfl, ha, _, _⟩ := rep_ins.mp rv
    exact C8.call_isC c pins s σ H _ us Q I r ⟨a, dx, _, rfl, gh _ _ ha, q _ _ G H z (Grow.refl _ _) gh (rep_bl.mpr rfl)⟩
  · obtain ⟨a, dx, ys, rfl, ha, _, _⟩ := rep_ins.mp rv
    obtain ⟨u, w', rfl, ru, rw'⟩ := vals2 r
    cases rw'
    exact isinst_ok I ru (TyOf.ins (gh _ _ ha) n.me.cl n.me.ha n.me.hn n.me.htk n.me.hm) n.no fun tk => ⟨.bl false, H, I.tok _, rfl, q _ _ G H z (Grow.refl _ _) gh (rep_bl.mpr rfl)⟩
/-- either reading -/
def fOr (f g : FE) : FE := fun en Φ => f en Φ ∨ g en Φ
theorem de_eith {X : Cx} {A : Am} {e : Expr} {f g : FE} (h1 : DE X A e f) (h2 : DE X A e g) : DE X A e (fOr f g) := by
  refine ⟨fun pins s σ H Q I h => ?_⟩
  obtain ⟨F, G, en, Ψ, k, h, q⟩ := h
  rcases h with h | h
  · exact h1.run pins s σ H Q I ⟨F, G, en, Ψ, k, h, q⟩
  · exact h2.run pins s σ H Q I ⟨F, G, en, Ψ, k, h, q⟩
end Dz
namespace Dz
open PySem PySem.Spec PyProof.Rows L2
/-! ### list(e), as a changing list of one's own -/
def nListOf (fa : FE) : FN := fun en Φ => fa en fun x e1 => ∃ l, x = .lst l ∧ Φ (.lst l) e1
theorem dn_listOf {X : Cx} {A : Am} {e : Expr} {fa : FE} {p pos : Pos} (hg : Gl X "list") (hm : X.mg "list" = none) (ha : DE X A e fa) (na : starEach [e] X.env = (false, eval e X.env) :: starEach [] X.env := by rfl) :
    DN X A (.Call (.Name "list" p) [e] [] pos) (nListOf fa) := pe_weak (pe_callTy call_list_of hg hm (by decide +kernel) (pa_cons ha pa_nil na) (he := na)) fun σ H Q ⟨F, G, en, Ψ, k, h, q⟩ =>
  ⟨F, G, en, _, k, h, fun x e1 v G1 H1 z k1 s1 r1 => by
    obtain ⟨l, rfl, z⟩ := z
    obtain ⟨b, xs, rfl, hb, rz⟩ := rep_lst.mp r1
    exact ⟨b, xs, rfl, .inl (.inl (.inl (k1.ok.gh _ _ hb))), fun l' hl => q _ _ l' G1 _ z (k1.newcell hl ⟨xs, rfl, rz⟩) s1⟩⟩
end Dz
namespace Dz
theorem addI {i j k : Int} {Φ : D → Prop} (h : i + j = k) (z : Φ (.int k)) : rAddD (.int i) (.int j) Φ := by subst h; exact z
theorem subI {i j k : Int} {Φ : D → Prop} (h : i - j = k) (z : Φ (.int k)) : rSubD (.int i) (.int j) Φ := by subst h; exact z
end Dz
namespace Dz
/-- one statement, then the rest: where it leads to -/
theorem seqTo {fs ft : FS} {en e' : En} {Ψ : Ed} (h : ∀ Ψ : Ed, Ψ.nx e' → fs en Ψ) (k : ft e' Ψ) : fSeq fs ft en Ψ := h { Ψ with nx := fun e => ft e Ψ } k
end Dz
namespace Dz
theorem tupTo {l : List D} {Φ : D → Prop} (h : Φ (.tup l)) : rTupleD [.lst l] Φ := h
theorem addTo {i j : Int} {Φ : D → Prop} (h : Φ (.int (i + j))) : rAddD (.int i) (.int j) Φ := h
end Dz
namespace Dz
theorem fNil_to {en : En} {Φ : List D → En → Prop} (h : Φ [] en) : fNil en Φ := h
end Dz
namespace Dz
/-- one statement, then the rest: all the places where it may lead to -/
theorem seqAny {fs ft : FS} {en : En} {Ψ : Ed} (P : En → Prop) (h : ∀ Ψ : Ed, (∀ e, P e → Ψ.nx e) → fs en Ψ) (k : ∀ e, P e → ft e Ψ) : fSeq fs ft en Ψ := h { Ψ with nx := fun e => ft e Ψ } k
theorem plL_map {α : Type} {n : Nat} {f : α → D} : ∀ l : List α, (∀ x ∈ l, plD n (f x) = true) → plL n (l.map f) = true
  | [], _ => by unfold plL; rfl
  | x :: l, h => by
    have ih := plL_map (f := f) l fun y hy => h y (List.mem_cons_of_mem _ hy)
    rw [List.map_cons]
    unfold plL
    rw [h x List.mem_cons_self, ih]
    rfl
end Dz
namespace Dz
theorem fNo_to {en : En} {Φ : Option Int → En → Prop} (h : Φ none en) : fNo en Φ := h
end Dz
namespace Dz
theorem fSlice_at {i : Nat} {x : D} {en : En} {fl fu : FO} {Φ : D → En → Prop} (h : gt en i = .dat x) (k : fl en fun l e2 => fu e2 fun u e3 => rSliceD l u x fun z => Φ z e3) : fSlice (fVar i) fl fu en Φ := by
  unfold fSlice fVar
  rw [h]
  exact k
end Dz

namespace K57
open PySem PySem.Spec PyProof.Rows L2 Dz
/-! ### the least width at which gaps are uneven -/
def Un (g : List Int) (i j w : Nat) : Prop := (i < g.length ∧ j < g.length) ∧ (1 ≤ w ∧ w ≤ g.length) ∧ 2 ≤ X57.win g i w - X57.win g j w
theorem win_all (g : List Int) {i : Nat} (hi : i ≤ g.length) : X57.win g i g.length = g.sum := by
  rw [X57.win_pre g (by omega), X57.pre_round]
  omega
theorem Un.lt {g : List Int} {i j w : Nat} (h : Un g i j w) : w < g.length := by
  rcases Nat.lt_or_ge w g.length with z | z
  · exact z
  · have e : w = g.length := by have := h.2.1.2; omega
    have h3 := h.2.2
    rw [e, win_all g (by have := h.1.1; omega), win_all g (by have := h.1.2; omega)] at h3
    omega
theorem Un.not_even {g : List Int} {i j w : Nat} (h : Un g i j w) : ¬ X57.Even g := fun e => by
  have := e w h.2.1.1 h.lt i j h.1.1 h.1.2
  have := h.2.2
  omega
theorem un_of {g : List Int} (h : ¬ X57.Even g) : ∃ i j w, Un g i j w := by
  by_cases he : ∃ i j w, Un g i j w
  · exact he
  · exfalso
    refine h fun w h1 h2 i j hi hj => ?_
    by_cases z : X57.win g i w - X57.win g j w ≤ 1
    · exact z
    · exact absurd ⟨i, j, w, ⟨hi, hj⟩, ⟨h1, by omega⟩, by omega⟩ he
theorem turn_even {g : List Int} {s : Int} (hn : 0 < g.length) (h : g = turnG g s) : X57.Even g := by
  have hm := Int.emod_nonneg s (show (g.length : Int) ≠ 0 by omega)
  have hm2 := Int.emod_lt_of_pos s (show (0 : Int) < g.length by omega)
  intro w h1 h2
  rw [h]
  exact X57.spr_even hn (by omega) w (by omega)
theorem turn_lt {g : List Int} {s : Nat} (h : s < g.length) : turnG g (s : Nat) = X57.rot (X57.spr g.sum g.length) s := by
  unfold turnG
  rw [show (s : Int) % (g.length : Int) = ((s % g.length : Nat) : Int) from (Int.natCast_emod _ _).symm, Int.toNat_natCast, Nat.mod_eq_of_lt h]
theorem even_turn {g : List Int} (hn : 0 < g.length) (h : X57.Even g) : ∃ s, s < g.length ∧ g = turnG g (s : Nat) := by
  obtain ⟨s, hs, e⟩ := X57.even_rot hn h
  exact ⟨s, hs, by rw [turn_lt hs]; exact e⟩
/-- the sums of a width -/
def sums (g : List Int) (w : Nat) : List Int := if w = 0 then [0] else (List.range g.length).map fun i => X57.win g i w
theorem max_of : ∀ l : List Int, l ≠ [] → ∃ m, m ∈ l ∧ ∀ y ∈ l, y ≤ m
  | [], h => absurd rfl h
  | [x], _ => ⟨x, List.mem_cons_self, fun y hy => by rw [List.mem_singleton] at hy; omega⟩
  | x :: y :: l, _ => by
    obtain ⟨m, hm, h⟩ := max_of (y :: l) (by simp)
    by_cases z : x ≤ m
    · exact ⟨m, List.mem_cons_of_mem _ hm, fun t ht => by rcases List.mem_cons.mp ht with r | r; { omega }; { exact h t r }⟩
    · exact ⟨x, List.mem_cons_self, fun t ht => by rcases List.mem_cons.mp ht with r | r; { omega }; { have := h t r; omega }⟩
theorem min_of : ∀ l : List Int, l ≠ [] → ∃ m, m ∈ l ∧ ∀ y ∈ l, m ≤ y
  | [], h => absurd rfl h
  | [x], _ => ⟨x, List.mem_cons_self, fun y hy => by rw [List.mem_singleton] at hy; omega⟩
  | x :: y :: l, _ => by
    obtain ⟨m, hm, h⟩ := min_of (y :: l) (by simp)
    by_cases z : m ≤ x
    · exact ⟨m, List.mem_cons_of_mem _ hm, fun t ht => by rcases List.mem_cons.mp ht with r | r; { omega }; { exact h t r }⟩
    · exact ⟨x, List.mem_cons_self, fun t ht => by rcases List.mem_cons.mp ht with r | r; { omega }; { have := h t r; omega }⟩
theorem first_ix : ∀ (l : List Int) (k : Int), k ∈ l → ∃ j : Nat, l[j]? = some k ∧ ∀ m : Nat, m < j → l[m]? ≠ some k
  | [], k, h => nomatch h
  | x :: l, k, h => by
    by_cases e : x = k
    · exact ⟨0, by rw [e]; rfl, fun m hm => absurd hm (Nat.not_lt_zero m)⟩
    · have h2 : k ∈ l := by rcases List.mem_cons.mp h with r | r; { exact absurd r.symm e }; { exact r }
      obtain ⟨j, hj, hf⟩ := first_ix l k h2
      refine ⟨j + 1, by rw [List.getElem?_cons_succ]; exact hj, fun m hm => ?_⟩
      cases m with
      | zero => intro z; exact e (Option.some.inj z)
      | succ m => rw [List.getElem?_cons_succ]; exact hf m (by omega)
theorem sums_ne {g : List Int} (hn : 0 < g.length) (w : Nat) : sums g w ≠ [] := by
  unfold sums
  split
  · exact fun z => nomatch z
  · intro z
    have := congrArg List.length z
    rw [List.length_map, List.length_range] at this
    have this : g.length = 0 := this
    omega
theorem sums_get {g : List Int} {w i : Nat} {k : Int} (hw : 1 ≤ w) (h : (sums g w)[i]? = some k) : i < g.length ∧ k = X57.win g i w := by
  unfold sums at h
  rw [if_neg (by omega), List.getElem?_map] at h
  rcases Nat.lt_or_ge i g.length with z | z
  · rw [List.getElem?_range z] at h
    exact ⟨z, (Option.some.inj h).symm⟩
  · rw [List.getElem?_eq_none (by rw [List.length_range]; exact z)] at h
    cases h
theorem sums_mem {g : List Int} {w i : Nat} (hw : 1 ≤ w) (h : i < g.length) : X57.win g i w ∈ sums g w := by
  unfold sums
  rw [if_neg (by omega)]
  exact List.mem_map.mpr ⟨i, List.mem_range.mpr h, rfl⟩
theorem sums0 {g : List Int} {m : Int} (h : m ∈ sums g 0) : m = 0 := by
  unfold sums at h
  rw [if_pos rfl, List.mem_singleton] at h
  exact h
def pd_uneven_of (cU : Addr) : PD := fun _ ds Φ => ∃ g, ds = [encG g] ∧ (1 ≤ g.length ∧ g.length ≤ 60) ∧ ¬ X57.Even g ∧ ∀ i j w : Nat, Un g i j w → Φ (unevenD cU i j w)
def pd_judge_spread (cE cU : Addr) : PD := fun _ ds Φ => ∃ g, ds = [encG g] ∧ GapsOk g ∧ (∀ s : Nat, s < g.length → g = turnG g s → Φ (evenD cE s)) ∧ ∀ i j w : Nat, Un g i j w → Φ (unevenD cU i j w)
def pd_judge_spreadX (cG : Addr) : PDX := fun _ ds _ Ξ => ∃ d, ds = [d] ∧ okGaps d = true ∧ gapsB d = false ∧ Ξ (.ref cG) none
def encS (p : Int × Int) : D := .tup [.int p.1, .int p.2]
def planL (r t : Int) : List (Int × Int) := if 0 < r % t then [(r / t, t - r % t), (r / t + 1, r % t)] else [(r / t, t)]
def pd_schedule : PD := fun _ ds Φ => ∃ r t : Int, ds = [.int r, .int t] ∧ 1 ≤ t ∧ t ≤ r ∧ r ≤ 10000 ∧ Φ (.lst ((planL r t).map encS))
section
variable {P : Program} {w : World} {K : PySem.W.Frag} {mg : Str → Option Value} {base : Heap} {kd cP cE cU cG : Addr}
abbrev s_spread : Stmt := topS 47
theorem sc_spread : FnScope ["total", "parts"] ["total", "parts"] (defScope s_spread) := ⟨rfl, rfl, rfl, by decide +kernel, rfl, by decide +kernel, by decide +kernel⟩
theorem ok_spread {f : Addr} {fd : FuncData} (F : Fun K "spread" "spread" s_spread f fd) (T : TxtX w K mg kd cP cE cU) (G_is_gap : Own P w K mg base "is_gap" 2 ["thing"] pd_is_gap) (G_is_whole : Own P w K mg base "is_whole" 1 ["thing"] pd_is_whole) (G_spread_gaps : Own P w K mg base "spread_gaps" 1 ["total", "parts"] pd_spread_gaps) : FnOk P w K mg base CX0 3 f fd ["total", "parts"] (spD K pd_spread) :=
  fn_dz F sc_spread (fun A ds Ψ h => by
      obtain ⟨T, n, rfl, _⟩ := h; rfl) (fun A cdv Ar outer s H E hr =>
    (dss_cons (ds_if (dt_not (dt_truth (de_own G_is_gap (hr.mono (by decide)) rfl (da_cons (de_var 0) da_nil)) (by intro _; rfl)))
      (dss_one ds_false)
      dss_nil)
    (dss_cons (ds_if (PW.pt (dw_or (dt_not (dt_truth (de_own G_is_whole (hr.mono (by decide)) rfl (da_cons (de_var 1) da_nil)) (by intro _; rfl))) (dw_or1 (dt_not (dt_chain opd_le opd_le de_int (de_var 1) (de_constI rfl T.mg_MOST_GAPS))))))
      (dss_one ds_false)
      dss_nil)
    (dss_one (ds_ret (de_own G_spread_gaps (hr.mono (by decide)) rfl (da_cons (de_var 0) (da_cons (de_var 1) da_nil))))))))
    (fun A ds Ψ h => by
      obtain ⟨T, n, rfl, hT, h1, h2, h⟩ := h
      have e1 : gapB (.int T) = true := by show (decide (0 ≤ T) && decide (T ≤ 10000)) = true; rw [decide_eq_true hT.1, decide_eq_true hT.2]; rfl
      refine ⟨_, rfl, rfl, _, rfl, iteEqX (c := false) (by rw [e1]; rfl) (iteF ⟨_, rfl, rfl, _, rfl, iteF ⟨_, rfl, iteB (fun z => ⟨_, rfl, iteB (fun z2 => ?_) (fun z2 => ?_)⟩) (fun z => ?_)⟩⟩)⟩
      · exfalso
        have z2 : (!decide ((n : Int) ≤ 60)) = true := z2
        rw [Bool.not_eq_true', decide_eq_false_iff_not] at z2
        omega
      · exact ⟨T, n, rfl, h1, h2, h⟩
      · exfalso
        have z := of_decide_eq_false z
        omega)

theorem ok_spreadX {f : Addr} {fd : FuncData} (F : Fun K "spread" "spread" s_spread f fd) (T : TxtX w K mg kd cP cE cU) (G_is_gap : Own P w K mg base "is_gap" 2 ["thing"] pd_is_gap) (G_is_whole : Own P w K mg base "is_whole" 1 ["thing"] pd_is_whole) (G_spread_gaps : Own P w K mg base "spread_gaps" 1 ["total", "parts"] pd_spread_gaps) (TX_BadGaps : TxX K mg "BadGaps" cG) : FnOk P w K mg base (L2.CX P w) 4 f fd ["total", "parts"] (spX K (pd_spreadX cG)) :=
  fn_dzx F sc_spread (fun A ds Ψ Ξ h => by
      obtain ⟨a, b, rfl, _⟩ := h; rfl) (fun A Ξ cdv Ar outer s H E hr tk =>
    (dss_cons (ds_if (dt_not (dt_truth (de_own G_is_gap (hr.mono (by decide)) rfl (da_cons (de_var 0) da_nil)) (by intro _; rfl)))
      (dss_one (ds_raise1 rfl tk PySem.F.excBase_ValueError TX_BadGaps.q TX_BadGaps.g TX_BadGaps.k (raises_own TX_BadGaps.b TX_BadGaps.t) rfl (de_join (DJ.cons de_str (DJ.cons (de_fmt (de_constI rfl T.mg_MOST_TOTAL)) DJ.nil)))))
      dss_nil)
    (dss_cons (ds_if (PW.pt (dw_or (dt_not (dt_truth (de_own G_is_whole (hr.mono (by decide)) rfl (da_cons (de_var 1) da_nil)) (by intro _; rfl))) (dw_or1 (dt_not (dt_chain opd_le opd_le de_int (de_var 1) (de_constI rfl T.mg_MOST_GAPS))))))
      (dss_one (ds_raise1 rfl tk PySem.F.excBase_ValueError TX_BadGaps.q TX_BadGaps.g TX_BadGaps.k (raises_own TX_BadGaps.b TX_BadGaps.t) rfl (de_join (DJ.cons de_str (DJ.cons (de_fmt (de_constI rfl T.mg_MOST_GAPS)) DJ.nil)))))
      dss_nil)
    (dss_one (ds_ret (de_own G_spread_gaps (hr.mono (by decide)) rfl (da_cons (de_var 0) (da_cons (de_var 1) da_nil))))))))
    (fun A ds Ψ Ξ h => by
      obtain ⟨a, b, rfl, ta, tb, hb, hx⟩ := h
      have fin1 : ∀ {en : En}, fRaise1 Ξ.w (.ref cG) (fJs [fC (.str "total is not an integer from 0 to "), fFmt (fC (.int 10000))] Str.empty) en { nx := fun _ => False, rt := fun _ => False } :=
        ⟨_, rfl, by decide +kernel, .inr ⟨10000, rfl, by decide +kernel, _, rfl, by decide +kernel, hx⟩⟩
      have fin2 : ∀ {en : En}, fRaise1 Ξ.w (.ref cG) (fJs [fC (.str "parts is not an integer from 1 to "), fFmt (fC (.int 60))] Str.empty) en { nx := fun _ => False, rt := fun _ => False } :=
        ⟨_, rfl, by decide +kernel, .inr ⟨60, rfl, by decide +kernel, _, rfl, by decide +kernel, hx⟩⟩
      refine ⟨_, rfl, ta, _, rfl, iteB (fun z => fin1) (fun z => ?_)⟩
      have z : gapB a = true := by simpa using z
      rw [z, Bool.true_and] at hb
      refine ⟨_, rfl, tb, _, rfl, iteB (fun z2 => fin2) (fun z2 => ?_)⟩
      have z2 : isWh b = true := by simpa using z2
      cases b with
      | int i =>
        have hb : (decide (1 ≤ i) && decide (i ≤ 60)) = false := hb
        refine ⟨_, rfl, iteB (fun z3 => ⟨_, rfl, iteB (fun z4 => fin2) (fun z4 => ?_)⟩) (fun z3 => ⟨_, rfl, iteT fin2⟩)⟩
        exfalso
        rw [z3, Bool.true_and] at hb
        rw [hb] at z4
        cases z4
      | _ => cases z2)

abbrev s_uneven_of : Stmt := topS 49
theorem sc_uneven_of : FnScope ["gaps", "width", "sums", "first"] ["gaps"] (defScope s_uneven_of) := ⟨rfl, rfl, rfl, by decide +kernel, rfl, by decide +kernel, by decide +kernel⟩
theorem ok_uneven_of {f : Addr} {fd : FuncData} (F : Fun K "uneven_of" "uneven_of" s_uneven_of f fd) (T : TxtX w K mg kd cP cE cU) (G_stretch_sum : Own P w K mg base "stretch_sum" 1 ["gaps", "first", "width"] pd_stretch_sum) (MK_Uneven : MkX P w K mg base "Uneven" cU 1 ["self", "one", "other", "width"] pd_Uneven_init) : FnOk P w K mg base CX0 3 f fd ["gaps"] (spD K (pd_uneven_of cU)) :=
  fn_dz F sc_uneven_of (fun A ds Ψ h => by
      obtain ⟨g, rfl, _⟩ := h; rfl) (fun A cdv Ar outer s H E hr =>
    (dss_cons (ds_asg (vs := [0, 1, 2, 3]) de_int (dg_name (i := 1) sc_uneven_of.nd rfl (Or.inr rfl)))
    (dss_cons (ds_asg (vs := [0, 1, 2, 3]) (de_lst (da_cons de_int da_nil)) (dg_name (i := 2) sc_uneven_of.nd rfl (Or.inl rfl)))
    (dss_cons (ds_while PassesOwn.never (dt_cmp opd_lt (de_op opd_sub (de_callB (callD_max rfl) rfl T.mg_max (by decide +kernel) (da_cons (de_var 2) da_nil)) (de_callB (callD_min rfl) rfl T.mg_min (by decide +kernel) (da_cons (de_var 2) da_nil))) de_int)
      (dss_cons (ds_asg (vs := [0, 1, 2, 3]) (de_op opd_add (de_var 1) de_int) (dg_name (i := 1) sc_uneven_of.nd rfl (Or.inr rfl)))
      (dss_one (ds_setLc (i := 2) rfl sc_uneven_of.nd rfl rfl (sw_true rfl rfl rfl (by decide +kernel)) (di_rng1 rfl T.mg_range (da_cons (de_callB callD_len rfl T.mg_len (by decide +kernel) (da_cons (de_var 0) da_nil)) da_nil)) (blkOk_by (own := [("first", 3)]) (N := ["gaps", "width", "sums", "first"]) (sc := defScope s_uneven_of) (by decide +kernel)) (fun _ _ _ _ _ => (dg_name (i := 3) sc_uneven_of.nd rfl (Or.inl rfl))) (fun _ _ _ _ _ => dts_nil) (fun _ _ _ _ _ => (de_own G_stretch_sum (hr.mono (by decide)) rfl (da_cons (de_var 0) (da_cons (de_var 3) (da_cons (de_var 1) da_nil)))))))))
    (dss_one (ds_ret (de_mkN MK_Uneven (hr.mono (by decide)) rfl (da_cons (de_index (de_var 2) (de_callB (callD_max rfl) rfl T.mg_max (by decide +kernel) (da_cons (de_var 2) da_nil))) (da_cons (de_index (de_var 2) (de_callB (callD_min rfl) rfl T.mg_min (by decide +kernel) (da_cons (de_var 2) da_nil))) (da_cons (de_var 1) da_nil))))))))))
    (fun A ds Ψ h => by
      obtain ⟨g, rfl, hg, hne, h⟩ := h
      have hL : (g.map D.int).length = g.length := List.length_map _
      obtain ⟨i0, j0, W, hW⟩ := un_of hne
      refine gN_env (e' := [.dat (encG g), .dat (.int 0), .un, .un]) rfl ?_
      refine ⟨by decide, ?_⟩
      refine gN_env (e' := [.dat (encG g), .dat (.int 0), .dat (.lst ((sums g 0).map D.int)), .un]) (by rfl) ?_
      refine ⟨fun m en => ∃ (k : Nat) (x : _), k + m = W ∧ en = [.dat (encG g), .dat (.int (k : Nat)), .dat (.lst ((sums g k).map D.int)), x], ⟨W, 0, .un, by omega, rfl⟩, ?_⟩
      rintro m en ⟨k, x, hk, rfl⟩
      obtain ⟨M, hM, hM2⟩ := max_of (sums g k) (sums_ne (by omega) k)
      obtain ⟨N, hN, hN2⟩ := min_of (sums g k) (sums_ne (by omega) k)
      refine ⟨_, M, rfl, hM, hM2, _, N, rfl, hN, hN2, _, rfl, iteB (fun z => ?_) (fun z => ?_)⟩
      · have z := of_decide_eq_true z
        have hkW : k < W := by
          rcases Nat.lt_or_ge k W with r | r
          · exact r
          · exfalso
            have e : k = W := by omega
            subst e
            have h1 := hM2 _ (sums_mem hW.2.1.1 hW.1.1)
            have h2 := hN2 _ (sums_mem hW.2.1.1 hW.1.2)
            have := hW.2.2
            omega
        refine seqTo (e' := [.dat (encG g), .dat (.int ((k + 1 : Nat) : Int)), .dat (.lst ((sums g k).map D.int)), x]) (fun Ψ h => h) ?_
        refine ⟨_, rfl, by rw [hL]; omega, by rw [hL]; omega, ?_⟩
        refine lc_map0 (α := Nat) (List.range g.length) (fun i => .int (i : Int)) (fun i => .int (X57.win g i (k + 1))) (by rw [hL]; exact rg_int g.length) (by rw [List.length_range]; omega) (fun i hi J acc hJ => ?_) ?_
        · have hi := List.mem_range.mp hi
          exact ⟨g, i, k + 1, rfl, hg.2, by omega, by have := hW.2.1.2; omega, rfl, hJ⟩
        · refine gN_env (e' := [.dat (encG g), .dat (.int ((k + 1 : Nat) : Int)), .dat (.lst ((sums g (k + 1)).map D.int)), .un]) ?_ ?_
          · unfold sums
            rw [if_neg (Nat.succ_ne_zero k), List.map_map]
            rfl
          · exact ⟨m - 1, by omega, k + 1, _, by omega, rfl⟩
      · have z := of_decide_eq_false z
        have hk1 : 1 ≤ k := by
          rcases Nat.eq_zero_or_pos k with r | r
          · exfalso
            subst r
            have := sums0 hM
            have := sums0 hN
            omega
          · exact r
        obtain ⟨i, hi, hi2⟩ := first_ix _ _ hM
        obtain ⟨j, hj, hj2⟩ := first_ix _ _ hN
        have ei := sums_get hk1 hi
        have ej := sums_get hk1 hj
        refine ⟨sums g k, rfl, sums g k, M, rfl, hM, hM2, M, i, rfl, hi, hi2, sums g k, rfl, sums g k, N, rfl, hN, hN2, N, j, rfl, hj, hj2, i, j, k, rfl, ?_⟩
        refine h i j k ⟨⟨ei.1, ej.1⟩, ⟨hk1, by have := hW.2.1.2; omega⟩, ?_⟩
        rw [← ei.2, ← ej.2]
        omega)

abbrev s_judge_spread : Stmt := topS 48
theorem sc_judge_spread : FnScope ["gaps", "shift"] ["gaps"] (defScope s_judge_spread) := ⟨rfl, rfl, rfl, by decide +kernel, rfl, by decide +kernel, by decide +kernel⟩
theorem ok_judge_spread {f : Addr} {fd : FuncData} (F : Fun K "judge_spread" "judge_spread" s_judge_spread f fd) (T : TxtX w K mg kd cP cE cU) (G_check_gaps : Own P w K mg base "check_gaps" 3 ["gaps"] pd_check_gaps) (G_turned_gaps : Own P w K mg base "turned_gaps" 2 ["gaps", "shift"] pd_turned_gaps) (G_uneven_of : Own P w K mg base "uneven_of" 3 ["gaps"] (pd_uneven_of cU)) (MK_Even : MkX P w K mg base "Even" cE 1 ["self", "shift"] pd_Even_init) : FnOk P w K mg base CX0 4 f fd ["gaps"] (spD K (pd_judge_spread cE cU)) :=
  fn_dz F sc_judge_spread (fun A ds Ψ h => by
      obtain ⟨g, rfl, _⟩ := h; rfl) (fun A cdv Ar outer s H E hr =>
    (dss_cons (ds_expr (de_own G_check_gaps (hr.mono (by decide)) rfl (da_cons (de_var 0) da_nil)))
    (dss_cons (ds_for (vs := [0, 1]) PassesOwn.never rfl (di_rng1 rfl T.mg_range (da_cons (de_callB callD_len rfl T.mg_len (by decide +kernel) (da_cons (de_var 0) da_nil)) da_nil)) (dg_name (i := 1) sc_judge_spread.nd rfl (Or.inl rfl))
      (dss_one (ds_if (dt_cmp (opd_eq hr.units) (de_var 0) (de_own G_turned_gaps (hr.mono (by decide)) rfl (da_cons (de_var 0) (da_cons (de_var 1) da_nil))))
        (dss_one (ds_ret (de_mkN MK_Even (hr.mono (by decide)) rfl (da_cons (de_var 1) da_nil))))
        dss_nil)))
    (dss_one (ds_ret (de_own G_uneven_of (hr.mono (by decide)) rfl (da_cons (de_var 0) da_nil)))))))
    (fun A ds Ψ h => by
      obtain ⟨g, rfl, hg, h1, h2⟩ := h
      have hL : (g.map D.int).length = g.length := List.length_map _
      refine ⟨g, rfl, hg, ?_⟩
      refine ⟨_, rfl, by rw [hL]; have := hg.1.2; omega, by rw [hL]; have := hg.1.2; omega, ?_⟩
      rw [hL, rg_int]
      refine ⟨fun k e => ∃ x, e = [.dat (encG g), x] ∧ ∀ s : Nat, s < k → g ≠ turnG g (s : Nat), ⟨.un, rfl, fun s hs => absurd hs (Nat.not_lt_zero s)⟩, ?_, ?_⟩
      · rintro k x e hx ⟨y, rfl, hno⟩
        have hk : k < g.length := by
          rcases Nat.lt_or_ge k g.length with r | r
          · exact r
          · rw [List.getElem?_eq_none (by rw [List.length_map, List.length_range]; exact r)] at hx; cases hx
        rw [List.getElem?_map, List.getElem?_range hk] at hx
        cases hx
        refine gN_env (e' := [.dat (encG g), .dat (.int (k : Nat))]) rfl ?_
        refine ⟨g, (k : Nat), rfl, hg.1, plG _, plG _, _, rfl, iteEqX (eqG g (turnG g (k : Nat))) (iteDec (fun z => ?_) (fun z => ?_))⟩
        · exact ⟨_, rfl, h1 k hk z⟩
        · refine ⟨_, rfl, fun s hs => ?_⟩
          rcases Nat.lt_or_ge s k with r | r
          · exact hno s r
          · have e : s = k := by omega
            subst e
            exact z
      · rintro e ⟨y, rfl, hno⟩
        rw [List.length_map, List.length_range] at hno
        refine ⟨g, rfl, hg.1, fun he => ?_, fun i j w hu => h2 i j w hu⟩
        obtain ⟨s, hs, e⟩ := even_turn (by have := hg.1.1; omega) he
        exact hno s hs e)

theorem ok_judge_spreadX {f : Addr} {fd : FuncData} (F : Fun K "judge_spread" "judge_spread" s_judge_spread f fd) (T : TxtX w K mg kd cP cE cU) (G_check_gaps : OwnX P w K mg base "check_gaps" 3 ["gaps"] (pd_check_gapsX cG)) (G_turned_gaps : Own P w K mg base "turned_gaps" 2 ["gaps", "shift"] pd_turned_gaps) (G_uneven_of : Own P w K mg base "uneven_of" 3 ["gaps"] (pd_uneven_of cU)) (MK_Even : MkX P w K mg base "Even" cE 1 ["self", "shift"] pd_Even_init) : FnOk P w K mg base (L2.CX P w) 5 f fd ["gaps"] (spX K (pd_judge_spreadX cG)) :=
  fn_dzx F sc_judge_spread (fun A ds Ψ Ξ h => by
      obtain ⟨d, rfl, _⟩ := h; rfl) (fun A Ξ cdv Ar outer s H E hr tk =>
    (dss_cons (ds_expr (de_ownX G_check_gaps tk (hr.mono (by decide)) rfl (da_cons (de_var 0) da_nil)))
    (dss_cons (ds_for (vs := [0, 1]) (passes_of rfl) rfl (di_rng1 rfl T.mg_range (da_cons (de_callB callD_len rfl T.mg_len (by decide +kernel) (da_cons (de_var 0) da_nil)) da_nil)) (dg_name (i := 1) sc_judge_spread.nd rfl (Or.inl rfl))
      (dss_one (ds_if (dt_cmp (opd_eq hr.units) (de_var 0) (de_own G_turned_gaps (hr.mono (by decide)) rfl (da_cons (de_var 0) (da_cons (de_var 1) da_nil))))
        (dss_one (ds_ret (de_mkX MK_Even tk (hr.mono (by decide)) rfl (da_cons (de_var 1) da_nil))))
        dss_nil)))
    (dss_one (ds_ret (de_own G_uneven_of (hr.mono (by decide)) rfl (da_cons (de_var 0) da_nil)))))))
    (fun A ds Ψ Ξ h => by
      obtain ⟨d, rfl, ok, hb, hx⟩ := h
      exact ⟨d, rfl, ok, hb, hx⟩)

abbrev s_schedule : Stmt := topS 50
theorem sc_schedule : FnScope ["rows", "times", "gap", "more"] ["rows", "times"] (defScope s_schedule) := ⟨rfl, rfl, rfl, by decide +kernel, rfl, by decide +kernel, by decide +kernel⟩
theorem ok_schedule {f : Addr} {fd : FuncData} (F : Fun K "schedule" "schedule" s_schedule f fd) (T : TxtX w K mg kd cP cE cU) (G_is_gap : Own P w K mg base "is_gap" 2 ["thing"] pd_is_gap) : FnOk P w K mg base CX0 3 f fd ["rows", "times"] (spD K pd_schedule) :=
  fn_dz F sc_schedule (fun A ds Ψ h => by
      obtain ⟨r, t, rfl, _⟩ := h; rfl) (fun A cdv Ar outer s H E hr =>
    (dss_cons (ds_if (PW.pt (dw_or (dt_not (dt_truth (de_own G_is_gap (hr.mono (by decide)) rfl (da_cons (de_var 0) da_nil)) (by intro _; rfl))) (dw_or (dt_not (dt_truth (de_own G_is_gap (hr.mono (by decide)) rfl (da_cons (de_var 1) da_nil)) (by intro _; rfl))) (dw_or1 (dt_not (dt_chain opd_le opd_le de_int (de_var 1) (de_var 0)))))))
      (dss_one ds_false)
      dss_nil)
    (dss_cons (ds_asg (vs := [0, 1, 2, 3]) (de_callB callD_divmod rfl T.mg_divmod (by decide +kernel) (da_cons (de_var 0) (da_cons (de_var 1) da_nil))) (dg_tup (n := 2) rfl (dgs_cons (dg_name (i := 2) sc_schedule.nd rfl (Or.inl rfl)) (dgs_cons (dg_name (i := 3) sc_schedule.nd rfl (Or.inl rfl)) dgs_nil))))
    (dss_one (ds_ret (de_if (dt_cmp opd_gt (de_var 3) de_int) (de_lst (da_cons (de_tup (da_cons (de_var 2) (da_cons (de_op opd_sub (de_var 1) (de_var 3)) da_nil))) (da_cons (de_tup (da_cons (de_op opd_add (de_var 2) de_int) (da_cons (de_var 3) da_nil))) da_nil))) (de_lst (da_cons (de_tup (da_cons (de_var 2) (da_cons (de_var 1) da_nil))) da_nil))))))))
    (fun A ds Ψ h => by
      obtain ⟨r, t, rfl, h1, h2, h3, h⟩ := h
      have e1 : gapB (.int r) = true := by show (decide (0 ≤ r) && decide (r ≤ 10000)) = true; rw [decide_eq_true (by omega), decide_eq_true (by omega)]; rfl
      have e2 : gapB (.int t) = true := by show (decide (0 ≤ t) && decide (t ≤ 10000)) = true; rw [decide_eq_true (by omega), decide_eq_true (by omega)]; rfl
      refine ⟨_, rfl, rfl, _, rfl, iteEqX (c := false) (by rw [e1]; rfl) (iteF ⟨_, rfl, rfl, _, rfl, iteEqX (c := false) (by rw [e2]; rfl) (iteF ⟨_, rfl, iteB (fun z => ⟨_, rfl, iteB (fun z2 => ?_) (fun z2 => ?_)⟩) (fun z => ?_)⟩)⟩)⟩
      · exfalso
        have z2 : (!decide (t ≤ r)) = true := z2
        rw [Bool.not_eq_true', decide_eq_false_iff_not] at z2
        omega
      · refine ⟨r, t, rfl, ⟨by omega, by omega⟩, rfl, ?_⟩
        refine ⟨rfl, _, rfl, iteB (fun z3 => ?_) (fun z3 => ?_)⟩
        · have z3 : 0 < r % t := of_decide_eq_true z3
          have e : planL r t = [(r / t, t - r % t), (r / t + 1, r % t)] := if_pos z3
          rw [e] at h
          exact ⟨Nat.le_of_ble_eq_true rfl, Nat.le_of_ble_eq_true rfl, Nat.le_of_ble_eq_true rfl, h⟩
        · have z3 : ¬ 0 < r % t := of_decide_eq_false z3
          have e : planL r t = [(r / t, t)] := if_neg z3
          rw [e] at h
          exact ⟨Nat.le_of_ble_eq_true rfl, Nat.le_of_ble_eq_true rfl, h⟩
      · exfalso
        have z := of_decide_eq_false z
        omega)

abbrev s_Even_init : Stmt := inClass (topS 45) 0
theorem sc_Even_init : FnScope ["self", "shift"] ["self", "shift"] (defScope s_Even_init) := ⟨rfl, rfl, rfl, by decide +kernel, rfl, by decide +kernel, by decide +kernel⟩
theorem ok_Even_init {f : Addr} {fd : FuncData} (F : Fun K "__init__" "Even.__init__" s_Even_init f fd) (T : TxtX w K mg kd cP cE cU)  : FnOk P w K mg base (L2.CX P w) 1 f fd ["self", "shift"] (spI K cE pd_Even_init) :=
  fn_dzi F sc_Even_init (fun A ds Ψ Ξ h => by
      obtain ⟨s, rfl, _⟩ := h; rfl) (fun A Ξ cdv Ar outer s H E hr tk =>
    (dss_one (ds_fput (i := 0) T.cl_Even T.na_shift rfl (Or.inl rfl) (de_var 1))))
    (fun A ds Ψ Ξ p dx h => by
      obtain ⟨s, rfl, h⟩ := h
      exact ⟨p, dx, [], [], rfl, List.not_mem_nil, by decide, _, _, rfl, h⟩)

abbrev s_Even_bool : Stmt := inClass (topS 45) 1
theorem sc_Even_bool : FnScope ["self"] ["self"] (defScope s_Even_bool) := ⟨rfl, rfl, rfl, by decide +kernel, rfl, by decide +kernel, by decide +kernel⟩
theorem ok_Even_bool {f : Addr} {fd : FuncData} (F : Fun K "__bool__" "Even.__bool__" s_Even_bool f fd) (T : TxtX w K mg kd cP cE cU)  : FnOk P w K mg base CX0 1 f fd ["self"] (spD K (pd_Even_bool cE)) :=
  fn_dz F sc_Even_bool (fun A ds Ψ h => by
      obtain ⟨s, rfl, _⟩ := h; rfl) (fun A cdv Ar outer s H E hr =>
    (dss_one (ds_ret de_bl)))
    (fun A ds Ψ h => by
      obtain ⟨s, rfl, h⟩ := h
      exact h)

abbrev s_Even_shows : Stmt := inClass (topS 45) 2
theorem sc_Even_shows : FnScope ["self", "gaps"] ["self", "gaps"] (defScope s_Even_shows) := ⟨rfl, rfl, rfl, by decide +kernel, rfl, by decide +kernel, by decide +kernel⟩
theorem ok_Even_shows {f : Addr} {fd : FuncData} (F : Fun K "shows" "Even.shows" s_Even_shows f fd) (T : TxtX w K mg kd cP cE cU) (G_check_gaps : Own P w K mg base "check_gaps" 3 ["gaps"] pd_check_gaps) (G_turned_gaps : Own P w K mg base "turned_gaps" 2 ["gaps", "shift"] pd_turned_gaps) : FnOk P w K mg base CX0 4 f fd ["self", "gaps"] (spD K (pd_Even_shows cE)) :=
  fn_dz F sc_Even_shows (fun A ds Ψ h => by
      obtain ⟨s, g, rfl, _⟩ := h; rfl) (fun A cdv Ar outer s H E hr =>
    (dss_cons (ds_expr (de_own G_check_gaps (hr.mono (by decide)) rfl (da_cons (de_var 1) da_nil)))
    (dss_one (ds_ret (de_cmp (opd_eq hr.units) (de_var 1) (de_own G_turned_gaps (hr.mono (by decide)) rfl (da_cons (de_var 1) (da_cons (de_fld T.cl_Even T.na_shift (de_var 0)) da_nil))))))))
    (fun A ds Ψ h => by
      obtain ⟨s, g, rfl, hg, h⟩ := h
      refine ⟨g, rfl, hg, _, _, _, rfl, rfl, g, s, rfl, hg.1, plG _, plG _, ?_⟩
      show Ψ (.bl (eqD (encG g) (encG (turnG g s))))
      rw [eqG]
      exact h)

abbrev s_Uneven_init : Stmt := inClass (topS 46) 0
theorem sc_Uneven_init : FnScope ["self", "one", "other", "width"] ["self", "one", "other", "width"] (defScope s_Uneven_init) := ⟨rfl, rfl, rfl, by decide +kernel, rfl, by decide +kernel, by decide +kernel⟩
theorem ok_Uneven_init {f : Addr} {fd : FuncData} (F : Fun K "__init__" "Uneven.__init__" s_Uneven_init f fd) (T : TxtX w K mg kd cP cE cU)  : FnOk P w K mg base (L2.CX P w) 1 f fd ["self", "one", "other", "width"] (spI K cU pd_Uneven_init) :=
  fn_dzi F sc_Uneven_init (fun A ds Ψ Ξ h => by
      obtain ⟨i, j, w, rfl, _⟩ := h; rfl) (fun A Ξ cdv Ar outer s H E hr tk =>
    (dss_cons (ds_fput (i := 0) T.cl_Uneven T.na_one rfl (Or.inl rfl) (de_var 1))
    (dss_cons (ds_fput (i := 0) T.cl_Uneven T.na_other rfl (Or.inl rfl) (de_var 2))
    (dss_one (ds_fput (i := 0) T.cl_Uneven T.na_width rfl (Or.inl rfl) (de_var 3))))))
    (fun A ds Ψ Ξ p dx h => by
      obtain ⟨i, j, w, rfl, h⟩ := h
      refine ⟨p, dx, [], [], rfl, List.not_mem_nil, by decide, p, dx, _, _, rfl, by decide +kernel, by decide, p, dx, _, _, rfl, by decide +kernel, by decide, ?_⟩
      exact ⟨_, _, rfl, h⟩)

abbrev s_Uneven_bool : Stmt := inClass (topS 46) 1
theorem sc_Uneven_bool : FnScope ["self"] ["self"] (defScope s_Uneven_bool) := ⟨rfl, rfl, rfl, by decide +kernel, rfl, by decide +kernel, by decide +kernel⟩
theorem ok_Uneven_bool {f : Addr} {fd : FuncData} (F : Fun K "__bool__" "Uneven.__bool__" s_Uneven_bool f fd) (T : TxtX w K mg kd cP cE cU)  : FnOk P w K mg base CX0 1 f fd ["self"] (spD K (pd_Uneven_bool cU)) :=
  fn_dz F sc_Uneven_bool (fun A ds Ψ h => by
      obtain ⟨i, j, w, rfl, _⟩ := h; rfl) (fun A cdv Ar outer s H E hr =>
    (dss_one (ds_ret de_bl)))
    (fun A ds Ψ h => by
      obtain ⟨i, j, w, rfl, h⟩ := h
      exact h)

abbrev s_Uneven_shows : Stmt := inClass (topS 46) 2
theorem sc_Uneven_shows : FnScope ["self", "gaps", "many"] ["self", "gaps"] (defScope s_Uneven_shows) := ⟨rfl, rfl, rfl, by decide +kernel, rfl, by decide +kernel, by decide +kernel⟩
theorem ok_Uneven_shows {f : Addr} {fd : FuncData} (F : Fun K "shows" "Uneven.shows" s_Uneven_shows f fd) (T : TxtX w K mg kd cP cE cU) (G_check_gaps : Own P w K mg base "check_gaps" 3 ["gaps"] pd_check_gaps) (G_stretch_sum : Own P w K mg base "stretch_sum" 1 ["gaps", "first", "width"] pd_stretch_sum) : FnOk P w K mg base CX0 4 f fd ["self", "gaps"] (spD K (pd_Uneven_shows cU)) :=
  fn_dz F sc_Uneven_shows (fun A ds Ψ h => by
      obtain ⟨i, j, w, g, rfl, _⟩ := h; rfl) (fun A cdv Ar outer s H E hr =>
    (dss_cons (ds_expr (de_own G_check_gaps (hr.mono (by decide)) rfl (da_cons (de_var 1) da_nil)))
    (dss_cons (ds_asg (vs := [0, 1, 2]) (de_callB callD_len rfl T.mg_len (by decide +kernel) (da_cons (de_var 1) da_nil)) (dg_name (i := 2) sc_Uneven_shows.nd rfl (Or.inl rfl)))
    (dss_cons (ds_if (PW.pt (dw_or (dt_not (dt_chain opd_le opd_lt de_int (de_fld T.cl_Uneven T.na_one (de_var 0)) (de_var 2))) (dw_or (dt_not (dt_chain opd_le opd_lt de_int (de_fld T.cl_Uneven T.na_other (de_var 0)) (de_var 2))) (dw_or1 (dt_not (dt_chain opd_le opd_le de_int (de_fld T.cl_Uneven T.na_width (de_var 0)) (de_var 2)))))))
      (dss_one (ds_ret de_bl))
      dss_nil)
    (dss_one (ds_ret (de_cmp opd_ge (de_op opd_sub (de_own G_stretch_sum (hr.mono (by decide)) rfl (da_cons (de_var 1) (da_cons (de_fld T.cl_Uneven T.na_one (de_var 0)) (da_cons (de_fld T.cl_Uneven T.na_width (de_var 0)) da_nil)))) (de_own G_stretch_sum (hr.mono (by decide)) rfl (da_cons (de_var 1) (da_cons (de_fld T.cl_Uneven T.na_other (de_var 0)) (da_cons (de_fld T.cl_Uneven T.na_width (de_var 0)) da_nil))))) de_int)))))))
    (fun A ds Ψ h => by
      obtain ⟨i, j, w, g, rfl, hg, h⟩ := h
      refine ⟨g, rfl, hg, ?_⟩
      have hL : (g.map D.int).length = g.length := List.length_map _
      have hf : showU g i j w = false → Ψ (.bl false) := fun e => by rw [e] at h; exact h
      refine ⟨_, _, _, rfl, rfl, _, rfl, iteB (fun z1 => ⟨_, rfl, iteB (fun z2 => hf ?_) (fun z2 => ?_)⟩) (fun z1 => ⟨_, rfl, iteT (hf ?_)⟩)⟩
      · have z2 : (!decide (i < (((g.map D.int).length : Nat) : Int))) = true := z2; rw [hL] at z2
        unfold showU
        rw [Bool.not_eq_true'] at z2
        rw [z2, Bool.and_false, Bool.false_and, Bool.false_and]
      · refine ⟨_, _, _, rfl, rfl, _, rfl, iteB (fun z3 => ⟨_, rfl, iteB (fun z4 => hf ?_) (fun z4 => ?_)⟩) (fun z3 => ⟨_, rfl, iteT (hf ?_)⟩)⟩
        · have z4 : (!decide (j < (((g.map D.int).length : Nat) : Int))) = true := z4; rw [hL] at z4
          unfold showU
          rw [Bool.not_eq_true'] at z4
          rw [z4, Bool.and_false, Bool.false_and, Bool.and_false, Bool.false_and]
        · refine ⟨_, _, _, rfl, rfl, _, rfl, iteB (fun z5 => ⟨_, rfl, iteB (fun z6 => hf ?_) (fun z6 => ?_)⟩) (fun z5 => ⟨_, rfl, iteT (hf ?_)⟩)⟩
          · have z6 : (!decide (w ≤ (((g.map D.int).length : Nat) : Int))) = true := z6; rw [hL] at z6
            unfold showU
            rw [Bool.not_eq_true'] at z6
            rw [z6, Bool.and_false, Bool.and_false, Bool.and_false, Bool.false_and]
          · have z2 : (!decide (i < (((g.map D.int).length : Nat) : Int))) = false := z2; rw [hL] at z2
            have z4 : (!decide (j < (((g.map D.int).length : Nat) : Int))) = false := z4; rw [hL] at z4
            have z6 : (!decide (w ≤ (((g.map D.int).length : Nat) : Int))) = false := z6; rw [hL] at z6
            rw [Bool.not_eq_false'] at z2 z4 z6
            have e : showU g i j w = decide (2 ≤ X57.win g i.toNat w.toNat - X57.win g j.toNat w.toNat) := by
              unfold showU
              rw [z1, z2, z3, z4, z5, z6]
              rfl
            rw [e] at h
            have z1 := of_decide_eq_true z1
            have z2 := of_decide_eq_true z2
            have z3 := of_decide_eq_true z3
            have z4 := of_decide_eq_true z4
            have z5 := of_decide_eq_true z5
            have z6 := of_decide_eq_true z6
            obtain ⟨i, rfl⟩ := Int.eq_ofNat_of_zero_le z1
            obtain ⟨j, rfl⟩ := Int.eq_ofNat_of_zero_le z3
            obtain ⟨w, rfl⟩ := Int.eq_ofNat_of_zero_le (show 0 ≤ w by omega)
            exact ⟨_, _, _, rfl, rfl, _, _, _, rfl, rfl, g, i, w, rfl, hg.1.2, by omega, by omega, _, _, _, rfl, rfl, _, _, _, rfl, rfl, g, j, w, rfl, hg.1.2, by omega, by omega, h⟩
          · unfold showU
            rw [z5, Bool.false_and, Bool.and_false, Bool.and_false, Bool.false_and]
        · unfold showU
          rw [z3, Bool.false_and, Bool.false_and, Bool.and_false, Bool.false_and]
      · unfold showU
        rw [z1, Bool.false_and, Bool.false_and, Bool.false_and])

end
end K57

namespace K57
open PySem PySem.Spec PyProof.Rows L2 Dz
/-! ### a shaped piece -/
def plainL (r : Rw) (t : Nat) : List Pt := if 1 < t ∧ tkw r.2.1 = mkw r.2.1 then [.blk t 0 [r]] else List.replicate t (.row r)
def shapeL (p c : Rw) (g : List Int) : List Pt := (g.map fun x => if 0 < x then plainL p (x - 1).toNat ++ [.row c] else []).flatten
theorem shape_take (p c : Rw) {g : List Int} {k : Nat} {x : Int} (h : g[k]? = some x) : shapeL p c (g.take (k + 1)) = shapeL p c (g.take k) ++ (if 0 < x then plainL p (x - 1).toNat ++ [.row c] else []) := by
  unfold shapeL
  rw [List.take_succ, h, List.map_append, List.flatten_append]
  show _ ++ (_ ++ []) = _
  rw [List.append_nil]
theorem plain_len (r : Rw) (t : Nat) : (plainL r t).length ≤ t + 1 := by
  unfold plainL
  split
  · show 1 ≤ t + 1; omega
  · rw [List.length_replicate]; omega
theorem shape_len (p c : Rw) : ∀ g : List Int, (∀ x ∈ g, x ≤ 10) → (shapeL p c g).length ≤ g.length * 20
  | [], _ => Nat.le_refl 0
  | x :: g, h => by
    have ih := shape_len p c g fun y hy => h y (List.mem_cons_of_mem _ hy)
    unfold shapeL at ih ⊢
    rw [List.map_cons, List.flatten_cons, List.length_append, List.length_cons, Nat.succ_mul]
    have hx := h x List.mem_cons_self
    have : (if 0 < x then plainL p (x - 1).toNat ++ [Pt.row c] else []).length ≤ 20 := by
      split
      · rw [List.length_append]
        have := plain_len p (x - 1).toNat
        show _ + 1 ≤ 20
        omega
      · exact Nat.zero_le _
    omega
/-! ### the law's rows -/
def kindsE : List Str := ["k", "p", "k", "p", "sl", "yo", "k2tog", "ssk", "kfb", "m1l", "c2f", "ktbl", "p2tog", "bo"]
def onesL : List (List Str) := [["k"], ["p"], ["sl"], ["k"], ["k"], ["k", "p"], ["yo", "k2tog"]]
def WordE (y : Str) (w : Wd) : Prop := w.length ≤ 2 ∧ ∀ c ∈ w, c.1 ∈ kindsE ∧ c.2 = y
def EasyR (y : Str) (r : Rw) : Prop := WordE y r.1 ∧ (∃ g ∈ onesL, r.2.1 = g.map fun z => (z, y)) ∧ WordE y r.2.2
def TogR (y : Str) (r : Rw) : Prop := WordE y r.1 ∧ r.2.1 = [(("k2tog" : Str), y)] ∧ WordE y r.2.2
theorem kindsE_ok : kindsE.all (fun z => (kindRow z).isSome && (decide (mkN z ≤ tkN z + 1) && decide (tkN z ≤ mkN z + 1))) = true := by decide +kernel
theorem onesL_ok : onesL.all (fun g => (decide (1 ≤ g.length) && decide (g.length ≤ 2)) && (g.all (fun z => (kindRow z).isSome) && (((g.map tkN).sum == (g.map mkN).sum) && ((g.map tkN).sum == 1 || (g.map tkN).sum == 2)))) = true := by decide +kernel
theorem WordE.wok {y : Str} {w : Wd} (hy : yarnB y = true) (h : WordE y w) : WOk w := by
  refine ⟨Nat.le_trans h.1 (by decide), fun c hc => ?_⟩
  have h2 := h.2 c hc
  have := List.all_eq_true.mp kindsE_ok _ h2.1
  rw [Bool.and_eq_true] at this
  exact ⟨this.1, by rw [h2.2]; exact hy⟩
theorem WordE.gain {y : Str} : ∀ {w : Wd}, (∀ c ∈ w, c.1 ∈ kindsE ∧ c.2 = y) → mkW w ≤ tkW w + w.length ∧ tkW w ≤ mkW w + w.length
  | [], _ => by unfold mkW tkW; exact ⟨by simp, by simp⟩
  | c :: w, h => by
    have ih := WordE.gain (w := w) fun d hd => h d (List.mem_cons_of_mem _ hd)
    have h2 := List.all_eq_true.mp kindsE_ok _ (h c List.mem_cons_self).1
    rw [Bool.and_eq_true, Bool.and_eq_true, decide_eq_true_eq, decide_eq_true_eq] at h2
    have e1 : mkW (c :: w) = mk' c.1 + mkW w := rfl
    have e2 : tkW (c :: w) = tk c.1 + tkW w := rfl
    rw [e1, e2, mk_N, tk_N, List.length_cons]
    omega
theorem ones_of {y : Str} {g : List Str} (h : g ∈ onesL) : ∃ w : Wd, w = (g.map fun z => (z, y)) ∧ (1 ≤ w.length ∧ w.length ≤ 2) ∧ (∀ c ∈ w, (kindRow c.1).isSome = true ∧ c.2 = y) ∧ tkw w = mkw w ∧ (tkw w = 1 ∨ tkw w = 2) := by
  have q := List.all_eq_true.mp onesL_ok g h
  simp only [Bool.and_eq_true, Bool.or_eq_true, decide_eq_true_eq, beq_iff_eq, List.all_eq_true] at q
  refine ⟨_, rfl, by rw [List.length_map]; exact q.1, fun c hc => ?_, ?_, ?_⟩
  · obtain ⟨z, hz, rfl⟩ := List.mem_map.mp hc
    exact ⟨q.2.1 z hz, rfl⟩
  · unfold tkw mkw
    rw [List.map_map, List.map_map]
    exact q.2.2.1
  · unfold tkw
    rw [List.map_map]
    exact q.2.2.2
/-- what both kinds of rows are -/
structure LawR (r : Rw) : Prop where
  ok : ROk r
  row : rowB r = true
  tk : tkw r.2.1 = 1 ∨ tkw r.2.1 = 2
  mkL : mkw r.2.1 ≤ tkw r.2.1
  gain : -12 ≤ gainN r ∧ gainN r ≤ 12
theorem law_row {y : Str} {r : Rw} (hy : yarnB y = true) (h1 : WordE y r.1) (h3 : WordE y r.2.2) (hg : (1 ≤ r.2.1.length ∧ r.2.1.length ≤ 2) ∧ (∀ c ∈ r.2.1, (kindRow c.1).isSome = true ∧ c.2 = y)) (ht : tkw r.2.1 = 1 ∨ tkw r.2.1 = 2) (hm : mkw r.2.1 ≤ tkw r.2.1) : LawR r := by
  refine ⟨⟨h1.wok hy, ⟨by have := hg.1.2; omega, fun c hc => ⟨(hg.2 c hc).1, by rw [(hg.2 c hc).2]; exact hy⟩⟩, h3.wok hy⟩, ?_, ht, hm, ?_⟩
  · have a := h1.1
    have b := h3.1
    have e : r.2.1.isEmpty = false := by
      cases q : r.2.1 with
      | nil => rw [q] at hg; exact absurd hg.1.1 (by decide)
      | cons _ _ => rfl
    unfold rowB
    rw [decide_eq_true (by omega), decide_eq_true (by have := hg.1.2; omega), decide_eq_true (by omega), e, if_neg (by decide), decide_eq_true (by rw [tkW_n]; omega)]
    rfl
  · have a := WordE.gain h1.2
    have b := WordE.gain h3.2
    have c := h1.1
    have d := h3.1
    unfold gainN needsN
    omega
theorem EasyR.law {y : Str} {r : Rw} (hy : yarnB y = true) (h : EasyR y r) : LawR r ∧ tkw r.2.1 = mkw r.2.1 := by
  obtain ⟨h1, ⟨g, hg, e⟩, h3⟩ := h
  obtain ⟨w, ew, q1, q2, q3, q4⟩ := ones_of (y := y) hg
  rw [← e] at ew
  subst ew
  exact ⟨law_row hy h1 h3 ⟨q1, q2⟩ q4 (by omega), q3⟩
theorem TogR.law {y : Str} {r : Rw} (hy : yarnB y = true) (h : TogR y r) : LawR r ∧ ¬ tkw r.2.1 = mkw r.2.1 := by
  obtain ⟨h1, e, h3⟩ := h
  have t : tkw r.2.1 = 2 := by rw [e]; exact (by decide +kernel : tkN "k2tog" + 0 = 2)
  have m : mkw r.2.1 = 1 := by rw [e]; exact (by decide +kernel : mkN "k2tog" + 0 = 1)
  refine ⟨law_row hy h1 h3 ⟨by rw [e]; exact ⟨Nat.le_refl 1, by show 1 ≤ 2; decide⟩, fun c hc => ?_⟩ (.inr t) (by omega), by omega⟩
  rw [e, List.mem_singleton] at hc
  rw [hc]
  exact ⟨(by decide +kernel : (kindRow "k2tog").isSome = true), rfl⟩
theorem plain_mem {p : Rw} {t : Nat} {q : Pt} (h : q ∈ plainL p t) : q = .row p ∨ (tkw p.2.1 = mkw p.2.1 ∧ 1 < t ∧ q = .blk t 0 [p]) := by
  unfold plainL at h
  split at h
  case isTrue z => exact .inr ⟨z.2, z.1, List.mem_singleton.mp h⟩
  case isFalse z => exact .inl (List.eq_of_mem_replicate h)
theorem shape_mem {p c : Rw} {g : List Int} {q : Pt} (h : q ∈ shapeL p c g) : q = .row c ∨ q = .row p ∨ (tkw p.2.1 = mkw p.2.1 ∧ ∃ x ∈ g, 1 < (x - 1).toNat ∧ q = .blk (x - 1).toNat 0 [p]) := by
  unfold shapeL at h
  obtain ⟨l, hl, hq⟩ := List.mem_flatten.mp h
  obtain ⟨x, hx, rfl⟩ := List.mem_map.mp hl
  split at hq
  · rcases List.mem_append.mp hq with z | z
    · rcases plain_mem z with z | ⟨a, b, z⟩
      · exact .inr (.inl z)
      · exact .inr (.inr ⟨a, x, hx, b, z⟩)
    · exact .inl (List.mem_singleton.mp z)
  · cases hq
theorem shape_rows {p c : Rw} {g : List Int} {q : Pt} (h : q ∈ shapeL p c g) : rowsP q = [c] ∨ rowsP q = [p] := by
  rcases shape_mem h with rfl | rfl | ⟨_, x, _, _, rfl⟩
  · exact .inl rfl
  · exact .inr rfl
  · exact .inr rfl
theorem foldM : ∀ (l : List Pt) (m : Nat), (∀ q ∈ l, (rowsP q).length = 1) → m ∣ 4 → l.foldl stepM m ∣ 4
  | [], m, _, hm => hm
  | q :: l, m, h, hm => by
    refine foldM l _ (fun x hx => h x (List.mem_cons_of_mem _ hx)) ?_
    have h1 := h q List.mem_cons_self
    cases q with
    | row r => exact hm
    | blk b e rs =>
      have h1 : rs.length = 1 := h1
      rw [stepM_odd (by rw [h1]), h1]
      exact Nat.lcm_dvd hm (Nat.dvd_refl 4)
theorem foldC : ∀ (l : List Wd) (m : Nat), (∀ q ∈ l, tkw q ∣ 2) → m ∣ 2 → l.foldl stepC m ∣ 2
  | [], m, _, hm => hm
  | q :: l, m, h, hm => foldC l _ (fun x hx => h x (List.mem_cons_of_mem _ hx)) (Nat.lcm_dvd hm (h q List.mem_cons_self))
theorem foldG : ∀ (l : List Wd) (m : Nat), (∀ q ∈ l, mkw q ≤ tkw q) → l.foldl stepG m = m
  | [], m, _ => rfl
  | q :: l, m, h => by
    rw [List.foldl_cons, foldG l _ (fun x hx => h x (List.mem_cons_of_mem _ hx)), stepG_ge (by have := h q List.mem_cons_self; omega)]
theorem foldU1 : ∀ (l : List Wd) (m : Nat), (∀ q ∈ l, tkw q = mkw q) → l.foldl stepU m = m
  | [], m, _ => rfl
  | q :: l, m, h => by
    rw [List.foldl_cons, foldU1 l _ (fun x hx => h x (List.mem_cons_of_mem _ hx)), stepU_eq (h q List.mem_cons_self)]
theorem foldU2 : ∀ (l : List Wd) (m : Nat), (∀ q ∈ l, tkw q ∣ 2) → l.foldl stepU m ∣ m * 2 ^ l.length
  | [], m, _ => by rw [List.length_nil]; exact ⟨1, by simp⟩
  | q :: l, m, h => by
    refine Nat.dvd_trans (foldU2 l _ fun x hx => h x (List.mem_cons_of_mem _ hx)) ?_
    rw [List.length_cons, Nat.pow_succ, Nat.mul_comm (2 ^ l.length) 2, ← Nat.mul_assoc]
    refine Nat.mul_dvd_mul_right ?_ _
    unfold stepU
    split
    · exact Nat.dvd_mul_right _ _
    · exact Nat.mul_dvd_mul_left _ (h q List.mem_cons_self)
theorem grps_len1 : ∀ l : List Pt, (∀ q ∈ l, (rowsP q).length = 1) → (grps l).length ≤ l.length
  | [], _ => Nat.le_refl 0
  | q :: l, h => by
    have ih := grps_len1 l fun x hx => h x (List.mem_cons_of_mem _ hx)
    have h1 := h q List.mem_cons_self
    have h2 := grpsR_le (rowsP q)
    unfold grps at ih ⊢
    rw [List.map_cons, List.flatten_cons, List.length_append, List.length_cons]
    omega
/-- the pieces that the law shapes -/
def ShOk (p : Rw) (g : List Int) : Prop := (tkw p.2.1 = mkw p.2.1 ∧ (1 ≤ g.length ∧ g.length ≤ 4) ∧ ∀ x ∈ g, 0 ≤ x ∧ x ≤ 4) ∨ (¬ tkw p.2.1 = mkw p.2.1 ∧ ∃ x, g = [x] ∧ 0 ≤ x ∧ x ≤ 3)
theorem ShOk.le {p : Rw} {g : List Int} (h : ShOk p g) : GapsOk g ∧ ∀ x ∈ g, x ≤ 4 := by
  rcases h with ⟨_, h1, h2⟩ | ⟨_, x, rfl, h1, h2⟩
  · exact ⟨⟨⟨h1.1, by omega⟩, fun x hx => by have := h2 x hx; omega⟩, fun x hx => (h2 x hx).2⟩
  · refine ⟨⟨⟨Nat.le_refl 1, by show 1 ≤ 60; decide⟩, fun y hy => ?_⟩, fun y hy => ?_⟩
    · rw [List.mem_singleton] at hy; omega
    · rw [List.mem_singleton] at hy; omega
theorem shape_few {p c : Rw} : ∀ g : List Int, (tkw p.2.1 = mkw p.2.1) → (shapeL p c g).length ≤ g.length * 2
  | [], _ => Nat.le_refl 0
  | x :: g, h => by
    have ih := shape_few (p := p) (c := c) g h
    unfold shapeL at ih ⊢
    rw [List.map_cons, List.flatten_cons, List.length_append, List.length_cons, Nat.succ_mul]
    have : (if 0 < x then plainL p (x - 1).toNat ++ [Pt.row c] else []).length ≤ 2 := by
      split
      · rw [List.length_append]
        have : (plainL p (x - 1).toNat).length ≤ 1 := by
          unfold plainL
          split
          · exact Nat.le_refl 1
          case isFalse z =>
            rw [List.length_replicate]
            rcases Nat.lt_or_ge 1 (x - 1).toNat with r | r
            · exact absurd ⟨r, h⟩ z
            · exact r
        show _ + 1 ≤ 2
        omega
      · exact Nat.zero_le _
    omega
theorem piece_ok {p c : Rw} {g : List Int} (hp : LawR p) (hc : LawR c ∧ tkw c.2.1 = mkw c.2.1) (h : ShOk p g) : PieceOk "flat" 9 2 (shapeL p c g) := by
  have hle := h.le.2
  have row1 : ∀ q ∈ shapeL p c g, (rowsP q).length = 1 := fun q hq => by
    rcases shape_rows hq with e | e
    · rw [e]; rfl
    · rw [e]; rfl
  have grp : ∀ w ∈ grps (shapeL p c g), w = c.2.1 ∨ w = p.2.1 := fun w hw => by
    obtain ⟨q, hq, r, hr, rfl⟩ := mem_grps hw
    rcases shape_rows hq with e | e
    · rw [e, List.mem_singleton] at hr; rw [hr]; exact .inl rfl
    · rw [e, List.mem_singleton] at hr; rw [hr]; exact .inr rfl
  have tk1 : ∀ w ∈ grps (shapeL p c g), tkw w = 1 ∨ tkw w = 2 := fun w hw => by
    rcases grp w hw with e | e
    · rw [e]; exact hc.1.tk
    · rw [e]; exact hp.tk
  have tk2 : ∀ w ∈ grps (shapeL p c g), tkw w ∣ 2 := fun w hw => by
    rcases tk1 w hw with e | e
    · rw [e]; exact ⟨2, rfl⟩
    · rw [e]; exact ⟨1, rfl⟩
  have gr : growthN (shapeL p c g) = 1 := foldG _ 1 fun w hw => by
    rcases grp w hw with e | e
    · rw [e]; exact hc.1.mkL
    · rw [e]; exact hp.mkL
  have u8 : (grps (shapeL p c g)).foldl stepU 1 ∣ 8 ∧ (shapeL p c g).length ≤ 8 := by
    rcases h with ⟨h0, h1, h2⟩ | ⟨h0, x, rfl, h1, h2⟩
    · constructor
      · rw [foldU1 _ 1 fun w hw => by
          rcases grp w hw with e | e
          · rw [e]; exact hc.2
          · rw [e]; exact h0]
        exact ⟨8, rfl⟩
      · have := shape_few (p := p) (c := c) g h0
        omega
    · have hl : (shapeL p c [x]).length ≤ 3 := by
        show ((if 0 < x then plainL p (x - 1).toNat ++ [Pt.row c] else []) ++ []).length ≤ 3
        rw [List.append_nil]
        split
        · rw [List.length_append]
          have : (plainL p (x - 1).toNat).length ≤ 2 := by
            unfold plainL
            split
            · exact Nat.le_succ 1
            · rw [List.length_replicate]; omega
          show _ + 1 ≤ 3
          omega
        · exact Nat.zero_le _
      refine ⟨?_, by omega⟩
      have h3 := foldU2 (grps (shapeL p c [x])) 1 tk2
      rw [Nat.one_mul] at h3
      refine Nat.dvd_trans h3 ?_
      have h4 := grps_len1 _ row1
      exact Nat.pow_dvd_pow 2 (show _ ≤ 3 by omega)
  have ms : measureN (shapeL p c g) ∣ 16 := by
    unfold measureN
    refine Nat.lcm_dvd (Nat.dvd_trans (foldM _ 2 row1 ⟨2, rfl⟩) ⟨4, rfl⟩) ?_
    exact Nat.mul_dvd_mul u8.1 (foldC _ 1 tk2 ⟨2, rfl⟩)
  have ms2 : measureN (shapeL p c g) ≤ 16 := Nat.le_of_dvd (by decide) ms
  refine ⟨.inl rfl, by decide, by have := u8.2; omega, fun q hq => ?_, ⟨by have := u8.2; omega, fun q hq => ?_, fun w hw => ?_, by omega, by rw [gr]; decide⟩, by omega, by rw [gr]; decide⟩
  · rcases shape_mem hq with rfl | rfl | ⟨e, x, hx, h1, rfl⟩
    · exact hc.1.row
    · exact hp.row
    · have := hle x hx
      show (lineB _ _ && repB [p]) = true
      have e1 : lineB ((x - 1).toNat : Nat) 0 = true := by
        unfold lineB
        rw [decide_eq_true (by omega), decide_eq_true (by omega)]
        rfl
      have e2 : repB [p] = true := by
        unfold repB
        have g1 := hp.gain
        have e3 : (([p].map gainN).sum) = gainN p := by simp
        rw [e3, decide_eq_true g1.1, decide_eq_true g1.2]
        show (_ && ((rowB p && true) && (((tkW p.2.1 == mkW p.2.1) && true) && _))) = true
        rw [hp.row, tkW_n, mkW_n, e]
        simp
      rw [e1, e2]
      rfl
  · constructor
    · refine ⟨by have := row1 q hq; omega, fun r hr => ?_⟩
      rcases shape_rows hq with e | e
      · rw [e, List.mem_singleton] at hr; rw [hr]; exact hc.1.ok
      · rw [e, List.mem_singleton] at hr; rw [hr]; exact hp.ok
    · have := row1 q hq; omega
  · rcases tk1 w hw with e | e
    · omega
    · omega
def pd_plain_parts : PD := fun _ ds Φ => ∃ (r : Rw) (t : Nat), ds = [encR r, .int t] ∧ ROk r ∧ t ≤ 100 ∧ Φ (.lst ((plainL r t).map encP))
def pd_shaped (cP : Addr) : PD := fun _ ds Φ => ∃ (p c : Rw) (g : List Int), ds = [.str "flat", .tup [.int 9, .int 2], encR p, encR c, encG g] ∧ (ROk p ∧ rowB p = true) ∧ (ROk c ∧ rowB c = true) ∧ GapsOk g ∧ (∀ x ∈ g, x ≤ 10) ∧ PieceOk "flat" 9 2 (shapeL p c g) ∧ Φ (pieceD cP "flat" 9 2 (shapeL p c g))
section
variable {P : Program} {w : World} {K : PySem.W.Frag} {mg : Str → Option Value} {base : Heap} {kd cP cE cU cG : Addr}
abbrev s_plain_parts : Stmt := topS 52
theorem sc_plain_parts : FnScope ["row", "times"] ["row", "times"] (defScope s_plain_parts) := ⟨rfl, rfl, rfl, by decide +kernel, rfl, by decide +kernel, by decide +kernel⟩
theorem ok_plain_parts {f : Addr} {fd : FuncData} (F : Fun K "plain_parts" "plain_parts" s_plain_parts f fd) (T : TxtX w K mg kd cP cE cU) (G_takes : Own P w K mg base "takes" 1 ["word"] pd_takes) (G_makes : Own P w K mg base "makes" 1 ["word"] pd_makes) : FnOk P w K mg base CX0 2 f fd ["row", "times"] (spD K pd_plain_parts) :=
  fn_dz F sc_plain_parts (fun A ds Ψ h => by
      obtain ⟨r, t, rfl, _⟩ := h; rfl) (fun A cdv Ar outer s H E hr =>
    (dss_cons (ds_if (PW.pt (dw_and (dt_cmp opd_gt (de_var 1) de_int) (dw_and1 (dt_cmp (opd_eq hr.units) (de_own G_takes (hr.mono (by decide)) rfl (da_cons (de_ix (ixd hr.units) (de_var 0) de_int) da_nil)) (de_own G_makes (hr.mono (by decide)) rfl (da_cons (de_ix (ixd hr.units) (de_var 0) de_int) da_nil))))))
      (dss_one (ds_ret (de_lst (da_cons (de_tup (da_cons de_str (da_cons (de_tup (da_cons (de_var 1) (da_cons de_int da_nil))) (da_cons (de_tup (da_cons (de_var 0) da_nil)) da_nil)))) da_nil))))
      dss_nil)
    (dss_one (ds_ret (de_op opd_mulT (de_lst (da_cons (de_tup (da_cons de_str (da_cons (de_var 0) da_nil))) da_nil)) (de_var 1))))))
    (fun A ds Ψ h => by
      obtain ⟨r, t, rfl, hr, ht, h⟩ := h
      have last : plainL r t = List.replicate t (.row r) → Ψ (.lst ((List.replicate t (D.tup [.str "row", encR r])))) := fun e => by
        rw [e, List.map_replicate] at h
        exact h
      have fin : plainL r t = List.replicate t (.row r) → 2 ≤ 100000 ∧ 1 ≤ 100000 ∧ rMulT (.lst [.tup [.str "row", encR r]]) (.int t) Ψ := fun e => by
        refine ⟨by decide, by decide, .inr ⟨by omega, by omega, by show 1 * _ ≤ 100000; omega, ?_⟩⟩
        have q := last e
        have e2 : (List.replicate ((t : Int)).toNat [D.tup [.str "row", encR r]]).flatten = List.replicate t (D.tup [.str "row", encR r]) := by
          rw [Int.toNat_natCast]
          clear q last h e
          induction t with
          | zero => rfl
          | succ t ih => rw [List.replicate_succ, List.flatten_cons, ih (by omega)]; rfl
        rw [← e2] at q
        exact q
      refine ⟨_, rfl, iteB (fun h1 => ?_) (fun h1 => ?_)⟩
      · have h1 : 1 < t := by have h1 := of_decide_eq_true h1; omega
        refine ⟨_, rfl, r.2.1, hr.good.2.1, rfl, _, rfl, r.2.1, hr.good.2.1, rfl, rfl, rfl, _, rfl, iteEqX (eqD_ii) ?_⟩
        refine iteB (fun h2 => ?_) (fun h2 => ?_)
        · have h2 : (tkW r.2.1 == mkW r.2.1) = true := h2
          rw [beq_iff_eq, tkW_n, mkW_n] at h2
          have e : plainL r t = [.blk t 0 [r]] := if_pos ⟨h1, by omega⟩
          rw [e] at h
          exact ⟨Nat.le_of_ble_eq_true rfl, Nat.le_of_ble_eq_true rfl, Nat.le_of_ble_eq_true rfl, Nat.le_of_ble_eq_true rfl, h⟩
        · have h2 : (tkW r.2.1 == mkW r.2.1) = false := h2
          rw [beq_eq_false_iff_ne, tkW_n, mkW_n] at h2
          exact fin (if_neg fun z => h2 (by rw [z.2]))
      · have h1 := of_decide_eq_false h1
        exact fin (if_neg fun z => h1 (by have := z.1; omega)))

abbrev s_shaped : Stmt := topS 51
theorem sc_shaped : FnScope ["way", "cast", "plain", "change", "gaps", "parts", "gap"] ["way", "cast", "plain", "change", "gaps"] (defScope s_shaped) := ⟨rfl, rfl, rfl, by decide +kernel, rfl, by decide +kernel, by decide +kernel⟩
theorem ok_shaped {f : Addr} {fd : FuncData} (F : Fun K "shaped" "shaped" s_shaped f fd) (T : TxtX w K mg kd cP cE cU) (G_check_gaps : Own P w K mg base "check_gaps" 3 ["gaps"] pd_check_gaps) (G_is_row : Own P w K mg base "is_row" 4 ["thing"] pd_is_row) (G_plain_parts : Own P w K mg base "plain_parts" 2 ["row", "times"] pd_plain_parts) (MK_Piece : MkX P w K mg base "Piece" cP 8 ["self", "way", "cast", "parts"] pd_Piece_init) : FnOk P w K mg base CX0 10 f fd ["way", "cast", "plain", "change", "gaps"] (spD K (pd_shaped cP)) :=
  fn_dz F sc_shaped (fun A ds Ψ h => by
      obtain ⟨p, c, g, rfl, _⟩ := h; rfl) (fun A cdv Ar outer s H E hr =>
    (dss_cons (ds_expr (de_own G_check_gaps (hr.mono (by decide)) rfl (da_cons (de_var 4) da_nil)))
    (dss_cons (ds_if (PW.pt (dw_or (dt_not (dt_truth (de_own G_is_row (hr.mono (by decide)) rfl (da_cons (de_var 2) da_nil)) (by intro _; rfl))) (dw_or1 (dt_not (dt_truth (de_own G_is_row (hr.mono (by decide)) rfl (da_cons (de_var 3) da_nil)) (by intro _; rfl))))))
      (dss_one ds_false)
      dss_nil)
    (dss_cons (ds_setN (i := 5) sc_shaped.nd rfl (Or.inl rfl) (dn_lst da_nil))
    (dss_cons (ds_for (vs := [0, 1, 2, 3, 4, 5, 6]) PassesOwn.never rfl (di_seq (de_var 4)) (dg_name (i := 6) sc_shaped.nd rfl (Or.inl rfl))
      (dss_one (ds_if (dt_cmp opd_gt (de_var 6) de_int)
        (dss_cons (ds_extend (i := 5) rfl (Or.inl rfl) (de_own G_plain_parts (hr.mono (by decide)) rfl (da_cons (de_var 2) (da_cons (de_op opd_sub (de_var 6) de_int) da_nil))))
        (dss_one (ds_append (i := 5) rfl (Or.inl rfl) (de_tup (da_cons de_str (da_cons (de_var 3) da_nil))))))
        dss_nil)))
    (dss_one (ds_ret (de_mkN MK_Piece (hr.mono (by decide)) rfl (da_cons (de_var 0) (da_cons (de_var 1) (da_cons (de_callTy callD_tuple rfl T.mg_tuple (by decide +kernel) (da_cons (de_var 5) da_nil)) da_nil)))))))))))
    (fun A ds Ψ h => by
      obtain ⟨p, c, g, rfl, hp, hc, hg, hx, ho, h⟩ := h
      refine ⟨g, rfl, hg, ?_⟩
      refine ⟨encR p, rfl, row_ok hp.1, _, rfl, iteEqX (c := false) (by rw [row_is hp.1, hp.2]; rfl) (iteF ⟨encR c, rfl, row_ok hc.1, _, rfl, iteEqX (c := false) (by rw [row_is hc.1, hc.2]; rfl) (iteF ?_)⟩)⟩
      refine ⟨Nat.zero_le _, ?_⟩
      refine ⟨_, rfl, fun k e => ∃ x, e = [.dat (.str "flat"), .dat (.tup [.int 9, .int 2]), .dat (encR p), .dat (encR c), .dat (encG g), .cel (.lst ((shapeL p c (g.take k)).map encP)), x], ⟨.un, by rw [List.take_zero]; rfl⟩, ?_, ?_⟩
      · rintro k x e hx' ⟨y, rfl⟩
        rw [List.getElem?_map] at hx'
        obtain ⟨v, hv, rfl⟩ : ∃ v, g[k]? = some v ∧ D.int v = x := by
          cases hq : g[k]? with
          | none => rw [hq] at hx'; cases hx'
          | some p => rw [hq] at hx'; exact ⟨p, rfl, Option.some.inj hx'⟩
        have hv10 := hx v (List.mem_of_getElem? hv)
        have hl : (shapeL p c (g.take k)).length ≤ 1200 := by
          have := shape_len p c (g.take k) fun y hy => hx y (List.mem_of_mem_take hy)
          have h2 : (g.take k).length ≤ g.length := by rw [List.length_take]; omega
          have := hg.1.2
          omega
        refine gN_env (e' := [.dat (.str "flat"), .dat (.tup [.int 9, .int 2]), .dat (encR p), .dat (encR c), .dat (encG g), .cel (.lst ((shapeL p c (g.take k)).map encP)), .dat (.int v)]) rfl ?_
        refine ⟨_, rfl, iteB (fun h1 => ?_) (fun h1 => ?_)⟩
        · have h1 : 0 < v := of_decide_eq_true h1
          obtain ⟨t, ht⟩ : ∃ t : Nat, v - 1 = t := Int.eq_ofNat_of_zero_le (by omega)
          have e2 := shape_take p c hv
          rw [if_pos h1, ht, Int.toNat_natCast] at e2
          have hpl := plain_len p t
          refine ⟨_, rfl, p, t, by rw [← ht], hp.1, by omega, _, _, rfl, rfl, by rw [List.length_map, List.length_map]; omega, ?_⟩
          refine ⟨_, rfl, Nat.le_of_ble_eq_true rfl, _, rfl, by rw [List.length_append, List.length_map, List.length_map]; omega, .dat (.int v), ?_⟩
          rw [e2, List.map_append, List.map_append, ← List.append_assoc]
          rfl
        · have h1 : ¬ 0 < v := of_decide_eq_false h1
          have e2 := shape_take p c hv
          rw [if_neg h1, List.append_nil] at e2
          exact ⟨_, by rw [e2]⟩
      · rintro e ⟨y, rfl⟩
        rw [List.length_map, List.take_length]
        exact ⟨_, _, _, _, rfl, ho, h⟩)

end
end K57

namespace K57
open PySem PySem.Spec PyProof.Rows L2 Dz
structure TxtY (w : World) (K : PySem.W.Frag) (mg : Str → Option Value) (kd cP cE cU : Addr) : Prop extends TxtX w K mg kd cP cE cU where
  is_Even : C8.InsC K cE
  no_Even : IsN K cU cE
def cellsD : List D := kindsE.map D.str
def pd_law_cell : PD := fun A ds Φ => ∃ (p : Addr) (ns : List Int) (y : Str), ds = [.tok p, .lst [.str y]] ∧ DrawIn A p ns ∧ ∀ z ∈ kindsE, Φ (encC (z, y))
def pd_law_word : PD := fun A ds Φ => ∃ (p : Addr) (ns : List Int) (y : Str), ds = [.tok p, .int 2, .lst [.str y]] ∧ DrawIn A p ns ∧ ∀ w : Wd, WordE y w → Φ (encW w)
def pd_law_easy_row : PD := fun A ds Φ => ∃ (p : Addr) (ns : List Int) (y : Str), ds = [.tok p, .lst [.str y]] ∧ DrawIn A p ns ∧ ∀ r : Rw, EasyR y r → Φ (encR r)
def rowsAt : Pt → List Rw
  | .row r => [r]
  | .blk b e rs => (List.replicate (b + e * 5).toNat rs).flatten
def allRows (ps : List Pt) : List Rw := (ps.map rowsAt).flatten
theorem acc_cells {y : Str} : ∀ acc : List D, (∀ d ∈ acc, ∃ c : Str × Str, d = encC c ∧ c.1 ∈ kindsE ∧ c.2 = y) → ∃ w : Wd, acc = w.map encC ∧ ∀ c ∈ w, c.1 ∈ kindsE ∧ c.2 = y
  | [], _ => ⟨[], rfl, fun c hc => nomatch hc⟩
  | d :: acc, h => by
    obtain ⟨w, e, hw⟩ := acc_cells acc fun x hx => h x (List.mem_cons_of_mem _ hx)
    obtain ⟨c, ec, h1⟩ := h d List.mem_cons_self
    exact ⟨c :: w, by rw [List.map_cons, ← e, ec], fun x hx => by rcases List.mem_cons.mp hx with r | r; { rw [r]; exact h1 }; { exact hw x r }⟩
def onesD : List D := onesL.map fun g => .tup (g.map D.str)
def PtSm : Pt → Prop
  | .row _ => True
  | .blk b e rs => (0 ≤ b ∧ b ≤ 100) ∧ (0 ≤ e ∧ e ≤ 9) ∧ rs.length ≤ 10
def pd_law_all_rows : PD := fun _ ds Φ => ∃ ps : List Pt, ds = [.tup (ps.map encP), .int 5] ∧ ps.length ≤ 40 ∧ (∀ q ∈ ps, PtSm q) ∧ Φ (.lst ((allRows ps).map encR))
def pd_law_even : PD := fun _ ds Φ => ∃ g, ds = [encG g] ∧ (1 ≤ g.length ∧ g.length ≤ 60) ∧ (X57.Even g → Φ (.bl true)) ∧ (¬ X57.Even g → Φ (.bl false))
def pd_law_sum : PD := pd_stretch_sum
def pd_law_judged : PD := fun _ ds Φ => ∃ g, ds = [encG g] ∧ GapsOk g ∧ g.sum ≤ 10000 ∧ Φ (.bl true)
theorem all_take {ps : List Pt} {k : Nat} {q : Pt} (h : ps[k]? = some q) : allRows (ps.take (k + 1)) = allRows (ps.take k) ++ rowsAt q := by
  unfold allRows
  rw [List.take_succ, h, List.map_append, List.flatten_append]
  show _ ++ (_ ++ []) = _
  rw [List.append_nil]
theorem flat_len {α : Type} (n : Nat) (l : List α) : (List.replicate n l).flatten.length = n * l.length := by
  induction n with
  | zero => simp
  | succ n ih => rw [List.replicate_succ, List.flatten_cons, List.length_append, ih, Nat.succ_mul]; omega
theorem map_flat {α β : Type} (f : α → β) (n : Nat) (l : List α) : (List.replicate n l).flatten.map f = (List.replicate n (l.map f)).flatten := by
  induction n with
  | zero => rfl
  | succ n ih => rw [List.replicate_succ, List.flatten_cons, List.map_append, ih, List.replicate_succ, List.flatten_cons]
theorem all_len : ∀ ps : List Pt, (∀ q ∈ ps, PtSm q) → (allRows ps).length ≤ ps.length * 1500
  | [], _ => Nat.le_refl 0
  | q :: ps, h => by
    have ih := all_len ps fun x hx => h x (List.mem_cons_of_mem _ hx)
    have h1 := h q List.mem_cons_self
    unfold allRows at ih ⊢
    rw [List.map_cons, List.flatten_cons, List.length_append, List.length_cons, Nat.succ_mul]
    have : (rowsAt q).length ≤ 1500 := by
      cases q with
      | row r => show 1 ≤ 1500; decide
      | blk b e rs =>
        show (List.replicate (b + e * 5).toNat rs).flatten.length ≤ 1500
        rw [flat_len]
        have h1 : (0 ≤ b ∧ b ≤ 100) ∧ (0 ≤ e ∧ e ≤ 9) ∧ rs.length ≤ 10 := h1
        have a : (b + e * 5).toNat ≤ 150 := by omega
        exact Nat.mul_le_mul a h1.2.2
    omega
theorem winS {g : List Int} {i w : Nat} (hi : i ≤ g.length) (hw : w ≤ g.length) {Φ : D → Prop} (h : Φ (.lst ((((g ++ g).drop i).take w).map D.int))) : rSliceD (some (i : Int)) (some ((i : Int) + (w : Int))) (.lst (g.map D.int ++ g.map D.int)) Φ := by
  have e : ((i : Int) + (w : Int)) = ((i + w : Nat) : Int) := by push_cast; rfl
  have hc : Dz.cutD (g.map D.int ++ g.map D.int) (some (i : Int)) (some ((i : Int) + (w : Int))) = (((g ++ g).drop i).take w).map D.int := by
    rw [e, ← List.map_append, cut_win _ (by rw [List.length_append]; omega) (by rw [List.length_append]; omega), Nat.add_sub_cancel_left]
  show Φ (.lst (Dz.cutD (g.map D.int ++ g.map D.int) (some (i : Int)) (some ((i : Int) + (w : Int)))))
  rw [hc]
  exact h
section
variable {P : Program} {w : World} {K : PySem.W.Frag} {mg : Str → Option Value} {base : Heap} {kd cP cE cU cG : Addr}
abbrev s_law_makes : Stmt := topS 66
theorem sc_law_makes : FnScope ["word", "kinds", "kind", "yarn"] ["word", "kinds"] (defScope s_law_makes) := ⟨rfl, rfl, rfl, by decide +kernel, rfl, by decide +kernel, by decide +kernel⟩
theorem ok_law_makes {f : Addr} {fd : FuncData} (F : Fun K "_law_makes" "_law_makes" s_law_makes f fd) (T : TxtY w K mg kd cP cE cU)  : FnOk P w K mg base CX0 1 f fd ["word", "kinds"] (spD K pd_law_makes) :=
  fn_dz F sc_law_makes (fun A ds Ψ h => by
      obtain ⟨ws, _, rfl, _⟩ := h; rfl) (fun A cdv Ar outer s H E hr =>
    (dss_one (ds_ret (de_callB (callD_sum rfl) rfl T.mg_sum (by decide +kernel) (da_cons (de_lc rfl sc_law_makes.nd (di_seq (de_var 0)) (blkOk_by (own := [("kind", 2), ("yarn", 3)]) (N := ["word", "kinds", "kind", "yarn"]) (sc := defScope s_law_makes) (by decide +kernel)) (fun _ _ _ _ _ => (dg_tup (n := 2) rfl (dgs_cons (dg_name (i := 2) sc_law_makes.nd rfl (Or.inl rfl)) (dgs_cons (dg_name (i := 3) sc_law_makes.nd rfl (Or.inl rfl)) dgs_nil)))) (fun _ _ _ _ _ => dts_nil) (fun _ _ _ _ _ => (de_ix (ixd hr.units) (de_ix (ixd hr.units) (de_var 1) (de_var 2)) de_int))) da_nil)))))
    (fun A ds Ψ h => by
      obtain ⟨ws, gw, rfl, h⟩ := h
      refine ⟨_, rfl, ?_⟩
      refine lc_map0 ws encC (fun c => .int (mk' c.1)) rfl (Nat.le_trans gw.1 (by decide)) (fun c hc J acc hJ => ?_) ?_
      · obtain ⟨r, hr⟩ := some_of (gw.2 c hc)
        refine ⟨rfl, rfl, kdD r, getK_kinds hr, _, rfl, rfl, ?_⟩
        rw [mk_eq hr] at hJ
        exact hJ
      · exact ⟨ws.map fun c => mk' c.1, by rw [map_ints], h⟩)

abbrev s_law_cell : Stmt := topS 62
theorem sc_law_cell : FnScope ["draw", "yarns", "kinds"] ["draw", "yarns"] (defScope s_law_cell) := ⟨rfl, rfl, rfl, by decide +kernel, rfl, by decide +kernel, by decide +kernel⟩
theorem ok_law_cell {f : Addr} {fd : FuncData} (F : Fun K "_law_cell" "_law_cell" s_law_cell f fd) (T : TxtY w K mg kd cP cE cU) (G_law_pick : Own P w K mg base "_law_pick" 3 ["draw", "items"] pdPick) : FnOk P w K mg base CX0 4 f fd ["draw", "yarns"] (spD K pd_law_cell) :=
  fn_dz F sc_law_cell (fun A ds Ψ h => by
      obtain ⟨p, ns, y, rfl, _⟩ := h; rfl) (fun A cdv Ar outer s H E hr =>
    (dss_cons (ds_asg (vs := [0, 1, 2]) (de_lst (da_cons de_str (da_cons de_str (da_cons de_str (da_cons de_str (da_cons de_str (da_cons de_str (da_cons de_str (da_cons de_str (da_cons de_str (da_cons de_str (da_cons de_str (da_cons de_str (da_cons de_str (da_cons de_str da_nil))))))))))))))) (dg_name (i := 2) sc_law_cell.nd rfl (Or.inl rfl)))
    (dss_one (ds_ret (de_tup (da_cons (de_own G_law_pick (hr.mono (by decide)) rfl (da_cons (de_var 0) (da_cons (de_var 2) da_nil))) (da_cons (de_own G_law_pick (hr.mono (by decide)) rfl (da_cons (de_var 0) (da_cons (de_var 1) da_nil))) da_nil)))))))
    (fun A ds Ψ h => by
      obtain ⟨p, ns, y, rfl, hd, h⟩ := h
      refine ⟨Nat.le_of_ble_eq_true rfl, ?_⟩
      refine ⟨p, ns, cellsD, .inl rfl, hd, (fun z => nomatch z), fun d hdm => ?_⟩
      obtain ⟨z, hz, rfl⟩ := List.mem_map.mp hdm
      refine ⟨p, ns, [.str y], .inl rfl, hd, (fun z => nomatch z), fun d2 hd2 => ?_⟩
      rw [List.mem_singleton] at hd2
      subst hd2
      exact ⟨Nat.le_of_ble_eq_true rfl, h z hz⟩)

abbrev s_law_word : Stmt := topS 63
theorem sc_law_word : FnScope ["draw", "many", "yarns", "at"] ["draw", "many", "yarns"] (defScope s_law_word) := ⟨rfl, rfl, rfl, by decide +kernel, rfl, by decide +kernel, by decide +kernel⟩
theorem ok_law_word {f : Addr} {fd : FuncData} (F : Fun K "_law_word" "_law_word" s_law_word f fd) (T : TxtY w K mg kd cP cE cU) (G_law_take : Own P w K mg base "_law_take" 2 ["draw", "many"] pdTake) (G_law_cell : Own P w K mg base "_law_cell" 4 ["draw", "yarns"] pd_law_cell) : FnOk P w K mg base CX0 5 f fd ["draw", "many", "yarns"] (spD K pd_law_word) :=
  fn_dz F sc_law_word (fun A ds Ψ h => by
      obtain ⟨p, ns, y, rfl, _⟩ := h; rfl) (fun A cdv Ar outer s H E hr =>
    (dss_one (ds_ret (de_callTy callD_tuple rfl T.mg_tuple (by decide +kernel) (da_cons (de_lc rfl sc_law_word.nd (di_rng1 rfl T.mg_range (da_cons (de_own G_law_take (hr.mono (by decide)) rfl (da_cons (de_var 0) (da_cons (de_op opd_add (de_var 1) de_int) da_nil))) da_nil)) (blkOk_by (own := [("at", 3)]) (N := ["draw", "many", "yarns", "at"]) (sc := defScope s_law_word) (by decide +kernel)) (fun _ _ _ _ _ => (dg_name (i := 3) sc_law_word.nd rfl (Or.inl rfl))) (fun _ _ _ _ _ => dts_nil) (fun _ _ _ _ _ => (de_own G_law_cell (hr.mono (by decide)) rfl (da_cons (de_var 0) (da_cons (de_var 2) da_nil))))) da_nil)))))
    (fun A ds Ψ h => by
      obtain ⟨p, ns, y, rfl, hd, h⟩ := h
      refine ⟨p, ns, 3, rfl, hd, by decide, fun r h0 h3 => ?_⟩
      obtain ⟨n, rfl⟩ := Int.eq_ofNat_of_zero_le h0
      refine ⟨_, rfl, by omega, by omega, ?_⟩
      refine lc_any0 (fun d => ∃ c : Str × Str, d = encC c ∧ c.1 ∈ kindsE ∧ c.2 = y) (by rw [rg_int, List.length_map, List.length_range]; omega) (fun x hx J acc hJ => ?_) (fun acc hl ha => ?_)
      · exact ⟨p, ns, y, rfl, hd, fun z hz => ⟨rfl, hJ _ ⟨(z, y), rfl, hz, rfl⟩⟩⟩
      · obtain ⟨w, rfl, hw⟩ := acc_cells acc ha
        rw [List.length_map, rg_int, List.length_map, List.length_range] at hl
        exact h w ⟨by omega, hw⟩)

abbrev s_law_easy_row : Stmt := topS 71
theorem sc_law_easy_row : FnScope ["draw", "yarns", "ones", "group", "kind"] ["draw", "yarns"] (defScope s_law_easy_row) := ⟨rfl, rfl, rfl, by decide +kernel, rfl, by decide +kernel, by decide +kernel⟩
theorem ok_law_easy_row {f : Addr} {fd : FuncData} (F : Fun K "_law_easy_row" "_law_easy_row" s_law_easy_row f fd) (T : TxtY w K mg kd cP cE cU) (G_law_pick : Own P w K mg base "_law_pick" 3 ["draw", "items"] pdPick) (G_law_word : Own P w K mg base "_law_word" 5 ["draw", "many", "yarns"] pd_law_word) : FnOk P w K mg base CX0 6 f fd ["draw", "yarns"] (spD K pd_law_easy_row) :=
  fn_dz F sc_law_easy_row (fun A ds Ψ h => by
      obtain ⟨p, ns, y, rfl, _⟩ := h; rfl) (fun A cdv Ar outer s H E hr =>
    (dss_cons (ds_asg (vs := [0, 1, 2, 3, 4]) (de_lst (da_cons (de_tup (da_cons de_str da_nil)) (da_cons (de_tup (da_cons de_str da_nil)) (da_cons (de_tup (da_cons de_str da_nil)) (da_cons (de_tup (da_cons de_str da_nil)) (da_cons (de_tup (da_cons de_str da_nil)) (da_cons (de_tup (da_cons de_str (da_cons de_str da_nil))) (da_cons (de_tup (da_cons de_str (da_cons de_str da_nil))) da_nil)))))))) (dg_name (i := 2) sc_law_easy_row.nd rfl (Or.inl rfl)))
    (dss_cons (ds_asg (vs := [0, 1, 2, 3, 4]) (de_callTy callD_tuple rfl T.mg_tuple (by decide +kernel) (da_cons (de_lc rfl sc_law_easy_row.nd (di_seq (de_own G_law_pick (hr.mono (by decide)) rfl (da_cons (de_var 0) (da_cons (de_var 2) da_nil)))) (blkOk_by (own := [("kind", 4)]) (N := ["draw", "yarns", "ones", "group", "kind"]) (sc := defScope s_law_easy_row) (by decide +kernel)) (fun _ _ _ _ _ => (dg_name (i := 4) sc_law_easy_row.nd rfl (Or.inl rfl))) (fun _ _ _ _ _ => dts_nil) (fun _ _ _ _ _ => (de_tup (da_cons (de_var 4) (da_cons (de_own G_law_pick (hr.mono (by decide)) rfl (da_cons (de_var 0) (da_cons (de_var 1) da_nil))) da_nil))))) da_nil)) (dg_name (i := 3) sc_law_easy_row.nd rfl (Or.inl rfl)))
    (dss_one (ds_ret (de_tup (da_cons (de_own G_law_word (hr.mono (by decide)) rfl (da_cons (de_var 0) (da_cons de_int (da_cons (de_var 1) da_nil)))) (da_cons (de_var 3) (da_cons (de_own G_law_word (hr.mono (by decide)) rfl (da_cons (de_var 0) (da_cons de_int (da_cons (de_var 1) da_nil)))) da_nil)))))))))
    (fun A ds Ψ h => by
      obtain ⟨p, ns, y, rfl, hd, h⟩ := h
      have lee : ∀ l : List D, l.length ≤ 7 → l.length ≤ 100000 := fun l z => Nat.le_trans z (by decide)
      refine ⟨Nat.le_of_ble_eq_true rfl, Nat.le_of_ble_eq_true rfl, Nat.le_of_ble_eq_true rfl, Nat.le_of_ble_eq_true rfl, Nat.le_of_ble_eq_true rfl, Nat.le_of_ble_eq_true rfl, Nat.le_of_ble_eq_true rfl, Nat.le_of_ble_eq_true rfl, ?_⟩
      refine gN_env (e' := [.dat (.tok p), .dat (.lst [.str y]), .dat (.lst onesD), .un, .un]) rfl ?_
      refine ⟨p, ns, onesD, .inl rfl, hd, (fun z => nomatch z), fun d hdm => ?_⟩
      obtain ⟨g, hg, rfl⟩ := List.mem_map.mp hdm
      obtain ⟨w0, e0, q1, _⟩ := ones_of (y := y) hg
      have hgl : g.length ≤ 2 := by have := q1.2; rw [e0, List.length_map] at this; exact this
      refine ⟨_, rfl, ?_⟩
      refine lc_map0 (α := Str) g D.str (fun z => encC (z, y)) rfl (by omega) (fun x hx J acc hJ => ?_) ?_
      · refine ⟨p, ns, [.str y], .inl rfl, hd, (fun z => nomatch z), fun d2 hd2 => ?_⟩
        rw [List.mem_singleton] at hd2
        subst hd2
        exact ⟨Nat.le_of_ble_eq_true rfl, rfl, hJ⟩
      · refine fNil_to ?_
        refine tupTo ?_
        refine gN_env (e' := [.dat (.tok p), .dat (.lst [.str y]), .dat (.lst onesD), .dat (.tup (g.map fun z => encC (z, y))), .un]) rfl ?_
        refine ⟨p, ns, y, rfl, hd, fun w1 h1 => ⟨p, ns, y, rfl, hd, fun w2 h2 => ⟨Nat.le_of_ble_eq_true rfl, ?_⟩⟩⟩
        have := h (w1, g.map (fun z => (z, y)), w2) ⟨h1, ⟨g, hg, rfl⟩, h2⟩
        unfold encR encW at this
        rw [List.map_map] at this
        exact this)

abbrev s_law_all_rows : Stmt := topS 69
theorem sc_law_all_rows : FnScope ["parts", "size", "found", "part", "times"] ["parts", "size"] (defScope s_law_all_rows) := ⟨rfl, rfl, rfl, by decide +kernel, rfl, by decide +kernel, by decide +kernel⟩
theorem ok_law_all_rows {f : Addr} {fd : FuncData} (F : Fun K "_law_all_rows" "_law_all_rows" s_law_all_rows f fd) (T : TxtY w K mg kd cP cE cU)  : FnOk P w K mg base CX0 1 f fd ["parts", "size"] (spD K pd_law_all_rows) :=
  fn_dz F sc_law_all_rows (fun A ds Ψ h => by
      obtain ⟨ps, rfl, _⟩ := h; rfl) (fun A cdv Ar outer s H E hr =>
    (dss_cons (ds_setN (i := 2) sc_law_all_rows.nd rfl (Or.inl rfl) (dn_lst da_nil))
    (dss_cons (ds_for (vs := [0, 1, 2, 3, 4]) PassesOwn.never rfl (di_seq (de_var 0)) (dg_name (i := 3) sc_law_all_rows.nd rfl (Or.inl rfl))
      (dss_one (ds_if (dt_cmp (opd_eq hr.units) (de_ix (ixd hr.units) (de_var 3) de_int) de_str)
        (dss_one (ds_append (i := 2) rfl (Or.inl rfl) (de_ix (ixd hr.units) (de_var 3) de_int)))
        (dss_cons (ds_asg (vs := [0, 1, 2, 3, 4]) (de_op opd_add (de_ix (ixd hr.units) (de_ix (ixd hr.units) (de_var 3) de_int) de_int) (de_op opd_mulT (de_ix (ixd hr.units) (de_ix (ixd hr.units) (de_var 3) de_int) de_int) (de_var 1))) (dg_name (i := 4) sc_law_all_rows.nd rfl (Or.inl rfl)))
        (dss_cons (ds_if (dt_cmp opd_lt (de_var 4) de_int)
          (dss_one (ds_ret (de_op opd_add (de_var 2) (de_lst (da_cons de_non da_nil)))))
          dss_nil)
        (dss_one (ds_extL (i := 2) sc_law_all_rows.nd rfl (Or.inl rfl) (de_op opd_mulT (de_callTy (callD_list rfl) rfl T.mg_list (by decide +kernel) (da_cons (de_ix (ixd hr.units) (de_var 3) de_int) da_nil)) (de_var 4)))))))))
    (dss_one (ds_ret (de_var 2))))))
    (fun A ds Ψ h => by
      obtain ⟨ps, rfl, hl, hs, h⟩ := h
      refine ⟨Nat.zero_le _, ?_⟩
      refine ⟨_, rfl, fun k e => ∃ x y, e = [.dat (.tup (ps.map encP)), .dat (.int 5), .cel (.lst ((allRows (ps.take k)).map encR)), x, y], ⟨.un, .un, by rw [List.take_zero]; rfl⟩, ?_, ?_⟩
      · rintro k x e hx ⟨y, z, rfl⟩
        rw [List.getElem?_map] at hx
        obtain ⟨q, hq, rfl⟩ : ∃ v, ps[k]? = some v ∧ encP v = x := by
          cases hq : ps[k]? with
          | none => rw [hq] at hx; cases hx
          | some p => rw [hq] at hx; exact ⟨p, rfl, Option.some.inj hx⟩
        have hsm := hs q (List.mem_of_getElem? hq)
        have e2 := all_take hq
        have hb : (allRows (ps.take k)).length ≤ 90000 := by
          have := all_len (ps.take k) fun x hx => hs x (List.mem_of_mem_take hx)
          have : (ps.take k).length ≤ ps.length := by rw [List.length_take]; omega
          omega
        refine gN_env (e' := [.dat (.tup (ps.map encP)), .dat (.int 5), .cel (.lst ((allRows (ps.take k)).map encR)), .dat (encP q), z]) rfl ?_
        cases q with
        | row r =>
          refine ⟨_, rfl, by decide +kernel, by decide +kernel, _, rfl, iteEqX (c := true) (by decide +kernel) (iteT ?_)⟩
          refine ⟨_, rfl, _, rfl, _, rfl, by rw [List.length_map]; omega, .dat (encP (.row r)), z, ?_⟩
          rw [e2, List.map_append]
          rfl
        | blk b e rs =>
          obtain ⟨⟨b0, b1⟩, ⟨c0, c1⟩, hr⟩ := hsm
          refine ⟨_, rfl, by decide +kernel, by decide +kernel, _, rfl, iteEqX (c := false) (by decide +kernel) (iteF ?_)⟩
          refine ⟨_, rfl, _, rfl, _, rfl, _, rfl, .inr ⟨.inl ⟨by omega, by omega⟩, ?_⟩⟩
          dsimp only [rAddD]
          refine gN_env (e' := [.dat (.tup (ps.map encP)), .dat (.int 5), .cel (.lst ((allRows (ps.take k)).map encR)), .dat (encP (.blk b e rs)), .dat (.int (b + e * 5))]) rfl ?_
          refine ⟨_, rfl, iteEqX (c := false) (decide_eq_false (by omega)) (iteF ?_)⟩
          have hL : (rs.map encR).length = rs.length := List.length_map _
          have hmul : (rs.map encR).length * (b + e * 5).toNat ≤ 1500 := by
            rw [hL]
            have a : (b + e * 5).toNat ≤ 150 := by omega
            have := Nat.mul_le_mul hr a
            omega
          have hfl : (List.replicate (b + e * 5).toNat (rs.map encR)).flatten.length ≤ 1500 := by rw [flat_len, Nat.mul_comm]; exact hmul
          refine ⟨_, rfl, _, rfl, .inr ⟨by omega, by omega, by omega, _, _, rfl, rfl, by rw [List.length_map]; omega, .dat (encP (.blk b e rs)), .dat (.int (b + e * 5)), ?_⟩⟩
          rw [e2, List.map_append]
          show _ = [_, _, EV.cel (.lst (_ ++ ((List.replicate (b + e * 5).toNat rs).flatten).map encR)), _, _]
          rw [map_flat]
          rfl
      · rintro e ⟨y, z, rfl⟩
        rw [List.length_map, List.take_length]
        exact h)

abbrev s_law_sum : Stmt := topS 75
theorem sc_law_sum : FnScope ["gaps", "start", "width"] ["gaps", "start", "width"] (defScope s_law_sum) := ⟨rfl, rfl, rfl, by decide +kernel, rfl, by decide +kernel, by decide +kernel⟩
theorem ok_law_sum {f : Addr} {fd : FuncData} (F : Fun K "_law_sum" "_law_sum" s_law_sum f fd) (T : TxtY w K mg kd cP cE cU)  : FnOk P w K mg base CX0 1 f fd ["gaps", "start", "width"] (spD K pd_law_sum) :=
  fn_dz F sc_law_sum (fun A ds Ψ h => by
      obtain ⟨g, i, w, rfl, _⟩ := h; rfl) (fun A cdv Ar outer s H E hr =>
    (dss_one (ds_ret (de_callB (callD_sum rfl) rfl T.mg_sum (by decide +kernel) (da_cons (de_slice (de_op opd_add (de_var 0) (de_var 0)) (do_pt (de_var 1)) (do_pt (de_op opd_add (de_var 1) (de_var 2)))) da_nil)))))
    (fun A ds Ψ h => by
      obtain ⟨g, i, w, rfl, hg, hi, hw, h⟩ := h
      refine ⟨by show (g.map D.int).length + (g.map D.int).length ≤ 100000; rw [List.length_map]; omega, ?_⟩
      refine ⟨_, rfl, _, rfl, ?_⟩
      have e : ((i : Int) + (w : Int)) = ((i + w : Nat) : Int) := by push_cast; rfl
      have hc : Dz.cutD (g.map D.int ++ g.map D.int) (some (i : Int)) (some ((i : Int) + (w : Int))) = (((g ++ g).drop i).take w).map D.int := by
        rw [e, ← List.map_append, cut_win _ (by rw [List.length_append]; omega) (by rw [List.length_append]; omega), Nat.add_sub_cancel_left]
      show rSumD [.lst (Dz.cutD (g.map D.int ++ g.map D.int) (some (i : Int)) (some ((i : Int) + (w : Int))))] Ψ
      rw [hc]
      exact ⟨_, rfl, h⟩)

abbrev s_law_even : Stmt := topS 74
theorem sc_law_even : FnScope ["gaps", "many", "width", "sums", "start"] ["gaps"] (defScope s_law_even) := ⟨rfl, rfl, rfl, by decide +kernel, rfl, by decide +kernel, by decide +kernel⟩
theorem ok_law_even {f : Addr} {fd : FuncData} (F : Fun K "_law_even" "_law_even" s_law_even f fd) (T : TxtY w K mg kd cP cE cU)  : FnOk P w K mg base CX0 1 f fd ["gaps"] (spD K pd_law_even) :=
  fn_dz F sc_law_even (fun A ds Ψ h => by
      obtain ⟨g, rfl, _⟩ := h; rfl) (fun A cdv Ar outer s H E hr =>
    (dss_cons (ds_asg (vs := [0, 1, 2, 3, 4]) (de_callB callD_len rfl T.mg_len (by decide +kernel) (da_cons (de_var 0) da_nil)) (dg_name (i := 1) sc_law_even.nd rfl (Or.inl rfl)))
    (dss_cons (ds_for (vs := [0, 1, 2, 3, 4]) PassesOwn.never rfl (di_rng2 rfl T.mg_range (da_cons de_int (da_cons (de_var 1) da_nil))) (dg_name (i := 2) sc_law_even.nd rfl (Or.inr rfl))
      (dss_cons (ds_setLc (i := 3) rfl sc_law_even.nd rfl rfl (sw_true rfl rfl rfl (by decide +kernel)) (di_rng1 rfl T.mg_range (da_cons (de_var 1) da_nil)) (blkOk_by (own := [("start", 4)]) (N := ["gaps", "many", "width", "sums", "start"]) (sc := defScope s_law_even) (by decide +kernel)) (fun _ _ _ _ _ => (dg_name (i := 4) sc_law_even.nd rfl (Or.inl rfl))) (fun _ _ _ _ _ => dts_nil) (fun _ _ _ _ _ => (de_callB (callD_sum rfl) rfl T.mg_sum (by decide +kernel) (da_cons (de_slice (de_op opd_add (de_var 0) (de_var 0)) (do_pt (de_var 4)) (do_pt (de_op opd_add (de_var 4) (de_var 2)))) da_nil))))
      (dss_one (ds_if (dt_cmp opd_gt (de_callB (callD_max rfl) rfl T.mg_max (by decide +kernel) (da_cons (de_var 3) da_nil)) (de_op opd_add (de_callB (callD_min rfl) rfl T.mg_min (by decide +kernel) (da_cons (de_var 3) da_nil)) de_int))
        (dss_one (ds_ret de_bl))
        dss_nil))))
    (dss_one (ds_ret de_bl)))))
    (fun A ds Ψ h => by
      obtain ⟨g, rfl, hg, h1, h2⟩ := h
      have hL : (g.map D.int).length = g.length := List.length_map _
      refine seqTo (e' := [.dat (encG g), .dat (.int ((g.map D.int).length : Nat)), .un, .un, .un]) (fun Ψ h => h) ?_
      rw [hL]
      refine ⟨_, _, rfl, ⟨by omega, by omega, by omega, by omega⟩, ?_⟩
      refine ⟨fun k e => ∃ x y z, e = [.dat (encG g), .dat (.int (g.length : Nat)), x, y, z] ∧ ∀ w, 1 ≤ w → w < k + 1 → X57.EvenW g w, ⟨.un, .un, .un, rfl, fun w h1 h2 => by omega⟩, ?_, ?_⟩
      · rintro k x e hx ⟨y1, y2, y3, rfl, he⟩
        obtain ⟨hk, rfl⟩ := rngD_get hx
        have hk : k + 1 < g.length := by omega
        have ek : (1 : Int) + (k : Int) = ((k + 1 : Nat) : Int) := by push_cast; omega
        rw [ek]
        refine gN_env (e' := [.dat (encG g), .dat (.int (g.length : Nat)), .dat (.int ((k + 1 : Nat) : Int)), y2, y3]) rfl ?_
        refine ⟨_, rfl, by omega, by omega, ?_⟩
        refine lc_map0 (α := Nat) (List.range g.length) (fun i => .int (i : Int)) (fun i => .int (X57.win g i (k + 1))) (rg_int g.length) (by rw [List.length_range]; omega) (fun i hi J acc hJ => ?_) ?_
        · have hi := List.mem_range.mp hi
          refine ⟨by show (g.map D.int).length + (g.map D.int).length ≤ 100000; rw [List.length_map]; omega, ?_⟩
          refine ⟨_, rfl, _, rfl, ?_⟩
          refine winS (g := g) (i := i) (w := k + 1) (by omega) (by omega) ?_
          exact ⟨_, rfl, rfl, hJ⟩
        · refine gN_env (e' := [.dat (encG g), .dat (.int (g.length : Nat)), .dat (.int ((k + 1 : Nat) : Int)), .dat (.lst ((sums g (k + 1)).map D.int)), .un]) ?_ ?_
          · unfold sums
            rw [if_neg (Nat.succ_ne_zero k), List.map_map]
            rfl
          · obtain ⟨M, hM, hM2⟩ := max_of (sums g (k + 1)) (sums_ne (by omega) _)
            obtain ⟨N, hN, hN2⟩ := min_of (sums g (k + 1)) (sums_ne (by omega) _)
            obtain ⟨i, hi⟩ := List.getElem?_of_mem hM
            obtain ⟨j, hj⟩ := List.getElem?_of_mem hN
            have ei := sums_get (by omega) hi
            have ej := sums_get (by omega) hj
            refine ⟨_, M, rfl, hM, hM2, _, N, rfl, hN, hN2, _, rfl, iteB (fun z => ?_) (fun z => ?_)⟩
            · have z := of_decide_eq_true z
              refine h2 fun hev => ?_
              have := hev (k + 1) (by omega) hk i j ei.1 ej.1
              rw [← ei.2, ← ej.2] at this
              omega
            · have z := of_decide_eq_false z
              refine ⟨_, _, _, rfl, fun w q1 q2 => ?_⟩
              rcases Nat.lt_or_ge w (k + 1) with r | r
              · exact he w q1 r
              · have ew : w = k + 1 := by omega
                subst ew
                intro i2 j2 hi2 hj2
                have a := hM2 _ (sums_mem q1 hi2)
                have b := hN2 _ (sums_mem q1 hj2)
                omega
      · rintro e ⟨y1, y2, y3, rfl, he⟩
        rw [rngD_len] at he
        exact h1 fun w q1 q2 => he w q1 (by omega))

end
end K57

namespace K57
open PySem PySem.Spec PyProof.Rows L2 Dz
theorem showU_even {g : List Int} (h : X57.Even g) (i j w : Int) : showU g i j w = false := by
  cases q : showU g i j w with
  | false => rfl
  | true =>
    exfalso
    unfold showU at q
    simp only [Bool.and_eq_true, decide_eq_true_eq] at q
    obtain ⟨⟨⟨a1, a2⟩, ⟨b1, b2⟩, c1, c2⟩, d⟩ := q
    exact (show Un g i.toNat j.toNat w.toNat from ⟨⟨by omega, by omega⟩, ⟨by omega, by omega⟩, d⟩).not_even h
theorem showU_un {g : List Int} {i j w : Nat} (h : Un g i j w) : showU g i j w = true := by
  obtain ⟨⟨a, b⟩, ⟨c, d⟩, e⟩ := h
  unfold showU
  rw [decide_eq_true (by omega), decide_eq_true (by omega), decide_eq_true (by omega), decide_eq_true (by omega), decide_eq_true (by omega), decide_eq_true (by omega), Int.toNat_natCast, Int.toNat_natCast, Int.toNat_natCast, decide_eq_true e]
  rfl
theorem showU_back {g : List Int} {i j w : Nat} (h : Un g i j w) : showU g j i w = false := by
  obtain ⟨_, _, e⟩ := h
  unfold showU
  rw [Int.toNat_natCast, Int.toNat_natCast, Int.toNat_natCast, decide_eq_false (show ¬ 2 ≤ X57.win g j w - X57.win g i w by omega), Bool.and_false]
theorem showU_0 (g : List Int) (i j : Int) : showU g i j 0 = false := by
  unfold showU
  rw [show decide ((1 : Int) ≤ 0) = false from rfl, Bool.false_and, Bool.and_false, Bool.and_false, Bool.false_and]
theorem turn_add (g : List Int) (s : Int) : turnG g (s + (g.length : Int)) = turnG g s := by unfold turnG; rw [Int.add_emod_right]
theorem sum_pos : ∀ g : List Int, (∀ x ∈ g, 0 ≤ x ∧ x ≤ 10000) → 0 ≤ g.sum
  | [], _ => by simp
  | x :: g, h => by
    have ih := sum_pos g fun y hy => h y (List.mem_cons_of_mem _ hy)
    have := (h x List.mem_cons_self).1
    rw [List.sum_cons]
    omega
theorem turned_list {g : List Int} {s : Nat} (hs : s < g.length) (e : g = turnG g (s : Nat)) : (List.range g.length).map (fun k => X57.at' (X57.spr g.sum g.length) (s + k)) = g := by
  have hl : (X57.spr g.sum g.length).length = g.length := X57.spr_len _ _
  rw [turn_lt hs] at e
  refine X57.list_ext (by rw [List.length_map, List.length_range]) fun k hk => ?_
  rw [List.length_map, List.length_range] at hk
  have e1 : X57.at' ((List.range g.length).map fun k => X57.at' (X57.spr g.sum g.length) (s + k)) k = X57.at' (X57.spr g.sum g.length) (s + k) := by
    show List.getD _ (k % List.length _) 0 = _
    rw [List.length_map, List.length_range, Nat.mod_eq_of_lt hk, List.getD_eq_getElem?_getD, List.getElem?_map, List.getElem?_range hk]
    rfl
  have e2 : X57.at' (X57.rot (X57.spr g.sum g.length) s) k = X57.at' (X57.spr g.sum g.length) (s + k) := X57.rot_at _ (by omega) (by omega) k
  rw [e1, ← e2, ← e]
theorem ixN_nat {n k : Nat} (h : k < n) : ixN n (k : Int) = some k := by
  unfold ixN
  rw [if_pos (by omega), if_pos (by omega)]
  rfl
theorem at_spr {g : List Int} {s k : Nat} (hn : 0 < g.length) : atI ((X57.spr g.sum g.length).map D.int) (((s : Int) + (k : Int)) % (g.length : Int)) = some (.int (X57.at' (X57.spr g.sum g.length) (s + k))) := by
  have hm : (s + k) % g.length < g.length := Nat.mod_lt _ hn
  have hl : (X57.spr g.sum g.length).length = g.length := X57.spr_len _ _
  have e : ((s : Int) + (k : Int)) % (g.length : Int) = (((s + k) % g.length : Nat) : Int) := by rw [← Int.natCast_add]; exact (Int.natCast_emod _ _).symm
  rw [e]
  unfold atI
  rw [List.length_map, hl, ixN_nat hm]
  show ((X57.spr g.sum g.length).map D.int)[(s + k) % g.length]? = _
  rw [List.getElem?_map]
  have : (X57.spr g.sum g.length)[(s + k) % g.length]? = some (X57.at' (X57.spr g.sum g.length) (s + k)) := by
    unfold X57.at'
    rw [hl, List.getD_eq_getElem?_getD, List.getElem?_eq_getElem (by omega)]
    rfl
  rw [this]
  rfl
section
variable {P : Program} {w : World} {K : PySem.W.Frag} {mg : Str → Option Value} {base : Heap} {kd cP cE cU cG : Addr}
abbrev s_law_judged : Stmt := topS 76
theorem sc_law_judged : FnScope ["gaps", "told", "due", "at", "shift"] ["gaps"] (defScope s_law_judged) := ⟨rfl, rfl, rfl, by decide +kernel, rfl, by decide +kernel, by decide +kernel⟩
theorem ok_law_judged {f : Addr} {fd : FuncData} (F : Fun K "_law_judged" "_law_judged" s_law_judged f fd) (T : TxtY w K mg kd cP cE cU) (G_judge_spread : Own P w K mg base "judge_spread" 4 ["gaps"] (pd_judge_spread cE cU)) (G_law_even : Own P w K mg base "_law_even" 1 ["gaps"] pd_law_even) (G_spread : Own P w K mg base "spread" 3 ["total", "parts"] pd_spread) (G_law_sum : Own P w K mg base "_law_sum" 1 ["gaps", "start", "width"] pd_law_sum) (MK_Even : MkX P w K mg base "Even" cE 1 ["self", "shift"] pd_Even_init) (MK_Uneven : MkX P w K mg base "Uneven" cU 1 ["self", "one", "other", "width"] pd_Uneven_init) (M_bool_Even : MthD P w K mg base cE "__bool__" 1 ["self"] (pd_Even_bool cE)) (M_bool_Uneven : MthD P w K mg base cU "__bool__" 1 ["self"] (pd_Uneven_bool cU)) (M_shows_Even : MthD P w K mg base cE "shows" 4 ["self", "gaps"] (pd_Even_shows cE)) (M_shows_Uneven : MthD P w K mg base cU "shows" 4 ["self", "gaps"] (pd_Uneven_shows cU)) : FnOk P w K mg base CX0 6 f fd ["gaps"] (spD K pd_law_judged) :=
  fn_dz F sc_law_judged (fun A ds Ψ h => by
      obtain ⟨g, rfl, _⟩ := h; rfl) (fun A cdv Ar outer s H E hr =>
    (dss_cons (ds_asg (vs := [0, 1, 2, 3, 4]) (de_own G_judge_spread (hr.mono (by decide)) rfl (da_cons (de_var 0) da_nil)) (dg_name (i := 1) sc_law_judged.nd rfl (Or.inr rfl)))
    (dss_cons (ds_if (PW.pt (dw_or (dt_cmp (opd_ne hr.units) (de_eith (de_callTy (callD_boolO M_bool_Even (hr.mono (by decide))) rfl T.mg_bool (by decide +kernel) (da_cons (de_var 1) da_nil)) (de_callTy (callD_boolO M_bool_Uneven (hr.mono (by decide))) rfl T.mg_bool (by decide +kernel) (da_cons (de_var 1) da_nil))) (de_own G_law_even (hr.mono (by decide)) rfl (da_cons (de_var 0) da_nil))) (dw_or1 (dt_not (dt_truth (de_eith (de_meth M_shows_Even T.cl_Even (hr.mono (by decide)) (de_var 1) (da_cons (de_var 0) da_nil)) (de_meth M_shows_Uneven T.cl_Uneven (hr.mono (by decide)) (de_var 1) (da_cons (de_var 0) da_nil))) (by intro _; rfl))))))
      (dss_one (ds_ret de_bl))
      dss_nil)
    (dss_cons (ds_if (dt_truth (de_callB (callD_isO2 T.is_Even T.no_Even) rfl T.mg_isinstance (by decide +kernel) (da_cons (de_var 1) (da_cons (de_glob (v := .ref cE) (d := .tok cE) rfl MK_Even.gl rfl (fun _ => rep_tok.mpr rfl)) da_nil))) (by intro _; rfl))
      (dss_cons (ds_asg (vs := [0, 1, 2, 3, 4]) (de_own G_spread (hr.mono (by decide)) rfl (da_cons (de_callB (callD_sum rfl) rfl T.mg_sum (by decide +kernel) (da_cons (de_var 0) da_nil)) (da_cons (de_callB callD_len rfl T.mg_len (by decide +kernel) (da_cons (de_var 0) da_nil)) da_nil))) (dg_name (i := 2) sc_law_judged.nd rfl (Or.inr rfl)))
      (dss_cons (ds_if (dt_cmp (opd_ne hr.units) (de_lc rfl sc_law_judged.nd (di_rng1 rfl T.mg_range (da_cons (de_callB callD_len rfl T.mg_len (by decide +kernel) (da_cons (de_var 0) da_nil)) da_nil)) (blkOk_by (own := [("at", 3)]) (N := ["gaps", "told", "due", "at", "shift"]) (sc := defScope s_law_judged) (by decide +kernel)) (fun _ _ _ _ _ => (dg_name (i := 3) sc_law_judged.nd rfl (Or.inl rfl))) (fun _ _ _ _ _ => dts_nil) (fun _ _ _ _ _ => (de_ix (ixd hr.units) (de_var 2) (de_op opd_mod (de_callTy callD_int rfl T.mg_int (by decide +kernel) (da_cons (de_op opd_add (de_fld T.cl_Even T.na_shift (de_var 1)) (de_var 3)) da_nil)) (de_callB callD_len rfl T.mg_len (by decide +kernel) (da_cons (de_var 0) da_nil)))))) (de_var 0))
        (dss_one (ds_ret de_bl))
        dss_nil)
      (dss_one (ds_ret (de_andT (de_notT (de_eith (de_meth M_shows_Even T.cl_Even (hr.mono (by decide)) (de_mkN MK_Uneven (hr.mono (by decide)) rfl (da_cons de_int (da_cons (de_if (dt_cmp opd_gt (de_callB callD_len rfl T.mg_len (by decide +kernel) (da_cons (de_var 0) da_nil)) de_int) de_int de_int) (da_cons de_int da_nil)))) (da_cons (de_var 0) da_nil)) (de_meth M_shows_Uneven T.cl_Uneven (hr.mono (by decide)) (de_mkN MK_Uneven (hr.mono (by decide)) rfl (da_cons de_int (da_cons (de_if (dt_cmp opd_gt (de_callB callD_len rfl T.mg_len (by decide +kernel) (da_cons (de_var 0) da_nil)) de_int) de_int de_int) (da_cons de_int da_nil)))) (da_cons (de_var 0) da_nil)))) (de_one (de_eith (de_meth M_shows_Even T.cl_Even (hr.mono (by decide)) (de_mkN MK_Even (hr.mono (by decide)) rfl (da_cons (de_op opd_add (de_fld T.cl_Even T.na_shift (de_var 1)) (de_callB callD_len rfl T.mg_len (by decide +kernel) (da_cons (de_var 0) da_nil))) da_nil)) (da_cons (de_var 0) da_nil)) (de_meth M_shows_Uneven T.cl_Uneven (hr.mono (by decide)) (de_mkN MK_Even (hr.mono (by decide)) rfl (da_cons (de_op opd_add (de_fld T.cl_Even T.na_shift (de_var 1)) (de_callB callD_len rfl T.mg_len (by decide +kernel) (da_cons (de_var 0) da_nil))) da_nil)) (da_cons (de_var 0) da_nil)))))))))
      dss_nil)
    (dss_cons (ds_if (PW.pt (dw_or (dt_cmp opd_lt (de_own G_law_sum (hr.mono (by decide)) rfl (da_cons (de_var 0) (da_cons (de_fld T.cl_Uneven T.na_one (de_var 1)) (da_cons (de_fld T.cl_Uneven T.na_width (de_var 1)) da_nil)))) (de_op opd_add (de_own G_law_sum (hr.mono (by decide)) rfl (da_cons (de_var 0) (da_cons (de_fld T.cl_Uneven T.na_other (de_var 1)) (da_cons (de_fld T.cl_Uneven T.na_width (de_var 1)) da_nil)))) de_int)) (dw_or1 (dt_truth (de_eith (de_meth M_shows_Even T.cl_Even (hr.mono (by decide)) (de_mkN MK_Uneven (hr.mono (by decide)) rfl (da_cons (de_fld T.cl_Uneven T.na_other (de_var 1)) (da_cons (de_fld T.cl_Uneven T.na_one (de_var 1)) (da_cons (de_fld T.cl_Uneven T.na_width (de_var 1)) da_nil)))) (da_cons (de_var 0) da_nil)) (de_meth M_shows_Uneven T.cl_Uneven (hr.mono (by decide)) (de_mkN MK_Uneven (hr.mono (by decide)) rfl (da_cons (de_fld T.cl_Uneven T.na_other (de_var 1)) (da_cons (de_fld T.cl_Uneven T.na_one (de_var 1)) (da_cons (de_fld T.cl_Uneven T.na_width (de_var 1)) da_nil)))) (da_cons (de_var 0) da_nil))) (by intro _; rfl)))))
      (dss_one (ds_ret de_bl))
      dss_nil)
    (dss_one (ds_ret (de_andT (de_notT (de_callB (callD_any rfl) rfl T.mg_any (by decide +kernel) (da_cons (de_lc rfl sc_law_judged.nd (di_rng1 rfl T.mg_range (da_cons (de_callB callD_len rfl T.mg_len (by decide +kernel) (da_cons (de_var 0) da_nil)) da_nil)) (blkOk_by (own := [("shift", 4)]) (N := ["gaps", "told", "due", "at", "shift"]) (sc := defScope s_law_judged) (by decide +kernel)) (fun _ _ _ _ _ => (dg_name (i := 4) sc_law_judged.nd rfl (Or.inl rfl))) (fun _ _ _ _ _ => dts_nil) (fun _ _ _ _ _ => (de_eith (de_meth M_shows_Even T.cl_Even (hr.mono (by decide)) (de_mkN MK_Even (hr.mono (by decide)) rfl (da_cons (de_var 4) da_nil)) (da_cons (de_var 0) da_nil)) (de_meth M_shows_Uneven T.cl_Uneven (hr.mono (by decide)) (de_mkN MK_Even (hr.mono (by decide)) rfl (da_cons (de_var 4) da_nil)) (da_cons (de_var 0) da_nil))))) da_nil))) (de_one (de_notT (de_eith (de_meth M_shows_Even T.cl_Even (hr.mono (by decide)) (de_mkN MK_Uneven (hr.mono (by decide)) rfl (da_cons (de_fld T.cl_Uneven T.na_one (de_var 1)) (da_cons (de_fld T.cl_Uneven T.na_other (de_var 1)) (da_cons de_int da_nil)))) (da_cons (de_var 0) da_nil)) (de_meth M_shows_Uneven T.cl_Uneven (hr.mono (by decide)) (de_mkN MK_Uneven (hr.mono (by decide)) rfl (da_cons (de_fld T.cl_Uneven T.na_one (de_var 1)) (da_cons (de_fld T.cl_Uneven T.na_other (de_var 1)) (da_cons de_int da_nil)))) (da_cons (de_var 0) da_nil)))))))))))))
    (fun A ds Ψ h => by
      obtain ⟨g, rfl, hg, hs, h⟩ := h
      have hL : (g.map D.int).length = g.length := List.length_map _
      have h0 := sum_pos g hg.2
      refine ⟨g, rfl, hg, fun s hs' e => ?_, fun i j w hu => ?_⟩
      · have hev : X57.Even g := turn_even (by have := hg.1.1; omega) e
        refine gN_env (e' := [.dat (encG g), .dat (evenD cE (s : Nat)), .un, .un, .un]) rfl ?_
        refine .inl ⟨_, _, rfl, s, rfl, true, rfl, g, rfl, hg.1, fun _ => ?_, fun z => absurd hev z⟩
        refine ⟨rfl, rfl, _, rfl, iteEqX (c := false) (by decide +kernel) (iteF (.inl ⟨_, _, rfl, by decide +kernel, s, g, rfl, hg, _, rfl, iteEqX (c := false) (by rw [decide_eq_true e]; rfl) (iteF ?_)⟩))⟩
        refine ⟨_, rfl, .inl ⟨⟨_, _, rfl⟩, _, rfl, iteT ?_⟩⟩
        refine ⟨g, rfl, g.sum, g.length, by rw [← hL], ⟨h0, hs⟩, hg.1.1, hg.1.2, ?_⟩
        refine gN_env (e' := [.dat (encG g), .dat (evenD cE (s : Nat)), .dat (encG (X57.spr g.sum g.length)), .un, .un]) rfl ?_
        refine ⟨_, rfl, by rw [hL]; have := hg.1.2; omega, by rw [hL]; have := hg.1.2; omega, ?_⟩
        refine lc_map0 (α := Nat) (List.range g.length) (fun i => .int (i : Int)) (fun k => .int (X57.at' (X57.spr g.sum g.length) (s + k))) (by rw [hL]; exact rg_int g.length) (by rw [List.length_range]; have := hg.1.2; omega) (fun k hk J acc hJ => ?_) ?_
        · refine ⟨_, _, _, rfl, rfl, ?_⟩
          refine ⟨by show (0 : Int) < (((g.map D.int).length : Nat) : Int); rw [hL]; have := hg.1.1; omega, .int (X57.at' (X57.spr g.sum g.length) (s + k)), ?_, rfl, hJ⟩
          show atI _ (((s : Int) + (k : Int)) % (((g.map D.int).length : Nat) : Int)) = _
          rw [hL]
          exact at_spr (by have := hg.1.1; omega)
        · have el : (List.range g.length).map (fun k => D.int (X57.at' (X57.spr g.sum g.length) (s + k))) = g.map D.int := by
            conv => rhs; rw [← turned_list hs' e]
            rw [List.map_map]
            rfl
          rw [el]
          refine ⟨plG g, plG g, _, rfl, iteEqX (c := false) (by rw [show eqD (.lst (g.map D.int)) (encG g) = eqD (encG g) (encG g) from rfl, eqG]; simp) (iteF ?_)⟩
          refine .inr ⟨_, rfl, iteB (fun z => ?_) (fun z => ?_)⟩
          all_goals
            refine ⟨_, _, _, rfl, _, _, rfl, by decide +kernel, _, _, _, g, rfl, hg, _, rfl, _, rfl, iteEqX (c := true) (by rw [showU_even hev]; rfl) (iteT ?_)⟩
            refine .inl ⟨_, _, _, rfl, rfl, _, rfl, _, _, rfl, by decide +kernel, _, g, rfl, hg, ?_⟩
            have ed : decide (g = turnG g ((s : Int) + (((g.map D.int).length : Nat) : Int))) = true := by rw [hL, turn_add]; exact decide_eq_true e
            show Ψ (.bl (decide (g = turnG g ((s : Int) + (((g.map D.int).length : Nat) : Int)))))
            rw [ed]
            exact h
      · have hne : ¬ X57.Even g := hu.not_even
        have hw : w ≤ g.length := hu.2.1.2
        have hi : i < g.length := hu.1.1
        have hj : j < g.length := hu.1.2
        refine gN_env (e' := [.dat (encG g), .dat (unevenD cU i j w), .un, .un, .un]) rfl ?_
        refine .inr ⟨_, _, rfl, _, _, _, rfl, _, rfl, g, rfl, hg.1, fun z => absurd z hne, fun _ => ?_⟩
        refine ⟨rfl, rfl, _, rfl, iteEqX (c := false) (by decide +kernel) (iteF (.inr ⟨_, _, rfl, by decide +kernel, _, _, _, g, rfl, hg, _, rfl, iteEqX (c := false) (by rw [showU_un hu]; rfl) (iteF ?_)⟩))⟩
        refine ⟨_, rfl, .inr ⟨⟨_, _, rfl⟩, _, rfl, iteF ?_⟩⟩
        refine ⟨_, _, _, rfl, rfl, _, _, _, rfl, rfl, g, i, w, rfl, hg.1.2, by omega, hw, _, _, _, rfl, rfl, _, _, _, rfl, rfl, g, j, w, rfl, hg.1.2, by omega, hw, _, rfl, iteEqX (c := false) (decide_eq_false (by have := hu.2.2; omega)) (iteF ?_)⟩
        refine .inr ⟨_, _, _, rfl, rfl, _, _, _, rfl, rfl, _, _, _, rfl, rfl, _, _, _, rfl, _, _, rfl, by decide +kernel, _, _, _, g, rfl, hg, _, rfl, iteEqX (c := false) (showU_back hu) (iteF ?_)⟩
        refine ⟨_, rfl, by rw [hL]; have := hg.1.2; omega, by rw [hL]; have := hg.1.2; omega, ?_⟩
        refine lc_map0 (α := Nat) (List.range g.length) (fun i => .int (i : Int)) (fun _ => .bl false) (by rw [hL]; exact rg_int g.length) (by rw [List.length_range]; have := hg.1.2; omega) (fun k hk J acc hJ => ?_) ?_
        · refine .inl ⟨_, rfl, _, _, rfl, by decide +kernel, _, g, rfl, hg, ?_⟩
          rw [decide_eq_false (fun z => hne (turn_even (by have := hg.1.1; omega) z))]
          exact ⟨rfl, hJ⟩
        · refine ⟨(List.range g.length).map fun _ => false, by rw [List.map_map]; rfl, _, rfl, _, rfl, iteEqX (c := true) (by rw [show ((List.range g.length).map fun _ => false).any id = false from by rw [List.any_map, List.any_eq_false]; intro _ _ z; cases z]; rfl) (iteT ?_)⟩
          refine .inr ⟨_, _, _, rfl, rfl, _, _, _, rfl, rfl, _, _, _, rfl, _, _, rfl, by decide +kernel, _, _, _, g, rfl, hg, _, rfl, ?_⟩
          rw [showU_0]
          exact h)

end
end K57

namespace Dz
open PySem PySem.Spec PyProof.Rows L2
/-! ### two sorted arrangements of the same texts are one -/
theorem cps_trans : ∀ (a b c : List Nat), ltCps b a = false → ltCps c b = false → ltCps c a = false
  | [], _, [], _, _ => rfl
  | [], _, _ :: _, _, _ => rfl
  | x :: a, [], c, h1, _ => by simp [ltCps] at h1
  | x :: a, y :: b, [], _, h2 => by simp [ltCps] at h2
  | x :: a, y :: b, z :: c, h1, h2 => by
    simp only [ltCps, Bool.or_eq_false_iff, decide_eq_false_iff_not, Bool.and_eq_false_iff, beq_eq_false_iff_ne] at h1 h2 ⊢
    refine ⟨by omega, ?_⟩
    by_cases h : z = x
    · refine .inr ?_
      have e1 : y = x := by omega
      have e2 : z = y := by omega
      rcases h1.2 with q | q
      · exact absurd e1 q
      · rcases h2.2 with q' | q'
        · exact absurd e2 q'
        · exact cps_trans a b c q q'
    · exact .inl h
theorem cps_anti : ∀ (a b : List Nat), ltCps a b = false → ltCps b a = false → a = b
  | [], [], _, _ => rfl
  | [], _ :: _, h, _ => by simp [ltCps] at h
  | _ :: _, [], _, h => by simp [ltCps] at h
  | x :: a, y :: b, h1, h2 => by
    simp only [ltCps, Bool.or_eq_false_iff, decide_eq_false_iff_not, Bool.and_eq_false_iff, beq_eq_false_iff_ne] at h1 h2
    have e : x = y := by omega
    subst e
    rcases h1.2 with q | q
    · exact absurd rfl q
    · rcases h2.2 with q' | q'
      · exact absurd rfl q'
      · rw [cps_anti a b q q']
def leS (a b : Str) : Prop := ltCps b.cps.toList a.cps.toList = false
theorem leS_anti {a b : Str} (h1 : leS a b) (h2 : leS b a) : a = b := by
  have e := cps_anti _ _ h2 h1
  cases a; cases b
  simp only at e
  congr
  exact Array.toList_inj.mp e
theorem rising_pw : ∀ {l : List Str} {p : Str}, risingS p l = true → (p :: l).Pairwise leS
  | [], p, _ => List.pairwise_singleton _ _
  | x :: r, p, h => by
    have h : (!ltCps x.cps.toList p.cps.toList && risingS x r) = true := h
    rw [Bool.and_eq_true, Bool.not_eq_true'] at h
    have ih := rising_pw h.2
    refine List.pairwise_cons.mpr ⟨fun y hy => ?_, ih⟩
    rcases List.mem_cons.mp hy with e | hy
    · rw [e]; exact h.1
    · exact cps_trans _ _ _ h.1 ((List.pairwise_cons.mp ih).1 y hy)
theorem sorted_pw : ∀ {l : List Str}, sortedS l = true → l.Pairwise leS
  | [], _ => List.Pairwise.nil
  | _ :: _, h => rising_pw h
theorem pw_unique : ∀ {l m : List Str}, l.Perm m → l.Pairwise leS → m.Pairwise leS → l = m
  | [], m, p, _, _ => (List.Perm.nil_eq p)
  | x :: l, [], p, _, _ => absurd p.length_eq (by simp)
  | x :: l, y :: m, p, h1, h2 => by
    have e : x = y := by
      have hx : x ∈ y :: m := p.mem_iff.mp List.mem_cons_self
      have hy : y ∈ x :: l := p.mem_iff.mpr List.mem_cons_self
      rcases List.mem_cons.mp hx with e | hx
      · exact e
      · rcases List.mem_cons.mp hy with e | hy
        · exact e.symm
        · exact leS_anti ((List.pairwise_cons.mp h1).1 y hy) ((List.pairwise_cons.mp h2).1 x hx)
    subst e
    rw [pw_unique (List.Perm.cons_inv p) (List.pairwise_cons.mp h1).2 (List.pairwise_cons.mp h2).2]
theorem sorted_unique {l m n : List Str} (h1 : l.Perm n) (h2 : m.Perm n) (s1 : sortedS l = true) (s2 : sortedS m = true) : l = m := pw_unique (h1.trans h2.symm) (sorted_pw s1) (sorted_pw s2)
/-! ### equal to itself -/
mutual
theorem eqD_refl : ∀ (n : Nat) (d : D), plD n d = true → eqD d d = true
  | _, .non, _ => by unfold eqD; rfl
  | _, .bl b, _ => by unfold eqD; exact beq_self_eq_true b
  | _, .int b, _ => by unfold eqD; exact beq_self_eq_true b
  | _, .str b, _ => by unfold eqD; exact beq_self_eq_true b
  | n, .tup l, h => by
    obtain ⟨m, _, h⟩ := pl_tup h
    unfold eqD
    exact eqL_refl m l h
  | n, .lst l, h => by
    obtain ⟨m, _, h⟩ := pl_lst h
    unfold eqD
    exact eqL_refl m l h
  | n, .fro l, h => by
    obtain ⟨m, _, h⟩ := pl_fro h
    unfold eqD
    exact eqL_refl m l h
  | _, .dct _ _, h => by unfold plD at h; cases h
  | _, .ins _ _ _, h => by unfold plD at h; cases h
  | _, .tok _, h => by unfold plD at h; cases h
  | _, .ty _, h => by unfold plD at h; cases h
theorem eqL_refl : ∀ (n : Nat) (l : List D), plL n l = true → eqL l l = true
  | _, [], _ => by unfold eqL; rfl
  | n, x :: l, h => by
    unfold plL at h
    rw [Bool.and_eq_true] at h
    unfold eqL
    rw [eqD_refl n x h.1, eqL_refl n l h.2]; rfl
end
theorem plL_strs {n : Nat} : ∀ {zs : List Str}, (∀ z ∈ zs, PyData.strOk z = true) → plL n (zs.map D.str) = true
  | [], _ => by unfold plL; rfl
  | z :: r, h => by
    rw [List.map_cons]
    unfold plL plD
    rw [h z List.mem_cons_self, plL_strs fun y hy => h y (List.mem_cons_of_mem _ hy)]; rfl
theorem pl_lst_strs {n : Nat} {zs : List Str} (h : ∀ z ∈ zs, PyData.strOk z = true) : plD (n + 1) (.lst (zs.map D.str)) = true := by
  unfold plD
  exact plL_strs h
end Dz

namespace K57
open PySem PySem.Spec PyProof.Rows L2 Dz
def pd_law_shaped : PD := fun A ds Φ => ∃ (p : Addr) (ns : List Int), ds = [.tok p, kinds0] ∧ DrawIn A p ns ∧ Φ (.bl true)
def dueL (p c : Rw) (g : List Int) : List Rw := (g.map fun x => if 0 < x then List.replicate (x - 1).toNat p ++ [c] else []).flatten
theorem due_take (p c : Rw) {g : List Int} {k : Nat} {x : Int} (h : g[k]? = some x) : dueL p c (g.take (k + 1)) = dueL p c (g.take k) ++ (if 0 < x then List.replicate (x - 1).toNat p ++ [c] else []) := by
  unfold dueL
  rw [List.take_succ, h, List.map_append, List.flatten_append]
  show _ ++ (_ ++ []) = _
  rw [List.append_nil]
theorem due_len (p c : Rw) : ∀ g : List Int, (∀ x ∈ g, x ≤ 10) → (dueL p c g).length ≤ g.length * 20
  | [], _ => Nat.le_refl 0
  | x :: g, h => by
    have ih := due_len p c g fun y hy => h y (List.mem_cons_of_mem _ hy)
    unfold dueL at ih ⊢
    rw [List.map_cons, List.flatten_cons, List.length_append, List.length_cons, Nat.succ_mul]
    have hx := h x List.mem_cons_self
    have : (if 0 < x then List.replicate (x - 1).toNat p ++ [c] else []).length ≤ 20 := by
      split
      · rw [List.length_append, List.length_replicate]
        show _ + 1 ≤ 20
        omega
      · exact Nat.zero_le _
    omega
theorem all_app (a b : List Pt) : allRows (a ++ b) = allRows a ++ allRows b := by unfold allRows; rw [List.map_append, List.flatten_append]
theorem all_rep (p : Rw) : ∀ t : Nat, allRows (List.replicate t (.row p)) = List.replicate t p
  | 0 => rfl
  | t + 1 => by
    have := all_rep p t
    unfold allRows at this ⊢
    rw [List.replicate_succ, List.map_cons, List.flatten_cons, this, List.replicate_succ]
    rfl
theorem rep_flat (p : Rw) : ∀ t : Nat, (List.replicate t [p]).flatten = List.replicate t p
  | 0 => rfl
  | t + 1 => by rw [List.replicate_succ, List.flatten_cons, rep_flat p t, List.replicate_succ]; rfl
theorem all_plain (p : Rw) (t : Nat) : allRows (plainL p t) = List.replicate t p := by
  unfold plainL
  split
  · show (List.replicate (((t : Nat) : Int) + 0 * 5).toNat [p]).flatten ++ [] = _
    rw [List.append_nil, show (((t : Nat) : Int) + 0 * 5).toNat = t by omega]
    exact rep_flat p t
  · exact all_rep p t
theorem all_shape (p c : Rw) : ∀ g : List Int, allRows (shapeL p c g) = dueL p c g
  | [] => rfl
  | x :: g => by
    have ih := all_shape p c g
    have e1 : shapeL p c (x :: g) = (if 0 < x then plainL p (x - 1).toNat ++ [.row c] else []) ++ shapeL p c g := rfl
    have e2 : dueL p c (x :: g) = (if 0 < x then List.replicate (x - 1).toNat p ++ [c] else []) ++ dueL p c g := rfl
    rw [e1, e2, all_app, ih]
    congr 1
    split
    · rw [all_app, all_plain]; rfl
    · rfl
def isBlk : Pt → Bool
  | .row _ => false
  | .blk _ _ _ => true
theorem blk_rep (p : Rw) (t : Nat) : (List.replicate t (Pt.row p)).filter isBlk = [] := by
  rw [List.filter_eq_nil_iff]
  intro q hq
  rw [List.eq_of_mem_replicate hq]
  exact fun z => nomatch z
theorem blk_many (p c : Rw) : ∀ g : List Int, ((shapeL p c g).filter isBlk).length = (g.filter fun x => decide (3 ≤ x) && decide (tkw p.2.1 = mkw p.2.1)).length
  | [] => rfl
  | x :: g => by
    have ih := blk_many p c g
    have e1 : shapeL p c (x :: g) = (if 0 < x then plainL p (x - 1).toNat ++ [.row c] else []) ++ shapeL p c g := rfl
    rw [e1, List.filter_append, List.length_append, ih, List.filter_cons]
    by_cases h0 : 0 < x
    · rw [if_pos h0, List.filter_append]
      have ec : [Pt.row c].filter isBlk = [] := rfl
      rw [ec, List.append_nil]
      unfold plainL
      by_cases h1 : 1 < (x - 1).toNat ∧ tkw p.2.1 = mkw p.2.1
      · rw [if_pos h1, decide_eq_true h1.2, decide_eq_true (show 3 ≤ x by have := h1.1; omega), if_pos (show (true && true) = true from rfl)]
        show 1 + _ = _ + 1
        omega
      · rw [if_neg h1, blk_rep]
        by_cases h2 : 3 ≤ x
        · have h3 : ¬ tkw p.2.1 = mkw p.2.1 := fun z => h1 ⟨by omega, z⟩
          rw [decide_eq_false h3, Bool.and_false, if_neg (fun z => nomatch z)]
          simp
        · rw [decide_eq_false h2, Bool.false_and, if_neg (fun z => nomatch z)]
          simp
    · rw [if_neg h0, decide_eq_false (show ¬ 3 ≤ x by omega), Bool.false_and, if_neg (fun z => nomatch z)]
      simp
def CS (w : Wd) : Prop := ∀ c ∈ w, PyData.strOk c.1 = true ∧ PyData.strOk c.2 = true
def RS (r : Rw) : Prop := CS r.1 ∧ CS r.2.1 ∧ CS r.2.2
theorem plC (n : Nat) {c : Str × Str} (h : PyData.strOk c.1 = true ∧ PyData.strOk c.2 = true) : plD (n + 2) (encC c) = true := by unfold encC; simp [plD, plL, h.1, h.2]
theorem plW (n : Nat) {w : Wd} (h : CS w) : plD (n + 3) (encW w) = true := by
  have := plL_map (n := n + 2) (f := encC) w fun c hc => plC n (h c hc)
  unfold encW
  unfold plD
  exact this
theorem plR (n : Nat) {r : Rw} (h : RS r) : plD (n + 4) (encR r) = true := by
  unfold encR
  unfold plD
  show plL (n + 3) [encW r.1, encW r.2.1, encW r.2.2] = true
  simp [plL, plW _ h.1, plW _ h.2.1, plW _ h.2.2]
theorem plRs (n : Nat) {rs : List Rw} (h : ∀ r ∈ rs, RS r) : plD (n + 5) (.lst (rs.map encR)) = true := by
  have := plL_map (n := n + 4) (f := encR) rs fun r hr => plR n (h r hr)
  unfold plD
  exact this
theorem plRt (n : Nat) {rs : List Rw} (h : ∀ r ∈ rs, RS r) : plD (n + 5) (.tup (rs.map encR)) = true := by
  have := plL_map (n := n + 4) (f := encR) rs fun r hr => plR n (h r hr)
  unfold plD
  exact this
theorem kindsE_s : kindsE.all PyData.strOk = true := by decide +kernel
theorem onesL_s : onesL.all (fun g => g.all PyData.strOk) = true := by decide +kernel
theorem WordE.cs {y : Str} {w : Wd} (hy : PyData.strOk y = true) (h : WordE y w) : CS w := fun c hc => ⟨List.all_eq_true.mp kindsE_s _ (h.2 c hc).1, by rw [(h.2 c hc).2]; exact hy⟩
theorem EasyR.rs {y : Str} {r : Rw} (hy : PyData.strOk y = true) (h : EasyR y r) : RS r := by
  obtain ⟨h1, ⟨g, hg, e⟩, h3⟩ := h
  refine ⟨h1.cs hy, fun c hc => ?_, h3.cs hy⟩
  rw [e] at hc
  obtain ⟨z, hz, rfl⟩ := List.mem_map.mp hc
  exact ⟨List.all_eq_true.mp (List.all_eq_true.mp onesL_s g hg) z hz, hy⟩
theorem TogR.rs {y : Str} {r : Rw} (hy : PyData.strOk y = true) (h : TogR y r) : RS r := by
  obtain ⟨h1, e, h3⟩ := h
  refine ⟨h1.cs hy, fun c hc => ?_, h3.cs hy⟩
  rw [e, List.mem_singleton] at hc
  rw [hc]
  exact ⟨(by decide +kernel : PyData.strOk "k2tog" = true), hy⟩
theorem due_mem {p c : Rw} {g : List Int} {r : Rw} (h : r ∈ dueL p c g) : r = p ∨ r = c := by
  unfold dueL at h
  obtain ⟨l, hl, hr⟩ := List.mem_flatten.mp h
  obtain ⟨x, _, rfl⟩ := List.mem_map.mp hl
  split at hr
  · rcases List.mem_append.mp hr with z | z
    · exact .inl (List.eq_of_mem_replicate z)
    · exact .inr (List.mem_singleton.mp z)
  · cases hr
def togD : D := .tup [.tup [.str "k2tog", .str "a"]]
theorem ones_no : onesL.all (fun g => !eqD (encW (g.map fun z => (z, ("a" : Str)))) togD) = true := by decide +kernel
theorem tog_ne {r : Rw} (h : EasyR "a" r) : eqD (encW r.2.1) togD = false := by
  obtain ⟨_, ⟨g, hg, e⟩, _⟩ := h
  have := List.all_eq_true.mp ones_no g hg
  rw [e]
  simpa using this
theorem acc_ints : ∀ acc : List D, (∀ d ∈ acc, ∃ x : Int, d = .int x ∧ 0 ≤ x ∧ x ≤ 4) → ∃ g : List Int, acc = g.map D.int ∧ ∀ x ∈ g, 0 ≤ x ∧ x ≤ 4
  | [], _ => ⟨[], rfl, fun c hc => nomatch hc⟩
  | d :: acc, h => by
    obtain ⟨w, e, hw⟩ := acc_ints acc fun x hx => h x (List.mem_cons_of_mem _ hx)
    obtain ⟨c, ec, h1⟩ := h d List.mem_cons_self
    exact ⟨c :: w, by rw [List.map_cons, ← e, ec], fun x hx => by rcases List.mem_cons.mp hx with r | r; { rw [r]; exact h1 }; { exact hw x r }⟩
theorem shape_sm {p c : Rw} {g : List Int} (h : ∀ x ∈ g, x ≤ 4) {q : Pt} (hq : q ∈ shapeL p c g) : PtSm q := by
  rcases shape_mem hq with rfl | rfl | ⟨_, x, hx, h1, rfl⟩
  · trivial
  · trivial
  · have := h x hx
    exact ⟨⟨by omega, by omega⟩, ⟨by decide, by decide⟩, by show 1 ≤ 10; decide⟩
theorem shape_blk {p c : Rw} {g : List Int} {q : Pt} (hq : q ∈ (shapeL p c g).filter isBlk) : ∃ t : Nat, 1 < t ∧ q = .blk t 0 [p] := by
  obtain ⟨h1, h2⟩ := List.mem_filter.mp hq
  rcases shape_mem h1 with rfl | rfl | ⟨_, x, hx, h3, rfl⟩
  · cases h2
  · cases h2
  · exact ⟨_, h3, rfl⟩
section
variable {P : Program} {w : World} {K : PySem.W.Frag} {mg : Str → Option Value} {base : Heap} {kd cP cE cU cG : Addr}
abbrev s_law_shaped : Stmt := topS 77
theorem sc_law_shaped : FnScope ["draw", "kinds", "plain", "change", "gaps", "piece", "due", "gap", "even", "blocks", "part", "turn"] ["draw", "kinds"] (defScope s_law_shaped) := ⟨rfl, rfl, rfl, by decide +kernel, rfl, by decide +kernel, by decide +kernel⟩
theorem ok_law_shaped {f : Addr} {fd : FuncData} (F : Fun K "_law_shaped" "_law_shaped" s_law_shaped f fd) (T : TxtY w K mg kd cP cE cU) (G_law_take : Own P w K mg base "_law_take" 2 ["draw", "many"] pdTake) (G_law_easy_row : Own P w K mg base "_law_easy_row" 6 ["draw", "yarns"] pd_law_easy_row) (G_shaped : Own P w K mg base "shaped" 10 ["way", "cast", "plain", "change", "gaps"] (pd_shaped cP)) (G_law_takes : Own P w K mg base "_law_takes" 1 ["word", "kinds"] pd_law_takes) (G_law_makes : Own P w K mg base "_law_makes" 1 ["word", "kinds"] pd_law_makes) (G_law_all_rows : Own P w K mg base "_law_all_rows" 1 ["parts", "size"] pd_law_all_rows) : FnOk P w K mg base CX0 11 f fd ["draw", "kinds"] (spD K pd_law_shaped) :=
  fn_dz F sc_law_shaped (fun A ds Ψ h => by
      obtain ⟨p, ns, rfl, _⟩ := h; rfl) (fun A cdv Ar outer s H E hr =>
    (dss_cons (ds_asg (vs := [0, 1, 2, 3, 4, 5, 6, 7, 8, 9, 10, 11]) (de_tup (da_cons (de_own G_law_easy_row (hr.mono (by decide)) rfl (da_cons (de_var 0) (da_cons (de_lst (da_cons de_str da_nil)) da_nil))) (da_cons (de_own G_law_easy_row (hr.mono (by decide)) rfl (da_cons (de_var 0) (da_cons (de_lst (da_cons de_str da_nil)) da_nil))) da_nil))) (dg_tup (n := 2) rfl (dgs_cons (dg_name (i := 2) sc_law_shaped.nd rfl (Or.inr rfl)) (dgs_cons (dg_name (i := 3) sc_law_shaped.nd rfl (Or.inl rfl)) dgs_nil))))
    (dss_cons (ds_if (dt_cmp (opd_eq hr.units) (de_own G_law_take (hr.mono (by decide)) rfl (da_cons (de_var 0) (da_cons de_int da_nil))) de_int)
      (dss_one (ds_asg (vs := [0, 1, 2, 3, 4, 5, 6, 7, 8, 9, 10, 11]) (de_tup (da_cons (de_ix (ixd hr.units) (de_var 2) de_int) (da_cons (de_tup (da_cons (de_tup (da_cons de_str (da_cons de_str da_nil))) da_nil)) (da_cons (de_ix (ixd hr.units) (de_var 2) de_int) da_nil)))) (dg_name (i := 2) sc_law_shaped.nd rfl (Or.inr rfl))))
      dss_nil)
    (dss_cons (ds_asg (vs := [0, 1, 2, 3, 4, 5, 6, 7, 8, 9, 10, 11]) (de_if (dt_cmp (opd_ne hr.units) (de_ix (ixd hr.units) (de_var 2) de_int) (de_tup (da_cons (de_tup (da_cons de_str (da_cons de_str da_nil))) da_nil))) (de_lc rfl sc_law_shaped.nd (di_rng1 rfl T.mg_range (da_cons (de_op opd_add de_int (de_own G_law_take (hr.mono (by decide)) rfl (da_cons (de_var 0) (da_cons de_int da_nil)))) da_nil)) (blkOk_by (own := [("turn", 11)]) (N := ["draw", "kinds", "plain", "change", "gaps", "piece", "due", "gap", "even", "blocks", "part", "turn"]) (sc := defScope s_law_shaped) (by decide +kernel)) (fun _ _ _ _ _ => (dg_name (i := 11) sc_law_shaped.nd rfl (Or.inl rfl))) (fun _ _ _ _ _ => dts_nil) (fun _ _ _ _ _ => (de_own G_law_take (hr.mono (by decide)) rfl (da_cons (de_var 0) (da_cons de_int da_nil))))) (de_lst (da_cons (de_own G_law_take (hr.mono (by decide)) rfl (da_cons (de_var 0) (da_cons de_int da_nil))) da_nil))) (dg_name (i := 4) sc_law_shaped.nd rfl (Or.inl rfl)))
    (dss_cons (ds_asg (vs := [0, 1, 2, 3, 4, 5, 6, 7, 8, 9, 10, 11]) (de_own G_shaped (hr.mono (by decide)) rfl (da_cons de_str (da_cons (de_tup (da_cons de_int (da_cons de_int da_nil))) (da_cons (de_var 2) (da_cons (de_var 3) (da_cons (de_var 4) da_nil)))))) (dg_name (i := 5) sc_law_shaped.nd rfl (Or.inl rfl)))
    (dss_cons (ds_asg (vs := [0, 1, 2, 3, 4, 5, 6, 7, 8, 9, 10, 11]) (de_lst da_nil) (dg_name (i := 6) sc_law_shaped.nd rfl (Or.inl rfl)))
    (dss_cons (ds_for (vs := [0, 1, 2, 3, 4, 5, 6, 7, 8, 9, 10, 11]) PassesOwn.never rfl (di_seq (de_var 4)) (dg_name (i := 7) sc_law_shaped.nd rfl (Or.inl rfl))
      (dss_one (ds_asg (vs := [0, 1, 2, 3, 4, 5, 6, 7, 8, 9, 10, 11]) (de_op opd_add (de_var 6) (de_if (dt_cmp opd_gt (de_var 7) de_int) (de_op opd_add (de_op opd_mulT (de_lst (da_cons (de_var 2) da_nil)) (de_op opd_sub (de_var 7) de_int)) (de_lst (da_cons (de_var 3) da_nil))) (de_lst da_nil))) (dg_name (i := 6) sc_law_shaped.nd rfl (Or.inl rfl)))))
    (dss_cons (ds_asg (vs := [0, 1, 2, 3, 4, 5, 6, 7, 8, 9, 10, 11]) (de_cmp (opd_eq hr.units) (de_own G_law_takes (hr.mono (by decide)) rfl (da_cons (de_ix (ixd hr.units) (de_var 2) de_int) (da_cons (de_var 1) da_nil))) (de_own G_law_makes (hr.mono (by decide)) rfl (da_cons (de_ix (ixd hr.units) (de_var 2) de_int) (da_cons (de_var 1) da_nil)))) (dg_name (i := 8) sc_law_shaped.nd rfl (Or.inr rfl)))
    (dss_cons (ds_setLc (i := 9) rfl sc_law_shaped.nd rfl rfl (sw_true rfl rfl rfl (by decide +kernel)) (di_seq (de_fld T.cl_Piece T.na_parts (de_var 5))) (blkOk_by (own := [("part", 10)]) (N := ["draw", "kinds", "plain", "change", "gaps", "piece", "due", "gap", "even", "blocks", "part", "turn"]) (sc := defScope s_law_shaped) (by decide +kernel)) (fun _ _ _ _ _ => (dg_name (i := 10) sc_law_shaped.nd rfl (Or.inl rfl))) (fun _ _ _ _ _ => (dts_one (dt_cmp (opd_eq hr.units) (de_ix (ixd hr.units) (de_var 10) de_int) de_str))) (fun _ _ _ _ _ => (de_var 10)))
    (dss_cons (ds_if (PW.pt (dw_or (dt_cmp (opd_ne hr.units) (de_callB callD_len rfl T.mg_len (by decide +kernel) (da_cons (de_var 9) da_nil)) (de_callB callD_len rfl T.mg_len (by decide +kernel) (da_cons (de_lc rfl sc_law_shaped.nd (di_seq (de_var 4)) (blkOk_by (own := [("gap", 7)]) (N := ["draw", "kinds", "plain", "change", "gaps", "piece", "due", "gap", "even", "blocks", "part", "turn"]) (sc := defScope s_law_shaped) (by decide +kernel)) (fun _ _ _ _ _ => (dg_name (i := 7) sc_law_shaped.nd rfl (Or.inl rfl))) (fun _ _ _ _ _ => (dts_one (PW.pt (dw_and (dt_cmp opd_ge (de_var 7) de_int) (dw_and1 (dt_truth (de_var 8) (by intro _; rfl))))))) (fun _ _ _ _ _ => (de_var 7))) da_nil))) (dw_or1 (dt_cmp (opd_ne hr.units) (de_tup (da_cons (de_fld T.cl_Piece T.na_way (de_var 5)) (da_cons (de_fld T.cl_Piece T.na_cast (de_var 5)) da_nil))) (de_tup (da_cons de_str (da_cons (de_tup (da_cons de_int (da_cons de_int da_nil))) da_nil)))))))
      (dss_one (ds_ret de_bl))
      dss_nil)
    (dss_one (ds_ret (de_andT (de_cmp (opd_eq hr.units) (de_own G_law_all_rows (hr.mono (by decide)) rfl (da_cons (de_fld T.cl_Piece T.na_parts (de_var 5)) (da_cons de_int da_nil))) (de_var 6)) (de_one (de_callB (callD_all rfl) rfl T.mg_all (by decide +kernel) (da_cons (de_lc rfl sc_law_shaped.nd (di_seq (de_var 9)) (blkOk_by (own := [("part", 10)]) (N := ["draw", "kinds", "plain", "change", "gaps", "piece", "due", "gap", "even", "blocks", "part", "turn"]) (sc := defScope s_law_shaped) (by decide +kernel)) (fun _ _ _ _ _ => (dg_name (i := 10) sc_law_shaped.nd rfl (Or.inl rfl))) (fun _ _ _ _ _ => dts_nil) (fun _ _ _ _ _ => (de_andT (de_cmp (opd_eq hr.units) (de_ix (ixd hr.units) (de_var 10) de_int) (de_tup (da_cons (de_var 2) da_nil))) (de_one (de_cmp opd_ge (de_ix (ixd hr.units) (de_ix (ixd hr.units) (de_var 10) de_int) de_int) de_int))))) da_nil))))))))))))))))
    (fun A ds Ψ h => by
      obtain ⟨pd, ns, rfl, hd, h⟩ := h
      have lee : ∀ n : Nat, n ≤ 7 → n ≤ 100000 := fun l z => Nat.le_trans z (by decide)
      refine ⟨Nat.le_of_ble_eq_true rfl, pd, ns, "a", rfl, hd, fun r1 h1 => ⟨Nat.le_of_ble_eq_true rfl, pd, ns, "b", rfl, hd, fun c hc => ⟨Nat.le_of_ble_eq_true rfl, rfl, rfl, ?_⟩⟩⟩
      have hcl := hc.law (by decide +kernel)
      dsimp only
      refine envEq (fs := fSeq _ _) (e' := [.dat (.tok pd), .dat kinds0, .dat (encR r1), .dat (encR c), .un, .un, .un, .un, .un, .un, .un, .un]) rfl ?_
      refine seqAny (fun e => ∃ p : Rw, (EasyR "a" p ∨ TogR "a" p) ∧ e = [.dat (.tok pd), .dat kinds0, .dat (encR p), .dat (encR c), .un, .un, .un, .un, .un, .un, .un, .un]) (fun Ψ k => ?_) ?_
      · refine ⟨pd, ns, 4, rfl, hd, by decide, fun r h0 h4 => ⟨rfl, rfl, _, rfl, iteB (fun z => ?_) (fun z => ?_)⟩⟩
        · refine ⟨_, rfl, Nat.le_of_ble_eq_true rfl, Nat.le_of_ble_eq_true rfl, _, rfl, Nat.le_of_ble_eq_true rfl, ?_⟩
          exact k _ ⟨(r1.1, [("k2tog", "a")], r1.2.2), .inr ⟨h1.1, rfl, h1.2.2⟩, rfl⟩
        · exact k _ ⟨r1, .inl h1, rfl⟩
      rintro e ⟨p, hp, rfl⟩
      have hpl : LawR p := by
        rcases hp with q | q
        · exact (q.law (by decide +kernel)).1
        · exact (q.law (by decide +kernel)).1
      have hps : RS p := by
        rcases hp with q | q
        · exact q.rs (by decide +kernel)
        · exact q.rs (by decide +kernel)
      have hcs : RS c := hc.rs (by decide +kernel)
      refine seqAny (fun e => ∃ g : List Int, ShOk p g ∧ e = [.dat (.tok pd), .dat kinds0, .dat (encR p), .dat (encR c), .dat (encG g), .un, .un, .un, .un, .un, .un, .un]) (fun Ψ k => ?_) ?_
      · refine ⟨_, rfl, Nat.le_of_ble_eq_true rfl, Nat.le_of_ble_eq_true rfl, plW 9 hps.2.1, by decide +kernel, _, rfl, ?_⟩
        rcases hp with q | q
        · refine iteEqX (c := true) (by rw [show eqD (encW p.2.1) (.tup [.tup [.str "k2tog", .str "a"]]) = false from tog_ne q]; rfl) (iteT ?_)
          refine ⟨pd, ns, 4, rfl, hd, by decide, fun r h0 h4 => ⟨_, rfl, by omega, by omega, ?_⟩⟩
          refine lc_any0 (fun d => ∃ x : Int, d = .int x ∧ 0 ≤ x ∧ x ≤ 4) (by rw [rngD_len]; omega) (fun x hx J acc hJ => ?_) (fun acc hl ha => ?_)
          · exact ⟨pd, ns, 5, rfl, hd, by decide, fun r h0 h5 => ⟨rfl, hJ _ ⟨r, rfl, h0, by omega⟩⟩⟩
          · obtain ⟨g, rfl, hg⟩ := acc_ints acc ha
            rw [List.length_map, rngD_len] at hl
            exact k _ ⟨g, .inl ⟨(q.law (by decide +kernel)).2, ⟨by omega, by omega⟩, hg⟩, rfl⟩
        · refine iteEqX (c := false) (by rw [q.2.1]; decide +kernel) (iteF ?_)
          exact ⟨pd, ns, 4, rfl, hd, by decide, fun r h0 h4 => ⟨Nat.le_of_ble_eq_true rfl, k _ ⟨[r], .inr ⟨(q.law (by decide +kernel)).2, r, rfl, h0, by omega⟩, rfl⟩⟩⟩
      rintro e ⟨g, hg, rfl⟩
      have hgl := hg.le
      have hpo := piece_ok hpl hcl hg
      refine ⟨Nat.le_of_ble_eq_true rfl, p, c, g, rfl, ⟨hpl.ok, hpl.row⟩, ⟨hcl.1.ok, hcl.1.row⟩, hgl.1, fun x hx => by have := hgl.2 x hx; omega, hpo, ?_⟩
      refine gN_env (e' := [.dat (.tok pd), .dat kinds0, .dat (encR p), .dat (encR c), .dat (encG g), .dat (pieceD cP "flat" 9 2 (shapeL p c g)), .un, .un, .un, .un, .un, .un]) rfl ?_
      refine ⟨Nat.zero_le _, ?_⟩
      refine gN_env (e' := [.dat (.tok pd), .dat kinds0, .dat (encR p), .dat (encR c), .dat (encG g), .dat (pieceD cP "flat" 9 2 (shapeL p c g)), .dat (.lst []), .un, .un, .un, .un, .un]) rfl ?_
      dsimp only
      refine seqAny (fun e => ∃ x, e = [.dat (.tok pd), .dat kinds0, .dat (encR p), .dat (encR c), .dat (encG g), .dat (pieceD cP "flat" 9 2 (shapeL p c g)), .dat (.lst ((dueL p c g).map encR)), x, .un, .un, .un, .un]) (fun Ψ k => ?_) ?_
      · refine ⟨_, rfl, fun k e => ∃ x, e = [.dat (.tok pd), .dat kinds0, .dat (encR p), .dat (encR c), .dat (encG g), .dat (pieceD cP "flat" 9 2 (shapeL p c g)), .dat (.lst ((dueL p c (g.take k)).map encR)), x, .un, .un, .un, .un], ⟨.un, by rw [List.take_zero]; rfl⟩, ?_, ?_⟩
        · rintro k x e hx' ⟨y, rfl⟩
          rw [List.getElem?_map] at hx'
          obtain ⟨v, hv, rfl⟩ : ∃ v, g[k]? = some v ∧ D.int v = x := by
            cases hq : g[k]? with
            | none => rw [hq] at hx'; cases hx'
            | some p => rw [hq] at hx'; exact ⟨p, rfl, Option.some.inj hx'⟩
          have hv4 := hgl.2 v (List.mem_of_getElem? hv)
          have hl : (dueL p c (g.take k)).length ≤ 1200 := by
            have := due_len p c (g.take k) fun y hy => by have := hgl.2 y (List.mem_of_mem_take hy); omega
            have h2 : (g.take k).length ≤ g.length := by rw [List.length_take]; omega
            have := hgl.1.1.2
            omega
          have e2 := due_take p c hv
          refine gN_env (e' := [.dat (.tok pd), .dat kinds0, .dat (encR p), .dat (encR c), .dat (encG g), .dat (pieceD cP "flat" 9 2 (shapeL p c g)), .dat (.lst ((dueL p c (g.take k)).map encR)), .dat (.int v), .un, .un, .un, .un]) rfl ?_
          refine ⟨_, rfl, iteB (fun z => ?_) (fun z => ?_)⟩
          · have z : 0 < v := of_decide_eq_true z
            obtain ⟨t, ht⟩ : ∃ t : Nat, v - 1 = t := Int.eq_ofNat_of_zero_le (by omega)
            rw [if_pos z, ht, Int.toNat_natCast] at e2
            have er : (List.replicate (v - 1).toNat [encR p]).flatten = (List.replicate t p).map encR := by
              rw [ht, Int.toNat_natCast, ← rep_flat p t, map_flat]
              rfl
            have hel : ((List.replicate t p).map encR).length = t := by rw [List.length_map, List.length_replicate]
            refine ⟨Nat.le_of_ble_eq_true rfl, .inr ⟨by omega, by omega, by show 1 * _ ≤ 100000; omega, Nat.le_of_ble_eq_true rfl, ?_⟩⟩
            rw [er]
            refine ⟨by rw [hel]; show t + 1 ≤ 100000; omega, by rw [List.length_append, hel, List.length_map]; show _ + (t + 1) ≤ 100000; omega, .dat (.int v), ?_⟩
            rw [e2, List.map_append, List.map_append]
            rfl
          · have z : ¬ 0 < v := of_decide_eq_false z
            rw [if_neg z, List.append_nil] at e2
            refine ⟨Nat.zero_le _, by rw [List.length_map]; show _ + 0 ≤ 100000; omega, .dat (.int v), ?_⟩
            rw [e2, List.append_nil]
            rfl
        · rintro e ⟨y, rfl⟩
          rw [List.length_map, List.take_length]
          exact k _ ⟨_, rfl⟩
      rintro e ⟨x, rfl⟩
      refine ⟨_, rfl, p.2.1, hpl.ok.good.2.1, rfl, _, rfl, p.2.1, hpl.ok.good.2.1, rfl, rfl, rfl, ?_⟩
      obtain ⟨ev, hev⟩ : ∃ ev : Bool, ev = decide (tkw p.2.1 = mkw p.2.1) := ⟨_, rfl⟩
      have eev : eqD (.int (tkW p.2.1)) (.int (mkW p.2.1)) = ev := by
        rw [eqD_ii, tkW_n, mkW_n, hev]
        by_cases z : tkw p.2.1 = mkw p.2.1
        · rw [z]; simp
        · rw [decide_eq_false z, beq_eq_false_iff_ne]
          exact fun q => z (by omega)
      refine gN_env (e' := [.dat (.tok pd), .dat kinds0, .dat (encR p), .dat (encR c), .dat (encG g), .dat (pieceD cP "flat" 9 2 (shapeL p c g)), .dat (.lst ((dueL p c g).map encR)), x, .dat (.bl ev), .un, .un, .un]) (by rw [← eev]; rfl) ?_
      refine ⟨_, _, _, rfl, rfl, _, rfl, ?_⟩
      have hps40 : (shapeL p c g).length ≤ 40 := hpo.few
      refine lc_filter (α := Pt) (shapeL p c g) encP encP isBlk rfl (by omega) (fun q hq J acc ht hf => ?_) ?_
      · cases q with
        | row r => exact ⟨_, rfl, by decide +kernel, by decide +kernel, _, rfl, iteEqX (c := false) (by decide +kernel) (iteF ⟨rfl, hf rfl⟩)⟩
        | blk b e rs => exact ⟨_, rfl, by decide +kernel, by decide +kernel, _, rfl, iteEqX (c := true) (by decide +kernel) (iteT ⟨rfl, ht rfl⟩)⟩
      refine gN_env (e' := [.dat (.tok pd), .dat kinds0, .dat (encR p), .dat (encR c), .dat (encG g), .dat (pieceD cP "flat" 9 2 (shapeL p c g)), .dat (.lst ((dueL p c g).map encR)), x, .dat (.bl ev), .dat (.lst (((shapeL p c g).filter isBlk).map encP)), .un, .un]) rfl ?_
      refine ⟨_, rfl, ?_⟩
      refine lc_filter (α := Int) g D.int D.int (fun x => decide (3 ≤ x) && ev) rfl (by have := hgl.1.1.2; omega) (fun v hv J acc ht hf => ?_) ?_
      · refine ⟨_, rfl, iteB (fun z => ⟨_, rfl, iteB (fun z2 => ⟨rfl, ht (by rw [z, z2]; rfl)⟩) (fun z2 => ⟨rfl, hf (by rw [z, z2]; rfl)⟩)⟩) (fun z => iteF ⟨rfl, hf (by rw [z]; rfl)⟩)⟩
      have em : ((((shapeL p c g).filter isBlk).map encP).length : Int) = (((g.filter fun x => decide (3 ≤ x) && ev).map D.int).length : Int) := by
        rw [List.length_map, List.length_map, blk_many, hev]
      refine ⟨rfl, rfl, _, rfl, iteEqX (c := false) (by rw [em, eqD_ii]; simp) (iteF ?_)⟩
      refine ⟨_, _, _, rfl, rfl, _, _, _, rfl, rfl, Nat.le_of_ble_eq_true rfl, Nat.le_of_ble_eq_true rfl, Nat.le_of_ble_eq_true rfl, by decide +kernel, by decide +kernel, _, rfl, iteEqX (c := false) (by decide +kernel) (iteF ?_)⟩
      refine ⟨_, _, _, rfl, rfl, shapeL p c g, rfl, hps40, fun q hq => shape_sm hgl.2 hq, ?_⟩
      rw [all_shape]
      have pl : plD 12 (.lst ((dueL p c g).map encR)) = true := plRs 7 fun r hr => by
        rcases due_mem hr with e | e
        · rw [e]; exact hps
        · rw [e]; exact hcs
      refine ⟨pl, pl, _, rfl, iteEqX (c := true) (eqD_refl 12 _ pl) (iteT ?_)⟩
      refine ⟨_, rfl, ?_⟩
      refine lc_map0 (α := Pt) ((shapeL p c g).filter isBlk) encP (fun _ => .bl true) rfl (by have := List.length_filter_le isBlk (shapeL p c g); omega) (fun q hq J acc hJ => ?_) ?_
      · obtain ⟨t, ht, rfl⟩ := shape_blk hq
        have pl1 : plD 12 (.tup [encR p]) = true := plRt 7 (rs := [p]) fun r hr => by rw [List.mem_singleton.mp hr]; exact hps
        refine ⟨_, rfl, Nat.le_of_ble_eq_true rfl, pl1, pl1, _, rfl, iteEqX (c := true) (eqD_refl 12 _ pl1) (iteT ?_)⟩
        refine ⟨_, rfl, _, rfl, rfl, ?_⟩
        show J (acc ++ [.bl (decide ((2 : Int) ≤ (t : Int)))])
        rw [decide_eq_true (by omega)]
        exact hJ
      · refine ⟨((shapeL p c g).filter isBlk).map fun _ => true, by rw [List.map_map]; rfl, ?_⟩
        rw [show (((shapeL p c g).filter isBlk).map fun _ => true).all id = true from by rw [List.all_map, List.all_eq_true]; intro _ _; rfl]
        exact h)

end
end K57

namespace K57
open PySem PySem.Spec PyProof.Rows L2 Dz
/-! ### sums and members -/
theorem mem_le_sum : ∀ g : List Int, (∀ x ∈ g, 0 ≤ x) → ∀ x ∈ g, x ≤ g.sum
  | [], _, x, hx => nomatch hx
  | y :: g, h, x, hx => by
    have h0 : 0 ≤ g.sum := by
      clear hx
      induction g with
      | nil => simp
      | cons z g ih =>
        rw [List.sum_cons]
        have := h z (List.mem_cons_of_mem _ List.mem_cons_self)
        have := ih fun t ht => h t (by rcases List.mem_cons.mp ht with r | r; { rw [r]; exact List.mem_cons_self }; { exact List.mem_cons_of_mem _ (List.mem_cons_of_mem _ r) })
        omega
    rw [List.sum_cons]
    rcases List.mem_cons.mp hx with r | r
    · omega
    · have := mem_le_sum g (fun t ht => h t (List.mem_cons_of_mem _ ht)) x r
      have := h y List.mem_cons_self
      omega
theorem gaps_of {g : List Int} (hl : 1 ≤ g.length ∧ g.length ≤ 60) (h : ∀ x ∈ g, 0 ≤ x) (hs : g.sum ≤ 10000) : GapsOk g := ⟨hl, fun x hx => ⟨h x hx, by have := mem_le_sum g h x hx; omega⟩⟩
theorem spr_nn {T : Int} {n : Nat} (hT : 0 ≤ T) (hn : 1 ≤ n) : ∀ x ∈ X57.spr T n, 0 ≤ x := fun x hx => by
  unfold X57.spr at hx
  obtain ⟨k, _, rfl⟩ := List.mem_map.mp hx
  have : (k : Int) * T / n ≤ ((k : Int) + 1) * T / n := Int.ediv_le_ediv (by omega) (by rw [Int.add_mul]; omega)
  omega
theorem gaps_spr {T : Int} {n : Nat} (hT : 0 ≤ T ∧ T ≤ 10000) (hn : 1 ≤ n ∧ n ≤ 60) : GapsOk (X57.spr T n) := gaps_of (by rw [X57.spr_len]; exact hn) (spr_nn hT.1 hn.1) (by rw [X57.spr_sum (by omega)]; exact hT.2)
theorem rot_nn {l : List Int} {s : Nat} (h : ∀ x ∈ l, 0 ≤ x) : ∀ x ∈ X57.rot l s, 0 ≤ x := fun x hx => by
  unfold X57.rot at hx
  rcases List.mem_append.mp hx with r | r
  · exact h x (List.mem_of_mem_drop r)
  · exact h x (List.mem_of_mem_take r)
theorem sum_set : ∀ (l : List Int) (i : Nat) (x v : Int), l[i]? = some x → (l.set i v).sum = l.sum - x + v
  | [], i, x, v, h => by cases h
  | y :: l, 0, x, v, h => by
    have h : y = x := Option.some.inj h
    subst h
    show (v :: l).sum = _
    rw [List.sum_cons, List.sum_cons]
    omega
  | y :: l, i + 1, x, v, h => by
    have ih := sum_set l i x v h
    show (y :: l.set i v).sum = _
    rw [List.sum_cons, List.sum_cons, ih]
    omega
theorem nn_set {l : List Int} {i : Nat} {v : Int} (h : ∀ x ∈ l, 0 ≤ x) (hv : 0 ≤ v) : ∀ x ∈ l.set i v, 0 ≤ x := fun x hx => by
  rcases List.mem_or_eq_of_mem_set hx with r | r
  · exact h x r
  · omega
theorem sum_le4 : ∀ g : List Int, (∀ x ∈ g, 0 ≤ x ∧ x ≤ 4) → g.sum ≤ 4 * g.length
  | [], _ => by simp
  | x :: g, h => by
    have ih := sum_le4 g fun y hy => h y (List.mem_cons_of_mem _ hy)
    have := (h x List.mem_cons_self).2
    rw [List.sum_cons, List.length_cons]
    omega
theorem at_g {g : List Int} {k : Nat} {x : Int} (h : g[k]? = some x) : atI (g.map D.int) (k : Int) = some (.int x) := by
  have hk : k < g.length := by
    rcases Nat.lt_or_ge k g.length with r | r
    · exact r
    · rw [List.getElem?_eq_none r] at h; cases h
  unfold atI
  rw [List.length_map, ixN_nat hk]
  show (g.map D.int)[k]? = _
  rw [List.getElem?_map, h]
  rfl
theorem inc_eq : ∀ a b : List Int, a.Pairwise (· < ·) → b.Pairwise (· < ·) → (∀ k : Int, k ∈ a ↔ k ∈ b) → a = b
  | [], [], _, _, _ => rfl
  | [], y :: b, _, _, h => absurd ((h y).mpr List.mem_cons_self) (fun z => nomatch z)
  | x :: a, [], _, _, h => absurd ((h x).mp List.mem_cons_self) (fun z => nomatch z)
  | x :: a, y :: b, ha, hb, h => by
    rw [List.pairwise_cons] at ha hb
    have e : x = y := by
      rcases List.mem_cons.mp ((h x).mp List.mem_cons_self) with r | r
      · exact r
      · rcases List.mem_cons.mp ((h y).mpr List.mem_cons_self) with q | q
        · exact q.symm
        · have := hb.1 x r
          have := ha.1 y q
          omega
    subst e
    rw [inc_eq a b ha.2 hb.2 fun k => ⟨fun hk => ?_, fun hk => ?_⟩]
    · rcases List.mem_cons.mp ((h k).mp (List.mem_cons_of_mem _ hk)) with r | r
      · have := ha.1 k hk; omega
      · exact r
    · rcases List.mem_cons.mp ((h k).mpr (List.mem_cons_of_mem _ hk)) with r | r
      · have := hb.1 k hk; omega
      · exact r
theorem sliceTo {l : List Int} {k : Nat} (h : k ≤ l.length) {u : Int} (hu : u = (k : Int)) {Φ : D → Prop} (z : Φ (.lst ((l.take k).map D.int))) : rSliceD none (some u) (encG l) Φ := by
  subst hu
  show Φ (.lst (Dz.cutD (l.map D.int) none (some (k : Int))))
  rw [cut_to _ h]
  exact z
theorem sliceFrom {l : List Int} {k : Nat} (h : k ≤ l.length) {Φ : D → Prop} (z : Φ (.lst ((l.drop k).map D.int))) : rSliceD (some (k : Int)) none (encG l) Φ := by
  show Φ (.lst (Dz.cutD (l.map D.int) (some (k : Int)) none))
  rw [cut_from _ h]
  exact z
/-! ### the schedule -/
theorem plan_cases (r t : Int) : (0 < r % t ∧ planL r t = [(r / t, t - r % t), (r / t + 1, r % t)]) ∨ (¬ 0 < r % t ∧ planL r t = [(r / t, t)]) := by
  by_cases h : 0 < r % t
  · exact .inl ⟨h, if_pos h⟩
  · exact .inr ⟨h, if_neg h⟩
theorem plan_few (r t : Int) : (planL r t).length ≤ 2 := by
  rcases plan_cases r t with ⟨_, e⟩ | ⟨_, e⟩
  · rw [e]; exact Nat.le_refl 2
  · rw [e]; exact Nat.le_succ 1
theorem plan_rows {r t : Int} (ht : 1 ≤ t) : ((planL r t).map fun q => q.1 * q.2).sum = r := by
  have h := Int.mul_ediv_add_emod r t
  have h0 := Int.emod_nonneg r (show t ≠ 0 by omega)
  rcases plan_cases r t with ⟨_, e⟩ | ⟨hm, e⟩
  · rw [e]
    show r / t * (t - r % t) + ((r / t + 1) * (r % t) + 0) = r
    rw [Int.mul_sub, Int.add_mul, Int.mul_comm (r / t) t]
    omega
  · rw [e]
    show r / t * t + 0 = r
    rw [Int.mul_comm (r / t) t]
    omega
theorem plan_bd {r t : Int} (ht : 1 ≤ t) (hr : 0 ≤ r ∧ r ≤ 10000) : ∀ q ∈ planL r t, 0 ≤ q.1 ∧ q.1 ≤ 10001 := by
  have a := Int.ediv_nonneg hr.1 (show 0 ≤ t by omega)
  have b : r / t ≤ r := Int.ediv_le_self _ hr.1
  intro q hq
  rcases plan_cases r t with ⟨_, e⟩ | ⟨hm, e⟩
  · rw [e] at hq
    rcases List.mem_cons.mp hq with z | z
    · rw [z]; show 0 ≤ r / t ∧ r / t ≤ 10001; omega
    · rw [List.mem_singleton.mp z]; show 0 ≤ r / t + 1 ∧ r / t + 1 ≤ 10001; omega
  · rw [e] at hq
    rw [List.mem_singleton.mp hq]
    show 0 ≤ r / t ∧ r / t ≤ 10001
    omega
theorem encG_map {α : Type} (l : List α) (f : α → Int) : D.lst (l.map fun x => D.int (f x)) = encG (l.map f) := by unfold encG; rw [List.map_map]; rfl
theorem plan_times {r t : Int} : ((planL r t).map fun q => q.2).sum = t := by
  rcases plan_cases r t with ⟨_, e⟩ | ⟨hm, e⟩
  · rw [e]
    show t - r % t + (r % t + 0) = t
    omega
  · rw [e]
    show t + 0 = t
    omega
theorem plan_inc {r t : Int} : ((planL r t).map fun q => q.1).Pairwise (· < ·) := by
  rcases plan_cases r t with ⟨_, e⟩ | ⟨hm, e⟩
  · rw [e]
    show List.Pairwise (· < ·) [r / t, r / t + 1]
    simp
    omega
  · rw [e]
    show List.Pairwise (· < ·) [r / t]
    simp
theorem plan_ends (r t : Int) : ∃ u v : Int × Int, atI ((planL r t).map encS) (-1) = some (encS u) ∧ atI ((planL r t).map encS) 0 = some (encS v) ∧ u.1 ≤ v.1 + 1 := by
  rcases plan_cases r t with ⟨_, e⟩ | ⟨hm, e⟩
  · rw [e]
    exact ⟨_, _, rfl, rfl, Int.le_refl _⟩
  · rw [e]
    exact ⟨_, _, rfl, rfl, by show r / t ≤ r / t + 1; omega⟩
theorem plan_pos {r t : Int} (ht : 1 ≤ t) : (∀ x ∈ (planL r t).map (fun q => q.2), 1 ≤ x) ∧ (planL r t).map (fun q => q.2) ≠ [] := by
  have h1 := Int.emod_lt_of_pos r (show 0 < t by omega)
  rcases plan_cases r t with ⟨h0, e⟩ | ⟨hm, e⟩
  · rw [e]
    refine ⟨fun x hx => ?_, fun z => nomatch z⟩
    rcases List.mem_cons.mp hx with q | q
    · rw [q]; show 1 ≤ t - r % t; omega
    · rw [List.mem_singleton.mp q]; show 1 ≤ r % t; omega
  · rw [e]
    refine ⟨fun x hx => ?_, fun z => nomatch z⟩
    rw [List.mem_singleton.mp hx]
    exact ht
/-! ### what is refused -/
def badS : List D := [.tup [.int (-1), .int 3], .tup [.int 5, .int 0], .tup [.int 10001, .int 2], .tup [.int 5, .int 61], .tup [.bl true, .int 2], .tup [.int 5, .non]]
def badG : List D := [.lst [], .lst (List.replicate (61 : Int).toNat [D.int 1]).flatten, .lst [.int 1, .int (-1)], .lst [.bl true], .tup [.int 1, .int 2], .non, .lst [.int 10001]]
theorem bad_spread {x : D} (h : x ∈ badS) : ∃ a b, x = .tup [a, b] ∧ (tyN a).isSome = true ∧ (tyN b).isSome = true ∧ (gapB a && numB b) = false := by
  simp only [badS, List.mem_cons, List.not_mem_nil, or_false] at h
  rcases h with rfl | rfl | rfl | rfl | rfl | rfl
  all_goals exact ⟨_, _, rfl, by decide +kernel, by decide +kernel, by decide +kernel⟩
theorem bad_gaps {x : D} (h : x ∈ badG) : okGaps x = true ∧ gapsB x = false := by
  simp only [badG, List.mem_cons, List.not_mem_nil, or_false] at h
  rcases h with rfl | rfl | rfl | rfl | rfl | rfl | rfl
  all_goals exact ⟨by decide +kernel, by decide +kernel⟩
section
variable {P : Program} {w : World} {K : PySem.W.Frag} {mg : Str → Option Value} {base : Heap} {kd cP cE cU cG : Addr}
abbrev s_law : Stmt := topS 78
theorem sc_law : FnScope ["script", "draw", "kinds", "turn", "many", "total", "told", "shift", "at", "turned", "late", "moved", "times", "rows", "plan", "bad", "gap", "many2", "turn2"] ["script"] (defScope s_law) := ⟨rfl, rfl, rfl, by decide +kernel, rfl, by decide +kernel, by decide +kernel⟩
set_option maxHeartbeats 0 in
theorem ok_law {f : Addr} {fd : FuncData} (F : Fun K "law" "law" s_law f fd) (T : TxtY w K mg kd cP cE cU) (G_law_take : Own P w K mg base "_law_take" 2 ["draw", "many"] pdTake) (G_law_kinds : Own P w K mg base "_law_kinds" 1 [] pd_law_kinds) (G_spread : Own P w K mg base "spread" 3 ["total", "parts"] pd_spread) (GX_spread : OwnX P w K mg base "spread" 4 ["total", "parts"] (pd_spreadX cG)) (GX_judge_spread : OwnX P w K mg base "judge_spread" 5 ["gaps"] (pd_judge_spreadX cG)) (G_law_judged : Own P w K mg base "_law_judged" 6 ["gaps"] pd_law_judged) (G_schedule : Own P w K mg base "schedule" 3 ["rows", "times"] pd_schedule) (G_law_shaped : Own P w K mg base "_law_shaped" 11 ["draw", "kinds"] pd_law_shaped) (TX_BadGaps : TxX K mg "BadGaps" cG) (xm : PySem.W.exmOne K (.ref cG) (.ref cG) = some true) : FnOk P w K mg base CX0 13 f fd ["script"] (spLaw K) :=
  law_dz (rest := (defBody s_law).tail) F sc_law rfl (fun cdv Ar outer s H E => ps_set (i := 1) sc_law.nd rfl (Or.inr rfl) (pe_lst (pa_cons (pv 0) (pa_cons pe_int pa_nil)))) (by decide) (fun A cdv Ar outer s H E hr =>
    (dss_cons (ds_asg (vs := [0, 1, 2, 3, 4, 5, 6, 7, 8, 9, 10, 11, 12, 13, 14, 15, 16, 17, 18]) (de_own0 G_law_kinds (hr.mono (by decide)) rfl) (dg_name (i := 2) sc_law.nd rfl (Or.inl rfl)))
    (dss_cons (ds_for (vs := [0, 1, 2, 3, 4, 5, 6, 7, 8, 9, 10, 11, 12, 13, 14, 15, 16, 17, 18]) PassesOwn.never rfl (di_rng1 rfl T.mg_range (da_cons de_int da_nil)) (dg_name (i := 3) sc_law.nd rfl (Or.inl rfl))
      (dss_cons (ds_asg (vs := [0, 1, 2, 3, 4, 5, 6, 7, 8, 9, 10, 11, 12, 13, 14, 15, 16, 17, 18]) (de_op opd_add de_int (de_own G_law_take (hr.mono (by decide)) rfl (da_cons (de_var 1) (da_cons de_int da_nil)))) (dg_name (i := 4) sc_law.nd rfl (Or.inr rfl)))
      (dss_cons (ds_asg (vs := [0, 1, 2, 3, 4, 5, 6, 7, 8, 9, 10, 11, 12, 13, 14, 15, 16, 17, 18]) (de_if (dt_cmp opd_gt (de_own G_law_take (hr.mono (by decide)) rfl (da_cons (de_var 1) (da_cons de_int da_nil))) de_int) (de_own G_law_take (hr.mono (by decide)) rfl (da_cons (de_var 1) (da_cons (de_op opd_add (de_op opd_mulT (de_var 4) (de_op opd_add de_int (de_own G_law_take (hr.mono (by decide)) rfl (da_cons (de_var 1) (da_cons de_int da_nil))))) de_int) da_nil))) (de_op opd_sub de_int (de_own G_law_take (hr.mono (by decide)) rfl (da_cons (de_var 1) (da_cons de_int da_nil))))) (dg_name (i := 5) sc_law.nd rfl (Or.inr rfl)))
      (dss_cons (ds_asg (vs := [0, 1, 2, 3, 4, 5, 6, 7, 8, 9, 10, 11, 12, 13, 14, 15, 16, 17, 18]) (de_tup (da_cons (de_own G_spread (hr.mono (by decide)) rfl (da_cons (de_var 5) (da_cons (de_var 4) da_nil))) (da_cons (de_own G_law_take (hr.mono (by decide)) rfl (da_cons (de_var 1) (da_cons (de_var 4) da_nil))) da_nil))) (dg_tup (n := 2) rfl (dgs_cons (dg_name (i := 6) sc_law.nd rfl (Or.inr rfl)) (dgs_cons (dg_name (i := 7) sc_law.nd rfl (Or.inl rfl)) dgs_nil))))
      (dss_cons (ds_if (PW.pt (dw_or (dt_cmp (opd_ne hr.units) (de_callB callD_len rfl T.mg_len (by decide +kernel) (da_cons (de_var 6) da_nil)) (de_var 4)) (dw_or (dt_cmp (opd_ne hr.units) (de_callB (callD_sum rfl) rfl T.mg_sum (by decide +kernel) (da_cons (de_var 6) da_nil)) (de_var 5)) (dw_or1 (dt_cmp (opd_ne hr.units) (de_lc rfl sc_law.nd (di_rng1 rfl T.mg_range (da_cons (de_var 4) da_nil)) (blkOk_by (own := [("at", 8)]) (N := ["script", "draw", "kinds", "turn", "many", "total", "told", "shift", "at", "turned", "late", "moved", "times", "rows", "plan", "bad", "gap", "many2", "turn2"]) (sc := defScope s_law) (by decide +kernel)) (fun _ _ _ _ _ => (dg_name (i := 8) sc_law.nd rfl (Or.inl rfl))) (fun _ _ _ _ _ => dts_nil) (fun _ _ _ _ _ => (de_callB (callD_sum rfl) rfl T.mg_sum (by decide +kernel) (da_cons (de_slice (de_var 6) do_no (do_pt (de_op opd_add (de_var 8) de_int))) da_nil)))) (de_lc rfl sc_law.nd (di_rng1 rfl T.mg_range (da_cons (de_var 4) da_nil)) (blkOk_by (own := [("at", 8)]) (N := ["script", "draw", "kinds", "turn", "many", "total", "told", "shift", "at", "turned", "late", "moved", "times", "rows", "plan", "bad", "gap", "many2", "turn2"]) (sc := defScope s_law) (by decide +kernel)) (fun _ _ _ _ _ => (dg_name (i := 8) sc_law.nd rfl (Or.inl rfl))) (fun _ _ _ _ _ => dts_nil) (fun _ _ _ _ _ => (de_op opd_div (de_op opd_mulT (de_op opd_add (de_var 8) de_int) (de_var 5)) (de_var 4)))))))))
        (dss_one (ds_ret de_bl))
        dss_nil)
      (dss_cons (ds_asg (vs := [0, 1, 2, 3, 4, 5, 6, 7, 8, 9, 10, 11, 12, 13, 14, 15, 16, 17, 18]) (de_op opd_add (de_slice (de_var 6) (do_pt (de_var 7)) do_no) (de_slice (de_var 6) do_no (do_pt (de_var 7)))) (dg_name (i := 9) sc_law.nd rfl (Or.inl rfl)))
      (dss_cons (ds_if (PW.pt (dw_or (dt_not (dt_truth (de_own G_law_judged (hr.mono (by decide)) rfl (da_cons (de_var 6) da_nil)) (by intro _; rfl))) (dw_or1 (dt_not (dt_truth (de_own G_law_judged (hr.mono (by decide)) rfl (da_cons (de_var 9) da_nil)) (by intro _; rfl))))))
        (dss_one (ds_ret de_bl))
        dss_nil)
      (dss_cons (ds_par (i := 8) (j := 10) rfl sc_law.nd rfl rfl (by decide) rfl rfl (da_cons (de_own G_law_take (hr.mono (by decide)) rfl (da_cons (de_var 1) (da_cons (de_var 4) da_nil))) (da_cons (de_own G_law_take (hr.mono (by decide)) rfl (da_cons (de_var 1) (da_cons (de_var 4) da_nil))) da_nil)))
      (dss_cons (ds_setN (i := 11) sc_law.nd rfl (Or.inl rfl) (dn_listOf rfl T.mg_list (de_var 9)))
      (dss_cons (ds_if (dt_cmp opd_gt (de_ixC 11 (de_var 8)) de_int)
        (dss_one (ds_asg (vs := [0, 1, 2, 3, 4, 5, 6, 7, 8, 9, 10, 11, 12, 13, 14, 15, 16, 17, 18]) (de_tup (da_cons (de_op opd_sub (de_ixC 11 (de_var 8)) de_int) (da_cons (de_op opd_add (de_ixC 11 (de_var 10)) (de_if (dt_cmp (opd_ne hr.units) (de_var 8) (de_var 10)) de_int de_int)) da_nil))) (dg_tup (n := 2) rfl (dgs_cons (dg_setI (i := 11) rfl (Or.inl rfl) (de_var 8)) (dgs_cons (dg_setI (i := 11) rfl (Or.inl rfl) (de_var 10)) dgs_nil)))))
        dss_nil)
      (dss_cons (ds_if (PW.pt (dw_or (dt_not (dt_truth (de_own G_law_judged (hr.mono (by decide)) rfl (da_cons (de_var 11) da_nil)) (by intro _; rfl))) (dw_or1 (dt_not (dt_truth (de_own G_law_judged (hr.mono (by decide)) rfl (da_cons (de_lc rfl sc_law.nd (di_rng1 rfl T.mg_range (da_cons (de_var 4) da_nil)) (blkOk_by (own := [("turn2", 18)]) (N := ["script", "draw", "kinds", "turn", "many", "total", "told", "shift", "at", "turned", "late", "moved", "times", "rows", "plan", "bad", "gap", "many2", "turn2"]) (sc := defScope s_law) (by decide +kernel)) (fun _ _ _ _ _ => (dg_name (i := 18) sc_law.nd rfl (Or.inl rfl))) (fun _ _ _ _ _ => dts_nil) (fun _ _ _ _ _ => (de_own G_law_take (hr.mono (by decide)) rfl (da_cons (de_var 1) (da_cons de_int da_nil))))) da_nil)) (by intro _; rfl))))))
        (dss_one (ds_ret de_bl))
        dss_nil)
      (dss_cons (ds_asg (vs := [0, 1, 2, 3, 4, 5, 6, 7, 8, 9, 10, 11, 12, 13, 14, 15, 16, 17, 18]) (de_op opd_add de_int (de_own G_law_take (hr.mono (by decide)) rfl (da_cons (de_var 1) (da_cons de_int da_nil)))) (dg_name (i := 12) sc_law.nd rfl (Or.inl rfl)))
      (dss_cons (ds_asg (vs := [0, 1, 2, 3, 4, 5, 6, 7, 8, 9, 10, 11, 12, 13, 14, 15, 16, 17, 18]) (de_op opd_add (de_var 12) (de_own G_law_take (hr.mono (by decide)) rfl (da_cons (de_var 1) (da_cons de_int da_nil)))) (dg_name (i := 13) sc_law.nd rfl (Or.inl rfl)))
      (dss_cons (ds_asg (vs := [0, 1, 2, 3, 4, 5, 6, 7, 8, 9, 10, 11, 12, 13, 14, 15, 16, 17, 18]) (de_own G_schedule (hr.mono (by decide)) rfl (da_cons (de_var 13) (da_cons (de_var 12) da_nil))) (dg_name (i := 14) sc_law.nd rfl (Or.inl rfl)))
      (dss_cons (ds_if (PW.pt (dw_or (dt_cmp (opd_ne hr.units) (de_callB (callD_sum rfl) rfl T.mg_sum (by decide +kernel) (da_cons (de_lc rfl sc_law.nd (di_seq (de_var 14)) (blkOk_by (own := [("gap", 16), ("many2", 17)]) (N := ["script", "draw", "kinds", "turn", "many", "total", "told", "shift", "at", "turned", "late", "moved", "times", "rows", "plan", "bad", "gap", "many2", "turn2"]) (sc := defScope s_law) (by decide +kernel)) (fun _ _ _ _ _ => (dg_tup (n := 2) rfl (dgs_cons (dg_name (i := 16) sc_law.nd rfl (Or.inl rfl)) (dgs_cons (dg_name (i := 17) sc_law.nd rfl (Or.inl rfl)) dgs_nil)))) (fun _ _ _ _ _ => dts_nil) (fun _ _ _ _ _ => (de_op opd_mulT (de_var 16) (de_var 17)))) da_nil)) (de_var 13)) (dw_or1 (dt_cmp (opd_ne hr.units) (de_callB (callD_sum rfl) rfl T.mg_sum (by decide +kernel) (da_cons (de_lc rfl sc_law.nd (di_seq (de_var 14)) (blkOk_by (own := [("gap", 16), ("many2", 17)]) (N := ["script", "draw", "kinds", "turn", "many", "total", "told", "shift", "at", "turned", "late", "moved", "times", "rows", "plan", "bad", "gap", "many2", "turn2"]) (sc := defScope s_law) (by decide +kernel)) (fun _ _ _ _ _ => (dg_tup (n := 2) rfl (dgs_cons (dg_name (i := 16) sc_law.nd rfl (Or.inl rfl)) (dgs_cons (dg_name (i := 17) sc_law.nd rfl (Or.inl rfl)) dgs_nil)))) (fun _ _ _ _ _ => dts_nil) (fun _ _ _ _ _ => (de_var 17))) da_nil)) (de_var 12)))))
        (dss_one (ds_ret de_bl))
        dss_nil)
      (dss_cons (ds_if (dt_cmp (opd_ne hr.units) (de_lc rfl sc_law.nd (di_seq (de_var 14)) (blkOk_by (own := [("gap", 16), ("many2", 17)]) (N := ["script", "draw", "kinds", "turn", "many", "total", "told", "shift", "at", "turned", "late", "moved", "times", "rows", "plan", "bad", "gap", "many2", "turn2"]) (sc := defScope s_law) (by decide +kernel)) (fun _ _ _ _ _ => (dg_tup (n := 2) rfl (dgs_cons (dg_name (i := 16) sc_law.nd rfl (Or.inl rfl)) (dgs_cons (dg_name (i := 17) sc_law.nd rfl (Or.inl rfl)) dgs_nil)))) (fun _ _ _ _ _ => dts_nil) (fun _ _ _ _ _ => (de_var 16))) (de_sortedSet rfl rfl T.mg_sorted rfl T.mg_set (de_lc rfl sc_law.nd (di_seq (de_var 14)) (blkOk_by (own := [("gap", 16), ("many2", 17)]) (N := ["script", "draw", "kinds", "turn", "many", "total", "told", "shift", "at", "turned", "late", "moved", "times", "rows", "plan", "bad", "gap", "many2", "turn2"]) (sc := defScope s_law) (by decide +kernel)) (fun _ _ _ _ _ => (dg_tup (n := 2) rfl (dgs_cons (dg_name (i := 16) sc_law.nd rfl (Or.inl rfl)) (dgs_cons (dg_name (i := 17) sc_law.nd rfl (Or.inl rfl)) dgs_nil)))) (fun _ _ _ _ _ => dts_nil) (fun _ _ _ _ _ => (de_var 16)))))
        (dss_one (ds_ret de_bl))
        dss_nil)
      (dss_one (ds_if (PW.pt (dw_or (dt_cmp opd_gt (de_ix (ixd hr.units) (de_ix (ixd hr.units) (de_var 14) (de_un und_neg de_int)) de_int) (de_op opd_add (de_ix (ixd hr.units) (de_ix (ixd hr.units) (de_var 14) de_int) de_int) de_int)) (dw_or1 (dt_cmp opd_lt (de_callB (callD_min rfl) rfl T.mg_min (by decide +kernel) (da_cons (de_lc rfl sc_law.nd (di_seq (de_var 14)) (blkOk_by (own := [("gap", 16), ("many2", 17)]) (N := ["script", "draw", "kinds", "turn", "many", "total", "told", "shift", "at", "turned", "late", "moved", "times", "rows", "plan", "bad", "gap", "many2", "turn2"]) (sc := defScope s_law) (by decide +kernel)) (fun _ _ _ _ _ => (dg_tup (n := 2) rfl (dgs_cons (dg_name (i := 16) sc_law.nd rfl (Or.inl rfl)) (dgs_cons (dg_name (i := 17) sc_law.nd rfl (Or.inl rfl)) dgs_nil)))) (fun _ _ _ _ _ => dts_nil) (fun _ _ _ _ _ => (de_var 17))) da_nil)) de_int))))
        (dss_one (ds_ret de_bl))
        dss_nil))))))))))))))))))
    (dss_cons (ds_for (vs := [0, 1, 2, 3, 4, 5, 6, 7, 8, 9, 10, 11, 12, 13, 14, 15, 16, 17, 18]) PassesOwn.never rfl (di_seq (de_tup (da_cons (de_tup (da_cons (de_un und_neg de_int) (da_cons de_int da_nil))) (da_cons (de_tup (da_cons de_int (da_cons de_int da_nil))) (da_cons (de_tup (da_cons de_int (da_cons de_int da_nil))) (da_cons (de_tup (da_cons de_int (da_cons de_int da_nil))) (da_cons (de_tup (da_cons de_bl (da_cons de_int da_nil))) (da_cons (de_tup (da_cons de_int (da_cons de_non da_nil))) da_nil)))))))) (dg_name (i := 15) sc_law.nd rfl (Or.inl rfl))
      (dss_one (ds_try_only' rfl rfl rfl ⟨rfl, by decide, .inl TX_BadGaps.g⟩ takes_no
        (fun _ _ _ _ _ tk _ => (dss_cons (ds_expr (de_ownX GX_spread tk (hr.mono (by decide)) rfl (da_cons (de_ix (ixd hr.units) (de_var 15) de_int) (da_cons (de_ix (ixd hr.units) (de_var 15) de_int) da_nil))))
        (dss_one (ds_ret de_bl))))
        (fun _ _ a oe cls d pn z1 z2 => (dss_one ds_pass)))))
    (dss_cons (ds_for (vs := [0, 1, 2, 3, 4, 5, 6, 7, 8, 9, 10, 11, 12, 13, 14, 15, 16, 17, 18]) PassesOwn.never rfl (di_seq (de_tup (da_cons (de_lst da_nil) (da_cons (de_op opd_mulT (de_lst (da_cons de_int da_nil)) de_int) (da_cons (de_lst (da_cons de_int (da_cons (de_un und_neg de_int) da_nil))) (da_cons (de_lst (da_cons de_bl da_nil)) (da_cons (de_tup (da_cons de_int (da_cons de_int da_nil))) (da_cons de_non (da_cons (de_lst (da_cons de_int da_nil)) da_nil))))))))) (dg_name (i := 15) sc_law.nd rfl (Or.inl rfl))
      (dss_one (ds_try_only' rfl rfl rfl ⟨rfl, by decide, .inl TX_BadGaps.g⟩ takes_no
        (fun _ _ _ _ _ tk _ => (dss_cons (ds_expr (de_ownX GX_judge_spread tk (hr.mono (by decide)) rfl (da_cons (de_var 15) da_nil)))
        (dss_one (ds_ret de_bl))))
        (fun _ _ a oe cls d pn z1 z2 => (dss_one ds_pass)))))
    (dss_one (ds_ret (de_own G_law_shaped (hr.mono (by decide)) rfl (da_cons (de_var 1) (da_cons (de_var 2) da_nil))))))))))
    (fun A p ns d => by
      refine ⟨rfl, ?_⟩
      refine gN_env (e' := [.dat (.fro (ns.map D.int)), .dat (.tok p), .dat kinds0, .un, .un, .un, .un, .un, .un, .un, .un, .un, .un, .un, .un, .un, .un, .un, .un]) rfl ?_
      dsimp only
      refine seqAny (fun e => ∃ x3 x4 x5 x6 x7 x8 x9 x10 x11 x12 x13 x14 x15, e = [.dat (.fro (ns.map D.int)), .dat (.tok p), .dat kinds0, x3, x4, x5, x6, x7, x8, x9, x10, x11, x12, x13, x14, x15, .un, .un, .un]) (fun Ψ kk => ?_) ?_
      · refine ⟨_, rfl, by decide, by decide, ?_⟩
        refine ⟨fun _ e => ∃ x3 x4 x5 x6 x7 x8 x9 x10 x11 x12 x13 x14 x15, e = [.dat (.fro (ns.map D.int)), .dat (.tok p), .dat kinds0, x3, x4, x5, x6, x7, x8, x9, x10, x11, x12, x13, x14, x15, .un, .un, .un], ⟨_, _, _, _, _, _, _, _, _, _, _, _, _, rfl⟩, ?_, fun e h => kk e h⟩
        rintro k x e hx ⟨x3, x4, x5, x6, x7, x8, x9, x10, x11, x12, x13, x14, x15, rfl⟩
        obtain ⟨hk, rfl⟩ := rngD_get hx
        refine gN_env (e' := [.dat (.fro (ns.map D.int)), .dat (.tok p), .dat kinds0, .dat (.int (0 + (k : Int))), x4, x5, x6, x7, x8, x9, x10, x11, x12, x13, x14, x15, .un, .un, .un]) rfl ?_
        generalize EV.dat (D.int (0 + (k : Int))) = x3
        refine seqAny (fun e => ∃ r : Int, 0 ≤ r ∧ r < 9 ∧ e = [.dat (.fro (ns.map D.int)), .dat (.tok p), .dat kinds0, x3, .dat (.int (1 + r)), x5, x6, x7, x8, x9, x10, x11, x12, x13, x14, x15, .un, .un, .un]) (fun Ψ k => ⟨p, ns, 9, rfl, d, by decide, fun r h0 h9 => k _ ⟨r, h0, h9, rfl⟩⟩) ?_
        rintro e ⟨r, h0, h9, rfl⟩
        obtain ⟨n, hn⟩ : ∃ n : Nat, 1 + r = n := Int.eq_ofNat_of_zero_le (by omega)
        have hn1 : 1 ≤ n ∧ n ≤ 9 := by omega
        rw [hn]
        clear hn h0 h9 r
        refine seqAny (fun e => ∃ T : Int, (0 ≤ T ∧ T ≤ 10000) ∧ e = [.dat (.fro (ns.map D.int)), .dat (.tok p), .dat kinds0, x3, .dat (.int (n : Nat)), .dat (.int T), x6, x7, x8, x9, x10, x11, x12, x13, x14, x15, .un, .un, .un]) (fun Ψ k => ⟨p, ns, 4, rfl, d, by decide, fun r h0 h4 => ⟨_, rfl, iteB (fun z => ?_) (fun z => ?_)⟩⟩) ?_
        · refine ⟨p, ns, 5, rfl, d, by decide, fun r2 h2 h5 => .inr ⟨.inl ⟨by omega, by omega⟩, ?_⟩⟩
          have hb : (n : Int) * (2 + r2) ≤ 9 * 6 := Int.mul_le_mul (by omega) (by omega) (by omega) (by omega)
          have hp : 0 ≤ (n : Int) * (2 + r2) := Int.mul_nonneg (by omega) (by omega)
          exact ⟨p, ns, _, rfl, d, by show 0 < (n : Int) * (2 + r2) + 1; omega, fun T h0 hT => k _ ⟨T, ⟨h0, by have hT : T < (n : Int) * (2 + r2) + 1 := hT; omega⟩, rfl⟩⟩
        · exact ⟨p, ns, 500, rfl, d, by decide, fun T h0 hT => k _ ⟨10000 - T, ⟨by omega, by omega⟩, rfl⟩⟩
        rintro e ⟨T, hT, rfl⟩
        refine seqAny (fun e => ∃ s : Int, (0 ≤ s ∧ s < n) ∧ e = [.dat (.fro (ns.map D.int)), .dat (.tok p), .dat kinds0, x3, .dat (.int (n : Nat)), .dat (.int T), .dat (encG (X57.spr T n)), .dat (.int s), x8, x9, x10, x11, x12, x13, x14, x15, .un, .un, .un]) (fun Ψ k => ⟨T, n, rfl, hT, hn1.1, by omega, p, ns, _, rfl, d, by omega, fun s h0 hs => ⟨Nat.le_of_ble_eq_true rfl, rfl, rfl, k _ ⟨s, ⟨h0, hs⟩, rfl⟩⟩⟩) ?_
        rintro e ⟨s, ⟨hs0, hs1⟩, rfl⟩
        obtain ⟨s, rfl⟩ := Int.eq_ofNat_of_zero_le hs0
        have hs : s < n := by omega
        clear hs0 hs1
        have hL : (X57.spr T n).length = n := X57.spr_len T n
        have hLm : ((X57.spr T n).map D.int).length = n := by rw [List.length_map, hL]
        have hS : (X57.spr T n).sum = T := X57.spr_sum (by omega)
        refine seqAny (fun e => ∃ x8 : EV, e = [.dat (.fro (ns.map D.int)), .dat (.tok p), .dat kinds0, x3, .dat (.int (n : Nat)), .dat (.int T), .dat (encG (X57.spr T n)), .dat (.int (s : Nat)), x8, x9, x10, x11, x12, x13, x14, x15, .un, .un, .un]) (fun Ψ k => ?_) ?_
        · refine ⟨rfl, rfl, _, rfl, iteEqX (c := false) (by rw [eqD_ii, hLm]; simp) (iteF ⟨_, rfl, rfl, rfl, _, rfl, iteEqX (c := false) (by rw [eqD_ii, hS]; simp) (iteF ?_)⟩)⟩
          refine ⟨_, rfl, by omega, by omega, ?_⟩
          refine lc_map0 (α := Nat) (List.range n) (fun i => .int (i : Int)) (fun i => .int (((i : Int) + 1) * T / n)) (rg_int n) (by rw [List.length_range]; omega) (fun i hi J acc hJ => ?_) ?_
          · have hi := List.mem_range.mp hi
            have e2 : ((X57.spr T n).take (i + 1)).sum = ((i : Int) + 1) * T / n := by
              rw [X57.take_sum _ _ (by omega), X57.spr_pre (by omega)]
              push_cast
              rfl
            refine ⟨_, rfl, ?_⟩
            refine sliceTo (l := X57.spr T n) (k := i + 1) (by omega) (by push_cast; rfl) ?_
            exact ⟨_, rfl, rfl, by rw [e2]; exact hJ⟩
          · refine ⟨_, rfl, by omega, by omega, ?_⟩
            refine lc_map0 (α := Nat) (List.range n) (fun i => .int (i : Int)) (fun i => .int (((i : Int) + 1) * T / n)) (rg_int n) (by rw [List.length_range]; omega) (fun i hi J acc hJ => ?_) ?_
            · have hi := List.mem_range.mp hi
              exact .inr ⟨.inl ⟨by omega, by omega⟩, ⟨by omega, by omega⟩, rfl, hJ⟩
            · have ex : D.lst ((List.range n).map fun (i : Nat) => D.int (((i : Int) + 1) * T / n)) = encG ((List.range n).map fun (i : Nat) => ((i : Int) + 1) * T / n) := by unfold encG; rw [List.map_map]; rfl
              rw [ex]
              exact ⟨plG _, plG _, _, rfl, iteEqX (c := false) (by rw [eqG]; simp) (iteF (k _ ⟨_, rfl⟩))⟩
        rintro e ⟨x8, rfl⟩
        have hRl : (X57.rot (X57.spr T n) s).length = n := by rw [X57.rot_len _ (by omega), hL]
        have hRs : (X57.rot (X57.spr T n) s).sum = T := by rw [X57.rot_sum, hS]
        have hRn := rot_nn (s := s) (spr_nn hT.1 hn1.1)
        have hRg : GapsOk (X57.rot (X57.spr T n) s) := gaps_of (by omega) hRn (by omega)
        refine seqAny (fun e => e = [.dat (.fro (ns.map D.int)), .dat (.tok p), .dat kinds0, x3, .dat (.int (n : Nat)), .dat (.int T), .dat (encG (X57.spr T n)), .dat (.int (s : Nat)), x8, .dat (encG (X57.rot (X57.spr T n) s)), x10, x11, x12, x13, x14, x15, .un, .un, .un]) (fun Ψ k => ?_) ?_
        · refine ⟨_, rfl, ?_⟩
          refine fNo_to ?_
          refine sliceFrom (l := X57.spr T n) (k := s) (by omega) ?_
          refine fSlice_at (x := encG (X57.spr T n)) rfl ?_
          refine fNo_to ?_
          refine ⟨_, rfl, ?_⟩
          refine sliceTo (l := X57.spr T n) (k := s) (by omega) rfl ?_
          refine ⟨by rw [List.length_map, List.length_map, List.length_drop, List.length_take]; omega, k _ ?_⟩
          unfold X57.rot encG
          rw [List.map_append]
          rfl
        rintro e rfl
        refine seqTo (e' := [.dat (.fro (ns.map D.int)), .dat (.tok p), .dat kinds0, x3, .dat (.int (n : Nat)), .dat (.int T), .dat (encG (X57.spr T n)), .dat (.int (s : Nat)), x8, .dat (encG (X57.rot (X57.spr T n) s)), x10, x11, x12, x13, x14, x15, .un, .un, .un]) (fun Ψ k => ⟨_, rfl, gaps_spr hT ⟨hn1.1, by omega⟩, by rw [hS]; exact hT.2, _, rfl, iteF ⟨_, rfl, hRg, by rw [hRs]; exact hT.2, _, rfl, iteF k⟩⟩) ?_
        refine seqAny (fun e => ∃ a b : Int, (0 ≤ a ∧ a < n) ∧ (0 ≤ b ∧ b < n) ∧ e = [.dat (.fro (ns.map D.int)), .dat (.tok p), .dat kinds0, x3, .dat (.int (n : Nat)), .dat (.int T), .dat (encG (X57.spr T n)), .dat (.int (s : Nat)), .dat (.int a), .dat (encG (X57.rot (X57.spr T n) s)), .dat (.int b), x11, x12, x13, x14, x15, .un, .un, .un]) (fun Ψ k => ⟨p, ns, _, rfl, d, by omega, fun a ha0 ha1 => ⟨p, ns, _, rfl, d, by omega, fun b hb0 hb1 => k _ ⟨a, b, ⟨ha0, ha1⟩, ⟨hb0, hb1⟩, rfl⟩⟩⟩) ?_
        rintro e ⟨a, b, ⟨ha0, ha1⟩, ⟨hb0, hb1⟩, rfl⟩
        obtain ⟨a, rfl⟩ := Int.eq_ofNat_of_zero_le ha0
        obtain ⟨b, rfl⟩ := Int.eq_ofNat_of_zero_le hb0
        have ha : a < n := by omega
        have hb : b < n := by omega
        clear ha0 ha1 hb0 hb1
        refine seqTo (e' := [.dat (.fro (ns.map D.int)), .dat (.tok p), .dat kinds0, x3, .dat (.int (n : Nat)), .dat (.int T), .dat (encG (X57.spr T n)), .dat (.int (s : Nat)), .dat (.int (a : Nat)), .dat (encG (X57.rot (X57.spr T n) s)), .dat (.int (b : Nat)), .cel (.lst ((X57.rot (X57.spr T n) s).map D.int)), x12, x13, x14, x15, .un, .un, .un]) (fun Ψ k => ⟨_, rfl, k⟩) ?_
        refine seqAny (fun e => ∃ g : List Int, (g.length = n ∧ (∀ x ∈ g, 0 ≤ x) ∧ g.sum = T) ∧ e = [.dat (.fro (ns.map D.int)), .dat (.tok p), .dat kinds0, x3, .dat (.int (n : Nat)), .dat (.int T), .dat (encG (X57.spr T n)), .dat (.int (s : Nat)), .dat (.int (a : Nat)), .dat (encG (X57.rot (X57.spr T n) s)), .dat (.int (b : Nat)), .cel (.lst (g.map D.int)), x12, x13, x14, x15, .un, .un, .un]) (fun Ψ k => ?_) ?_
        · obtain ⟨x, hx⟩ : ∃ x, (X57.rot (X57.spr T n) s)[a]? = some x := ⟨_, List.getElem?_eq_getElem (by omega)⟩
          obtain ⟨y, hy⟩ : ∃ y, (X57.rot (X57.spr T n) s)[b]? = some y := ⟨_, List.getElem?_eq_getElem (by omega)⟩
          have hx0 := hRn x (List.mem_of_getElem? hx)
          have hy0 := hRn y (List.mem_of_getElem? hy)
          refine ⟨_, rfl, _, _, _, rfl, rfl, at_g hx, _, rfl, iteB (fun z => ?_) (fun z => ?_)⟩
          · have z : 0 < x := of_decide_eq_true z
            have fin : ∀ c : Int, ((a = b ∧ c = 0) ∨ (a ≠ b ∧ c = 1)) → Ψ.nx [.dat (.fro (ns.map D.int)), .dat (.tok p), .dat kinds0, x3, .dat (.int (n : Nat)), .dat (.int T), .dat (encG (X57.spr T n)), .dat (.int (s : Nat)), .dat (.int (a : Nat)), .dat (encG (X57.rot (X57.spr T n) s)), .dat (.int (b : Nat)), .cel (.lst ((((X57.rot (X57.spr T n) s).map D.int).set a (.int (x - 1))).set b (.int (y + c)))), x12, x13, x14, x15, .un, .un, .un] := fun c hc => by
              refine k _ ⟨((X57.rot (X57.spr T n) s).set a (x - 1)).set b (y + c), ⟨by rw [List.length_set, List.length_set, hRl], nn_set (nn_set hRn (by omega)) (by omega), ?_⟩, by rw [List.map_set, List.map_set]⟩
              rcases hc with ⟨e, e2⟩ | ⟨e, e2⟩
              · subst e
                rw [hx] at hy
                have hy := Option.some.inj hy
                rw [List.set_set, sum_set _ _ _ _ hx, hRs]
                omega
              · rw [sum_set _ b y _ (by rw [List.getElem?_set_ne e]; exact hy), sum_set _ _ _ _ hx, hRs]
                omega
            refine ⟨_, rfl, _, _, _, rfl, rfl, at_g hx, _, rfl, _, _, _, rfl, rfl, at_g hy, rfl, rfl, _, rfl, iteB (fun q => ?_) (fun q => ?_)⟩
            · have q : a ≠ b := fun e => by
                rw [eqD_ii, e] at q
                simp at q
              exact ⟨Nat.le_of_ble_eq_true rfl, rfl, ⟨_, rfl⟩, _, a, _, rfl, rfl, by rw [List.length_map, hRl]; exact ixN_nat ha, ⟨_, rfl⟩, _, b, _, rfl, rfl, by rw [List.length_set, List.length_map, hRl]; exact ixN_nat hb, rfl, fin 1 (.inr ⟨q, rfl⟩)⟩
            · have q : a = b := by
                rw [eqD_ii] at q
                simp at q
                omega
              exact ⟨Nat.le_of_ble_eq_true rfl, rfl, ⟨_, rfl⟩, _, a, _, rfl, rfl, by rw [List.length_map, hRl]; exact ixN_nat ha, ⟨_, rfl⟩, _, b, _, rfl, rfl, by rw [List.length_set, List.length_map, hRl]; exact ixN_nat hb, rfl, fin 0 (.inl ⟨q, rfl⟩)⟩
          · exact k _ ⟨_, ⟨hRl, hRn, hRs⟩, rfl⟩
        rintro e ⟨g, ⟨hgl, hgn, hgs⟩, rfl⟩
        have hgg : GapsOk g := gaps_of (by omega) hgn (by omega)
        refine seqTo (e' := [.dat (.fro (ns.map D.int)), .dat (.tok p), .dat kinds0, x3, .dat (.int (n : Nat)), .dat (.int T), .dat (encG (X57.spr T n)), .dat (.int (s : Nat)), .dat (.int (a : Nat)), .dat (encG (X57.rot (X57.spr T n) s)), .dat (.int (b : Nat)), .dat (encG g), x12, x13, x14, x15, .un, .un, .un]) (fun Ψ k => ?_) ?_
        · refine ⟨g, rfl, hgg, by omega, _, rfl, iteF ?_⟩
          refine ⟨_, rfl, by omega, by omega, ?_⟩
          refine lc_any0 (fun d => ∃ x : Int, d = .int x ∧ 0 ≤ x ∧ x ≤ 4) (by rw [rngD_len]; omega) (fun x hx J acc hJ => ?_) (fun acc hl hacc => ?_)
          · exact ⟨p, ns, 4, rfl, d, by decide, fun r h0 h4 => ⟨rfl, hJ _ ⟨r, rfl, h0, by omega⟩⟩⟩
          · obtain ⟨g2, rfl, hg2⟩ := acc_ints acc hacc
            rw [List.length_map, rngD_len] at hl
            have hs4 := sum_le4 g2 hg2
            exact ⟨g2, rfl, gaps_of (by omega) (fun x hx => (hg2 x hx).1) (by omega), by omega, _, rfl, iteF k⟩
        refine seqAny (fun e => ∃ r : Int, (0 ≤ r ∧ r < 8) ∧ e = [.dat (.fro (ns.map D.int)), .dat (.tok p), .dat kinds0, x3, .dat (.int (n : Nat)), .dat (.int T), .dat (encG (X57.spr T n)), .dat (.int (s : Nat)), .dat (.int (a : Nat)), .dat (encG (X57.rot (X57.spr T n) s)), .dat (.int (b : Nat)), .dat (encG g), .dat (.int (1 + r)), x13, x14, x15, .un, .un, .un]) (fun Ψ k => ⟨p, ns, 8, rfl, d, by decide, fun r h0 h8 => k _ ⟨r, ⟨h0, h8⟩, rfl⟩⟩) ?_
        rintro e ⟨r, hr, rfl⟩
        obtain ⟨t, ht⟩ : ∃ t : Int, t = 1 + r := ⟨_, rfl⟩
        rw [← ht]
        refine seqAny (fun e => ∃ r : Int, (0 ≤ r ∧ r < 30) ∧ e = [.dat (.fro (ns.map D.int)), .dat (.tok p), .dat kinds0, x3, .dat (.int (n : Nat)), .dat (.int T), .dat (encG (X57.spr T n)), .dat (.int (s : Nat)), .dat (.int (a : Nat)), .dat (encG (X57.rot (X57.spr T n) s)), .dat (.int (b : Nat)), .dat (encG g), .dat (.int t), .dat (.int (t + r)), x14, x15, .un, .un, .un]) (fun Ψ k => ⟨p, ns, 30, rfl, d, by decide, fun r h0 h8 => k _ ⟨r, ⟨h0, h8⟩, rfl⟩⟩) ?_
        rintro e ⟨r2, hr2, rfl⟩
        obtain ⟨R, hR⟩ : ∃ R : Int, R = t + r2 := ⟨_, rfl⟩
        rw [← hR]
        have ht1 : 1 ≤ t := by omega
        have hR1 : t ≤ R ∧ R ≤ 10000 := by omega
        have few := plan_few R t
        refine seqTo (e' := [.dat (.fro (ns.map D.int)), .dat (.tok p), .dat kinds0, x3, .dat (.int (n : Nat)), .dat (.int T), .dat (encG (X57.spr T n)), .dat (.int (s : Nat)), .dat (.int (a : Nat)), .dat (encG (X57.rot (X57.spr T n) s)), .dat (.int (b : Nat)), .dat (encG g), .dat (.int t), .dat (.int R), .dat (.lst ((planL R t).map encS)), x15, .un, .un, .un]) (fun Ψ k => ⟨R, t, rfl, ht1, hR1.1, hR1.2, k⟩) ?_
        refine seqTo (e' := [.dat (.fro (ns.map D.int)), .dat (.tok p), .dat kinds0, x3, .dat (.int (n : Nat)), .dat (.int T), .dat (encG (X57.spr T n)), .dat (.int (s : Nat)), .dat (.int (a : Nat)), .dat (encG (X57.rot (X57.spr T n) s)), .dat (.int (b : Nat)), .dat (encG g), .dat (.int t), .dat (.int R), .dat (.lst ((planL R t).map encS)), x15, .un, .un, .un]) (fun Ψ k => ?_) ?_
        · refine ⟨_, rfl, ?_⟩
          refine lc_map0 (α := Int × Int) (planL R t) encS (fun q => .int (q.1 * q.2)) rfl (by omega) (fun q hq J acc hJ => ?_) ?_
          · have := plan_bd (r := R) ht1 ⟨by omega, by omega⟩ q hq
            exact ⟨rfl, rfl, .inr ⟨.inl ⟨by omega, by omega⟩, rfl, hJ⟩⟩
          refine ⟨(planL R t).map (fun q => q.1 * q.2), by rw [List.map_map]; rfl, rfl, rfl, _, rfl, iteEqX (c := false) (by rw [eqD_ii, plan_rows ht1]; simp) (iteF ?_)⟩
          refine ⟨_, rfl, ?_⟩
          refine lc_map0 (α := Int × Int) (planL R t) encS (fun q => .int q.2) rfl (by omega) (fun q hq J acc hJ => ⟨rfl, rfl, rfl, hJ⟩) ?_
          exact ⟨(planL R t).map (fun q => q.2), by rw [List.map_map]; rfl, rfl, rfl, _, rfl, iteEqX (c := false) (by rw [eqD_ii, plan_times]; simp) (iteF k)⟩
        refine seqTo (e' := [.dat (.fro (ns.map D.int)), .dat (.tok p), .dat kinds0, x3, .dat (.int (n : Nat)), .dat (.int T), .dat (encG (X57.spr T n)), .dat (.int (s : Nat)), .dat (.int (a : Nat)), .dat (encG (X57.rot (X57.spr T n) s)), .dat (.int (b : Nat)), .dat (encG g), .dat (.int t), .dat (.int R), .dat (.lst ((planL R t).map encS)), x15, .un, .un, .un]) (fun Ψ k => ?_) ?_
        · refine ⟨_, rfl, ?_⟩
          refine lc_map0 (α := Int × Int) (planL R t) encS (fun q => .int q.1) rfl (by omega) (fun q hq J acc hJ => ⟨rfl, rfl, rfl, hJ⟩) ?_
          refine ⟨_, rfl, ?_⟩
          refine lc_map0 (α := Int × Int) (planL R t) encS (fun q => .int q.1) rfl (by omega) (fun q hq J acc hJ => ⟨rfl, rfl, rfl, hJ⟩) ?_
          refine ⟨(planL R t).map (fun q => q.1), by rw [List.map_map]; rfl, by rw [List.length_map]; omega, fun ms hp hm => ?_⟩
          have em : ms = (planL R t).map (fun q => q.1) := inc_eq _ _ hp plan_inc hm
          subst em
          rw [encG_map]
          exact ⟨plG _, plG _, _, rfl, iteEqX (c := false) (by rw [show D.lst (((planL R t).map fun q => q.1).map D.int) = encG ((planL R t).map fun q => q.1) from rfl, eqG]; simp) (iteF k)⟩
        obtain ⟨u, v, hu, hv, huv⟩ := plan_ends R t
        have pp := plan_pos (r := R) ht1
        obtain ⟨m, hm, hm2⟩ := min_of _ pp.2
        have hm1 := pp.1 m hm
        refine ⟨_, hu, _, rfl, _, hv, _, rfl, _, rfl, iteEqX (c := false) (decide_eq_false (by omega)) (iteF ?_)⟩
        refine ⟨_, rfl, ?_⟩
        refine lc_map0 (α := Int × Int) (planL R t) encS (fun q => .int q.2) rfl (by omega) (fun q hq J acc hJ => ⟨rfl, rfl, rfl, hJ⟩) ?_
        exact ⟨(planL R t).map (fun q => q.2), m, by rw [List.map_map]; rfl, hm, hm2, _, rfl, iteEqX (c := false) (decide_eq_false (by omega)) (iteF ⟨_, _, _, _, _, _, _, _, _, _, _, _, _, rfl⟩)⟩
      rintro e ⟨x3, x4, x5, x6, x7, x8, x9, x10, x11, x12, x13, x14, x15, rfl⟩
      refine seqAny (fun e => ∃ x3 x4 x5 x6 x7 x8 x9 x10 x11 x12 x13 x14 x15, e = [.dat (.fro (ns.map D.int)), .dat (.tok p), .dat kinds0, x3, x4, x5, x6, x7, x8, x9, x10, x11, x12, x13, x14, x15, .un, .un, .un]) (fun Ψ kk => ?_) ?_
      · refine ⟨Nat.le_of_ble_eq_true rfl, Nat.le_of_ble_eq_true rfl, Nat.le_of_ble_eq_true rfl, Nat.le_of_ble_eq_true rfl, Nat.le_of_ble_eq_true rfl, Nat.le_of_ble_eq_true rfl, Nat.le_of_ble_eq_true rfl, badS, rfl, ?_⟩
        refine ⟨fun _ e => ∃ x3 x4 x5 x6 x7 x8 x9 x10 x11 x12 x13 x14 x15, e = [.dat (.fro (ns.map D.int)), .dat (.tok p), .dat kinds0, x3, x4, x5, x6, x7, x8, x9, x10, x11, x12, x13, x14, x15, .un, .un, .un], ⟨_, _, _, _, _, _, _, _, _, _, _, _, _, rfl⟩, ?_, fun e h => kk e h⟩
        rintro k x e hx ⟨x3, x4, x5, x6, x7, x8, x9, x10, x11, x12, x13, x14, x15, rfl⟩
        obtain ⟨b1, b2, rfl, t1, t2, hb⟩ := bad_spread (List.mem_of_getElem? hx)
        refine gN_env (e' := [.dat (.fro (ns.map D.int)), .dat (.tok p), .dat kinds0, x3, x4, x5, x6, x7, x8, x9, x10, x11, x12, x13, x14, .dat (.tup [b1, b2]), .un, .un, .un]) rfl ?_
        intro F0 G0
        exact ⟨_, rfl, _, rfl, b1, b2, rfl, t1, t2, hb, true, xm, fun _ _ _ _ _ _ => ⟨_, _, _, _, _, _, _, _, _, _, _, _, _, rfl⟩, fun z => nomatch z⟩
      rintro e ⟨x3, x4, x5, x6, x7, x8, x9, x10, x11, x12, x13, x14, x15, rfl⟩
      refine seqAny (fun e => ∃ x3 x4 x5 x6 x7 x8 x9 x10 x11 x12 x13 x14 x15, e = [.dat (.fro (ns.map D.int)), .dat (.tok p), .dat kinds0, x3, x4, x5, x6, x7, x8, x9, x10, x11, x12, x13, x14, x15, .un, .un, .un]) (fun Ψ kk => ?_) ?_
      · refine ⟨Nat.zero_le _, Nat.le_of_ble_eq_true rfl, .inr ⟨by decide, by decide, by decide, Nat.le_of_ble_eq_true rfl, Nat.le_of_ble_eq_true rfl, Nat.le_of_ble_eq_true rfl, Nat.le_of_ble_eq_true rfl, Nat.le_of_ble_eq_true rfl, badG, rfl, ?_⟩⟩
        refine ⟨fun _ e => ∃ x3 x4 x5 x6 x7 x8 x9 x10 x11 x12 x13 x14 x15, e = [.dat (.fro (ns.map D.int)), .dat (.tok p), .dat kinds0, x3, x4, x5, x6, x7, x8, x9, x10, x11, x12, x13, x14, x15, .un, .un, .un], ⟨_, _, _, _, _, _, _, _, _, _, _, _, _, rfl⟩, ?_, fun e h => kk e h⟩
        rintro k x e hx ⟨x3, x4, x5, x6, x7, x8, x9, x10, x11, x12, x13, x14, x15, rfl⟩
        obtain ⟨ok, hb⟩ := bad_gaps (List.mem_of_getElem? hx)
        refine gN_env (e' := [.dat (.fro (ns.map D.int)), .dat (.tok p), .dat kinds0, x3, x4, x5, x6, x7, x8, x9, x10, x11, x12, x13, x14, .dat x, .un, .un, .un]) rfl ?_
        intro F0 G0
        exact ⟨x, rfl, ok, hb, true, xm, fun _ _ _ _ _ _ => ⟨_, _, _, _, _, _, _, _, _, _, _, _, _, rfl⟩, fun z => nomatch z⟩
      rintro e ⟨x3, x4, x5, x6, x7, x8, x9, x10, x11, x12, x13, x14, x15, rfl⟩
      exact ⟨p, ns, rfl, d, rfl⟩)
end
end K57

namespace K57
open PySem PySem.Spec PyProof.Rows L2 Dz
theorem kit_no {K : PySem.W.Frag} {t : Value} {C : Addr} {b : Bool} (h0 : (t == .ref C) = false) (h1 : PySem.W.isClsIn K C = true) (h2 : PySem.W.typeIn K (.ref C) = some (.type "type")) (h3 : PySem.W.subIn K t (.ref C) = some b) : PySem.W.kitOne K t (.ref C) = some b := by
  have e2 : ((PySem.W.clsIn K C).isSome && PySem.W.typeIn K (.ref C) == some (.type "type")) = true := by
    have h1' : (PySem.W.clsIn K C).isSome = true := h1
    rw [h1', h2] <;> rfl
  show (if (t == .ref C) = true then some true else if ((PySem.W.clsIn K C).isSome && PySem.W.typeIn K (.ref C) == some (.type "type")) = true then PySem.W.subIn K t (.ref C) else none) = some b
  rw [h0, if_neg Bool.false_ne_true, if_pos e2]
  exact h3
theorem kit_yes {K : PySem.W.Frag} {t : Value} {C : Addr} (h1 : PySem.W.isClsIn K C = true) (h2 : PySem.W.typeIn K (.ref C) = some (.type "type")) (h3 : PySem.W.subIn K t (.ref C) = some true) : PySem.W.kitOne K t (.ref C) = some true := by
  cases h0 : (t == .ref C) with
  | true => show (if (t == .ref C) = true then some true else _) = some true; rw [h0, if_pos rfl]
  | false => exact kit_no h0 h1 h2 h3
/-- what stands at a key of the written table -/
def KT (K : PySem.W.Frag) (kd : Addr) (r : Str × Nat × Nat × Str × Str) : Prop := ∃ (a : Addr) (o : Obj) (its : Array Value) (n : Nat), PySem.W.nsIn K kd r.1 = some (some (.ref a)) ∧ K.lookup a = some o ∧ o.cls = .type "tuple" ∧ o.data = .seq its n ∧ its.size ≤ sizeLine ∧
  Vals [.int r.2.1, .int r.2.2.1, .str r.2.2.2.1, .str r.2.2.2.2] its.toList
def KTs (K : PySem.W.Frag) (kd : Addr) : List (Str × Nat × Nat × Str × Str) → Prop
  | [] => True
  | r :: l => KT K kd r ∧ KTs K kd l
theorem kts_cons {K : PySem.W.Frag} {kd : Addr} {z b c : Str} {i j : Nat} {L : List (Str × Nat × Nat × Str × Str)} {a : Addr} {o : Obj} {its : Array Value} {n : Nat} (h1 : PySem.W.nsIn K kd z = some (some (.ref a))) (h2 : K.lookup a = some o) (h3 : o.cls = .type "tuple") (h4 : o.data = .seq its n) (h5 : its.size ≤ sizeLine)
    (h6 : Vals [.int i, .int j, .str b, .str c] its.toList) (r : KTs K kd L) : KTs K kd ((z, i, j, b, c) :: L) := ⟨⟨a, o, its, n, h1, h2, h3, h4, h5, h6⟩, r⟩
theorem kts_get {K : PySem.W.Frag} {kd : Addr} {z : Str} {d : Kd} : ∀ {L : List (Str × Nat × Nat × Str × Str)}, KTs K kd L → findL L z = some d → ∃ u v, PySem.W.nsIn K kd z = some (some u) ∧ RelV v u ∧ ∀ G, Rep K G (kdD d) v
  | [], _, h => by cases h
  | (k, a, b, c, e) :: r, ⟨h1, h2⟩, h => by
    unfold findL at h
    by_cases hk : k = z
    · rw [if_pos hk] at h
      cases h
      subst hk
      obtain ⟨p, o, its, n, e1, e2, e3, e4, e5, e6⟩ := h1
      refine ⟨.ref p, .ref p, e1, rfl, fun G => rep_tup.mpr ⟨p, _, rfl, .inr ⟨o, its, n, e2, e3, e4, e5, e6⟩, ?_⟩⟩
      exact .cons (rep_int.mpr rfl) (.cons (rep_int.mpr rfl) (.cons (rep_str.mpr rfl) (.cons (rep_str.mpr rfl) .nil)))
    · rw [if_neg hk] at h
      exact kts_get h2 h
theorem tab_mk {w : World} {K : PySem.W.Frag} {kd : Addr} {es : Array DictEntry} {n : Nat} (D : KDict K w kd es n) (h : KTs K kd kindL) (hs : ∀ z ∈ strange, PySem.W.nsIn K kd z = some none) : KTab K w kd kindTab where
  dk := ⟨es, n, D⟩
  non := fun z hz => by
    unfold kindTab at hz
    cases q : kindRow z with
    | some r => rw [q] at hz; cases hz
    | none =>
      rw [q] at hz
      simp only at hz
      split at hz
      · rename_i hm; exact hs z hm
      · cases hz
  som := fun z d hz => by
    unfold kindTab at hz
    cases q : kindRow z with
    | some r =>
      rw [q] at hz
      cases hz
      exact kts_get h q
    | none =>
      rw [q] at hz
      simp only at hz
      split at hz <;> cases hz

theorem all_mk {l : PySem.W.OpenLaw} {w : World} {K : PySem.W.Frag} {h : Heap} {mg : Str → Option Value} {fa : Addr} (X : K.In h) (G : h.Ns mainGlobals mg) (hfa : mg "law" = some (.ref fa))
    {cP cE cU cG kd : Addr} {u0 u1 u2 u3 u4 u5 u6 u7 u8 u9 u10 u11 : Tok} {es : Array DictEntry} {en : Nat}
    {f0 : Addr} {od0 an0 : Option Addr} {sl0 : Array (Option Value)} {oc0 kV0 dc0 pm0 cd0 ct0 : Value}
    {f1 : Addr} {od1 an1 : Option Addr} {sl1 : Array (Option Value)} {oc1 kV1 dc1 pm1 cd1 ct1 : Value}
    {f2 : Addr} {od2 an2 : Option Addr} {sl2 : Array (Option Value)} {oc2 kV2 dc2 pm2 cd2 ct2 : Value}
    {f3 : Addr} {od3 an3 : Option Addr} {sl3 : Array (Option Value)} {oc3 kV3 dc3 pm3 cd3 ct3 : Value}
    {f4 : Addr} {od4 an4 : Option Addr} {sl4 : Array (Option Value)} {oc4 kV4 dc4 pm4 cd4 ct4 : Value}
    {f5 : Addr} {od5 an5 : Option Addr} {sl5 : Array (Option Value)} {oc5 kV5 dc5 pm5 cd5 ct5 : Value}
    {f6 : Addr} {od6 an6 : Option Addr} {sl6 : Array (Option Value)} {oc6 kV6 dc6 pm6 cd6 ct6 : Value}
    {f7 : Addr} {od7 an7 : Option Addr} {sl7 : Array (Option Value)} {oc7 kV7 dc7 pm7 cd7 ct7 : Value}
    {f8 : Addr} {od8 an8 : Option Addr} {sl8 : Array (Option Value)} {oc8 kV8 dc8 pm8 cd8 ct8 : Value}
    {f9 : Addr} {od9 an9 : Option Addr} {sl9 : Array (Option Value)} {oc9 kV9 dc9 pm9 cd9 ct9 : Value}
    {f10 : Addr} {od10 an10 : Option Addr} {sl10 : Array (Option Value)} {oc10 kV10 dc10 pm10 cd10 ct10 : Value}
    {f11 : Addr} {od11 an11 : Option Addr} {sl11 : Array (Option Value)} {oc11 kV11 dc11 pm11 cd11 ct11 : Value}
    {f12 : Addr} {od12 an12 : Option Addr} {sl12 : Array (Option Value)} {oc12 kV12 dc12 pm12 cd12 ct12 : Value}
    {f13 : Addr} {od13 an13 : Option Addr} {sl13 : Array (Option Value)} {oc13 kV13 dc13 pm13 cd13 ct13 : Value}
    {f14 : Addr} {od14 an14 : Option Addr} {sl14 : Array (Option Value)} {oc14 kV14 dc14 pm14 cd14 ct14 : Value}
    {f15 : Addr} {od15 an15 : Option Addr} {sl15 : Array (Option Value)} {oc15 kV15 dc15 pm15 cd15 ct15 : Value}
    {f16 : Addr} {od16 an16 : Option Addr} {sl16 : Array (Option Value)} {oc16 kV16 dc16 pm16 cd16 ct16 : Value}
    {f17 : Addr} {od17 an17 : Option Addr} {sl17 : Array (Option Value)} {oc17 kV17 dc17 pm17 cd17 ct17 : Value}
    {f18 : Addr} {od18 an18 : Option Addr} {sl18 : Array (Option Value)} {oc18 kV18 dc18 pm18 cd18 ct18 : Value}
    {f19 : Addr} {od19 an19 : Option Addr} {sl19 : Array (Option Value)} {oc19 kV19 dc19 pm19 cd19 ct19 : Value}
    {f20 : Addr} {od20 an20 : Option Addr} {sl20 : Array (Option Value)} {oc20 kV20 dc20 pm20 cd20 ct20 : Value}
    {f21 : Addr} {od21 an21 : Option Addr} {sl21 : Array (Option Value)} {oc21 kV21 dc21 pm21 cd21 ct21 : Value}
    {f22 : Addr} {od22 an22 : Option Addr} {sl22 : Array (Option Value)} {oc22 kV22 dc22 pm22 cd22 ct22 : Value}
    {f23 : Addr} {od23 an23 : Option Addr} {sl23 : Array (Option Value)} {oc23 kV23 dc23 pm23 cd23 ct23 : Value}
    {f24 : Addr} {od24 an24 : Option Addr} {sl24 : Array (Option Value)} {oc24 kV24 dc24 pm24 cd24 ct24 : Value}
    {f25 : Addr} {od25 an25 : Option Addr} {sl25 : Array (Option Value)} {oc25 kV25 dc25 pm25 cd25 ct25 : Value}
    {f26 : Addr} {od26 an26 : Option Addr} {sl26 : Array (Option Value)} {oc26 kV26 dc26 pm26 cd26 ct26 : Value}
    {f27 : Addr} {od27 an27 : Option Addr} {sl27 : Array (Option Value)} {oc27 kV27 dc27 pm27 cd27 ct27 : Value}
    {f28 : Addr} {od28 an28 : Option Addr} {sl28 : Array (Option Value)} {oc28 kV28 dc28 pm28 cd28 ct28 : Value}
    {f29 : Addr} {od29 an29 : Option Addr} {sl29 : Array (Option Value)} {oc29 kV29 dc29 pm29 cd29 ct29 : Value}
    {f30 : Addr} {od30 an30 : Option Addr} {sl30 : Array (Option Value)} {oc30 kV30 dc30 pm30 cd30 ct30 : Value}
    {f31 : Addr} {od31 an31 : Option Addr} {sl31 : Array (Option Value)} {oc31 kV31 dc31 pm31 cd31 ct31 : Value}
    {f32 : Addr} {od32 an32 : Option Addr} {sl32 : Array (Option Value)} {oc32 kV32 dc32 pm32 cd32 ct32 : Value}
    {f33 : Addr} {od33 an33 : Option Addr} {sl33 : Array (Option Value)} {oc33 kV33 dc33 pm33 cd33 ct33 : Value}
    {f34 : Addr} {od34 an34 : Option Addr} {sl34 : Array (Option Value)} {oc34 kV34 dc34 pm34 cd34 ct34 : Value}
    {f35 : Addr} {od35 an35 : Option Addr} {sl35 : Array (Option Value)} {oc35 kV35 dc35 pm35 cd35 ct35 : Value}
    {f36 : Addr} {od36 an36 : Option Addr} {sl36 : Array (Option Value)} {oc36 kV36 dc36 pm36 cd36 ct36 : Value}
    {f37 : Addr} {od37 an37 : Option Addr} {sl37 : Array (Option Value)} {oc37 kV37 dc37 pm37 cd37 ct37 : Value}
    {f38 : Addr} {od38 an38 : Option Addr} {sl38 : Array (Option Value)} {oc38 kV38 dc38 pm38 cd38 ct38 : Value}
    {f39 : Addr} {od39 an39 : Option Addr} {sl39 : Array (Option Value)} {oc39 kV39 dc39 pm39 cd39 ct39 : Value}
    {f40 : Addr} {od40 an40 : Option Addr} {sl40 : Array (Option Value)} {oc40 kV40 dc40 pm40 cd40 ct40 : Value}
    {f41 : Addr} {od41 an41 : Option Addr} {sl41 : Array (Option Value)} {oc41 kV41 dc41 pm41 cd41 ct41 : Value}
    {f42 : Addr} {od42 an42 : Option Addr} {sl42 : Array (Option Value)} {oc42 kV42 dc42 pm42 cd42 ct42 : Value}
    {f43 : Addr} {od43 an43 : Option Addr} {sl43 : Array (Option Value)} {oc43 kV43 dc43 pm43 cd43 ct43 : Value}
    {f44 : Addr} {od44 an44 : Option Addr} {sl44 : Array (Option Value)} {oc44 kV44 dc44 pm44 cd44 ct44 : Value}
    {f45 : Addr} {od45 an45 : Option Addr} {sl45 : Array (Option Value)} {oc45 kV45 dc45 pm45 cd45 ct45 : Value}
    {f46 : Addr} {od46 an46 : Option Addr} {sl46 : Array (Option Value)} {oc46 kV46 dc46 pm46 cd46 ct46 : Value}
    {f47 : Addr} {od47 an47 : Option Addr} {sl47 : Array (Option Value)} {oc47 kV47 dc47 pm47 cd47 ct47 : Value}
    {f48 : Addr} {od48 an48 : Option Addr} {sl48 : Array (Option Value)} {oc48 kV48 dc48 pm48 cd48 ct48 : Value}
    {f49 : Addr} {od49 an49 : Option Addr} {sl49 : Array (Option Value)} {oc49 kV49 dc49 pm49 cd49 ct49 : Value}
    {f50 : Addr} {od50 an50 : Option Addr} {sl50 : Array (Option Value)} {oc50 kV50 dc50 pm50 cd50 ct50 : Value}
    {f51 : Addr} {od51 an51 : Option Addr} {sl51 : Array (Option Value)} {oc51 kV51 dc51 pm51 cd51 ct51 : Value}
    (a0 : PySem.W.nsIn K mainGlobals "is_whole" = some (some (.ref f0)))
    (l0 : K.lookup f0 = some ⟨oc0, od0, .func (PySem.W.fnOf "is_whole" "is_whole" (defArgs s_is_whole) (defBody s_is_whole) (defScope s_is_whole) .none kV0 dc0 pm0 an0 cd0 ct0), sl0⟩) (c0 : PySem.W.codeIn K cd0 "is_whole" = true) (k0 : PySem.W.keepIn K (.ref f0) = true)
    (a1 : PySem.W.nsIn K mainGlobals "is_kind" = some (some (.ref f1)))
    (l1 : K.lookup f1 = some ⟨oc1, od1, .func (PySem.W.fnOf "is_kind" "is_kind" (defArgs s_is_kind) (defBody s_is_kind) (defScope s_is_kind) .none kV1 dc1 pm1 an1 cd1 ct1), sl1⟩) (c1 : PySem.W.codeIn K cd1 "is_kind" = true) (k1 : PySem.W.keepIn K (.ref f1) = true)
    (a2 : PySem.W.nsIn K mainGlobals "is_yarn" = some (some (.ref f2)))
    (l2 : K.lookup f2 = some ⟨oc2, od2, .func (PySem.W.fnOf "is_yarn" "is_yarn" (defArgs s_is_yarn) (defBody s_is_yarn) (defScope s_is_yarn) .none kV2 dc2 pm2 an2 cd2 ct2), sl2⟩) (c2 : PySem.W.codeIn K cd2 "is_yarn" = true) (k2 : PySem.W.keepIn K (.ref f2) = true)
    (a3 : PySem.W.nsIn K mainGlobals "is_cell" = some (some (.ref f3)))
    (l3 : K.lookup f3 = some ⟨oc3, od3, .func (PySem.W.fnOf "is_cell" "is_cell" (defArgs s_is_cell) (defBody s_is_cell) (defScope s_is_cell) .none kV3 dc3 pm3 an3 cd3 ct3), sl3⟩) (c3 : PySem.W.codeIn K cd3 "is_cell" = true) (k3 : PySem.W.keepIn K (.ref f3) = true)
    (a4 : PySem.W.nsIn K mainGlobals "is_word" = some (some (.ref f4)))
    (l4 : K.lookup f4 = some ⟨oc4, od4, .func (PySem.W.fnOf "is_word" "is_word" (defArgs s_is_word) (defBody s_is_word) (defScope s_is_word) .none kV4 dc4 pm4 an4 cd4 ct4), sl4⟩) (c4 : PySem.W.codeIn K cd4 "is_word" = true) (k4 : PySem.W.keepIn K (.ref f4) = true)
    (a5 : PySem.W.nsIn K mainGlobals "takes" = some (some (.ref f5)))
    (l5 : K.lookup f5 = some ⟨oc5, od5, .func (PySem.W.fnOf "takes" "takes" (defArgs s_takes) (defBody s_takes) (defScope s_takes) .none kV5 dc5 pm5 an5 cd5 ct5), sl5⟩) (c5 : PySem.W.codeIn K cd5 "takes" = true) (k5 : PySem.W.keepIn K (.ref f5) = true)
    (a6 : PySem.W.nsIn K mainGlobals "makes" = some (some (.ref f6)))
    (l6 : K.lookup f6 = some ⟨oc6, od6, .func (PySem.W.fnOf "makes" "makes" (defArgs s_makes) (defBody s_makes) (defScope s_makes) .none kV6 dc6 pm6 an6 cd6 ct6), sl6⟩) (c6 : PySem.W.codeIn K cd6 "makes" = true) (k6 : PySem.W.keepIn K (.ref f6) = true)
    (a7 : PySem.W.nsIn K mainGlobals "is_line" = some (some (.ref f7)))
    (l7 : K.lookup f7 = some ⟨oc7, od7, .func (PySem.W.fnOf "is_line" "is_line" (defArgs s_is_line) (defBody s_is_line) (defScope s_is_line) .none kV7 dc7 pm7 an7 cd7 ct7), sl7⟩) (c7 : PySem.W.codeIn K cd7 "is_line" = true) (k7 : PySem.W.keepIn K (.ref f7) = true)
    (a8 : PySem.W.nsIn K mainGlobals "is_row" = some (some (.ref f8)))
    (l8 : K.lookup f8 = some ⟨oc8, od8, .func (PySem.W.fnOf "is_row" "is_row" (defArgs s_is_row) (defBody s_is_row) (defScope s_is_row) .none kV8 dc8 pm8 an8 cd8 ct8), sl8⟩) (c8 : PySem.W.codeIn K cd8 "is_row" = true) (k8 : PySem.W.keepIn K (.ref f8) = true)
    (a9 : PySem.W.nsIn K mainGlobals "needs" = some (some (.ref f9)))
    (l9 : K.lookup f9 = some ⟨oc9, od9, .func (PySem.W.fnOf "needs" "needs" (defArgs s_needs) (defBody s_needs) (defScope s_needs) .none kV9 dc9 pm9 an9 cd9 ct9), sl9⟩) (c9 : PySem.W.codeIn K cd9 "needs" = true) (k9 : PySem.W.keepIn K (.ref f9) = true)
    (a10 : PySem.W.nsIn K mainGlobals "gain" = some (some (.ref f10)))
    (l10 : K.lookup f10 = some ⟨oc10, od10, .func (PySem.W.fnOf "gain" "gain" (defArgs s_gain) (defBody s_gain) (defScope s_gain) .none kV10 dc10 pm10 an10 cd10 ct10), sl10⟩) (c10 : PySem.W.codeIn K cd10 "gain" = true) (k10 : PySem.W.keepIn K (.ref f10) = true)
    (a11 : PySem.W.nsIn K mainGlobals "gain_of" = some (some (.ref f11)))
    (l11 : K.lookup f11 = some ⟨oc11, od11, .func (PySem.W.fnOf "gain_of" "gain_of" (defArgs s_gain_of) (defBody s_gain_of) (defScope s_gain_of) .none kV11 dc11 pm11 an11 cd11 ct11), sl11⟩) (c11 : PySem.W.codeIn K cd11 "gain_of" = true) (k11 : PySem.W.keepIn K (.ref f11) = true)
    (a12 : PySem.W.nsIn K mainGlobals "are_repeatable" = some (some (.ref f12)))
    (l12 : K.lookup f12 = some ⟨oc12, od12, .func (PySem.W.fnOf "are_repeatable" "are_repeatable" (defArgs s_are_repeatable) (defBody s_are_repeatable) (defScope s_are_repeatable) .none kV12 dc12 pm12 an12 cd12 ct12), sl12⟩) (c12 : PySem.W.codeIn K cd12 "are_repeatable" = true) (k12 : PySem.W.keepIn K (.ref f12) = true)
    (a13 : PySem.W.nsIn K mainGlobals "is_part" = some (some (.ref f13)))
    (l13 : K.lookup f13 = some ⟨oc13, od13, .func (PySem.W.fnOf "is_part" "is_part" (defArgs s_is_part) (defBody s_is_part) (defScope s_is_part) .none kV13 dc13 pm13 an13 cd13 ct13), sl13⟩) (c13 : PySem.W.codeIn K cd13 "is_part" = true) (k13 : PySem.W.keepIn K (.ref f13) = true)
    (a14 : PySem.W.nsIn K mainGlobals "rows_of" = some (some (.ref f14)))
    (l14 : K.lookup f14 = some ⟨oc14, od14, .func (PySem.W.fnOf "rows_of" "rows_of" (defArgs s_rows_of) (defBody s_rows_of) (defScope s_rows_of) .none kV14 dc14 pm14 an14 cd14 ct14), sl14⟩) (c14 : PySem.W.codeIn K cd14 "rows_of" = true) (k14 : PySem.W.keepIn K (.ref f14) = true)
    (a15 : PySem.W.nsIn K mainGlobals "groups_of" = some (some (.ref f15)))
    (l15 : K.lookup f15 = some ⟨oc15, od15, .func (PySem.W.fnOf "groups_of" "groups_of" (defArgs s_groups_of) (defBody s_groups_of) (defScope s_groups_of) .none kV15 dc15 pm15 an15 cd15 ct15), sl15⟩) (c15 : PySem.W.codeIn K cd15 "groups_of" = true) (k15 : PySem.W.keepIn K (.ref f15) = true)
    (a16 : PySem.W.nsIn K mainGlobals "measure_of" = some (some (.ref f16)))
    (l16 : K.lookup f16 = some ⟨oc16, od16, .func (PySem.W.fnOf "measure_of" "measure_of" (defArgs s_measure_of) (defBody s_measure_of) (defScope s_measure_of) .none kV16 dc16 pm16 an16 cd16 ct16), sl16⟩) (c16 : PySem.W.codeIn K cd16 "measure_of" = true) (k16 : PySem.W.keepIn K (.ref f16) = true)
    (a17 : PySem.W.nsIn K mainGlobals "growth_of" = some (some (.ref f17)))
    (l17 : K.lookup f17 = some ⟨oc17, od17, .func (PySem.W.fnOf "growth_of" "growth_of" (defArgs s_growth_of) (defBody s_growth_of) (defScope s_growth_of) .none kV17 dc17 pm17 an17 cd17 ct17), sl17⟩) (c17 : PySem.W.codeIn K cd17 "growth_of" = true) (k17 : PySem.W.keepIn K (.ref f17) = true)
    (a18 : PySem.W.findIn K (.ref cP) "__init__" = some (some (.ref f18))) (i18 : PySem.W.isFn K (.ref f18) = true)
    (l18 : K.lookup f18 = some ⟨oc18, od18, .func (PySem.W.fnOf "__init__" "Piece.__init__" (defArgs s_Piece_init) (defBody s_Piece_init) (defScope s_Piece_init) .none kV18 dc18 pm18 an18 cd18 ct18), sl18⟩) (c18 : PySem.W.codeIn K cd18 "Piece.__init__" = true) (k18 : PySem.W.keepIn K (.ref f18) = true)
    (a19 : PySem.W.nsIn K mainGlobals "check_piece" = some (some (.ref f19)))
    (l19 : K.lookup f19 = some ⟨oc19, od19, .func (PySem.W.fnOf "check_piece" "check_piece" (defArgs s_check_piece) (defBody s_check_piece) (defScope s_check_piece) .none kV19 dc19 pm19 an19 cd19 ct19), sl19⟩) (c19 : PySem.W.codeIn K cd19 "check_piece" = true) (k19 : PySem.W.keepIn K (.ref f19) = true)
    (a20 : PySem.W.findIn K (.ref cE) "__init__" = some (some (.ref f20))) (i20 : PySem.W.isFn K (.ref f20) = true)
    (l20 : K.lookup f20 = some ⟨oc20, od20, .func (PySem.W.fnOf "__init__" "Even.__init__" (defArgs s_Even_init) (defBody s_Even_init) (defScope s_Even_init) .none kV20 dc20 pm20 an20 cd20 ct20), sl20⟩) (c20 : PySem.W.codeIn K cd20 "Even.__init__" = true) (k20 : PySem.W.keepIn K (.ref f20) = true)
    (a21 : PySem.W.findIn K (.ref cE) "__bool__" = some (some (.ref f21))) (i21 : PySem.W.isFn K (.ref f21) = true)
    (l21 : K.lookup f21 = some ⟨oc21, od21, .func (PySem.W.fnOf "__bool__" "Even.__bool__" (defArgs s_Even_bool) (defBody s_Even_bool) (defScope s_Even_bool) .none kV21 dc21 pm21 an21 cd21 ct21), sl21⟩) (c21 : PySem.W.codeIn K cd21 "Even.__bool__" = true) (k21 : PySem.W.keepIn K (.ref f21) = true)
    (a22 : PySem.W.findIn K (.ref cE) "shows" = some (some (.ref f22))) (i22 : PySem.W.isFn K (.ref f22) = true)
    (l22 : K.lookup f22 = some ⟨oc22, od22, .func (PySem.W.fnOf "shows" "Even.shows" (defArgs s_Even_shows) (defBody s_Even_shows) (defScope s_Even_shows) .none kV22 dc22 pm22 an22 cd22 ct22), sl22⟩) (c22 : PySem.W.codeIn K cd22 "Even.shows" = true) (k22 : PySem.W.keepIn K (.ref f22) = true)
    (a23 : PySem.W.findIn K (.ref cU) "__init__" = some (some (.ref f23))) (i23 : PySem.W.isFn K (.ref f23) = true)
    (l23 : K.lookup f23 = some ⟨oc23, od23, .func (PySem.W.fnOf "__init__" "Uneven.__init__" (defArgs s_Uneven_init) (defBody s_Uneven_init) (defScope s_Uneven_init) .none kV23 dc23 pm23 an23 cd23 ct23), sl23⟩) (c23 : PySem.W.codeIn K cd23 "Uneven.__init__" = true) (k23 : PySem.W.keepIn K (.ref f23) = true)
    (a24 : PySem.W.findIn K (.ref cU) "__bool__" = some (some (.ref f24))) (i24 : PySem.W.isFn K (.ref f24) = true)
    (l24 : K.lookup f24 = some ⟨oc24, od24, .func (PySem.W.fnOf "__bool__" "Uneven.__bool__" (defArgs s_Uneven_bool) (defBody s_Uneven_bool) (defScope s_Uneven_bool) .none kV24 dc24 pm24 an24 cd24 ct24), sl24⟩) (c24 : PySem.W.codeIn K cd24 "Uneven.__bool__" = true) (k24 : PySem.W.keepIn K (.ref f24) = true)
    (a25 : PySem.W.findIn K (.ref cU) "shows" = some (some (.ref f25))) (i25 : PySem.W.isFn K (.ref f25) = true)
    (l25 : K.lookup f25 = some ⟨oc25, od25, .func (PySem.W.fnOf "shows" "Uneven.shows" (defArgs s_Uneven_shows) (defBody s_Uneven_shows) (defScope s_Uneven_shows) .none kV25 dc25 pm25 an25 cd25 ct25), sl25⟩) (c25 : PySem.W.codeIn K cd25 "Uneven.shows" = true) (k25 : PySem.W.keepIn K (.ref f25) = true)
    (a26 : PySem.W.nsIn K mainGlobals "spread" = some (some (.ref f26)))
    (l26 : K.lookup f26 = some ⟨oc26, od26, .func (PySem.W.fnOf "spread" "spread" (defArgs s_spread) (defBody s_spread) (defScope s_spread) .none kV26 dc26 pm26 an26 cd26 ct26), sl26⟩) (c26 : PySem.W.codeIn K cd26 "spread" = true) (k26 : PySem.W.keepIn K (.ref f26) = true)
    (a27 : PySem.W.nsIn K mainGlobals "judge_spread" = some (some (.ref f27)))
    (l27 : K.lookup f27 = some ⟨oc27, od27, .func (PySem.W.fnOf "judge_spread" "judge_spread" (defArgs s_judge_spread) (defBody s_judge_spread) (defScope s_judge_spread) .none kV27 dc27 pm27 an27 cd27 ct27), sl27⟩) (c27 : PySem.W.codeIn K cd27 "judge_spread" = true) (k27 : PySem.W.keepIn K (.ref f27) = true)
    (a28 : PySem.W.nsIn K mainGlobals "uneven_of" = some (some (.ref f28)))
    (l28 : K.lookup f28 = some ⟨oc28, od28, .func (PySem.W.fnOf "uneven_of" "uneven_of" (defArgs s_uneven_of) (defBody s_uneven_of) (defScope s_uneven_of) .none kV28 dc28 pm28 an28 cd28 ct28), sl28⟩) (c28 : PySem.W.codeIn K cd28 "uneven_of" = true) (k28 : PySem.W.keepIn K (.ref f28) = true)
    (a29 : PySem.W.nsIn K mainGlobals "schedule" = some (some (.ref f29)))
    (l29 : K.lookup f29 = some ⟨oc29, od29, .func (PySem.W.fnOf "schedule" "schedule" (defArgs s_schedule) (defBody s_schedule) (defScope s_schedule) .none kV29 dc29 pm29 an29 cd29 ct29), sl29⟩) (c29 : PySem.W.codeIn K cd29 "schedule" = true) (k29 : PySem.W.keepIn K (.ref f29) = true)
    (a30 : PySem.W.nsIn K mainGlobals "shaped" = some (some (.ref f30)))
    (l30 : K.lookup f30 = some ⟨oc30, od30, .func (PySem.W.fnOf "shaped" "shaped" (defArgs s_shaped) (defBody s_shaped) (defScope s_shaped) .none kV30 dc30 pm30 an30 cd30 ct30), sl30⟩) (c30 : PySem.W.codeIn K cd30 "shaped" = true) (k30 : PySem.W.keepIn K (.ref f30) = true)
    (a31 : PySem.W.nsIn K mainGlobals "plain_parts" = some (some (.ref f31)))
    (l31 : K.lookup f31 = some ⟨oc31, od31, .func (PySem.W.fnOf "plain_parts" "plain_parts" (defArgs s_plain_parts) (defBody s_plain_parts) (defScope s_plain_parts) .none kV31 dc31 pm31 an31 cd31 ct31), sl31⟩) (c31 : PySem.W.codeIn K cd31 "plain_parts" = true) (k31 : PySem.W.keepIn K (.ref f31) = true)
    (a32 : PySem.W.nsIn K mainGlobals "is_gap" = some (some (.ref f32)))
    (l32 : K.lookup f32 = some ⟨oc32, od32, .func (PySem.W.fnOf "is_gap" "is_gap" (defArgs s_is_gap) (defBody s_is_gap) (defScope s_is_gap) .none kV32 dc32 pm32 an32 cd32 ct32), sl32⟩) (c32 : PySem.W.codeIn K cd32 "is_gap" = true) (k32 : PySem.W.keepIn K (.ref f32) = true)
    (a33 : PySem.W.nsIn K mainGlobals "check_gaps" = some (some (.ref f33)))
    (l33 : K.lookup f33 = some ⟨oc33, od33, .func (PySem.W.fnOf "check_gaps" "check_gaps" (defArgs s_check_gaps) (defBody s_check_gaps) (defScope s_check_gaps) .none kV33 dc33 pm33 an33 cd33 ct33), sl33⟩) (c33 : PySem.W.codeIn K cd33 "check_gaps" = true) (k33 : PySem.W.keepIn K (.ref f33) = true)
    (a34 : PySem.W.nsIn K mainGlobals "spread_gaps" = some (some (.ref f34)))
    (l34 : K.lookup f34 = some ⟨oc34, od34, .func (PySem.W.fnOf "spread_gaps" "spread_gaps" (defArgs s_spread_gaps) (defBody s_spread_gaps) (defScope s_spread_gaps) .none kV34 dc34 pm34 an34 cd34 ct34), sl34⟩) (c34 : PySem.W.codeIn K cd34 "spread_gaps" = true) (k34 : PySem.W.keepIn K (.ref f34) = true)
    (a35 : PySem.W.nsIn K mainGlobals "turned_gaps" = some (some (.ref f35)))
    (l35 : K.lookup f35 = some ⟨oc35, od35, .func (PySem.W.fnOf "turned_gaps" "turned_gaps" (defArgs s_turned_gaps) (defBody s_turned_gaps) (defScope s_turned_gaps) .none kV35 dc35 pm35 an35 cd35 ct35), sl35⟩) (c35 : PySem.W.codeIn K cd35 "turned_gaps" = true) (k35 : PySem.W.keepIn K (.ref f35) = true)
    (a36 : PySem.W.nsIn K mainGlobals "stretch_sum" = some (some (.ref f36)))
    (l36 : K.lookup f36 = some ⟨oc36, od36, .func (PySem.W.fnOf "stretch_sum" "stretch_sum" (defArgs s_stretch_sum) (defBody s_stretch_sum) (defScope s_stretch_sum) .none kV36 dc36 pm36 an36 cd36 ct36), sl36⟩) (c36 : PySem.W.codeIn K cd36 "stretch_sum" = true) (k36 : PySem.W.keepIn K (.ref f36) = true)
    (a37 : PySem.W.nsIn K mainGlobals "_law_number" = some (some (.ref f37)))
    (l37 : K.lookup f37 = some ⟨oc37, od37, .func (PySem.W.fnOf "_law_number" "_law_number" (defArgs s_law_number) (defBody s_law_number) (defScope s_law_number) .none kV37 dc37 pm37 an37 cd37 ct37), sl37⟩) (c37 : PySem.W.codeIn K cd37 "_law_number" = true) (k37 : PySem.W.keepIn K (.ref f37) = true)
    (a38 : PySem.W.nsIn K mainGlobals "_law_take" = some (some (.ref f38)))
    (l38 : K.lookup f38 = some ⟨oc38, od38, .func (PySem.W.fnOf "_law_take" "_law_take" (defArgs s_law_take) (defBody s_law_take) (defScope s_law_take) .none kV38 dc38 pm38 an38 cd38 ct38), sl38⟩) (c38 : PySem.W.codeIn K cd38 "_law_take" = true) (k38 : PySem.W.keepIn K (.ref f38) = true)
    (a39 : PySem.W.nsIn K mainGlobals "_law_pick" = some (some (.ref f39)))
    (l39 : K.lookup f39 = some ⟨oc39, od39, .func (PySem.W.fnOf "_law_pick" "_law_pick" (defArgs s_law_pick) (defBody s_law_pick) (defScope s_law_pick) .none kV39 dc39 pm39 an39 cd39 ct39), sl39⟩) (c39 : PySem.W.codeIn K cd39 "_law_pick" = true) (k39 : PySem.W.keepIn K (.ref f39) = true)
    (a40 : PySem.W.nsIn K mainGlobals "_law_cell" = some (some (.ref f40)))
    (l40 : K.lookup f40 = some ⟨oc40, od40, .func (PySem.W.fnOf "_law_cell" "_law_cell" (defArgs s_law_cell) (defBody s_law_cell) (defScope s_law_cell) .none kV40 dc40 pm40 an40 cd40 ct40), sl40⟩) (c40 : PySem.W.codeIn K cd40 "_law_cell" = true) (k40 : PySem.W.keepIn K (.ref f40) = true)
    (a41 : PySem.W.nsIn K mainGlobals "_law_word" = some (some (.ref f41)))
    (l41 : K.lookup f41 = some ⟨oc41, od41, .func (PySem.W.fnOf "_law_word" "_law_word" (defArgs s_law_word) (defBody s_law_word) (defScope s_law_word) .none kV41 dc41 pm41 an41 cd41 ct41), sl41⟩) (c41 : PySem.W.codeIn K cd41 "_law_word" = true) (k41 : PySem.W.keepIn K (.ref f41) = true)
    (a42 : PySem.W.nsIn K mainGlobals "_law_kinds" = some (some (.ref f42)))
    (l42 : K.lookup f42 = some ⟨oc42, od42, .func (PySem.W.fnOf "_law_kinds" "_law_kinds" (defArgs s_law_kinds) (defBody s_law_kinds) (defScope s_law_kinds) .none kV42 dc42 pm42 an42 cd42 ct42), sl42⟩) (c42 : PySem.W.codeIn K cd42 "_law_kinds" = true) (k42 : PySem.W.keepIn K (.ref f42) = true)
    (a43 : PySem.W.nsIn K mainGlobals "_law_takes" = some (some (.ref f43)))
    (l43 : K.lookup f43 = some ⟨oc43, od43, .func (PySem.W.fnOf "_law_takes" "_law_takes" (defArgs s_law_takes) (defBody s_law_takes) (defScope s_law_takes) .none kV43 dc43 pm43 an43 cd43 ct43), sl43⟩) (c43 : PySem.W.codeIn K cd43 "_law_takes" = true) (k43 : PySem.W.keepIn K (.ref f43) = true)
    (a44 : PySem.W.nsIn K mainGlobals "_law_makes" = some (some (.ref f44)))
    (l44 : K.lookup f44 = some ⟨oc44, od44, .func (PySem.W.fnOf "_law_makes" "_law_makes" (defArgs s_law_makes) (defBody s_law_makes) (defScope s_law_makes) .none kV44 dc44 pm44 an44 cd44 ct44), sl44⟩) (c44 : PySem.W.codeIn K cd44 "_law_makes" = true) (k44 : PySem.W.keepIn K (.ref f44) = true)
    (a45 : PySem.W.nsIn K mainGlobals "_law_all_rows" = some (some (.ref f45)))
    (l45 : K.lookup f45 = some ⟨oc45, od45, .func (PySem.W.fnOf "_law_all_rows" "_law_all_rows" (defArgs s_law_all_rows) (defBody s_law_all_rows) (defScope s_law_all_rows) .none kV45 dc45 pm45 an45 cd45 ct45), sl45⟩) (c45 : PySem.W.codeIn K cd45 "_law_all_rows" = true) (k45 : PySem.W.keepIn K (.ref f45) = true)
    (a46 : PySem.W.nsIn K mainGlobals "_law_easy_row" = some (some (.ref f46)))
    (l46 : K.lookup f46 = some ⟨oc46, od46, .func (PySem.W.fnOf "_law_easy_row" "_law_easy_row" (defArgs s_law_easy_row) (defBody s_law_easy_row) (defScope s_law_easy_row) .none kV46 dc46 pm46 an46 cd46 ct46), sl46⟩) (c46 : PySem.W.codeIn K cd46 "_law_easy_row" = true) (k46 : PySem.W.keepIn K (.ref f46) = true)
    (a47 : PySem.W.nsIn K mainGlobals "_law_even" = some (some (.ref f47)))
    (l47 : K.lookup f47 = some ⟨oc47, od47, .func (PySem.W.fnOf "_law_even" "_law_even" (defArgs s_law_even) (defBody s_law_even) (defScope s_law_even) .none kV47 dc47 pm47 an47 cd47 ct47), sl47⟩) (c47 : PySem.W.codeIn K cd47 "_law_even" = true) (k47 : PySem.W.keepIn K (.ref f47) = true)
    (a48 : PySem.W.nsIn K mainGlobals "_law_sum" = some (some (.ref f48)))
    (l48 : K.lookup f48 = some ⟨oc48, od48, .func (PySem.W.fnOf "_law_sum" "_law_sum" (defArgs s_law_sum) (defBody s_law_sum) (defScope s_law_sum) .none kV48 dc48 pm48 an48 cd48 ct48), sl48⟩) (c48 : PySem.W.codeIn K cd48 "_law_sum" = true) (k48 : PySem.W.keepIn K (.ref f48) = true)
    (a49 : PySem.W.nsIn K mainGlobals "_law_judged" = some (some (.ref f49)))
    (l49 : K.lookup f49 = some ⟨oc49, od49, .func (PySem.W.fnOf "_law_judged" "_law_judged" (defArgs s_law_judged) (defBody s_law_judged) (defScope s_law_judged) .none kV49 dc49 pm49 an49 cd49 ct49), sl49⟩) (c49 : PySem.W.codeIn K cd49 "_law_judged" = true) (k49 : PySem.W.keepIn K (.ref f49) = true)
    (a50 : PySem.W.nsIn K mainGlobals "_law_shaped" = some (some (.ref f50)))
    (l50 : K.lookup f50 = some ⟨oc50, od50, .func (PySem.W.fnOf "_law_shaped" "_law_shaped" (defArgs s_law_shaped) (defBody s_law_shaped) (defScope s_law_shaped) .none kV50 dc50 pm50 an50 cd50 ct50), sl50⟩) (c50 : PySem.W.codeIn K cd50 "_law_shaped" = true) (k50 : PySem.W.keepIn K (.ref f50) = true)
    (a51 : PySem.W.nsIn K mainGlobals "law" = some (some (.ref f51)))
    (l51 : K.lookup f51 = some ⟨oc51, od51, .func (PySem.W.fnOf "law" "law" (defArgs s_law) (defBody s_law) (defScope s_law) .none kV51 dc51 pm51 an51 cd51 ct51), sl51⟩) (c51 : PySem.W.codeIn K cd51 "law" = true) (k51 : PySem.W.keepIn K (.ref f51) = true)
    (aS_cP : PySem.W.nsIn K mainGlobals "Piece" = some (some (.ref cP)))
    (aS_cE : PySem.W.nsIn K mainGlobals "Even" = some (some (.ref cE)))
    (aS_cU : PySem.W.nsIn K mainGlobals "Uneven" = some (some (.ref cU)))
    (gcG : PySem.W.nsIn K mainGlobals "BadGaps" = some (some (.ref cG)))
    (z0 : PySem.W.nsIn K mainGlobals "isinstance" = some none)
    (z1 : PySem.W.nsIn K mainGlobals "str" = some none)
    (z2 : PySem.W.nsIn K mainGlobals "tuple" = some none)
    (z3 : PySem.W.nsIn K mainGlobals "len" = some none)
    (z4 : PySem.W.nsIn K mainGlobals "all" = some none)
    (z5 : PySem.W.nsIn K mainGlobals "any" = some none)
    (z6 : PySem.W.nsIn K mainGlobals "sum" = some none)
    (z7 : PySem.W.nsIn K mainGlobals "sorted" = some none)
    (z8 : PySem.W.nsIn K mainGlobals "list" = some none)
    (z9 : PySem.W.nsIn K mainGlobals "int" = some none)
    (z10 : PySem.W.nsIn K mainGlobals "abs" = some none)
    (z11 : PySem.W.nsIn K mainGlobals "range" = some none)
    (z12 : PySem.W.nsIn K mainGlobals "bool" = some none)
    (z13 : PySem.W.nsIn K mainGlobals "dict" = some none)
    (z14 : PySem.W.nsIn K mainGlobals "min" = some none)
    (z15 : PySem.W.nsIn K mainGlobals "max" = some none)
    (z16 : PySem.W.nsIn K mainGlobals "set" = some none)
    (z17 : PySem.W.nsIn K mainGlobals "enumerate" = some none)
    (z18 : PySem.W.nsIn K mainGlobals "divmod" = some none)
    (pg_cP : PySem.W.plainGet K cP Str.empty = true)
    (hd_cP : PySem.W.hasDictIn K cP = true)
    (po_cP : PySem.W.plainOver K cP = true)
    (sa_cP : PySem.W.findIn K (.ref cP) "__setattr__" = some (some (.builtin "object.__setattr__")))
    (mk_cP : PySem.W.makesIn K cP = true)
    (kc_cP : PySem.W.keepIn K (.ref cP) = true)
    (n_cP_way : PySem.W.findIn K (.ref cP) "way" = some none)
    (n_cP_cast : PySem.W.findIn K (.ref cP) "cast" = some none)
    (n_cP_parts : PySem.W.findIn K (.ref cP) "parts" = some none)
    (pg_cE : PySem.W.plainGet K cE Str.empty = true)
    (hd_cE : PySem.W.hasDictIn K cE = true)
    (po_cE : PySem.W.plainOver K cE = true)
    (sa_cE : PySem.W.findIn K (.ref cE) "__setattr__" = some (some (.builtin "object.__setattr__")))
    (mk_cE : PySem.W.makesIn K cE = true)
    (kc_cE : PySem.W.keepIn K (.ref cE) = true)
    (n_cE_shift : PySem.W.findIn K (.ref cE) "shift" = some none)
    (pg_cU : PySem.W.plainGet K cU Str.empty = true)
    (hd_cU : PySem.W.hasDictIn K cU = true)
    (po_cU : PySem.W.plainOver K cU = true)
    (sa_cU : PySem.W.findIn K (.ref cU) "__setattr__" = some (some (.builtin "object.__setattr__")))
    (mk_cU : PySem.W.makesIn K cU = true)
    (kc_cU : PySem.W.keepIn K (.ref cU) = true)
    (n_cU_one : PySem.W.findIn K (.ref cU) "one" = some none)
    (n_cU_other : PySem.W.findIn K (.ref cU) "other" = some none)
    (n_cU_width : PySem.W.findIn K (.ref cU) "width" = some none)
    (aL : PySem.W.nsIn K mainGlobals "lcm" = some (some (.builtin "math.lcm")))
    (c_hn : PySem.W.specialIn K (.builtin "object.__class__") "__get__" = some (some (.builtin "getset_descriptor.__get__")))
    (c_ht : PySem.W.takesIn K (.builtin "object.__class__") = some true)
    (c_ha_cE : PySem.W.findIn K (.ref cE) "__class__" = some (some (.builtin "object.__class__")))
    (c_hm_cE : PySem.W.mroIn K cE (.type "object") = some true)
    (c_cl_cE : PySem.W.isClsIn K cE = true)
    (c_ty_cE : PySem.W.typeIn K (.ref cE) = some (.type "type"))
    (c_me_cE : PySem.W.subIn K (.ref cE) (.ref cE) = some true)
    (c_ha_cU : PySem.W.findIn K (.ref cU) "__class__" = some (some (.builtin "object.__class__")))
    (c_hm_cU : PySem.W.mroIn K cU (.type "object") = some true)
    (c_cl_cU : PySem.W.isClsIn K cU = true)
    (c_ty_cU : PySem.W.typeIn K (.ref cU) = some (.type "type"))
    (c_me_cU : PySem.W.subIn K (.ref cU) (.ref cU) = some true)
    (c_no : PySem.W.subIn K (.ref cU) (.ref cE) = some false)
    (c_ne : ((.ref cU : Value) == .ref cE) = false)
    (xq : PySem.W.excIn K cG [.type "ValueError", .type "Exception", .type "BaseException", .type "object"] "ValueError.__new__" = true)
    (xk : PySem.W.keepIn K (.ref cG) = true)
    (xb : PySem.W.subIn K (.ref cG) (.type "BaseException") = some true)
    (xt : PySem.W.typeIn K (.ref cG) = some (.type "type"))
    (xd : PySem.W.hasDictIn K cG = true)
    (xs : PySem.W.subIn K (.ref cG) (.ref cG) = some true)
    (y0 : PySem.W.nsIn K mainGlobals "KINDS" = some (some (.ref kd)))
    (y1 : K.lookup kd = some ⟨.type "dict", none, .dict es en, #[]⟩)
    (y2 : PySem.W.KeysLit w.params es.toList)
    (y3 : (kd == sysModules) = false)
    (y4 : es.toList.map (fun e => keyTxt e.key) = names0.map some)
    (y5 : KTs K kd kindL)
    (y6 : PySem.W.nsIn K kd "K" = some none)
    (y7 : PySem.W.nsIn K kd "" = some none)
    (y8 : PySem.W.nsIn K kd "yarn" = some none)
    (y9 : PySem.W.nsIn K kd "k2" = some none)
    (x0 : PySem.W.nsIn K mainGlobals "MOST_BEFORE" = some (some (.int 60 u0)))
    (x1 : PySem.W.nsIn K mainGlobals "MOST_GROUP" = some (some (.int 30 u1)))
    (x2 : PySem.W.nsIn K mainGlobals "MOST_AFTER" = some (some (.int 60 u2)))
    (x3 : PySem.W.nsIn K mainGlobals "MOST_BASE" = some (some (.int 99 u3)))
    (x4 : PySem.W.nsIn K mainGlobals "MOST_RISE" = some (some (.int 9 u4)))
    (x5 : PySem.W.nsIn K mainGlobals "MOST_PARTS" = some (some (.int 40 u5)))
    (x6 : PySem.W.nsIn K mainGlobals "MOST_ROWS" = some (some (.int 20 u6)))
    (x7 : PySem.W.nsIn K mainGlobals "MOST_CHANGE" = some (some (.int 12 u7)))
    (x8 : PySem.W.nsIn K mainGlobals "MOST_MEASURE" = some (some (.int 120 u8)))
    (x9 : PySem.W.nsIn K mainGlobals "MOST_GROWTH" = some (some (.int 12 u9)))
    (x10 : PySem.W.nsIn K mainGlobals "MOST_TOTAL" = some (some (.int 10000 u10)))
    (x11 : PySem.W.nsIn K mainGlobals "MOST_GAPS" = some (some (.int 60 u11)))
    : ∃ fd : FuncData, (∀ (s : Shared) (v : Value), BindsTo s fd ⟨[v], []⟩ [("script", v)]) ∧ ∀ base : Heap, K.In base → base.Ns mainGlobals mg → FnOk l.prog w K mg base CX0 13 fa fd ["script"] (spLaw K) := by
  have e := hfa.symm.trans (PySem.W.mg_of X G a51)
  cases e
  have cl_cP : Cls K cP := ⟨pg_cP, hd_cP, po_cP, sa_cP⟩
  have cl_cE : Cls K cE := ⟨pg_cE, hd_cE, po_cE, sa_cE⟩
  have cl_cU : Cls K cU := ⟨pg_cU, hd_cU, po_cU, sa_cU⟩
  have KD : KDict K w kd es en := ⟨y1, y2, y3⟩
  have tab := tab_mk KD y5 (by
    intro z hz
    simp only [strange, List.mem_cons, List.not_mem_nil, or_false] at hz
    rcases hz with rfl | rfl | rfl | rfl
    · exact y6
    · exact y7
    · exact y8
    · exact y9)
  have T : TxtY w K mg kd cP cE cU := { mg_KINDS := PySem.W.mg_of X G y0, tab_KINDS := tab, keys_KINDS := ⟨es, en, KD, y4, by decide +kernel⟩, mg_lcm := PySem.W.mg_of X G aL, mg_MOST_BEFORE := ⟨_, PySem.W.mg_of X G x0⟩, mg_MOST_GROUP := ⟨_, PySem.W.mg_of X G x1⟩, mg_MOST_AFTER := ⟨_, PySem.W.mg_of X G x2⟩, mg_MOST_BASE := ⟨_, PySem.W.mg_of X G x3⟩, mg_MOST_RISE := ⟨_, PySem.W.mg_of X G x4⟩, mg_MOST_PARTS := ⟨_, PySem.W.mg_of X G x5⟩, mg_MOST_ROWS := ⟨_, PySem.W.mg_of X G x6⟩, mg_MOST_CHANGE := ⟨_, PySem.W.mg_of X G x7⟩, mg_MOST_MEASURE := ⟨_, PySem.W.mg_of X G x8⟩, mg_MOST_GROWTH := ⟨_, PySem.W.mg_of X G x9⟩, mg_MOST_TOTAL := ⟨_, PySem.W.mg_of X G x10⟩, mg_MOST_GAPS := ⟨_, PySem.W.mg_of X G x11⟩, mg_isinstance := PySem.W.mg_none_of X G z0, mg_str := PySem.W.mg_none_of X G z1, mg_tuple := PySem.W.mg_none_of X G z2, mg_len := PySem.W.mg_none_of X G z3, mg_all := PySem.W.mg_none_of X G z4, mg_any := PySem.W.mg_none_of X G z5, mg_sum := PySem.W.mg_none_of X G z6, mg_sorted := PySem.W.mg_none_of X G z7, mg_list := PySem.W.mg_none_of X G z8, mg_int := PySem.W.mg_none_of X G z9, mg_abs := PySem.W.mg_none_of X G z10, mg_range := PySem.W.mg_none_of X G z11, mg_bool := PySem.W.mg_none_of X G z12, mg_dict := PySem.W.mg_none_of X G z13, mg_min := PySem.W.mg_none_of X G z14, mg_max := PySem.W.mg_none_of X G z15, mg_set := PySem.W.mg_none_of X G z16, mg_enumerate := PySem.W.mg_none_of X G z17, mg_divmod := PySem.W.mg_none_of X G z18, cl_Piece := cl_cP, cl_Even := cl_cE, cl_Uneven := cl_cU, na_way := n_cP_way, na_cast := n_cP_cast, na_parts := n_cP_parts, na_shift := n_cE_shift, na_one := n_cU_one, na_other := n_cU_other, na_width := n_cU_width, is_Even := ⟨cl_cE, c_ha_cE, c_hn, c_ht, c_hm_cE, kit_yes c_cl_cE c_ty_cE c_me_cE⟩, no_Even := ⟨⟨cl_cU, c_ha_cU, c_hn, c_ht, c_hm_cU, kit_yes c_cl_cU c_ty_cU c_me_cU⟩, kit_no c_ne c_cl_cE c_ty_cE c_no⟩ }
  have TX := T.toTxtX
  have TC := TX.toTxtC
  have TP := TC.toTxtP
  have TBk := TP.toTxtK
  have TX_BadGaps : TxX K mg "BadGaps" cG := ⟨xq, PySem.W.mg_of X G gcG, xk, xb, xt⟩
  have xm := PySem.W.exm_ref xb xd xt xs
  have F0 := fun_mk (st := s_is_whole) l0 c0 k0
  have b0 := F0.binds (ps := ["thing"]) fun _ _ _ _ _ _ us hl => match us, hl with | [_], _ => rfl
  have F1 := fun_mk (st := s_is_kind) l1 c1 k1
  have b1 := F1.binds (ps := ["thing"]) fun _ _ _ _ _ _ us hl => match us, hl with | [_], _ => rfl
  have F2 := fun_mk (st := s_is_yarn) l2 c2 k2
  have b2 := F2.binds (ps := ["thing"]) fun _ _ _ _ _ _ us hl => match us, hl with | [_], _ => rfl
  have F3 := fun_mk (st := s_is_cell) l3 c3 k3
  have b3 := F3.binds (ps := ["thing"]) fun _ _ _ _ _ _ us hl => match us, hl with | [_], _ => rfl
  have F4 := fun_mk (st := s_is_word) l4 c4 k4
  have b4 := F4.binds (ps := ["thing"]) fun _ _ _ _ _ _ us hl => match us, hl with | [_], _ => rfl
  have F5 := fun_mk (st := s_takes) l5 c5 k5
  have b5 := F5.binds (ps := ["word"]) fun _ _ _ _ _ _ us hl => match us, hl with | [_], _ => rfl
  have F6 := fun_mk (st := s_makes) l6 c6 k6
  have b6 := F6.binds (ps := ["word"]) fun _ _ _ _ _ _ us hl => match us, hl with | [_], _ => rfl
  have F7 := fun_mk (st := s_is_line) l7 c7 k7
  have b7 := F7.binds (ps := ["thing"]) fun _ _ _ _ _ _ us hl => match us, hl with | [_], _ => rfl
  have F8 := fun_mk (st := s_is_row) l8 c8 k8
  have b8 := F8.binds (ps := ["thing"]) fun _ _ _ _ _ _ us hl => match us, hl with | [_], _ => rfl
  have F9 := fun_mk (st := s_needs) l9 c9 k9
  have b9 := F9.binds (ps := ["row"]) fun _ _ _ _ _ _ us hl => match us, hl with | [_], _ => rfl
  have F10 := fun_mk (st := s_gain) l10 c10 k10
  have b10 := F10.binds (ps := ["row"]) fun _ _ _ _ _ _ us hl => match us, hl with | [_], _ => rfl
  have F11 := fun_mk (st := s_gain_of) l11 c11 k11
  have b11 := F11.binds (ps := ["rows"]) fun _ _ _ _ _ _ us hl => match us, hl with | [_], _ => rfl
  have F12 := fun_mk (st := s_are_repeatable) l12 c12 k12
  have b12 := F12.binds (ps := ["thing"]) fun _ _ _ _ _ _ us hl => match us, hl with | [_], _ => rfl
  have F13 := fun_mk (st := s_is_part) l13 c13 k13
  have b13 := F13.binds (ps := ["thing"]) fun _ _ _ _ _ _ us hl => match us, hl with | [_], _ => rfl
  have F14 := fun_mk (st := s_rows_of) l14 c14 k14
  have b14 := F14.binds (ps := ["part"]) fun _ _ _ _ _ _ us hl => match us, hl with | [_], _ => rfl
  have F15 := fun_mk (st := s_groups_of) l15 c15 k15
  have b15 := F15.binds (ps := ["parts"]) fun _ _ _ _ _ _ us hl => match us, hl with | [_], _ => rfl
  have F16 := fun_mk (st := s_measure_of) l16 c16 k16
  have b16 := F16.binds (ps := ["parts"]) fun _ _ _ _ _ _ us hl => match us, hl with | [_], _ => rfl
  have F17 := fun_mk (st := s_growth_of) l17 c17 k17
  have b17 := F17.binds (ps := ["parts"]) fun _ _ _ _ _ _ us hl => match us, hl with | [_], _ => rfl
  have F18 := fun_mk (st := s_Piece_init) l18 c18 k18
  have b18 := F18.binds (ps := ["self", "way", "cast", "parts"]) fun _ _ _ _ _ _ us hl => match us, hl with | [_, _, _, _], _ => rfl
  have F19 := fun_mk (st := s_check_piece) l19 c19 k19
  have b19 := F19.binds (ps := ["way", "cast", "parts"]) fun _ _ _ _ _ _ us hl => match us, hl with | [_, _, _], _ => rfl
  have F20 := fun_mk (st := s_Even_init) l20 c20 k20
  have b20 := F20.binds (ps := ["self", "shift"]) fun _ _ _ _ _ _ us hl => match us, hl with | [_, _], _ => rfl
  have F21 := fun_mk (st := s_Even_bool) l21 c21 k21
  have b21 := F21.binds (ps := ["self"]) fun _ _ _ _ _ _ us hl => match us, hl with | [_], _ => rfl
  have F22 := fun_mk (st := s_Even_shows) l22 c22 k22
  have b22 := F22.binds (ps := ["self", "gaps"]) fun _ _ _ _ _ _ us hl => match us, hl with | [_, _], _ => rfl
  have F23 := fun_mk (st := s_Uneven_init) l23 c23 k23
  have b23 := F23.binds (ps := ["self", "one", "other", "width"]) fun _ _ _ _ _ _ us hl => match us, hl with | [_, _, _, _], _ => rfl
  have F24 := fun_mk (st := s_Uneven_bool) l24 c24 k24
  have b24 := F24.binds (ps := ["self"]) fun _ _ _ _ _ _ us hl => match us, hl with | [_], _ => rfl
  have F25 := fun_mk (st := s_Uneven_shows) l25 c25 k25
  have b25 := F25.binds (ps := ["self", "gaps"]) fun _ _ _ _ _ _ us hl => match us, hl with | [_, _], _ => rfl
  have F26 := fun_mk (st := s_spread) l26 c26 k26
  have b26 := F26.binds (ps := ["total", "parts"]) fun _ _ _ _ _ _ us hl => match us, hl with | [_, _], _ => rfl
  have F27 := fun_mk (st := s_judge_spread) l27 c27 k27
  have b27 := F27.binds (ps := ["gaps"]) fun _ _ _ _ _ _ us hl => match us, hl with | [_], _ => rfl
  have F28 := fun_mk (st := s_uneven_of) l28 c28 k28
  have b28 := F28.binds (ps := ["gaps"]) fun _ _ _ _ _ _ us hl => match us, hl with | [_], _ => rfl
  have F29 := fun_mk (st := s_schedule) l29 c29 k29
  have b29 := F29.binds (ps := ["rows", "times"]) fun _ _ _ _ _ _ us hl => match us, hl with | [_, _], _ => rfl
  have F30 := fun_mk (st := s_shaped) l30 c30 k30
  have b30 := F30.binds (ps := ["way", "cast", "plain", "change", "gaps"]) fun _ _ _ _ _ _ us hl => match us, hl with | [_, _, _, _, _], _ => rfl
  have F31 := fun_mk (st := s_plain_parts) l31 c31 k31
  have b31 := F31.binds (ps := ["row", "times"]) fun _ _ _ _ _ _ us hl => match us, hl with | [_, _], _ => rfl
  have F32 := fun_mk (st := s_is_gap) l32 c32 k32
  have b32 := F32.binds (ps := ["thing"]) fun _ _ _ _ _ _ us hl => match us, hl with | [_], _ => rfl
  have F33 := fun_mk (st := s_check_gaps) l33 c33 k33
  have b33 := F33.binds (ps := ["gaps"]) fun _ _ _ _ _ _ us hl => match us, hl with | [_], _ => rfl
  have F34 := fun_mk (st := s_spread_gaps) l34 c34 k34
  have b34 := F34.binds (ps := ["total", "parts"]) fun _ _ _ _ _ _ us hl => match us, hl with | [_, _], _ => rfl
  have F35 := fun_mk (st := s_turned_gaps) l35 c35 k35
  have b35 := F35.binds (ps := ["gaps", "shift"]) fun _ _ _ _ _ _ us hl => match us, hl with | [_, _], _ => rfl
  have F36 := fun_mk (st := s_stretch_sum) l36 c36 k36
  have b36 := F36.binds (ps := ["gaps", "first", "width"]) fun _ _ _ _ _ _ us hl => match us, hl with | [_, _, _], _ => rfl
  have F37 := fun_mk (st := s_law_number) l37 c37 k37
  have b37 := F37.binds (ps := ["script", "index"]) fun _ _ _ _ _ _ us hl => match us, hl with | [_, _], _ => rfl
  have F38 := fun_mk (st := s_law_take) l38 c38 k38
  have b38 := F38.binds (ps := ["draw", "many"]) fun _ _ _ _ _ _ us hl => match us, hl with | [_, _], _ => rfl
  have F39 := fun_mk (st := s_law_pick) l39 c39 k39
  have b39 := F39.binds (ps := ["draw", "items"]) fun _ _ _ _ _ _ us hl => match us, hl with | [_, _], _ => rfl
  have F40 := fun_mk (st := s_law_cell) l40 c40 k40
  have b40 := F40.binds (ps := ["draw", "yarns"]) fun _ _ _ _ _ _ us hl => match us, hl with | [_, _], _ => rfl
  have F41 := fun_mk (st := s_law_word) l41 c41 k41
  have b41 := F41.binds (ps := ["draw", "many", "yarns"]) fun _ _ _ _ _ _ us hl => match us, hl with | [_, _, _], _ => rfl
  have F42 := fun_mk (st := s_law_kinds) l42 c42 k42
  have b42 := F42.binds (ps := []) fun _ _ _ _ _ _ us hl => match us, hl with | [], _ => rfl
  have F43 := fun_mk (st := s_law_takes) l43 c43 k43
  have b43 := F43.binds (ps := ["word", "kinds"]) fun _ _ _ _ _ _ us hl => match us, hl with | [_, _], _ => rfl
  have F44 := fun_mk (st := s_law_makes) l44 c44 k44
  have b44 := F44.binds (ps := ["word", "kinds"]) fun _ _ _ _ _ _ us hl => match us, hl with | [_, _], _ => rfl
  have F45 := fun_mk (st := s_law_all_rows) l45 c45 k45
  have b45 := F45.binds (ps := ["parts", "size"]) fun _ _ _ _ _ _ us hl => match us, hl with | [_, _], _ => rfl
  have F46 := fun_mk (st := s_law_easy_row) l46 c46 k46
  have b46 := F46.binds (ps := ["draw", "yarns"]) fun _ _ _ _ _ _ us hl => match us, hl with | [_, _], _ => rfl
  have F47 := fun_mk (st := s_law_even) l47 c47 k47
  have b47 := F47.binds (ps := ["gaps"]) fun _ _ _ _ _ _ us hl => match us, hl with | [_], _ => rfl
  have F48 := fun_mk (st := s_law_sum) l48 c48 k48
  have b48 := F48.binds (ps := ["gaps", "start", "width"]) fun _ _ _ _ _ _ us hl => match us, hl with | [_, _, _], _ => rfl
  have F49 := fun_mk (st := s_law_judged) l49 c49 k49
  have b49 := F49.binds (ps := ["gaps"]) fun _ _ _ _ _ _ us hl => match us, hl with | [_], _ => rfl
  have F50 := fun_mk (st := s_law_shaped) l50 c50 k50
  have b50 := F50.binds (ps := ["draw", "kinds"]) fun _ _ _ _ _ _ us hl => match us, hl with | [_, _], _ => rfl
  have F51 := fun_mk (st := s_law) l51 c51 k51
  refine ⟨PySem.W.fnOf "law" "law" (defArgs s_law) (defBody s_law) (defScope s_law) .none kV51 dc51 pm51 an51 cd51 ct51, fun s v => .of_eq rfl, fun base _ _ => ?_⟩
  have H0_G_law_number : Own l.prog w K mg base "_law_number" 1 ["script", "index"] pdNumber := Own.mk' (ok_law_number F37 TBk) (PySem.W.mg_of X G a37) k37 b37
  have H1_G_law_take : Own l.prog w K mg base "_law_take" 2 ["draw", "many"] pdTake := Own.mk' (ok_law_take F38 TBk H0_G_law_number) (PySem.W.mg_of X G a38) k38 b38
  have H2_G_law_kinds : Own l.prog w K mg base "_law_kinds" 1 [] pd_law_kinds := Own.mk' (ok_law_kinds F42 TBk) (PySem.W.mg_of X G a42) k42 b42
  have H3_G_is_whole : Own l.prog w K mg base "is_whole" 1 ["thing"] pd_is_whole := Own.mk' (ok_is_whole F0 TP) (PySem.W.mg_of X G a0) k0 b0
  have H4_G_is_gap : Own l.prog w K mg base "is_gap" 2 ["thing"] pd_is_gap := Own.mk' (ok_is_gap F32 TX H3_G_is_whole) (PySem.W.mg_of X G a32) k32 b32
  have H5_G_spread_gaps : Own l.prog w K mg base "spread_gaps" 1 ["total", "parts"] pd_spread_gaps := Own.mk' (ok_spread_gaps F34 TX) (PySem.W.mg_of X G a34) k34 b34
  have H6_G_spread : Own l.prog w K mg base "spread" 3 ["total", "parts"] pd_spread := Own.mk' (ok_spread F26 TX H4_G_is_gap H3_G_is_whole H5_G_spread_gaps) (PySem.W.mg_of X G a26) k26 b26
  have H7_GX_spread : OwnX l.prog w K mg base "spread" 4 ["total", "parts"] (pd_spreadX cG) := ⟨f26, _, (ok_spreadX F26 TX H4_G_is_gap H3_G_is_whole H5_G_spread_gaps TX_BadGaps), PySem.W.mg_of X G a26, k26, b26⟩
  have H8_G_check_gaps : OwnX l.prog w K mg base "check_gaps" 3 ["gaps"] (pd_check_gapsX cG) := ⟨f33, _, (ok_check_gapsX F33 TX H4_G_is_gap TX_BadGaps), PySem.W.mg_of X G a33, k33, b33⟩
  have H9_G_turned_gaps : Own l.prog w K mg base "turned_gaps" 2 ["gaps", "shift"] pd_turned_gaps := Own.mk' (ok_turned_gaps F35 TX H5_G_spread_gaps) (PySem.W.mg_of X G a35) k35 b35
  have H10_G_stretch_sum : Own l.prog w K mg base "stretch_sum" 1 ["gaps", "first", "width"] pd_stretch_sum := Own.mk' (ok_stretch_sum F36 TX) (PySem.W.mg_of X G a36) k36 b36
  have H11_MK_Uneven : MkX l.prog w K mg base "Uneven" cU 1 ["self", "one", "other", "width"] pd_Uneven_init := ⟨PySem.W.mg_of X G aS_cU, cl_cU, ⟨f23, _, (ok_Uneven_init F23 TX), ⟨mk_cU, a23, i23, kc_cU⟩, b23⟩⟩
  have H12_G_uneven_of : Own l.prog w K mg base "uneven_of" 3 ["gaps"] (pd_uneven_of cU) := Own.mk' (ok_uneven_of F28 TX H10_G_stretch_sum H11_MK_Uneven) (PySem.W.mg_of X G a28) k28 b28
  have H13_MK_Even : MkX l.prog w K mg base "Even" cE 1 ["self", "shift"] pd_Even_init := ⟨PySem.W.mg_of X G aS_cE, cl_cE, ⟨f20, _, (ok_Even_init F20 TX), ⟨mk_cE, a20, i20, kc_cE⟩, b20⟩⟩
  have H14_GX_judge_spread : OwnX l.prog w K mg base "judge_spread" 5 ["gaps"] (pd_judge_spreadX cG) := ⟨f27, _, (ok_judge_spreadX F27 TX H8_G_check_gaps H9_G_turned_gaps H12_G_uneven_of H13_MK_Even), PySem.W.mg_of X G a27, k27, b27⟩
  have H15_G_check_gaps : Own l.prog w K mg base "check_gaps" 3 ["gaps"] pd_check_gaps := Own.mk' (ok_check_gaps F33 TX H4_G_is_gap) (PySem.W.mg_of X G a33) k33 b33
  have H16_G_judge_spread : Own l.prog w K mg base "judge_spread" 4 ["gaps"] (pd_judge_spread cE cU) := Own.mk' (ok_judge_spread F27 TX H15_G_check_gaps H9_G_turned_gaps H12_G_uneven_of H13_MK_Even) (PySem.W.mg_of X G a27) k27 b27
  have H17_G_law_even : Own l.prog w K mg base "_law_even" 1 ["gaps"] pd_law_even := Own.mk' (ok_law_even F47 T) (PySem.W.mg_of X G a47) k47 b47
  have H18_G_law_sum : Own l.prog w K mg base "_law_sum" 1 ["gaps", "start", "width"] pd_law_sum := Own.mk' (ok_law_sum F48 T) (PySem.W.mg_of X G a48) k48 b48
  have H19_M_bool_Even : MthD l.prog w K mg base cE "__bool__" 1 ["self"] (pd_Even_bool cE) := ⟨f21, _, (ok_Even_bool F21 TX), ⟨a21, i21, k21⟩, b21⟩
  have H20_M_bool_Uneven : MthD l.prog w K mg base cU "__bool__" 1 ["self"] (pd_Uneven_bool cU) := ⟨f24, _, (ok_Uneven_bool F24 TX), ⟨a24, i24, k24⟩, b24⟩
  have H21_M_shows_Even : MthD l.prog w K mg base cE "shows" 4 ["self", "gaps"] (pd_Even_shows cE) := ⟨f22, _, (ok_Even_shows F22 TX H15_G_check_gaps H9_G_turned_gaps), ⟨a22, i22, k22⟩, b22⟩
  have H22_M_shows_Uneven : MthD l.prog w K mg base cU "shows" 4 ["self", "gaps"] (pd_Uneven_shows cU) := ⟨f25, _, (ok_Uneven_shows F25 TX H15_G_check_gaps H10_G_stretch_sum), ⟨a25, i25, k25⟩, b25⟩
  have H23_G_law_judged : Own l.prog w K mg base "_law_judged" 6 ["gaps"] pd_law_judged := Own.mk' (ok_law_judged F49 T H16_G_judge_spread H17_G_law_even H6_G_spread H18_G_law_sum H13_MK_Even H11_MK_Uneven H19_M_bool_Even H20_M_bool_Uneven H21_M_shows_Even H22_M_shows_Uneven) (PySem.W.mg_of X G a49) k49 b49
  have H24_G_schedule : Own l.prog w K mg base "schedule" 3 ["rows", "times"] pd_schedule := Own.mk' (ok_schedule F29 TX H4_G_is_gap) (PySem.W.mg_of X G a29) k29 b29
  have H25_G_law_pick : Own l.prog w K mg base "_law_pick" 3 ["draw", "items"] pdPick := Own.mk' (ok_law_pick F39 TBk H1_G_law_take) (PySem.W.mg_of X G a39) k39 b39
  have H26_G_law_cell : Own l.prog w K mg base "_law_cell" 4 ["draw", "yarns"] pd_law_cell := Own.mk' (ok_law_cell F40 T H25_G_law_pick) (PySem.W.mg_of X G a40) k40 b40
  have H27_G_law_word : Own l.prog w K mg base "_law_word" 5 ["draw", "many", "yarns"] pd_law_word := Own.mk' (ok_law_word F41 T H1_G_law_take H26_G_law_cell) (PySem.W.mg_of X G a41) k41 b41
  have H28_G_law_easy_row : Own l.prog w K mg base "_law_easy_row" 6 ["draw", "yarns"] pd_law_easy_row := Own.mk' (ok_law_easy_row F46 T H25_G_law_pick H27_G_law_word) (PySem.W.mg_of X G a46) k46 b46
  have H29_G_is_kind : Own l.prog w K mg base "is_kind" 1 ["thing"] pd_is_kind := Own.mk' (ok_is_kind F1 TBk) (PySem.W.mg_of X G a1) k1 b1
  have H30_G_is_yarn : Own l.prog w K mg base "is_yarn" 1 ["thing"] pd_is_yarn := Own.mk' (ok_is_yarn F2 TBk) (PySem.W.mg_of X G a2) k2 b2
  have H31_G_is_cell : Own l.prog w K mg base "is_cell" 2 ["thing"] pd_is_cell := Own.mk' (ok_is_cell F3 TBk H29_G_is_kind H30_G_is_yarn) (PySem.W.mg_of X G a3) k3 b3
  have H32_G_is_word : Own l.prog w K mg base "is_word" 3 ["thing"] pd_is_word := Own.mk' (ok_is_word F4 TBk H31_G_is_cell) (PySem.W.mg_of X G a4) k4 b4
  have H33_G_takes : Own l.prog w K mg base "takes" 1 ["word"] pd_takes := Own.mk' (ok_takes F5 TBk) (PySem.W.mg_of X G a5) k5 b5
  have H34_G_is_row : Own l.prog w K mg base "is_row" 4 ["thing"] pd_is_row := Own.mk' (ok_is_row F8 TBk H32_G_is_word H33_G_takes) (PySem.W.mg_of X G a8) k8 b8
  have H35_G_makes : Own l.prog w K mg base "makes" 1 ["word"] pd_makes := Own.mk' (ok_makes F6 TBk) (PySem.W.mg_of X G a6) k6 b6
  have H36_G_plain_parts : Own l.prog w K mg base "plain_parts" 2 ["row", "times"] pd_plain_parts := Own.mk' (ok_plain_parts F31 TX H33_G_takes H35_G_makes) (PySem.W.mg_of X G a31) k31 b31
  have H37_G_is_line : Own l.prog w K mg base "is_line" 2 ["thing"] pd_is_line := Own.mk' (ok_is_line F7 TP H3_G_is_whole) (PySem.W.mg_of X G a7) k7 b7
  have H38_G_needs : Own l.prog w K mg base "needs" 2 ["row"] pd_needs := Own.mk' (ok_needs F9 TBk H33_G_takes) (PySem.W.mg_of X G a9) k9 b9
  have H39_G_gain : Own l.prog w K mg base "gain" 3 ["row"] pd_gain := Own.mk' (ok_gain F10 TP H35_G_makes H38_G_needs) (PySem.W.mg_of X G a10) k10 b10
  have H40_G_gain_of : Own l.prog w K mg base "gain_of" 4 ["rows"] pd_gain_of := Own.mk' (ok_gain_of F11 TP H39_G_gain) (PySem.W.mg_of X G a11) k11 b11
  have H41_G_are_repeatable : Own l.prog w K mg base "are_repeatable" 5 ["thing"] pd_are_repeatable := Own.mk' (ok_are_repeatable F12 TP H34_G_is_row H33_G_takes H35_G_makes H40_G_gain_of) (PySem.W.mg_of X G a12) k12 b12
  have H42_G_is_part : Own l.prog w K mg base "is_part" 6 ["thing"] pd_is_part := Own.mk' (ok_is_part F13 TP H34_G_is_row H37_G_is_line H41_G_are_repeatable) (PySem.W.mg_of X G a13) k13 b13
  have H43_G_rows_of : Own l.prog w K mg base "rows_of" 1 ["part"] pd_rows_of := Own.mk' (ok_rows_of F14 TP) (PySem.W.mg_of X G a14) k14 b14
  have H44_G_groups_of : Own l.prog w K mg base "groups_of" 2 ["parts"] pd_groups_of := Own.mk' (ok_groups_of F15 TP H43_G_rows_of) (PySem.W.mg_of X G a15) k15 b15
  have H45_G_measure_of : Own l.prog w K mg base "measure_of" 3 ["parts"] pd_measure_of := Own.mk' (ok_measure_of F16 TP H44_G_groups_of H33_G_takes H35_G_makes) (PySem.W.mg_of X G a16) k16 b16
  have H46_G_growth_of : Own l.prog w K mg base "growth_of" 3 ["parts"] pd_growth_of := Own.mk' (ok_growth_of F17 TP H44_G_groups_of H33_G_takes H35_G_makes) (PySem.W.mg_of X G a17) k17 b17
  have H47_G_check_piece : Own l.prog w K mg base "check_piece" 7 ["way", "cast", "parts"] pd_check_piece := Own.mk' (ok_check_piece F19 TP H37_G_is_line H42_G_is_part H45_G_measure_of H46_G_growth_of) (PySem.W.mg_of X G a19) k19 b19
  have H48_MK_Piece : MkX l.prog w K mg base "Piece" cP 8 ["self", "way", "cast", "parts"] pd_Piece_init := ⟨PySem.W.mg_of X G aS_cP, cl_cP, ⟨f18, _, (ok_Piece_init F18 TC H47_G_check_piece), ⟨mk_cP, a18, i18, kc_cP⟩, b18⟩⟩
  have H49_G_shaped : Own l.prog w K mg base "shaped" 10 ["way", "cast", "plain", "change", "gaps"] (pd_shaped cP) := Own.mk' (ok_shaped F30 TX H15_G_check_gaps H34_G_is_row H36_G_plain_parts H48_MK_Piece) (PySem.W.mg_of X G a30) k30 b30
  have H50_G_law_takes : Own l.prog w K mg base "_law_takes" 1 ["word", "kinds"] pd_law_takes := Own.mk' (ok_law_takes F43 TBk) (PySem.W.mg_of X G a43) k43 b43
  have H51_G_law_makes : Own l.prog w K mg base "_law_makes" 1 ["word", "kinds"] pd_law_makes := Own.mk' (ok_law_makes F44 T) (PySem.W.mg_of X G a44) k44 b44
  have H52_G_law_all_rows : Own l.prog w K mg base "_law_all_rows" 1 ["parts", "size"] pd_law_all_rows := Own.mk' (ok_law_all_rows F45 T) (PySem.W.mg_of X G a45) k45 b45
  have H53_G_law_shaped : Own l.prog w K mg base "_law_shaped" 11 ["draw", "kinds"] pd_law_shaped := Own.mk' (ok_law_shaped F50 T H1_G_law_take H28_G_law_easy_row H49_G_shaped H50_G_law_takes H51_G_law_makes H52_G_law_all_rows) (PySem.W.mg_of X G a50) k50 b50
  exact (ok_law F51 T H1_G_law_take H2_G_law_kinds H6_G_spread H7_GX_spread H14_GX_judge_spread H23_G_law_judged H24_G_schedule H53_G_law_shaped TX_BadGaps xm)
end K57

open PySem PySem.W PyProof.Rows
set_option maxRecDepth 100000 in
set_option maxHeartbeats 0 in
theorem PySem.Challenge.cw_allstitches_k57_whole_spread_holds : PySem.Challenge.rw_allstitches_k57_whole_spread.Holds := by
  w_on; o_law; k_head; (case hw => w_witness2)
  k_fill
  refine L2.walk_of (l := PySem.Challenge.rw_allstitches_k57_whole_spread) (n := 63) (k := 13) (x := "script") (CX := fun _ => L2.CX0) (sp := fun w => Dz.spLaw _) rfl (by decide) rfl ⟨rfl, by decide, by decide⟩ (fun w h Y => PySem.W.kIn_of Y) ?F (fun _ _ a ns hl _ hS => ⟨a, ns, rfl, hS, hl, fun _ => rfl⟩) (fun _ _ _ _ _ h => h)
  case F =>
    intro w mg fa h KX G hmg
    refine' K57.all_mk KX G hmg ?a0 ?l0 ?c0 ?k0 ?a1 ?l1 ?c1 ?k1 ?a2 ?l2 ?c2 ?k2 ?a3 ?l3 ?c3 ?k3 ?a4 ?l4 ?c4 ?k4 ?a5 ?l5 ?c5 ?k5 ?a6 ?l6 ?c6 ?k6 ?a7 ?l7 ?c7 ?k7 ?a8 ?l8 ?c8 ?k8 ?a9 ?l9 ?c9 ?k9 ?a10 ?l10 ?c10 ?k10 ?a11 ?l11 ?c11 ?k11 ?a12 ?l12 ?c12 ?k12 ?a13 ?l13 ?c13 ?k13 ?a14 ?l14 ?c14 ?k14 ?a15 ?l15 ?c15 ?k15 ?a16 ?l16 ?c16 ?k16 ?a17 ?l17 ?c17 ?k17 ?a18 ?i18 ?l18 ?c18 ?k18 ?a19 ?l19 ?c19 ?k19 ?a20 ?i20 ?l20 ?c20 ?k20 ?a21 ?i21 ?l21 ?c21 ?k21 ?a22 ?i22 ?l22 ?c22 ?k22 ?a23 ?i23 ?l23 ?c23 ?k23 ?a24 ?i24 ?l24 ?c24 ?k24 ?a25 ?i25 ?l25 ?c25 ?k25 ?a26 ?l26 ?c26 ?k26 ?a27 ?l27 ?c27 ?k27 ?a28 ?l28 ?c28 ?k28 ?a29 ?l29 ?c29 ?k29 ?a30 ?l30 ?c30 ?k30 ?a31 ?l31 ?c31 ?k31 ?a32 ?l32 ?c32 ?k32 ?a33 ?l33 ?c33 ?k33 ?a34 ?l34 ?c34 ?k34 ?a35 ?l35 ?c35 ?k35 ?a36 ?l36 ?c36 ?k36 ?a37 ?l37 ?c37 ?k37 ?a38 ?l38 ?c38 ?k38 ?a39 ?l39 ?c39 ?k39 ?a40 ?l40 ?c40 ?k40 ?a41 ?l41 ?c41 ?k41 ?a42 ?l42 ?c42 ?k42 ?a43 ?l43 ?c43 ?k43 ?a44 ?l44 ?c44 ?k44 ?a45 ?l45 ?c45 ?k45 ?a46 ?l46 ?c46 ?k46 ?a47 ?l47 ?c47 ?k47 ?a48 ?l48 ?c48 ?k48 ?a49 ?l49 ?c49 ?k49 ?a50 ?l50 ?c50 ?k50 ?a51 ?l51 ?c51 ?k51 ?aS_cP ?aS_cE ?aS_cU ?gcG ?z0 ?z1 ?z2 ?z3 ?z4 ?z5 ?z6 ?z7 ?z8 ?z9 ?z10 ?z11 ?z12 ?z13 ?z14 ?z15 ?z16 ?z17 ?z18 ?pg_cP ?hd_cP ?po_cP ?sa_cP ?mk_cP ?kc_cP ?n_cP_way ?n_cP_cast ?n_cP_parts ?pg_cE ?hd_cE ?po_cE ?sa_cE ?mk_cE ?kc_cE ?n_cE_shift ?pg_cU ?hd_cU ?po_cU ?sa_cU ?mk_cU ?kc_cU ?n_cU_one ?n_cU_other ?n_cU_width ?aL ?c_hn ?c_ht ?c_ha_cE ?c_hm_cE ?c_cl_cE ?c_ty_cE ?c_me_cE ?c_ha_cU ?c_hm_cU ?c_cl_cU ?c_ty_cU ?c_me_cU ?c_no ?c_ne ?xq ?xk ?xb ?xt ?xd ?xs ?y0 ?y1 ?y2 ?y3 ?y4 ?y5 ?y6 ?y7 ?y8 ?y9 ?x0 ?x1 ?x2 ?x3 ?x4 ?x5 ?x6 ?x7 ?x8 ?x9 ?x10 ?x11
    (case aS_cP => k_is)
    (case aS_cE => k_is)
    (case aS_cU => k_is)
    (case gcG => k_is)
    (case a0 => k_is)
    (case l0 => k_is)
    (case c0 => k_is)
    (case k0 => k_is)
    (case a1 => k_is)
    (case l1 => k_is)
    (case c1 => k_is)
    (case k1 => k_is)
    (case a2 => k_is)
    (case l2 => k_is)
    (case c2 => k_is)
    (case k2 => k_is)
    (case a3 => k_is)
    (case l3 => k_is)
    (case c3 => k_is)
    (case k3 => k_is)
    (case a4 => k_is)
    (case l4 => k_is)
    (case c4 => k_is)
    (case k4 => k_is)
    (case a5 => k_is)
    (case l5 => k_is)
    (case c5 => k_is)
    (case k5 => k_is)
    (case a6 => k_is)
    (case l6 => k_is)
    (case c6 => k_is)
    (case k6 => k_is)
    (case a7 => k_is)
    (case l7 => k_is)
    (case c7 => k_is)
    (case k7 => k_is)
    (case a8 => k_is)
    (case l8 => k_is)
    (case c8 => k_is)
    (case k8 => k_is)
    (case a9 => k_is)
    (case l9 => k_is)
    (case c9 => k_is)
    (case k9 => k_is)
    (case a10 => k_is)
    (case l10 => k_is)
    (case c10 => k_is)
    (case k10 => k_is)
    (case a11 => k_is)
    (case l11 => k_is)
    (case c11 => k_is)
    (case k11 => k_is)
    (case a12 => k_is)
    (case l12 => k_is)
    (case c12 => k_is)
    (case k12 => k_is)
    (case a13 => k_is)
    (case l13 => k_is)
    (case c13 => k_is)
    (case k13 => k_is)
    (case a14 => k_is)
    (case l14 => k_is)
    (case c14 => k_is)
    (case k14 => k_is)
    (case a15 => k_is)
    (case l15 => k_is)
    (case c15 => k_is)
    (case k15 => k_is)
    (case a16 => k_is)
    (case l16 => k_is)
    (case c16 => k_is)
    (case k16 => k_is)
    (case a17 => k_is)
    (case l17 => k_is)
    (case c17 => k_is)
    (case k17 => k_is)
    (case a18 => k_is)
    (case i18 => k_is)
    (case l18 => k_is)
    (case c18 => k_is)
    (case k18 => k_is)
    (case a19 => k_is)
    (case l19 => k_is)
    (case c19 => k_is)
    (case k19 => k_is)
    (case a20 => k_is)
    (case i20 => k_is)
    (case l20 => k_is)
    (case c20 => k_is)
    (case k20 => k_is)
    (case a21 => k_is)
    (case i21 => k_is)
    (case l21 => k_is)
    (case c21 => k_is)
    (case k21 => k_is)
    (case a22 => k_is)
    (case i22 => k_is)
    (case l22 => k_is)
    (case c22 => k_is)
    (case k22 => k_is)
    (case a23 => k_is)
    (case i23 => k_is)
    (case l23 => k_is)
    (case c23 => k_is)
    (case k23 => k_is)
    (case a24 => k_is)
    (case i24 => k_is)
    (case l24 => k_is)
    (case c24 => k_is)
    (case k24 => k_is)
    (case a25 => k_is)
    (case i25 => k_is)
    (case l25 => k_is)
    (case c25 => k_is)
    (case k25 => k_is)
    (case a26 => k_is)
    (case l26 => k_is)
    (case c26 => k_is)
    (case k26 => k_is)
    (case a27 => k_is)
    (case l27 => k_is)
    (case c27 => k_is)
    (case k27 => k_is)
    (case a28 => k_is)
    (case l28 => k_is)
    (case c28 => k_is)
    (case k28 => k_is)
    (case a29 => k_is)
    (case l29 => k_is)
    (case c29 => k_is)
    (case k29 => k_is)
    (case a30 => k_is)
    (case l30 => k_is)
    (case c30 => k_is)
    (case k30 => k_is)
    (case a31 => k_is)
    (case l31 => k_is)
    (case c31 => k_is)
    (case k31 => k_is)
    (case a32 => k_is)
    (case l32 => k_is)
    (case c32 => k_is)
    (case k32 => k_is)
    (case a33 => k_is)
    (case l33 => k_is)
    (case c33 => k_is)
    (case k33 => k_is)
    (case a34 => k_is)
    (case l34 => k_is)
    (case c34 => k_is)
    (case k34 => k_is)
    (case a35 => k_is)
    (case l35 => k_is)
    (case c35 => k_is)
    (case k35 => k_is)
    (case a36 => k_is)
    (case l36 => k_is)
    (case c36 => k_is)
    (case k36 => k_is)
    (case a37 => k_is)
    (case l37 => k_is)
    (case c37 => k_is)
    (case k37 => k_is)
    (case a38 => k_is)
    (case l38 => k_is)
    (case c38 => k_is)
    (case k38 => k_is)
    (case a39 => k_is)
    (case l39 => k_is)
    (case c39 => k_is)
    (case k39 => k_is)
    (case a40 => k_is)
    (case l40 => k_is)
    (case c40 => k_is)
    (case k40 => k_is)
    (case a41 => k_is)
    (case l41 => k_is)
    (case c41 => k_is)
    (case k41 => k_is)
    (case a42 => k_is)
    (case l42 => k_is)
    (case c42 => k_is)
    (case k42 => k_is)
    (case a43 => k_is)
    (case l43 => k_is)
    (case c43 => k_is)
    (case k43 => k_is)
    (case a44 => k_is)
    (case l44 => k_is)
    (case c44 => k_is)
    (case k44 => k_is)
    (case a45 => k_is)
    (case l45 => k_is)
    (case c45 => k_is)
    (case k45 => k_is)
    (case a46 => k_is)
    (case l46 => k_is)
    (case c46 => k_is)
    (case k46 => k_is)
    (case a47 => k_is)
    (case l47 => k_is)
    (case c47 => k_is)
    (case k47 => k_is)
    (case a48 => k_is)
    (case l48 => k_is)
    (case c48 => k_is)
    (case k48 => k_is)
    (case a49 => k_is)
    (case l49 => k_is)
    (case c49 => k_is)
    (case k49 => k_is)
    (case a50 => k_is)
    (case l50 => k_is)
    (case c50 => k_is)
    (case k50 => k_is)
    (case a51 => k_is)
    (case l51 => k_is)
    (case c51 => k_is)
    (case k51 => k_is)
    (case z0 => k_is)
    (case z1 => k_is)
    (case z2 => k_is)
    (case z3 => k_is)
    (case z4 => k_is)
    (case z5 => k_is)
    (case z6 => k_is)
    (case z7 => k_is)
    (case z8 => k_is)
    (case z9 => k_is)
    (case z10 => k_is)
    (case z11 => k_is)
    (case z12 => k_is)
    (case z13 => k_is)
    (case z14 => k_is)
    (case z15 => k_is)
    (case z16 => k_is)
    (case z17 => k_is)
    (case z18 => k_is)
    (case pg_cP => k_is)
    (case hd_cP => k_is)
    (case po_cP => k_is)
    (case sa_cP => k_is)
    (case mk_cP => k_is)
    (case kc_cP => k_is)
    (case n_cP_way => k_is)
    (case n_cP_cast => k_is)
    (case n_cP_parts => k_is)
    (case pg_cE => k_is)
    (case hd_cE => k_is)
    (case po_cE => k_is)
    (case sa_cE => k_is)
    (case mk_cE => k_is)
    (case kc_cE => k_is)
    (case n_cE_shift => k_is)
    (case pg_cU => k_is)
    (case hd_cU => k_is)
    (case po_cU => k_is)
    (case sa_cU => k_is)
    (case mk_cU => k_is)
    (case kc_cU => k_is)
    (case n_cU_one => k_is)
    (case n_cU_other => k_is)
    (case n_cU_width => k_is)
    (case aL => k_is)
    (case c_hn => k_is)
    (case c_ht => k_is)
    (case c_ha_cE => k_is)
    (case c_hm_cE => k_is)
    (case c_cl_cE => k_is)
    (case c_ty_cE => k_is)
    (case c_me_cE => first | rfl | k_is)
    (case c_ha_cU => k_is)
    (case c_hm_cU => k_is)
    (case c_cl_cU => k_is)
    (case c_ty_cU => k_is)
    (case c_me_cU => first | rfl | k_is)
    (case c_no => first | rfl | k_is)
    (case c_ne => first | rfl | decide)
    (case xq => k_exc)
    (case xk => k_is)
    (case xb => k_is)
    (case xt => k_is)
    (case xd => k_is)
    (case xs => first | rfl | k_is)
    (case y0 => k_is)
    (case y1 => k_is)
    (case y2 => exact ⟨⟨_, _, rfl, rfl⟩, ⟨⟨_, _, rfl, rfl⟩, ⟨⟨_, _, rfl, rfl⟩, ⟨⟨_, _, rfl, rfl⟩, ⟨⟨_, _, rfl, rfl⟩, ⟨⟨_, _, rfl, rfl⟩, ⟨⟨_, _, rfl, rfl⟩, ⟨⟨_, _, rfl, rfl⟩, ⟨⟨_, _, rfl, rfl⟩, ⟨⟨_, _, rfl, rfl⟩, ⟨⟨_, _, rfl, rfl⟩, ⟨⟨_, _, rfl, rfl⟩, ⟨⟨_, _, rfl, rfl⟩, ⟨⟨_, _, rfl, rfl⟩, ⟨⟨_, _, rfl, rfl⟩, ⟨⟨_, _, rfl, rfl⟩, ⟨⟨_, _, rfl, rfl⟩, ⟨⟨_, _, rfl, rfl⟩, ⟨⟨_, _, rfl, rfl⟩, ⟨⟨_, _, rfl, rfl⟩, ⟨⟨_, _, rfl, rfl⟩, ⟨⟨_, _, rfl, rfl⟩, ⟨⟨_, _, rfl, rfl⟩, ⟨⟨_, _, rfl, rfl⟩, ⟨⟨_, _, rfl, rfl⟩, ⟨⟨_, _, rfl, rfl⟩, ⟨⟨_, _, rfl, rfl⟩, ⟨⟨_, _, rfl, rfl⟩, ⟨⟨_, _, rfl, rfl⟩, trivial⟩⟩⟩⟩⟩⟩⟩⟩⟩⟩⟩⟩⟩⟩⟩⟩⟩⟩⟩⟩⟩⟩⟩⟩⟩⟩⟩⟩⟩)
    (case y3 => rfl)
    (case y4 => rfl)
    (case y5 => 
      refine' K57.kts_cons ?n900 ?l900 ?c900 ?d900 ?s900 ?v900 ?_
      (case n900 => k_is); (case l900 => k_is); (case c900 => rfl); (case d900 => rfl); (case s900 => (show 4 ≤ sizeLine; decide)); (case v900 => exact .cons ⟨_, rfl⟩ (.cons ⟨_, rfl⟩ (.cons ⟨_, rfl⟩ (.cons ⟨_, rfl⟩ .nil))))
      refine' K57.kts_cons ?n901 ?l901 ?c901 ?d901 ?s901 ?v901 ?_
      (case n901 => k_is); (case l901 => k_is); (case c901 => rfl); (case d901 => rfl); (case s901 => (show 4 ≤ sizeLine; decide)); (case v901 => exact .cons ⟨_, rfl⟩ (.cons ⟨_, rfl⟩ (.cons ⟨_, rfl⟩ (.cons ⟨_, rfl⟩ .nil))))
      refine' K57.kts_cons ?n902 ?l902 ?c902 ?d902 ?s902 ?v902 ?_
      (case n902 => k_is); (case l902 => k_is); (case c902 => rfl); (case d902 => rfl); (case s902 => (show 4 ≤ sizeLine; decide)); (case v902 => exact .cons ⟨_, rfl⟩ (.cons ⟨_, rfl⟩ (.cons ⟨_, rfl⟩ (.cons ⟨_, rfl⟩ .nil))))
      refine' K57.kts_cons ?n903 ?l903 ?c903 ?d903 ?s903 ?v903 ?_
      (case n903 => k_is); (case l903 => k_is); (case c903 => rfl); (case d903 => rfl); (case s903 => (show 4 ≤ sizeLine; decide)); (case v903 => exact .cons ⟨_, rfl⟩ (.cons ⟨_, rfl⟩ (.cons ⟨_, rfl⟩ (.cons ⟨_, rfl⟩ .nil))))
      refine' K57.kts_cons ?n904 ?l904 ?c904 ?d904 ?s904 ?v904 ?_
      (case n904 => k_is); (case l904 => k_is); (case c904 => rfl); (case d904 => rfl); (case s904 => (show 4 ≤ sizeLine; decide)); (case v904 => exact .cons ⟨_, rfl⟩ (.cons ⟨_, rfl⟩ (.cons ⟨_, rfl⟩ (.cons ⟨_, rfl⟩ .nil))))
      refine' K57.kts_cons ?n905 ?l905 ?c905 ?d905 ?s905 ?v905 ?_
      (case n905 => k_is); (case l905 => k_is); (case c905 => rfl); (case d905 => rfl); (case s905 => (show 4 ≤ sizeLine; decide)); (case v905 => exact .cons ⟨_, rfl⟩ (.cons ⟨_, rfl⟩ (.cons ⟨_, rfl⟩ (.cons ⟨_, rfl⟩ .nil))))
      refine' K57.kts_cons ?n906 ?l906 ?c906 ?d906 ?s906 ?v906 ?_
      (case n906 => k_is); (case l906 => k_is); (case c906 => rfl); (case d906 => rfl); (case s906 => (show 4 ≤ sizeLine; decide)); (case v906 => exact .cons ⟨_, rfl⟩ (.cons ⟨_, rfl⟩ (.cons ⟨_, rfl⟩ (.cons ⟨_, rfl⟩ .nil))))
      refine' K57.kts_cons ?n907 ?l907 ?c907 ?d907 ?s907 ?v907 ?_
      (case n907 => k_is); (case l907 => k_is); (case c907 => rfl); (case d907 => rfl); (case s907 => (show 4 ≤ sizeLine; decide)); (case v907 => exact .cons ⟨_, rfl⟩ (.cons ⟨_, rfl⟩ (.cons ⟨_, rfl⟩ (.cons ⟨_, rfl⟩ .nil))))
      refine' K57.kts_cons ?n908 ?l908 ?c908 ?d908 ?s908 ?v908 ?_
      (case n908 => k_is); (case l908 => k_is); (case c908 => rfl); (case d908 => rfl); (case s908 => (show 4 ≤ sizeLine; decide)); (case v908 => exact .cons ⟨_, rfl⟩ (.cons ⟨_, rfl⟩ (.cons ⟨_, rfl⟩ (.cons ⟨_, rfl⟩ .nil))))
      refine' K57.kts_cons ?n909 ?l909 ?c909 ?d909 ?s909 ?v909 ?_
      (case n909 => k_is); (case l909 => k_is); (case c909 => rfl); (case d909 => rfl); (case s909 => (show 4 ≤ sizeLine; decide)); (case v909 => exact .cons ⟨_, rfl⟩ (.cons ⟨_, rfl⟩ (.cons ⟨_, rfl⟩ (.cons ⟨_, rfl⟩ .nil))))
      refine' K57.kts_cons ?n910 ?l910 ?c910 ?d910 ?s910 ?v910 ?_
      (case n910 => k_is); (case l910 => k_is); (case c910 => rfl); (case d910 => rfl); (case s910 => (show 4 ≤ sizeLine; decide)); (case v910 => exact .cons ⟨_, rfl⟩ (.cons ⟨_, rfl⟩ (.cons ⟨_, rfl⟩ (.cons ⟨_, rfl⟩ .nil))))
      refine' K57.kts_cons ?n911 ?l911 ?c911 ?d911 ?s911 ?v911 ?_
      (case n911 => k_is); (case l911 => k_is); (case c911 => rfl); (case d911 => rfl); (case s911 => (show 4 ≤ sizeLine; decide)); (case v911 => exact .cons ⟨_, rfl⟩ (.cons ⟨_, rfl⟩ (.cons ⟨_, rfl⟩ (.cons ⟨_, rfl⟩ .nil))))
      refine' K57.kts_cons ?n912 ?l912 ?c912 ?d912 ?s912 ?v912 ?_
      (case n912 => k_is); (case l912 => k_is); (case c912 => rfl); (case d912 => rfl); (case s912 => (show 4 ≤ sizeLine; decide)); (case v912 => exact .cons ⟨_, rfl⟩ (.cons ⟨_, rfl⟩ (.cons ⟨_, rfl⟩ (.cons ⟨_, rfl⟩ .nil))))
      refine' K57.kts_cons ?n913 ?l913 ?c913 ?d913 ?s913 ?v913 ?_
      (case n913 => k_is); (case l913 => k_is); (case c913 => rfl); (case d913 => rfl); (case s913 => (show 4 ≤ sizeLine; decide)); (case v913 => exact .cons ⟨_, rfl⟩ (.cons ⟨_, rfl⟩ (.cons ⟨_, rfl⟩ (.cons ⟨_, rfl⟩ .nil))))
      refine' K57.kts_cons ?n914 ?l914 ?c914 ?d914 ?s914 ?v914 ?_
      (case n914 => k_is); (case l914 => k_is); (case c914 => rfl); (case d914 => rfl); (case s914 => (show 4 ≤ sizeLine; decide)); (case v914 => exact .cons ⟨_, rfl⟩ (.cons ⟨_, rfl⟩ (.cons ⟨_, rfl⟩ (.cons ⟨_, rfl⟩ .nil))))
      refine' K57.kts_cons ?n915 ?l915 ?c915 ?d915 ?s915 ?v915 ?_
      (case n915 => k_is); (case l915 => k_is); (case c915 => rfl); (case d915 => rfl); (case s915 => (show 4 ≤ sizeLine; decide)); (case v915 => exact .cons ⟨_, rfl⟩ (.cons ⟨_, rfl⟩ (.cons ⟨_, rfl⟩ (.cons ⟨_, rfl⟩ .nil))))
      refine' K57.kts_cons ?n916 ?l916 ?c916 ?d916 ?s916 ?v916 ?_
      (case n916 => k_is); (case l916 => k_is); (case c916 => rfl); (case d916 => rfl); (case s916 => (show 4 ≤ sizeLine; decide)); (case v916 => exact .cons ⟨_, rfl⟩ (.cons ⟨_, rfl⟩ (.cons ⟨_, rfl⟩ (.cons ⟨_, rfl⟩ .nil))))
      refine' K57.kts_cons ?n917 ?l917 ?c917 ?d917 ?s917 ?v917 ?_
      (case n917 => k_is); (case l917 => k_is); (case c917 => rfl); (case d917 => rfl); (case s917 => (show 4 ≤ sizeLine; decide)); (case v917 => exact .cons ⟨_, rfl⟩ (.cons ⟨_, rfl⟩ (.cons ⟨_, rfl⟩ (.cons ⟨_, rfl⟩ .nil))))
      refine' K57.kts_cons ?n918 ?l918 ?c918 ?d918 ?s918 ?v918 ?_
      (case n918 => k_is); (case l918 => k_is); (case c918 => rfl); (case d918 => rfl); (case s918 => (show 4 ≤ sizeLine; decide)); (case v918 => exact .cons ⟨_, rfl⟩ (.cons ⟨_, rfl⟩ (.cons ⟨_, rfl⟩ (.cons ⟨_, rfl⟩ .nil))))
      refine' K57.kts_cons ?n919 ?l919 ?c919 ?d919 ?s919 ?v919 ?_
      (case n919 => k_is); (case l919 => k_is); (case c919 => rfl); (case d919 => rfl); (case s919 => (show 4 ≤ sizeLine; decide)); (case v919 => exact .cons ⟨_, rfl⟩ (.cons ⟨_, rfl⟩ (.cons ⟨_, rfl⟩ (.cons ⟨_, rfl⟩ .nil))))
      refine' K57.kts_cons ?n920 ?l920 ?c920 ?d920 ?s920 ?v920 ?_
      (case n920 => k_is); (case l920 => k_is); (case c920 => rfl); (case d920 => rfl); (case s920 => (show 4 ≤ sizeLine; decide)); (case v920 => exact .cons ⟨_, rfl⟩ (.cons ⟨_, rfl⟩ (.cons ⟨_, rfl⟩ (.cons ⟨_, rfl⟩ .nil))))
      refine' K57.kts_cons ?n921 ?l921 ?c921 ?d921 ?s921 ?v921 ?_
      (case n921 => k_is); (case l921 => k_is); (case c921 => rfl); (case d921 => rfl); (case s921 => (show 4 ≤ sizeLine; decide)); (case v921 => exact .cons ⟨_, rfl⟩ (.cons ⟨_, rfl⟩ (.cons ⟨_, rfl⟩ (.cons ⟨_, rfl⟩ .nil))))
      refine' K57.kts_cons ?n922 ?l922 ?c922 ?d922 ?s922 ?v922 ?_
      (case n922 => k_is); (case l922 => k_is); (case c922 => rfl); (case d922 => rfl); (case s922 => (show 4 ≤ sizeLine; decide)); (case v922 => exact .cons ⟨_, rfl⟩ (.cons ⟨_, rfl⟩ (.cons ⟨_, rfl⟩ (.cons ⟨_, rfl⟩ .nil))))
      refine' K57.kts_cons ?n923 ?l923 ?c923 ?d923 ?s923 ?v923 ?_
      (case n923 => k_is); (case l923 => k_is); (case c923 => rfl); (case d923 => rfl); (case s923 => (show 4 ≤ sizeLine; decide)); (case v923 => exact .cons ⟨_, rfl⟩ (.cons ⟨_, rfl⟩ (.cons ⟨_, rfl⟩ (.cons ⟨_, rfl⟩ .nil))))
      refine' K57.kts_cons ?n924 ?l924 ?c924 ?d924 ?s924 ?v924 ?_
      (case n924 => k_is); (case l924 => k_is); (case c924 => rfl); (case d924 => rfl); (case s924 => (show 4 ≤ sizeLine; decide)); (case v924 => exact .cons ⟨_, rfl⟩ (.cons ⟨_, rfl⟩ (.cons ⟨_, rfl⟩ (.cons ⟨_, rfl⟩ .nil))))
      refine' K57.kts_cons ?n925 ?l925 ?c925 ?d925 ?s925 ?v925 ?_
      (case n925 => k_is); (case l925 => k_is); (case c925 => rfl); (case d925 => rfl); (case s925 => (show 4 ≤ sizeLine; decide)); (case v925 => exact .cons ⟨_, rfl⟩ (.cons ⟨_, rfl⟩ (.cons ⟨_, rfl⟩ (.cons ⟨_, rfl⟩ .nil))))
      refine' K57.kts_cons ?n926 ?l926 ?c926 ?d926 ?s926 ?v926 ?_
      (case n926 => k_is); (case l926 => k_is); (case c926 => rfl); (case d926 => rfl); (case s926 => (show 4 ≤ sizeLine; decide)); (case v926 => exact .cons ⟨_, rfl⟩ (.cons ⟨_, rfl⟩ (.cons ⟨_, rfl⟩ (.cons ⟨_, rfl⟩ .nil))))
      refine' K57.kts_cons ?n927 ?l927 ?c927 ?d927 ?s927 ?v927 ?_
      (case n927 => k_is); (case l927 => k_is); (case c927 => rfl); (case d927 => rfl); (case s927 => (show 4 ≤ sizeLine; decide)); (case v927 => exact .cons ⟨_, rfl⟩ (.cons ⟨_, rfl⟩ (.cons ⟨_, rfl⟩ (.cons ⟨_, rfl⟩ .nil))))
      refine' K57.kts_cons ?n928 ?l928 ?c928 ?d928 ?s928 ?v928 ?_
      (case n928 => k_is); (case l928 => k_is); (case c928 => rfl); (case d928 => rfl); (case s928 => (show 4 ≤ sizeLine; decide)); (case v928 => exact .cons ⟨_, rfl⟩ (.cons ⟨_, rfl⟩ (.cons ⟨_, rfl⟩ (.cons ⟨_, rfl⟩ .nil))))
      exact trivial)
    (case y6 => k_is)
    (case y7 => k_is)
    (case y8 => k_is)
    (case y9 => k_is)
    (case x0 => k_is)
    (case x1 => k_is)
    (case x2 => k_is)
    (case x3 => k_is)
    (case x4 => k_is)
    (case x5 => k_is)
    (case x6 => k_is)
    (case x7 => k_is)
    (case x8 => k_is)
    (case x9 => k_is)
    (case x10 => k_is)
    (case x11 => k_is)
