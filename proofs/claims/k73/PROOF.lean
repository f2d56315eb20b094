import PyProof.Rows.All
import Wide.All
import OpenK.AllK
import Wide.FinOn
import HandS.ForMost
import HandS.IsInst
import HandS.More
import HandS.TupMul
import HandS.Flow
import HandS.Lambda
import HandS.TupAny
import HandS.Conv
import HandS.Style
import HandS.Exc
import HandS.TryOnly
import HandS.ExcOwn
import HandS.WordsExc
import HandS.RaiseMore
import HandS.FStr
import HandS.Property
import KE.KOpsOwn
import HandS.Small
import HandS.Zip
import HandS.Iter
import HandS.Codes
import HandS.Gcd
import KE.KMathG
import KE.KTupTruth
import HandS.ExcIs
import HandS.EndOwn
import PyProof.InstNe
import HandS.SortInts
import HandS.SortKw
import KE.DatumOrd
import KE.GoesMore
import PyProof.EnumMake
import PyProof.Draws
import HandS.Defaults
import HandS.ExcInit
import HandS.ExcField
import HandS.TryMany
import HandS.CallSlots
import HandS.SetFor
import HandS.Strs
import HandS.DictComp
import HandS.WordsDict
import KE.KDictWalk
import KE.KPairComp
import KE.KDictCopyH
import KE.KIsAll
import PySem.Challenge.RW_allstitches_k73_whole_grades
set_option Elab.async false
set_option linter.all false
set_option maxRecDepth 100000
set_option maxHeartbeats 4000000
namespace Dz
open PySem PySem.Spec PyProof.Rows L2

/-! ### data -/
inductive D where
  | non | bl (b : Bool) | int (i : Int) | str (x : Str)
  | tup (l : List D) | lst (l : List D) | fro (l : List D)
  | dct (ks : List Key) (l : List D)
  | ins (C : Addr) (ns : List Str) (l : List D)
  | tok (a : Addr) | ty (n : String) | rng (lo hi : Int)
  | obj (R : Addr → List V → HO → Prop) (l : List D)

mutual
def Rep (K : PySem.W.Frag) (G : Hp) : D → V → Prop
  | .non, v => v = .non
  | .bl b, v => v = .bl b
  | .int i, v => v = .int i
  | .str x, v => v = .str x
  | .tup l, v => ∃ a xs, v = .ref a ∧ SqT K G a xs ∧ RepA K G l xs
  | .lst l, v => ∃ a xs, v = .ref a ∧ G a = some (.lst xs) ∧ RepA K G l xs
  | .fro l, v => ∃ a xs, v = .ref a ∧ SqL K G a xs ∧ RepA K G l xs
  | .dct ks l, v => ∃ a xs, v = .ref a ∧ G a = some (.dK (ks.zip xs)) ∧ RepA K G l xs ∧ ks.length = l.length
  | .ins C ns l, v => ∃ a dx xs, v = .ref a ∧ G a = some (.ins C dx (ns.zip xs)) ∧ RepA K G l xs ∧ ns.length = l.length
  | .tok a, v => v = .ref a
  | .ty n, v => v = .ty n
  | .rng lo hi, v => ∃ a, v = .ref a ∧ G a = some (.rng lo hi)
  | .obj R l, v => ∃ a xs o, v = .ref a ∧ G a = some o ∧ R a xs o ∧ RepA K G l xs
def RepA (K : PySem.W.Frag) (G : Hp) : List D → List V → Prop
  | [], xs => xs = []
  | d :: l, xs => ∃ x r, xs = x :: r ∧ Rep K G d x ∧ RepA K G l r
end

section
variable {K : PySem.W.Frag} {G G' H H' F : Hp}
theorem sqt_mono {a : Addr} {xs : List V} (e : Same G G') (h : SqT K G a xs) : SqT K G' a xs := by
  rcases h with (h | ⟨o, h⟩) | h
  · exact .inl (.inl (e _ _ h))
  · exact .inl (.inr ⟨o, e _ _ h⟩)
  · exact .inr h
mutual
theorem Rep.mono (e : Same G G') : ∀ (d : D) (v : V), Rep K G d v → Rep K G' d v
  | .non, _, h => by unfold Rep at h ⊢; exact h
  | .bl _, _, h => by unfold Rep at h ⊢; exact h
  | .int _, _, h => by unfold Rep at h ⊢; exact h
  | .str _, _, h => by unfold Rep at h ⊢; exact h
  | .tup l, v, h => by
    unfold Rep at h ⊢
    obtain ⟨a, xs, rfl, s, r⟩ := h
    exact ⟨a, xs, rfl, sqt_mono e s, RepA.mono e l xs r⟩
  | .lst l, v, h => by
    unfold Rep at h ⊢
    obtain ⟨a, xs, rfl, s, r⟩ := h
    exact ⟨a, xs, rfl, e _ _ s, RepA.mono e l xs r⟩
  | .fro l, v, h => by
    unfold Rep at h ⊢
    obtain ⟨a, xs, rfl, s, r⟩ := h
    exact ⟨a, xs, rfl, e.seq s, RepA.mono e l xs r⟩
  | .dct ks l, v, h => by
    unfold Rep at h ⊢
    obtain ⟨a, xs, rfl, s, r, q⟩ := h
    exact ⟨a, xs, rfl, e _ _ s, RepA.mono e l xs r, q⟩
  | .ins C ns l, v, h => by
    unfold Rep at h ⊢
    obtain ⟨a, dx, xs, rfl, s, r, q⟩ := h
    exact ⟨a, dx, xs, rfl, e _ _ s, RepA.mono e l xs r, q⟩
  | .tok _, _, h => by unfold Rep at h ⊢; exact h
  | .ty _, _, h => by unfold Rep at h ⊢; exact h
  | .rng _ _, _, h => by
    unfold Rep at h ⊢
    obtain ⟨a, e1, e2⟩ := h
    exact ⟨a, e1, e _ _ e2⟩
  | .obj R l, _, h => by
    unfold Rep at h ⊢
    obtain ⟨a, xs, o, e1, e2, e3, r⟩ := h
    exact ⟨a, xs, o, e1, e _ _ e2, e3, RepA.mono e l xs r⟩
theorem RepA.mono (e : Same G G') : ∀ (l : List D) (xs : List V), RepA K G l xs → RepA K G' l xs
  | [], _, h => by unfold RepA at h ⊢; exact h
  | d :: l, _, h => by
    unfold RepA at h ⊢
    obtain ⟨x, r, rfl, h1, h2⟩ := h
    exact ⟨x, r, rfl, Rep.mono e d x h1, RepA.mono e l r h2⟩
end
theorem RepA.nil : RepA K G [] [] := by unfold RepA; rfl
theorem RepA.cons {d : D} {x : V} {l : List D} {xs : List V} (h : Rep K G d x) (t : RepA K G l xs) : RepA K G (d :: l) (x :: xs) := by
  unfold RepA
  exact ⟨x, xs, rfl, h, t⟩
theorem RepA.len : ∀ {l : List D} {xs : List V}, RepA K G l xs → xs.length = l.length
  | [], _, h => by unfold RepA at h; subst h; rfl
  | d :: l, _, h => by
    unfold RepA at h
    obtain ⟨x, r, rfl, _, h2⟩ := h
    simp only [List.length_cons, RepA.len h2]
theorem RepA.get : ∀ {l : List D} {xs : List V} {i : Nat} {d : D}, RepA K G l xs → l[i]? = some d → ∃ x, xs[i]? = some x ∧ Rep K G d x
  | [], _, _, _, _, e => by simp at e
  | d :: l, _, 0, d', h, e => by
    unfold RepA at h
    obtain ⟨x, r, rfl, h1, h2⟩ := h
    simp at e; subst e
    exact ⟨x, rfl, h1⟩
  | d :: l, _, i + 1, d', h, e => by
    unfold RepA at h
    obtain ⟨x, r, rfl, h1, h2⟩ := h
    obtain ⟨y, e1, e2⟩ := RepA.get (i := i) h2 (by simpa using e)
    exact ⟨y, by simpa using e1, e2⟩
theorem RepA.get' {l : List D} {xs : List V} {i : Nat} {x : V} (h : RepA K G l xs) (e : xs[i]? = some x) : ∃ d, l[i]? = some d ∧ Rep K G d x := by
  have hl := h.len
  have hi : i < xs.length := (List.getElem?_eq_some_iff.mp e).1
  have hi' : i < l.length := by omega
  obtain ⟨y, e1, e2⟩ := h.get (List.getElem?_eq_getElem hi')
  rw [e] at e1
  cases e1
  exact ⟨_, List.getElem?_eq_getElem hi', e2⟩
theorem RepA.app : ∀ {l m : List D} {xs ys : List V}, RepA K G l xs → RepA K G m ys → RepA K G (l ++ m) (xs ++ ys)
  | [], _, _, _, h, t => by unfold RepA at h; subst h; exact t
  | d :: l, _, _, _, h, t => by
    unfold RepA at h
    obtain ⟨x, r, rfl, h1, h2⟩ := h
    exact .cons h1 (RepA.app h2 t)
theorem RepA.take : ∀ {l : List D} {xs : List V} (n : Nat), RepA K G l xs → RepA K G (l.take n) (xs.take n)
  | _, _, 0, _ => by simp only [List.take_zero]; exact .nil
  | [], _, n + 1, h => by unfold RepA at h; subst h; simp only [List.take_nil]; exact .nil
  | d :: l, _, n + 1, h => by
    unfold RepA at h
    obtain ⟨x, r, rfl, h1, h2⟩ := h
    simp only [List.take_succ_cons]
    exact .cons h1 (RepA.take n h2)
theorem RepA.drop : ∀ {l : List D} {xs : List V} (n : Nat), RepA K G l xs → RepA K G (l.drop n) (xs.drop n)
  | _, _, 0, h => h
  | [], _, n + 1, h => by unfold RepA at h; subst h; simp only [List.drop_nil]; exact .nil
  | d :: l, _, n + 1, h => by
    unfold RepA at h
    obtain ⟨x, r, rfl, h1, h2⟩ := h
    simp only [List.drop_succ_cons]
    exact RepA.drop n h2
theorem RepA.rev : ∀ {l : List D} {xs : List V}, RepA K G l xs → RepA K G l.reverse xs.reverse
  | [], _, h => by unfold RepA at h; subst h; simp only [List.reverse_nil]; exact .nil
  | d :: l, _, h => by
    unfold RepA at h
    obtain ⟨x, r, rfl, h1, h2⟩ := h
    simp only [List.reverse_cons]
    exact RepA.app (RepA.rev h2) (.cons h1 .nil)
theorem RepA.set {d : D} {x : V} (hd : Rep K G d x) : ∀ {l : List D} {xs : List V} (i : Nat), RepA K G l xs → RepA K G (l.set i d) (xs.set i x)
  | [], _, _, h => by unfold RepA at h; subst h; simp only [List.set_nil]; exact .nil
  | e :: l, _, 0, h => by
    unfold RepA at h
    obtain ⟨x', r, rfl, h1, h2⟩ := h
    exact .cons hd h2
  | e :: l, _, i + 1, h => by
    unfold RepA at h
    obtain ⟨x', r, rfl, h1, h2⟩ := h
    exact .cons h1 (RepA.set hd i h2)
theorem RepA.rep {d : D} {x : V} (h : Rep K G d x) : ∀ n : Nat, RepA K G (List.replicate n d) (List.replicate n x)
  | 0 => .nil
  | n + 1 => by rw [List.replicate_succ, List.replicate_succ]; exact .cons h (RepA.rep h n)
theorem RepA.ints : ∀ (ns : List Int), RepA K G (ns.map D.int) (ns.map V.int)
  | [] => .nil
  | n :: r => .cons (by unfold Rep; rfl) (RepA.ints r)
theorem repA_ints_inv : ∀ {ns : List Int} {xs : List V}, RepA K G (ns.map D.int) xs → xs = ns.map V.int
  | [], _, h => by simp only [List.map_nil] at h; unfold RepA at h; exact h
  | n :: r, _, h => by
    simp only [List.map_cons] at h
    unfold RepA at h
    obtain ⟨x, t, rfl, h1, h2⟩ := h
    unfold Rep at h1
    subst h1
    rw [repA_ints_inv h2]; rfl
theorem repA_strs_inv : ∀ {ns : List Str} {xs : List V}, RepA K G (ns.map D.str) xs → xs = ns.map V.str
  | [], _, h => by simp only [List.map_nil] at h; unfold RepA at h; exact h
  | n :: r, _, h => by
    simp only [List.map_cons] at h
    unfold RepA at h
    obtain ⟨x, t, rfl, h1, h2⟩ := h
    unfold Rep at h1
    subst h1
    rw [repA_strs_inv h2]; rfl
theorem repA_strs : ∀ (ns : List Str), RepA K G (ns.map D.str) (ns.map V.str)
  | [] => .nil
  | n :: r => .cons (by unfold Rep; rfl) (repA_strs r)
theorem repA_bls_inv : ∀ {ns : List Bool} {xs : List V}, RepA K G (ns.map D.bl) xs → xs = ns.map V.bl
  | [], _, h => by simp only [List.map_nil] at h; unfold RepA at h; exact h
  | n :: r, _, h => by
    simp only [List.map_cons] at h
    unfold RepA at h
    obtain ⟨x, t, rfl, h1, h2⟩ := h
    unfold Rep at h1
    subst h1
    rw [repA_bls_inv h2]; rfl
theorem rep_int {i : Int} {v : V} : Rep K G (.int i) v ↔ v = .int i := by unfold Rep; exact Iff.rfl
theorem rep_bl {i : Bool} {v : V} : Rep K G (.bl i) v ↔ v = .bl i := by unfold Rep; exact Iff.rfl
theorem rep_str {i : Str} {v : V} : Rep K G (.str i) v ↔ v = .str i := by unfold Rep; exact Iff.rfl
theorem rep_non {v : V} : Rep K G .non v ↔ v = .non := by unfold Rep; exact Iff.rfl
theorem rep_tok {a : Addr} {v : V} : Rep K G (.tok a) v ↔ v = .ref a := by unfold Rep; exact Iff.rfl
theorem rep_rng {lo hi : Int} {v : V} : Rep K G (.rng lo hi) v ↔ ∃ a, v = .ref a ∧ G a = some (.rng lo hi) := by unfold Rep; exact Iff.rfl
theorem rep_ty {a : String} {v : V} : Rep K G (.ty a) v ↔ v = .ty a := by unfold Rep; exact Iff.rfl
theorem rep_tup {l : List D} {v : V} : Rep K G (.tup l) v ↔ ∃ a xs, v = .ref a ∧ SqT K G a xs ∧ RepA K G l xs := by conv => lhs; unfold Rep
theorem rep_lst {l : List D} {v : V} : Rep K G (.lst l) v ↔ ∃ a xs, v = .ref a ∧ G a = some (.lst xs) ∧ RepA K G l xs := by conv => lhs; unfold Rep
theorem rep_fro {l : List D} {v : V} : Rep K G (.fro l) v ↔ ∃ a xs, v = .ref a ∧ SqL K G a xs ∧ RepA K G l xs := by conv => lhs; unfold Rep
theorem rep_dct {ks : List Key} {l : List D} {v : V} : Rep K G (.dct ks l) v ↔ ∃ a xs, v = .ref a ∧ G a = some (.dK (ks.zip xs)) ∧ RepA K G l xs ∧ ks.length = l.length := by conv => lhs; unfold Rep
theorem rep_obj {R : Addr → List V → HO → Prop} {l : List D} {v : V} : Rep K G (.obj R l) v ↔ ∃ a xs o, v = .ref a ∧ G a = some o ∧ R a xs o ∧ RepA K G l xs := by conv => lhs; unfold Rep
theorem rep_ins {C : Addr} {ns : List Str} {l : List D} {v : V} : Rep K G (.ins C ns l) v ↔ ∃ a dx xs, v = .ref a ∧ G a = some (.ins C dx (ns.zip xs)) ∧ RepA K G l xs ∧ ns.length = l.length := by conv => lhs; unfold Rep
end

/-! ### changing objects -/
inductive HD where
  | lst (l : List D) | dct (ks : List Key) (l : List D) | ins (C dx : Addr) (ns : List Str) (l : List D)
  | me (p C dx : Addr) (ns : List Str) (l : List D)
  | tab (q : Str)
  | obj (R : Addr → List V → HO → Prop) (l : List D)
/-- where it stands, if that is told -/
def HD.pl : HD → Addr → Prop
  | .me p _ _ _ _, a => a = p
  | .tab _, _ => False
  | _, _ => True
def RepO (K : PySem.W.Frag) (G : Hp) : HD → HO → Prop
  | .lst l, o => ∃ xs, o = .lst xs ∧ RepA K G l xs
  | .dct ks l, o => ∃ xs, o = .dK (ks.zip xs) ∧ RepA K G l xs ∧ ks.length = l.length
  | .ins C dx ns l, o => ∃ xs, o = .ins C dx (ns.zip xs) ∧ RepA K G l xs ∧ ns.length = l.length
  | .me _ C dx ns l, o => ∃ xs, o = .ins C dx (ns.zip xs) ∧ RepA K G l xs ∧ ns.length = l.length
  | .obj R l, o => ∃ xs, (∀ a, R a xs o) ∧ RepA K G l xs ∧ ∀ ps, o ≠ .tbl ps
  | .tab q, o => ∃ ps : Array Value, o = .tbl ps ∧ TriplesOk ps.toList ∧ ∀ (pos : Pos) (cv : Value), codeAmong pos ps.toList = some cv → ∃ c, cv = .ref c ∧ G c = some (LamX.CodeO c q)
def HD.d : HD → D
  | .lst l => .lst l
  | .dct ks l => .dct ks l
  | .ins C _ ns l => .ins C ns l
  | .me _ C _ ns l => .ins C ns l
  | .obj R l => .obj R l
  | .tab _ => .non
section
variable {K : PySem.W.Frag} {G G' H H' F : Hp}
theorem RepO.mono (e : Same G G') : ∀ {o : HD} {u : HO}, RepO K G o u → RepO K G' o u
  | .lst _, _, ⟨xs, a, b⟩ => ⟨xs, a, b.mono e⟩
  | .dct _ _, _, ⟨xs, a, b, c⟩ => ⟨xs, a, b.mono e, c⟩
  | .ins _ _ _ _, _, ⟨xs, a, b, c⟩ => ⟨xs, a, b.mono e, c⟩
  | .me _ _ _ _ _, _, ⟨xs, a, b, c⟩ => ⟨xs, a, b.mono e, c⟩
  | .obj _ _, _, ⟨xs, a, b, c⟩ => ⟨xs, a, b.mono e, c⟩
  | .tab _, _, ⟨ps, a, b, c⟩ => ⟨ps, a, b, fun pos cv h => let ⟨x, y, z⟩ := c pos cv h; ⟨x, y, e _ _ z⟩⟩
theorem RepO.rep {a : Addr} : ∀ {o : HD} {u : HO}, RepO K G o u → G a = some u → o.pl a → Rep K G o.d (.ref a)
  | .lst _, _, ⟨xs, e, b⟩, h, _ => by subst e; exact rep_lst.mpr ⟨a, xs, rfl, h, b⟩
  | .dct _ _, _, ⟨xs, e, b, c⟩, h, _ => by subst e; exact rep_dct.mpr ⟨a, xs, rfl, h, b, c⟩
  | .ins _ dx _ _, _, ⟨xs, e, b, c⟩, h, _ => by subst e; exact rep_ins.mpr ⟨a, dx, xs, rfl, h, b, c⟩
  | .me _ _ dx _ _, _, ⟨xs, e, b, c⟩, h, _ => by subst e; exact rep_ins.mpr ⟨a, dx, xs, rfl, h, b, c⟩
  | .obj _ _, o, ⟨xs, e, b, _⟩, h, _ => rep_obj.mpr ⟨a, xs, o, rfl, h, e a, b⟩
  | .tab _, _, _, _, hp => hp.elim
end
theorem RepO.nt {K : PySem.W.Frag} {G : Hp} {a : Addr} : ∀ {o : HD} {u : HO}, RepO K G o u → o.pl a → ∀ ps, u ≠ .tbl ps
  | .lst _, _, ⟨_, e, _⟩, _, _ => by subst e; intro z; cases z
  | .dct _ _, _, ⟨_, e, _⟩, _, _ => by subst e; intro z; cases z
  | .ins _ _ _ _, _, ⟨_, e, _⟩, _, _ => by subst e; intro z; cases z
  | .me _ _ _ _ _, _, ⟨_, e, _⟩, _, _ => by subst e; intro z; cases z
  | .obj _ _, _, ⟨_, _, _, c⟩, _, ps => c ps
  | .tab _, _, _, hp, _ => hp.elim
/-- the ambient: changing objects that all know, each with what is true of it -/
abbrev AQ := List (Addr × (HD → Prop))
/-- .. and where the body began: what the frame held, and what stood still -/
structure Am where
  q : AQ
  F0 : Hp
  G0 : Hp
def AmbOk (K : PySem.W.Frag) (A : AQ) (G H : Hp) : Prop := ∀ q ∈ A, G q.1 = none ∧ ∃ o u, H q.1 = some u ∧ RepO K G o u ∧ q.2 o

/-- no table of code objects in it -/
def NT (G : Hp) : Prop := ∀ a ps, G a ≠ some (.tbl ps)
/-- only new objects -/
structure Grow (G H G' H' : Hp) : Prop where
  n : NT G → NT G'
  g : Same G G'
  h : Same H H'
  o : ∀ a u, H a = some u → G' a = G a
theorem Grow.refl (G H : Hp) : Grow G H G H := ⟨id, Same.refl G, Same.refl H, fun _ _ _ => rfl⟩
theorem Grow.trans {G H G1 H1 G2 H2 : Hp} (a : Grow G H G1 H1) (b : Grow G1 H1 G2 H2) : Grow G H G2 H2 :=
  ⟨fun z => b.n (a.n z), a.g.trans b.g, a.h.trans b.h, fun p u e => (b.o p u (a.h _ _ e)).trans (a.o p u e)⟩
theorem same_new {H : Hp} {p : Addr} {o : HO} (h : H p = none) : Same H (upd H p o) := fun b x e => by
  rw [upd_ne (ne_of_none e h)]
  exact e
theorem NT.new {G : Hp} {p : Addr} {o : HO} (z : NT G) (hn : ∀ ps, o ≠ .tbl ps) : NT (upd G p o) := fun a ps e => by
  by_cases ha : a = p
  · rw [ha, upd_same] at e
    exact hn ps (Option.some.inj e)
  · rw [upd_ne ha] at e
    exact z a ps e
theorem Grow.new {G H : Hp} {p : Addr} {o : HO} (s : Same G H) (h : H p = none) (hn : ∀ ps, o ≠ .tbl ps := by intro _ z; cases z) : Grow G H (upd G p o) (upd H p o) :=
  ⟨fun z => z.new hn, same_new (s.free h), same_new h, fun a u e => upd_ne (ne_of_none e h)⟩
theorem Grow.tmp {G H : Hp} {p : Addr} {o : HO} (h : H p = none) : Grow G H G (upd H p o) :=
  ⟨id, Same.refl G, same_new h, fun _ _ _ => rfl⟩
theorem same_upd2 {G H : Hp} {p : Addr} {o : HO} (s : Same G H) : Same (upd G p o) (upd H p o) := fun b x e => by
  by_cases hb : b = p
  · subst hb; rw [upd_same] at e ⊢; exact e
  · rw [upd_ne hb] at e ⊢; exact s b x e

/-! ### what a def's names hold -/
inductive EV where
  | un | dat (d : D) | cel (o : HD)
abbrev En := List EV
def gt : En → Nat → EV
  | [], _ => .un
  | e :: _, 0 => e
  | _ :: r, n + 1 => gt r n
def st : En → Nat → EV → En
  | [], _, _ => []
  | _ :: r, 0, v => v :: r
  | e :: r, n + 1, v => e :: st r n v
theorem gt_st {v : EV} : ∀ {en : En} {i j : Nat}, gt (st en i v) j = if j = i ∧ i < en.length then v else gt en j
  | [], i, j => by simp [st, gt]
  | e :: r, 0, 0 => by simp [st, gt]
  | e :: r, 0, j + 1 => by simp [st, gt]
  | e :: r, i + 1, 0 => by simp [st, gt]
  | e :: r, i + 1, j + 1 => by
    simp only [st, gt]
    rw [gt_st (en := r)]
    simp
theorem st_len {v : EV} : ∀ {en : En} {i : Nat}, (st en i v).length = en.length
  | [], _ => rfl
  | _ :: _, 0 => rfl
  | _ :: r, i + 1 => by simp only [st, List.length_cons, st_len]

structure StQ (K : PySem.W.Frag) (A : AQ) (F G H : Hp) : Prop where
  gh : Same G H
  fh : Same F H
  fa : ∀ q ∈ A, F q.1 = none
  am : AmbOk K A G H
/-- from G on, the frame's objects left as they are -/
structure Step (F G G' : Hp) : Prop where
  n : NT G → NT G'
  g : Same G G'
  f : ∀ a u, F a = some u → G' a = G a
theorem Step.refl (F G : Hp) : Step F G G := ⟨id, Same.refl G, fun _ _ _ => rfl⟩
theorem Step.trans {F G G1 G2 : Hp} (a : Step F G G1) (b : Step F G1 G2) : Step F G G2 := ⟨fun z => b.n (a.n z), a.g.trans b.g, fun p u e => (b.f p u e).trans (a.f p u e)⟩
theorem Step.less {F F' G G' : Hp} (a : Step F G G') (s : Same F' F) : Step F' G G' := ⟨a.n, a.g, fun p u e => a.f p u (s _ _ e)⟩
/-- neither a table nor a code object -/
def plainO (u : HO) : Prop := (∀ ps, u ≠ .tbl ps) ∧ ∀ e, u ≠ .ext e
def NE (F : Hp) : Prop := ∀ a u, F a = some u → plainO u
theorem NE.new {F : Hp} {p : Addr} {o : HO} (z : NE F) (hn : plainO o) : NE (upd F p o) := fun a u e => by
  by_cases ha : a = p
  · rw [ha, upd_same] at e
    cases e
    exact hn
  · rw [upd_ne ha] at e
    exact z a u e
structure Fro (F0 F : Hp) : Prop where
  s : Same F0 F
  n : NE F0 → NE F
theorem Fro.refl (F : Hp) : Fro F F := ⟨Same.refl _, id⟩
structure StOk (K : PySem.W.Frag) (A : Am) (F G H : Hp) : Prop where
  st : StQ K A.q F G H
  bz : Fro A.F0 F
  bg : Step A.F0 A.G0 G
theorem StOk.bs {K : PySem.W.Frag} {A : Am} {F G H : Hp} (k : StOk K A F G H) : Same A.F0 F := k.bz.s
theorem StOk.gh {K : PySem.W.Frag} {A : Am} {F G H : Hp} (k : StOk K A F G H) : Same G H := k.st.gh
theorem StOk.fh {K : PySem.W.Frag} {A : Am} {F G H : Hp} (k : StOk K A F G H) : Same F H := k.st.fh
theorem StOk.fa {K : PySem.W.Frag} {A : Am} {F G H : Hp} (k : StOk K A F G H) : ∀ q ∈ A.q, F q.1 = none := k.st.fa
theorem StOk.am {K : PySem.W.Frag} {A : Am} {F G H : Hp} (k : StOk K A F G H) : AmbOk K A.q G H := k.st.am
structure Slots (K : PySem.W.Frag) (A : Am) (F G H : Hp) (σ : L2.St) (en : En) (c : Nat → Addr) : Prop where
  dat : ∀ i d, gt en i = .dat d → ∃ v, σ[i]? = some (some v) ∧ Rep K G d v
  cel : ∀ i o, gt en i = .cel o → σ[i]? = some (some (.ref (c i))) ∧ (∃ u, H (c i) = some u ∧ RepO K G o u) ∧ G (c i) = none ∧ F (c i) = none ∧ ∀ q ∈ A.q, q.1 ≠ c i
  inj : ∀ i j o u, gt en i = .cel o → gt en j = .cel u → c i = c j → i = j
  pl : ∀ i o, gt en i = .cel o → o.pl (c i)
structure EnvOk (K : PySem.W.Frag) (A : Am) (F G H : Hp) (σ : L2.St) (en : En) : Prop where
  ok : StOk K A F G H
  len : σ.length = en.length
  ex : ∃ c, Slots K A F G H σ en c

section
variable {K : PySem.W.Frag} {A : Am} {F G H G' H' : Hp} {σ : L2.St} {en : En}
theorem Grow.step0 (g : Grow G H G' H') (f : Same F H) : Step F G G' := ⟨g.n, g.g, fun a u e => g.o a u (f _ _ e)⟩
theorem StOk.grow (k : StOk K A F G H) (g : Grow G H G' H') (s : Same G' H') : StOk K A F G' H' where
  st := {
    gh := s
    fh := k.fh.trans g.h
    fa := k.fa
    am := fun q hq => by
      obtain ⟨e, o, u, e1, e2, e3⟩ := k.am q hq
      exact ⟨(g.o _ _ e1).trans e, o, u, g.h _ _ e1, e2.mono g.g, e3⟩ }
  bz := k.bz
  bg := k.bg.trans (g.step0 (k.bs.trans k.fh))
theorem EnvOk.grow (k : EnvOk K A F G H σ en) (g : Grow G H G' H') (s : Same G' H') : EnvOk K A F G' H' σ en where
  ok := k.ok.grow g s
  len := k.len
  ex := by
    obtain ⟨c, x⟩ := k.ex
    refine ⟨c, fun i d e => ?_, fun i o e => ?_, x.inj, x.pl⟩
    · obtain ⟨v, e1, e2⟩ := x.dat i d e
      exact ⟨v, e1, e2.mono g.g⟩
    · obtain ⟨e1, ⟨u, e2, e3⟩, e4, e5, e6⟩ := x.cel i o e
      exact ⟨e1, ⟨u, g.h _ _ e2, e3.mono g.g⟩, (g.o _ _ e2).trans e4, e5, e6⟩
theorem Grow.step (g : Grow G H G' H') (f : Same F H) : Step F G G' := ⟨g.n, g.g, fun a u e => g.o a u (f _ _ e)⟩
end
end Dz

namespace Dz
open PySem PySem.Spec PyProof.Rows L2

theorem EnvOk.freeze {K : PySem.W.Frag} {A : Am} {F G H : Hp} {σ : L2.St} {en : En} {i : Nat} {o : HD} (k : EnvOk K A F G H σ en) (e : gt en i = .cel o) :
    ∃ v G', σ[i]? = some (some v) ∧ EnvOk K A F G' H σ (st en i (.dat o.d)) ∧ Step F G G' ∧ Rep K G' o.d v := by
  obtain ⟨c, x⟩ := k.ex
  obtain ⟨e1, ⟨u, e2, e3⟩, e4, e5, e6⟩ := x.cel i o e
  have sg : Same G (upd G (c i) u) := same_new e4
  have hr : Rep K (upd G (c i) u) o.d (.ref (c i)) := (e3.mono sg).rep upd_same (x.pl i o e)
  have hnt : NT G → NT (upd G (c i) u) := fun z => z.new (e3.nt (x.pl i o e))
  refine ⟨.ref (c i), upd G (c i) u, e1, ⟨⟨⟨?_, k.ok.fh, k.ok.fa, ?_⟩, k.ok.bz, k.ok.bg.trans ⟨hnt, sg, fun a w ha => upd_ne (fun z => by subst z; have ha := k.ok.bs _ _ ha; rw [e5] at ha; cases ha)⟩⟩, ?_, c, ?_, ?_, ?_, ?_⟩, ⟨hnt, sg, ?_⟩, hr⟩
  · intro b w hb
    by_cases h : b = c i
    · subst h; rw [upd_same] at hb; cases hb; exact e2
    · rw [upd_ne h] at hb; exact k.ok.gh _ _ hb
  · intro q hq
    obtain ⟨a1, o1, u1, a2, a3, a4⟩ := k.ok.am q hq
    exact ⟨by rw [upd_ne (e6 q hq)]; exact a1, o1, u1, a2, a3.mono sg, a4⟩
  · rw [st_len]; exact k.len
  · intro j d hj
    rw [gt_st] at hj
    split at hj
    · rename_i h
      cases hj
      exact ⟨_, by rw [h.1]; exact e1, hr⟩
    · obtain ⟨v, h1, h2⟩ := x.dat j d hj
      exact ⟨v, h1, h2.mono sg⟩
  · intro j d hj
    rw [gt_st] at hj
    split at hj
    · cases hj
    · rename_i h
      obtain ⟨f1, ⟨u', f2, f3⟩, f4, f5, f6⟩ := x.cel j d hj
      have nj : c j ≠ c i := fun z => by
        have := x.inj j i d o hj e z
        subst this
        have hl : j < en.length := by
          rcases Nat.lt_or_ge j en.length with h' | h'
          · exact h'
          · exact absurd e1 (by rw [List.getElem?_eq_none (by rw [k.len]; exact h')]; intro z; cases z)
        exact h ⟨rfl, hl⟩
      exact ⟨f1, ⟨u', f2, f3.mono sg⟩, by rw [upd_ne nj]; exact f4, f5, f6⟩
  · intro a b p q ha hb hc
    rw [gt_st] at ha hb
    split at ha
    · cases ha
    · split at hb
      · cases hb
      · exact x.inj a b p q ha hb hc
  · intro j q h
    rw [gt_st] at h
    split at h
    · cases h
    · exact x.pl j q h
  · intro a w ha
    exact upd_ne (fun z => by subst z; rw [e5] at ha; cases ha)

/-! ### readings over data -/
abbrev FE := En → (D → En → Prop) → Prop
abbrev FT := En → (Bool → En → Prop) → Prop
abbrev FA := En → (List D → En → Prop) → Prop
def LE (K : PySem.W.Frag) (A : Am) (f : FE) : TE := fun σ H Q => ∃ (F G : Hp) (en : En) (Ψ : D → En → Prop), EnvOk K A F G H σ en ∧ f en Ψ ∧
  ∀ d en' v G' H', Ψ d en' → EnvOk K A F G' H' σ en' → Step F G G' → Rep K G' d v → Q v H'
def LT (K : PySem.W.Frag) (A : Am) (f : FT) : TT := fun σ H Q => ∃ (F G : Hp) (en : En) (Ψ : Bool → En → Prop), EnvOk K A F G H σ en ∧ f en Ψ ∧
  ∀ d en' G' H', Ψ d en' → EnvOk K A F G' H' σ en' → Step F G G' → Q d H'
def LA (K : PySem.W.Frag) (A : Am) (f : FA) : TA := fun σ H Q => ∃ (F G : Hp) (en : En) (Ψ : List D → En → Prop), EnvOk K A F G H σ en ∧ f en Ψ ∧
  ∀ d en' v G' H', Ψ d en' → EnvOk K A F G' H' σ en' → Step F G G' → RepA K G' d v → Q v H'
abbrev DE (X : Cx) (A : Am) (e : Expr) (f : FE) : Prop := PE X e (LE X.K A f)
abbrev DT (X : Cx) (A : Am) (e : Expr) (f : FT) : Prop := PT X e (LT X.K A f)
abbrev DW (X : Cx) (A : Am) (e : Expr) (f : FT) : Prop := PW X e (LT X.K A f)
abbrev DA (X : Cx) (A : Am) (es : List Expr) (f : FA) : Prop := PA X es (LA X.K A f)
theorem pe_weak {X : Cx} {e : Expr} {t t' : TE} (h : PE X e t) (k : ∀ σ H Q, t' σ H Q → t σ H Q) : PE X e t' := ⟨fun pins s σ H Q I q => h.run pins s σ H Q I (k σ H Q q)⟩
theorem pt_weak {X : Cx} {e : Expr} {t t' : TT} (h : PT X e t) (k : ∀ σ H Q, t' σ H Q → t σ H Q) : PT X e t' := ⟨fun pins s σ H Q I q => h.run pins s σ H Q I (k σ H Q q)⟩
theorem pw_weak {X : Cx} {e : Expr} {t t' : TT} (h : PW X e t) (k : ∀ σ H Q, t' σ H Q → t σ H Q) : PW X e t' := ⟨fun w pins s σ H Q I q => h.run w pins s σ H Q I (k σ H Q q)⟩
theorem pa_weak {X : Cx} {e : List Expr} {t t' : TA} (h : PA X e t) (k : ∀ σ H Q, t' σ H Q → t σ H Q) : PA X e t' := ⟨fun p pins s σ H Q I q => h.run p pins s σ H Q I (k σ H Q q)⟩
theorem ps_weak {X : Cx} {e : Stmt} {t t' : TS} (h : PS X e t) (k : ∀ D σ H, t' D σ H → t D σ H) : PS X e t' := ⟨fun pins s σ H D I q => h.run pins s σ H D I (k D σ H q)⟩
theorem pss_weak {X : Cx} {e : List Stmt} {t t' : TS} (h : PSs X e t) (k : ∀ D σ H, t' D σ H → t D σ H) : PSs X e t' := ⟨fun pins s σ H D I q => h.run pins s σ H D I (k D σ H q)⟩
theorem pi_weak {X : Cx} {tg e : Expr} {t t' : TI} (h : PI X tg e t) (k : ∀ σ H Q, t' σ H Q → t σ H Q) : PI X tg e t' := ⟨fun pins s σ H Q I q => h.run pins s σ H Q I (k σ H Q q)⟩

/-! ### operations on values -/
abbrev R1D := D → (D → Prop) → Prop
abbrev R2D := D → D → (D → Prop) → Prop
abbrev RAD := List D → (D → Prop) → Prop
def LR2 (K : PySem.W.Frag) (r : R2D) : R2 := fun x y H Q => ∃ (G : Hp) (dx dy : D) (Ψ : D → Prop), Same G H ∧ Rep K G dx x ∧ Rep K G dy y ∧ r dx dy Ψ ∧ ∀ dz z G' H', Ψ dz → Grow G H G' H' → Same G' H' → Rep K G' dz z → Q z H'
def LR1 (K : PySem.W.Frag) (r : R1D) : V → Hp → VK → Prop := fun x H Q => ∃ (G : Hp) (dx : D) (Ψ : D → Prop), Same G H ∧ Rep K G dx x ∧ r dx Ψ ∧ ∀ dz z G' H', Ψ dz → Grow G H G' H' → Same G' H' → Rep K G' dz z → Q z H'
def LRA (K : PySem.W.Frag) (r : RAD) : List V → Hp → VK → Prop := fun x H Q => ∃ (G : Hp) (dx : List D) (Ψ : D → Prop), Same G H ∧ RepA K G dx x ∧ r dx Ψ ∧ ∀ dz z G' H', Ψ dz → Grow G H G' H' → Same G' H' → Rep K G' dz z → Q z H'
def fVar (i : Nat) : FE := fun en Φ => match gt en i with
  | .dat d => Φ d en
  | .cel o => Φ o.d (st en i (.dat o.d))
  | .un => False
def fC (d : D) : FE := fun en Φ => Φ d en
def fOp (r : R2D) (fa fb : FE) : FE := fun en Φ => fa en fun x e1 => fb e1 fun y e2 => r x y fun z => Φ z e2
def fUn (r : R1D) (fa : FE) : FE := fun en Φ => fa en fun x e1 => r x fun z => Φ z e1
def fCB (r : RAD) (fa : FA) : FE := fun en Φ => fa en fun xs e1 => r xs fun z => Φ z e1
def fNil : FA := fun en Φ => Φ [] en
def fCons (fa : FE) (fr : FA) : FA := fun en Φ => fa en fun x e1 => fr e1 fun xs e2 => Φ (x :: xs) e2

section
variable {X : Cx} {A : Am} {e a b c : Expr} {es : List Expr} {pos : Pos} {fa fb fc : FE} {ft fu : FT} {fr : FA}

theorem le_op {K : PySem.W.Frag} {r : R2D} {σ : L2.St} {H : Hp} {Q : VK} (h : LE K A (fOp r fa fb) σ H Q) : tOp (LR2 K r) (LE K A fa) (LE K A fb) σ H Q := by
  obtain ⟨F, G, en, Ψ, k, h, q⟩ := h
  exact ⟨F, G, en, _, k, h, fun x e1 v1 G1 H1 hb k1 s1 r1 => ⟨F, G1, e1, _, k1, hb, fun y e2 v2 G2 H2 hr k2 s2 r2 =>
    ⟨G2, x, y, _, k2.ok.gh, r1.mono s2.g, r2, hr, fun z w G3 H3 hz g s r3 => q z e2 w G3 H3 hz (k2.grow g s) ((s1.trans s2).trans (g.step k2.ok.fh)) r3⟩⟩⟩
theorem le_un {K : PySem.W.Frag} {r : R1D} {σ : L2.St} {H : Hp} {Q : VK} (h : LE K A (fUn r fa) σ H Q) : tUn (LR1 K r) (LE K A fa) σ H Q := by
  obtain ⟨F, G, en, Ψ, k, h, q⟩ := h
  exact ⟨F, G, en, _, k, h, fun x e1 v1 G1 H1 hb k1 s1 r1 =>
    ⟨G1, x, _, k1.ok.gh, r1, hb, fun z w G3 H3 hz g s r3 => q z e1 w G3 H3 hz (k1.grow g s) (s1.trans (g.step k1.ok.fh)) r3⟩⟩
theorem le_cb {K : PySem.W.Frag} {r : RAD} {σ : L2.St} {H : Hp} {Q : VK} (h : LE K A (fCB r fr) σ H Q) : tCB (LRA K r) (LA K A fr) σ H Q := by
  obtain ⟨F, G, en, Ψ, k, h, q⟩ := h
  exact ⟨F, G, en, _, k, h, fun x e1 v1 G1 H1 hb k1 s1 r1 =>
    ⟨G1, x, _, k1.ok.gh, r1, hb, fun z w G3 H3 hz g s r3 => q z e1 w G3 H3 hz (k1.grow g s) (s1.trans (g.step k1.ok.fh)) r3⟩⟩

theorem de_var (i : Nat) {x : Str} (hN : X.N[i]? = some x := by rfl) (hv : Vis X.env.scope x := by first | exact Or.inl rfl | exact Or.inr (Or.inl rfl) | exact Or.inr (Or.inr rfl)) (hd : (x == ("__debug__" : Str)) = false := by decide)
    (hcd : (x == ("__classdict__" : Str)) = false := by decide) : DE X A (.Name x pos) (fVar i) := pe_weak (pv i hN hv hd hcd) fun σ H Q h => by
  obtain ⟨F, G, en, Ψ, k, h, q⟩ := h
  unfold fVar at h
  cases eg : gt en i with
  | un => rw [eg] at h; exact h.elim
  | dat d =>
    rw [eg] at h
    obtain ⟨c, x⟩ := k.ex
    obtain ⟨v, e1, e2⟩ := x.dat i d eg
    exact ⟨v, e1, q d en v G H h k (Step.refl _ _) e2⟩
  | cel o =>
    rw [eg] at h
    obtain ⟨v, G', e1, k', s', r'⟩ := k.freeze eg
    exact ⟨v, e1, q _ _ v G' H h k' s' r'⟩
theorem le_c {K : PySem.W.Frag} {v : V} {d : D} (hr : ∀ G, Rep K G d v) {σ : L2.St} {H : Hp} {Q : VK} (h : LE K A (fC d) σ H Q) : tC v σ H Q := by
  obtain ⟨F, G, en, Ψ, k, h, q⟩ := h
  exact q d en v G H h k (Step.refl _ _) (hr G)
theorem de_int {i : Int} {j} : DE X A (.Constant (.int i) j pos) (fC (.int i)) := pe_weak pe_int fun _ _ _ h => le_c (fun G => rep_int.mpr rfl) h
theorem de_bl {i : Bool} {j} : DE X A (.Constant (.bool i) j pos) (fC (.bl i)) := pe_weak pe_bl fun _ _ _ h => le_c (fun G => rep_bl.mpr rfl) h
theorem de_non {j} : DE X A (.Constant .none j pos) (fC .non) := pe_weak pe_non fun _ _ _ h => le_c (fun G => rep_non.mpr rfl) h
theorem de_str {i : Str} {j} : DE X A (.Constant (.str i) j pos) (fC (.str i)) := pe_weak pe_str fun _ _ _ h => le_c (fun G => rep_str.mpr rfl) h
/-- a module's constant -/
theorem de_glob {x : Str} {u : Value} {v : V} {d : D} (hg : Gl X x) (hm : X.mg x = some u) (r : RelV v u) (hr : ∀ G, Rep X.K G d v) (hd : (x == ("__debug__" : Str)) = false := by decide) : DE X A (.Name x pos) (fC d) := pe_weak (pe_glob hg hm r hd) fun _ _ _ h => le_c hr h
theorem de_bltn {x : Str} {u : Value} {v : V} {d : D} (hg : Gl X x) (hm : X.mg x = none) (hv : bootBuiltins x = some u) (r : RelV v u) (hr : ∀ G, Rep X.K G d v) (hn : x ≠ "__name__" := by decide) (hd : (x == ("__debug__" : Str)) = false := by decide) : DE X A (.Name x pos) (fC d) :=
  pe_weak (pe_bltn hg hm hv r hn hd) fun _ _ _ h => le_c hr h
theorem de_op {op : Operator} {r : R2D} (ho : OpR X (binaryOp op) (LR2 X.K r)) (ha : DE X A a fa) (hb : DE X A b fb) : DE X A (.BinOp a op b pos) (fOp r fa fb) := pe_weak (pe_op ho ha hb) fun _ _ _ h => le_op h
theorem de_un {op : UnaryOp} {r : R1D} (ho : UnR X (unaryOp op) (LR1 X.K r)) (ha : DE X A a fa) : DE X A (.UnaryOp op a pos) (fUn r fa) := pe_weak (pe_un ho ha) fun _ _ _ h => le_un h
theorem de_cmp {op : CmpOp} {r : R2D} (ho : OpR X (compareOp op) (LR2 X.K r)) (ha : DE X A a fa) (hb : DE X A b fb) (hm : behindInMarks op b = false := by first | exact nobehind _ (by decide) (by decide) | rfl) : DE X A (.Compare a [op] [b] pos) (fOp r fa fb) :=
  pe_weak (pe_cmpR ho ha hb hm) fun _ _ _ h => le_op h
theorem de_ix {r : R2D} (hr : IxR X (LR2 X.K r)) (ha : DE X A a fa) (hb : DE X A b fb) (hs : PlainIx b := by exact fun _ _ => rfl) : DE X A (.Subscript a b pos) (fOp r fa fb) := pe_weak (pe_ix hr ha hb hs) fun _ _ _ h => le_op h
theorem da_nil : DA X A [] fNil := pa_weak pa_nil fun σ H Q h => by
  obtain ⟨F, G, en, Ψ, k, h, q⟩ := h
  exact q [] en [] G H h k (Step.refl _ _) .nil
theorem da_cons (ha : DE X A e fa) (hr : DA X A es fr) (hs : starEach (e :: es) X.env = (false, eval e X.env) :: starEach es X.env := by rfl) : DA X A (e :: es) (fCons fa fr) := pa_weak (pa_cons ha hr hs) fun σ H Q h => by
  obtain ⟨F, G, en, Ψ, k, h, q⟩ := h
  exact ⟨F, G, en, _, k, h, fun x e1 v1 G1 H1 hb k1 s1 r1 => ⟨F, G1, e1, _, k1, hb, fun y e2 v2 G2 H2 hr k2 s2 r2 => q _ e2 _ G2 H2 hr k2 (s1.trans s2) (.cons (r1.mono s2.g) r2)⟩⟩
/-- displays -/
def fTup (fr : FA) : FE := fun en Φ => fr en fun xs e1 => xs.length ≤ 100000 ∧ Φ (.tup xs) e1
def fLst (fr : FA) : FE := fun en Φ => fr en fun xs e1 => xs.length ≤ 100000 ∧ Φ (.lst xs) e1
theorem sz_of {n : Nat} (h : n ≤ 100000) : n ≤ sizeLine := Nat.le_trans h (by decide)
theorem de_tup {x1} (h : DA X A es fr) : DE X A (.Tuple es x1 pos) (fTup fr) := pe_weak (pe_tup h) fun σ H Q h => by
  obtain ⟨F, G, en, Ψ, k, h, q⟩ := h
  exact ⟨F, G, en, _, k, h, fun xs e1 vs G1 H1 hb k1 s1 r1 => ⟨by rw [r1.len]; exact sz_of hb.1, fun p hp => by
    have g : Grow G1 H1 (upd G1 p (.tup vs)) (upd H1 p (.tup vs)) := Grow.new k1.ok.gh hp
    exact q _ e1 _ _ _ hb.2 (k1.grow g (same_upd2 k1.ok.gh)) (s1.trans (g.step k1.ok.fh)) (rep_tup.mpr ⟨p, vs, rfl, .inl (.inl upd_same), r1.mono g.g⟩)⟩⟩
theorem de_lst (h : DA X A es fr) : DE X A (.List es pos) (fLst fr) := pe_weak (pe_lst h) fun σ H Q h => by
  obtain ⟨F, G, en, Ψ, k, h, q⟩ := h
  exact ⟨F, G, en, _, k, h, fun xs e1 vs G1 H1 hb k1 s1 r1 => ⟨by rw [r1.len]; exact sz_of hb.1, fun p hp => by
    have g : Grow G1 H1 (upd G1 p (.lst vs)) (upd H1 p (.lst vs)) := Grow.new k1.ok.gh hp
    exact q _ e1 _ _ _ hb.2 (k1.grow g (same_upd2 k1.ok.gh)) (s1.trans (g.step k1.ok.fh)) (rep_lst.mpr ⟨p, vs, rfl, upd_same, r1.mono g.g⟩)⟩⟩
/-- built-ins by name -/
theorem de_callB {x : Str} {p : Pos} {id : String} {r : RAD} (hc : CallR X (.builtin id) (LRA X.K r)) (hg : Gl X x) (hm : X.mg x = none) (hv : bootBuiltins x = some (.builtin id)) (ha : DA X A (e :: es) fr) (hn : x ≠ "__name__" := by decide) (hdb : (x == ("__debug__" : Str)) = false := by decide)
    (he : starEach (e :: es) X.env = (false, eval e X.env) :: starEach es X.env := by rfl) (hpl : (backTo pos (starEach es X.env)).any (·.1) = false := by rfl) : DE X A (.Call (.Name x p) (e :: es) [] pos) (fCB r fr) :=
  pe_weak (pe_callB hc hg hm hv ha hn hdb he hpl) fun _ _ _ h => le_cb h
theorem de_callTy {x : Str} {p : Pos} {T : String} {r : RAD} (hc : CallR X (.type T) (LRA X.K r)) (hg : Gl X x) (hm : X.mg x = none) (hv : bootBuiltins x = some (.type T)) (ha : DA X A (e :: es) fr) (hn : x ≠ "__name__" := by decide) (hdb : (x == ("__debug__" : Str)) = false := by decide)
    (he : starEach (e :: es) X.env = (false, eval e X.env) :: starEach es X.env := by rfl) (hpl : (backTo pos (starEach es X.env)).any (·.1) = false := by rfl) : DE X A (.Call (.Name x p) (e :: es) [] pos) (fCB r fr) :=
  pe_weak (pe_callTy hc hg hm hv ha hn hdb he hpl) fun _ _ _ h => le_cb h

/-! ### tests -/
def fTest (fa : FE) : FT := fun en Φ => fa en fun x e1 => ∃ k, x = .bl k ∧ Φ k e1
def fTAnd (f g : FT) : FT := fun en Φ => f en fun c e1 => if c = true then g e1 Φ else Φ false e1
def fTOr (f g : FT) : FT := fun en Φ => f en fun c e1 => if c = true then Φ true e1 else g e1 Φ
def fTNot (f : FT) : FT := fun en Φ => f en fun c e1 => Φ (!c) e1
theorem le_test {K : PySem.W.Frag} {σ : L2.St} {H : Hp} {Q : Bool → Hp → Prop} (h : LT K A (fTest fa) σ H Q) : LE K A fa σ H fun x H1 => ∃ k, x = .bl k ∧ Q k H1 := by
  obtain ⟨F, G, en, Ψ, k, h, q⟩ := h
  exact ⟨F, G, en, _, k, h, fun x e1 v1 G1 H1 hb k1 s1 r1 => by
    obtain ⟨b, rfl, hb⟩ := hb
    exact ⟨b, rep_bl.mp r1, q b e1 G1 H1 hb k1 s1⟩⟩
theorem dt_val (h : DE X A e fa) (he : ∀ whole, isTrue e X.env whole = (do let v ← whole; standAt e.pos; holding [v] (truthy v)) := by intro _; rfl) : DT X A e (fTest fa) := pt_weak (pt_val h he) fun σ H Q h => le_test h
theorem dt_cmp {op : CmpOp} {r : R2D} (ho : OpR X (compareOp op) (LR2 X.K r)) (ha : DE X A a fa) (hb : DE X A b fb) (hm : behindInMarks op b = false := by first | exact nobehind _ (by decide) (by decide) | rfl) : DT X A (.Compare a [op] [b] pos) (fTest (fOp r fa fb)) :=
  pt_weak (pt_cmpR ho ha hb hm) fun σ H Q h => by
    obtain ⟨F, G, en, Ψ, k, h, q⟩ := h
    exact ⟨F, G, en, _, k, h, fun x e1 v1 G1 H1 hb k1 s1 r1 => ⟨F, G1, e1, _, k1, hb, fun y e2 v2 G2 H2 hr k2 s2 r2 =>
      ⟨G2, x, y, _, k2.ok.gh, r1.mono s2.g, r2, hr, fun z w G3 H3 hz g s r3 => by
        obtain ⟨b, rfl, hz⟩ := hz
        exact ⟨b, rep_bl.mp r3, q b e2 G3 H3 hz (k2.grow g s) ((s1.trans s2).trans (g.step k2.ok.fh))⟩⟩⟩⟩
theorem dw_and1 (ha : DT X A a ft) : DW X A (.BoolOp .And [a] pos) ft := pw_and1 ha
theorem dw_or1 (ha : DT X A a ft) : DW X A (.BoolOp .Or [a] pos) ft := pw_or1 ha
theorem dw_and {rest : List Expr} (ha : DT X A a ft) (hb : DW X A (.BoolOp .And (b :: rest) pos) fu) : DW X A (.BoolOp .And (a :: b :: rest) pos) (fTAnd ft fu) := pw_weak (pw_and ha hb) fun σ H Q h => by
  obtain ⟨F, G, en, Ψ, k, h, q⟩ := h
  refine ⟨F, G, en, _, k, h, fun x e1 G1 H1 hb k1 s1 => ?_⟩
  cases x with
  | true => exact ⟨F, G1, e1, _, k1, hb, fun y e2 G2 H2 hr k2 s2 => q y e2 G2 H2 hr k2 (s1.trans s2)⟩
  | false => exact q false e1 G1 H1 hb k1 s1
theorem dw_or {rest : List Expr} (ha : DT X A a ft) (hb : DW X A (.BoolOp .Or (b :: rest) pos) fu) : DW X A (.BoolOp .Or (a :: b :: rest) pos) (fTOr ft fu) := pw_weak (pw_or ha hb) fun σ H Q h => by
  obtain ⟨F, G, en, Ψ, k, h, q⟩ := h
  refine ⟨F, G, en, _, k, h, fun x e1 G1 H1 hb k1 s1 => ?_⟩
  cases x with
  | false => exact ⟨F, G1, e1, _, k1, hb, fun y e2 G2 H2 hr k2 s2 => q y e2 G2 H2 hr k2 (s1.trans s2)⟩
  | true => exact q true e1 G1 H1 hb k1 s1
theorem dt_not (ha : DT X A a ft) : DT X A (.UnaryOp .Not a pos) (fTNot ft) := pt_weak (pt_not ha) fun σ H Q h => by
  obtain ⟨F, G, en, Ψ, k, h, q⟩ := h
  exact ⟨F, G, en, _, k, h, fun x e1 G1 H1 hb k1 s1 => q _ e1 G1 H1 hb k1 s1⟩
/-- .. as values -/
def fAndV (fa fb : FE) : FE := fun en Φ => fa en fun x e1 => ∃ c, x = .bl c ∧ if c = true then fb e1 Φ else Φ (.bl false) e1
def fOrV (fa fb : FE) : FE := fun en Φ => fa en fun x e1 => ∃ c, x = .bl c ∧ if c = true then Φ (.bl true) e1 else fb e1 Φ
def fNotV (fa : FE) : FE := fun en Φ => fa en fun x e1 => ∃ c, x = .bl c ∧ Φ (.bl (!c)) e1
def fIf (ft : FT) (fa fb : FE) : FE := fun en Φ => ft en fun c e1 => if c = true then fa e1 Φ else fb e1 Φ
theorem de_one {op} (h : DE X A a fa) : DE X A (.BoolOp op [a] pos) fa := pe_one h
theorem de_and {rest : List Expr} (ha : DE X A a fa) (hb : DE X A (.BoolOp .And (b :: rest) pos) fb) : DE X A (.BoolOp .And (a :: b :: rest) pos) (fAndV fa fb) := pe_weak (pe_and ha hb) fun σ H Q h => by
  obtain ⟨F, G, en, Ψ, k, h, q⟩ := h
  refine ⟨F, G, en, _, k, h, fun x e1 v1 G1 H1 hb k1 s1 r1 => ?_⟩
  obtain ⟨c, rfl, hb⟩ := hb
  refine ⟨c, rep_bl.mp r1, ?_⟩
  cases c with
  | true => exact ⟨F, G1, e1, _, k1, hb, fun y e2 v2 G2 H2 hr k2 s2 r2 => q y e2 v2 G2 H2 hr k2 (s1.trans s2) r2⟩
  | false => exact q _ e1 _ G1 H1 hb k1 s1 (rep_bl.mpr rfl)
theorem de_or {rest : List Expr} (ha : DE X A a fa) (hb : DE X A (.BoolOp .Or (b :: rest) pos) fb) : DE X A (.BoolOp .Or (a :: b :: rest) pos) (fOrV fa fb) := pe_weak (pe_or ha hb) fun σ H Q h => by
  obtain ⟨F, G, en, Ψ, k, h, q⟩ := h
  refine ⟨F, G, en, _, k, h, fun x e1 v1 G1 H1 hb k1 s1 r1 => ?_⟩
  obtain ⟨c, rfl, hb⟩ := hb
  refine ⟨c, rep_bl.mp r1, ?_⟩
  cases c with
  | false => exact ⟨F, G1, e1, _, k1, hb, fun y e2 v2 G2 H2 hr k2 s2 r2 => q y e2 v2 G2 H2 hr k2 (s1.trans s2) r2⟩
  | true => exact q _ e1 _ G1 H1 hb k1 s1 (rep_bl.mpr rfl)
theorem de_not (ha : DE X A a fa) : DE X A (.UnaryOp .Not a pos) (fNotV fa) := pe_weak (pe_not ha) fun σ H Q h => by
  obtain ⟨F, G, en, Ψ, k, h, q⟩ := h
  refine ⟨F, G, en, _, k, h, fun x e1 v1 G1 H1 hb k1 s1 r1 => ?_⟩
  obtain ⟨c, rfl, hb⟩ := hb
  exact ⟨c, rep_bl.mp r1, q _ e1 _ G1 H1 hb k1 s1 (rep_bl.mpr rfl)⟩
theorem de_if (hc : DT X A c ft) (ha : DE X A a fa) (hb : DE X A b fb) : DE X A (.IfExp c a b pos) (fIf ft fa fb) := pe_weak (pe_ifExp hc ha hb) fun σ H Q h => by
  obtain ⟨F, G, en, Ψ, k, h, q⟩ := h
  refine ⟨F, G, en, _, k, h, fun x e1 G1 H1 hb k1 s1 => ?_⟩
  cases x with
  | true => exact ⟨F, G1, e1, _, k1, hb, fun y e2 v2 G2 H2 hr k2 s2 r2 => q y e2 v2 G2 H2 hr k2 (s1.trans s2) r2⟩
  | false => exact ⟨F, G1, e1, _, k1, hb, fun y e2 v2 G2 H2 hr k2 s2 r2 => q y e2 v2 G2 H2 hr k2 (s1.trans s2) r2⟩
/-- chains -/
def fChain (r r' : R2D) (fa fb fc : FE) : FE := fun en Φ => fa en fun x e1 => fb e1 fun y e2 => r x y fun z => ∃ k, z = .bl k ∧ if k = true then fc e2 fun w e3 => r' y w fun z' => Φ z' e3 else Φ (.bl false) e2
theorem de_chain {op op' : CmpOp} {r r' : R2D} (ho : OpR X (compareOp op) (LR2 X.K r)) (ho' : OpR X (compareOp op') (LR2 X.K r')) (ha : DE X A a fa) (hb : DE X A b fb) (hc : DE X A c fc) (hm : lastMarks [op, op'] [b, c] = false := by with_unfolding_all rfl) : DE X A (.Compare a [op, op'] [b, c] pos) (fChain r r' fa fb fc) :=
  pe_weak (pe_chain ho ho' ha hb hc hm) fun σ H Q h => by
    obtain ⟨F, G, en, Ψ, k, h, q⟩ := h
    refine ⟨F, G, en, _, k, h, fun x e1 v1 G1 H1 hb k1 s1 r1 => ⟨F, G1, e1, _, k1, hb, fun y e2 v2 G2 H2 hr k2 s2 r2 =>
      ⟨G2, x, y, _, k2.ok.gh, r1.mono s2.g, r2, hr, fun z w G3 H3 hz g s r3 => ?_⟩⟩⟩
    obtain ⟨b, rfl, hz⟩ := hz
    refine ⟨b, rep_bl.mp r3, ?_⟩
    have k3 := k2.grow g s
    have s3 := (s1.trans s2).trans (g.step k2.ok.fh)
    cases b with
    | false => exact q _ e2 _ G3 H3 hz k3 s3 (rep_bl.mpr rfl)
    | true => exact ⟨F, G3, e2, _, k3, hz, fun w' e4 v4 G4 H4 hw k4 s4 r4 => ⟨G4, y, w', _, k4.ok.gh, (r2.mono g.g).mono s4.g, r4, hw, fun z5 w5 G5 H5 hz5 g5 s5 r5 => q z5 e4 w5 G5 H5 hz5 (k4.grow g5 s5) ((s3.trans s4).trans (g5.step k4.ok.fh)) r5⟩⟩
end
end Dz

namespace Dz
open PySem PySem.Spec PyProof.Rows L2

section
variable {K : PySem.W.Frag} {A : Am} {F G H G' H' : Hp} {σ : L2.St} {en : En}
/-- a slot takes a value -/
theorem EnvOk.put {i : Nat} {d : D} {v : V} (k : EnvOk K A F G H σ en) (r : Rep K G d v) : EnvOk K A F G H (σ.set i (some v)) (st en i (.dat d)) := by
  obtain ⟨c, x⟩ := k.ex
  refine ⟨k.ok, by rw [List.length_set, st_len]; exact k.len, c, fun j d' h => ?_, fun j o h => ?_, fun a b p q ha hb hc => ?_, ?_⟩
  · rw [gt_st] at h
    split at h
    · rename_i hj
      cases h
      refine ⟨v, ?_, r⟩
      rw [hj.1, List.getElem?_set_self (by rw [k.len]; exact hj.2)]
    · rename_i hj
      obtain ⟨w, h1, h2⟩ := x.dat j d' h
      refine ⟨w, ?_, h2⟩
      rw [List.getElem?_set_ne]
      · exact h1
      · intro z
        subst z
        refine hj ⟨rfl, ?_⟩
        rcases Nat.lt_or_ge i en.length with h' | h'
        · exact h'
        · exact absurd h1 (by rw [List.getElem?_eq_none (by rw [k.len]; exact h')]; intro z; cases z)
  · rw [gt_st] at h
    split at h
    · cases h
    · rename_i hj
      obtain ⟨h1, h2⟩ := x.cel j o h
      refine ⟨?_, h2⟩
      rw [List.getElem?_set_ne]
      · exact h1
      · intro z
        subst z
        refine hj ⟨rfl, ?_⟩
        rcases Nat.lt_or_ge i en.length with h' | h'
        · exact h'
        · exact absurd h1 (by rw [List.getElem?_eq_none (by rw [k.len]; exact h')]; intro z; cases z)
  · rw [gt_st] at ha hb
    split at ha
    · cases ha
    · split at hb
      · cases hb
      · exact x.inj a b p q ha hb hc
  · intro j q h
    rw [gt_st] at h
    split at h
    · cases h
    · exact x.pl j q h
/-- a slot is forgotten -/
theorem EnvOk.forget {i : Nat} {o : Option V} (k : EnvOk K A F G H σ en) : EnvOk K A F G H (σ.set i o) (st en i .un) := by
  obtain ⟨c, x⟩ := k.ex
  have lt_of : ∀ {j : Nat} {w : V}, σ[j]? = some (some w) → j < en.length := fun {j w} h1 => by
    rcases Nat.lt_or_ge j en.length with h' | h'
    · exact h'
    · exact absurd h1 (by rw [List.getElem?_eq_none (by rw [k.len]; exact h')]; intro z; cases z)
  refine ⟨k.ok, by rw [List.length_set, st_len]; exact k.len, c, fun j d' h => ?_, fun j o h => ?_, fun a b p q ha hb hc => ?_, ?_⟩
  · rw [gt_st] at h
    split at h
    · cases h
    · rename_i hj
      obtain ⟨w, h1, h2⟩ := x.dat j d' h
      refine ⟨w, ?_, h2⟩
      rw [List.getElem?_set_ne]
      · exact h1
      · intro z
        subst z
        exact hj ⟨rfl, lt_of h1⟩
  · rw [gt_st] at h
    split at h
    · cases h
    · rename_i hj
      obtain ⟨h1, h2⟩ := x.cel j o h
      refine ⟨?_, h2⟩
      rw [List.getElem?_set_ne]
      · exact h1
      · intro z
        subst z
        exact hj ⟨rfl, lt_of h1⟩
  · rw [gt_st] at ha hb
    split at ha
    · cases ha
    · split at hb
      · cases hb
      · exact x.inj a b p q ha hb hc
  · intro j q h
    rw [gt_st] at h
    split at h
    · cases h
    · exact x.pl j q h
/-- a new object in a temporary place -/
theorem gt_app_lt {e : EV} : ∀ {en : En} {i : Nat}, i < en.length → gt (en ++ [e]) i = gt en i
  | [], i, h => by simp at h
  | _ :: r, 0, _ => rfl
  | _ :: r, i + 1, h => by
    simp only [List.cons_append, gt]
    exact gt_app_lt (en := r) (by simpa using h)
theorem gt_app_eq {e : EV} : ∀ {en : En}, gt (en ++ [e]) en.length = e
  | [] => rfl
  | _ :: r => by
    simp only [List.cons_append, List.length_cons, gt]
    exact gt_app_eq (en := r)
theorem gt_ge : ∀ {en : En} {i : Nat}, en.length ≤ i → gt en i = .un
  | [], _, _ => rfl
  | _ :: r, 0, h => by simp at h
  | _ :: r, i + 1, h => by
    simp only [gt]
    exact gt_ge (en := r) (by simpa using h)
theorem EnvOk.newcell {p : Addr} {o : HD} {u : HO} (k : EnvOk K A F G H σ en) (hp : H p = none) (r : RepO K G o u) (hat : o.pl p := by trivial) : EnvOk K A F G (upd H p u) (σ ++ [some (.ref p)]) (en ++ [.cel o]) := by
  have g : Grow G H G (upd H p u) := Grow.tmp hp
  have sg : Same G (upd H p u) := k.ok.gh.trans (same_new hp)
  obtain ⟨c, x⟩ := (k.grow g sg).ex
  have k2 := k.grow g sg
  have lt_of : ∀ {j : Nat} {q : EV}, gt (en ++ [.cel o]) j = q → q ≠ .un → j ≠ en.length → j < en.length := fun {j q} h1 h2 h3 => by
    rcases Nat.lt_or_ge j en.length with h' | h'
    · exact h'
    · refine absurd (gt_ge (en := en ++ [.cel o]) (i := j) ?_) (by rw [h1]; exact h2)
      rw [List.length_append]
      show en.length + 1 ≤ j
      omega
  have get_lt : ∀ {j : Nat}, j < en.length → (σ ++ [some (V.ref p)])[j]? = σ[j]? := fun {j} h => by
    rw [List.getElem?_append_left (by rw [k.len]; exact h)]
  have cfresh : ∀ j, ∀ q, gt en j = .cel q → c j ≠ p := fun j q h z => by
    obtain ⟨c0, x0⟩ := k.ex
    obtain ⟨e1, ⟨u1, e2, _⟩, _⟩ := x0.cel j q h
    obtain ⟨f1, _⟩ := x.cel j q h
    rw [e1] at f1
    have e3 : c0 j = c j := by injection f1 with f1; injection f1 with f1; injection f1
    rw [e3, z] at e2
    rw [hp] at e2; cases e2
  refine ⟨k2.ok, by rw [List.length_append, List.length_append, k.len]; rfl, fun j => if j = en.length then p else c j, fun j d h => ?_, fun j q h => ?_, fun a b q1 q2 ha hb hc => ?_, fun j q h => ?_⟩
  · have hj : j ≠ en.length := fun z => by subst z; rw [gt_app_eq] at h; cases h
    have hl := lt_of h (by intro z; cases z) hj
    rw [gt_app_lt hl] at h
    rw [get_lt hl]
    exact x.dat j d h
  · by_cases hj : j = en.length
    · subst hj
      rw [gt_app_eq] at h
      cases h
      simp only [if_pos]
      refine ⟨?_, ⟨u, upd_same, r⟩, ?_, ?_, fun q hq => ?_⟩
      · rw [List.getElem?_append_right (by rw [k.len]; exact Nat.le_refl _), k.len, Nat.sub_self]; rfl
      · exact k.ok.gh.free hp
      · exact k.ok.fh.free hp
      · intro z
        obtain ⟨_, _, _, e, _⟩ := k.ok.am q hq
        rw [z, hp] at e; cases e
    · have hl := lt_of h (by intro z; cases z) hj
      rw [gt_app_lt hl] at h
      simp only [if_neg hj]
      rw [get_lt hl]
      exact x.cel j q h
  · by_cases h1 : a = en.length
    · by_cases h2 : b = en.length
      · rw [h1, h2]
      · have hl := lt_of hb (by intro z; cases z) h2
        rw [gt_app_lt hl] at hb
        simp only [if_pos h1, if_neg h2] at hc
        exact absurd hc.symm (cfresh b q2 hb)
    · have hl := lt_of ha (by intro z; cases z) h1
      rw [gt_app_lt hl] at ha
      by_cases h2 : b = en.length
      · simp only [if_pos h2, if_neg h1] at hc
        exact absurd hc (cfresh a q1 ha)
      · have hl2 := lt_of hb (by intro z; cases z) h2
        rw [gt_app_lt hl2] at hb
        simp only [if_neg h2, if_neg h1] at hc
        exact x.inj a b q1 q2 ha hb hc
  · by_cases hj : j = en.length
    · subst hj
      rw [gt_app_eq] at h
      cases h
      simp only [if_pos]
      exact hat
    · have hl := lt_of h (by intro z; cases z) hj
      rw [gt_app_lt hl] at h
      simp only [if_neg hj]
      exact x.pl j q h
/-- the temporary place is left, the object moves to a slot -/
theorem EnvOk.move {p : Addr} {o : HD} {i : Nat} (k : EnvOk K A F G H (σ ++ [some (.ref p)]) (en ++ [.cel o])) : EnvOk K A F G H (σ.set i (some (.ref p))) (st en i (.cel o)) := by
  obtain ⟨c, x⟩ := k.ex
  have hlen : σ.length = en.length := by
    have h := k.len
    rw [List.length_append, List.length_append] at h
    exact Nat.add_right_cancel h
  have get_lt : ∀ {j : Nat}, j < en.length → (σ ++ [some (V.ref p)])[j]? = σ[j]? := fun {j} h => by
    rw [List.getElem?_append_left (by rw [hlen]; exact h)]
  have lt_of : ∀ {j : Nat} {q : EV}, gt en j = q → q ≠ .un → j < en.length := fun {j q} h1 h2 => by
    rcases Nat.lt_or_ge j en.length with h' | h'
    · exact h'
    · exact absurd (gt_ge h') (by rw [h1]; exact h2)
  obtain ⟨t1, t2⟩ := x.cel en.length o gt_app_eq
  have cp : c en.length = p := by
    rw [List.getElem?_append_right (by rw [hlen]; exact Nat.le_refl _), hlen, Nat.sub_self] at t1
    have t1 : some (some (V.ref p)) = some (some (V.ref (c en.length))) := t1
    injection t1 with t1; injection t1 with t1; injection t1 with t1; exact t1.symm
  rw [cp] at t2
  refine ⟨k.ok, by rw [List.length_set, st_len]; exact hlen, fun j => if j = i then p else c j, fun j d h => ?_, fun j q h => ?_, fun a b q1 q2 ha hb hc => ?_, fun j q h => ?_⟩
  · rw [gt_st] at h
    split at h
    · cases h
    · rename_i hj
      have hl := lt_of h (by intro z; cases z)
      rw [List.getElem?_set_ne (by intro z; subst z; exact hj ⟨rfl, hl⟩)]
      obtain ⟨v, e1, e2⟩ := x.dat j d (by rw [gt_app_lt hl]; exact h)
      rw [get_lt hl] at e1
      exact ⟨v, e1, e2⟩
  · rw [gt_st] at h
    split at h
    · rename_i hj
      cases h
      have ej := hj.1
      subst ej
      simp only [if_pos]
      exact ⟨by rw [List.getElem?_set_self (by rw [hlen]; exact hj.2)], t2⟩
    · rename_i hj
      have hl := lt_of h (by intro z; cases z)
      have hji : j ≠ i := by intro z; subst z; exact hj ⟨rfl, hl⟩
      rw [List.getElem?_set_ne hji.symm]
      obtain ⟨e1, e2⟩ := x.cel j q (by rw [gt_app_lt hl]; exact h)
      rw [get_lt hl] at e1
      simp only [if_neg hji]
      exact ⟨e1, e2⟩
  · have key : ∀ j q, gt (st en i (.cel o)) j = .cel q → j ≠ i → gt (en ++ [.cel o]) j = .cel q ∧ j < en.length := fun j q h hj => by
      rw [gt_st, if_neg (fun z => hj z.1)] at h
      have hl := lt_of h (by intro z; cases z)
      exact ⟨by rw [gt_app_lt hl]; exact h, hl⟩
    have kei : ∀ q, gt (st en i (.cel o)) i = .cel q → i < en.length := fun q h => by
      rw [gt_st] at h
      split at h
      · rename_i z; exact z.2
      · exact lt_of h (by intro z; cases z)
    by_cases h1 : a = i
    · by_cases h2 : b = i
      · rw [h1, h2]
      · obtain ⟨hb', lb⟩ := key b q2 hb h2
        simp only [if_pos h1, if_neg h2] at hc
        have := x.inj en.length b o q2 gt_app_eq hb' (by rw [cp]; exact hc)
        omega
    · obtain ⟨ha', la⟩ := key a q1 ha h1
      by_cases h2 : b = i
      · simp only [if_pos h2, if_neg h1] at hc
        have := x.inj en.length a o q1 gt_app_eq ha' (by rw [cp]; exact hc.symm)
        omega
      · obtain ⟨hb', lb⟩ := key b q2 hb h2
        simp only [if_neg h2, if_neg h1] at hc
        exact x.inj a b q1 q2 ha' hb' hc
  · rw [gt_st] at h
    split at h
    · rename_i hj
      cases h
      have ej := hj.1
      subst ej
      simp only [if_pos]
      have := x.pl en.length o gt_app_eq
      rw [cp] at this
      exact this
    · rename_i hj
      have hl := lt_of h (by intro z; cases z)
      have hji : j ≠ i := by intro z; subst z; exact hj ⟨rfl, hl⟩
      simp only [if_neg hji]
      exact x.pl j q (by rw [gt_app_lt hl]; exact h)
/-- the object of a slot changes -/
theorem EnvOk.alter {i : Nat} {o o' : HD} {a : Addr} {u' : HO} (k : EnvOk K A F G H σ en) (e : gt en i = .cel o) (ha : σ[i]? = some (some (.ref a))) (r : RepO K G o' u') (hat : o'.pl a := by trivial) : EnvOk K A F G (upd H a u') σ (st en i (.cel o')) := by
  obtain ⟨c, x⟩ := k.ex
  obtain ⟨e1, ⟨u, e2, e3⟩, e4, e5, e6⟩ := x.cel i o e
  have ca : c i = a := by
    rw [ha] at e1
    injection e1 with e1; injection e1 with e1; injection e1 with e1; exact e1.symm
  subst ca
  have hl : i < en.length := by
    rcases Nat.lt_or_ge i en.length with h' | h'
    · exact h'
    · rw [gt_ge h'] at e; cases e
  have sG : Same G (upd H (c i) u') := fun b w hb => by
    rw [upd_ne (fun z => by subst z; rw [e4] at hb; cases hb)]
    exact k.ok.gh _ _ hb
  refine ⟨⟨⟨sG, fun b w hb => ?_, k.ok.fa, fun q hq => ?_⟩, k.ok.bz, k.ok.bg⟩, by rw [st_len]; exact k.len, c, fun j d h => ?_, fun j q h => ?_, fun s t q1 q2 hs ht hc => ?_, fun j q h => ?_⟩
  · rw [upd_ne (fun z => by subst z; rw [e5] at hb; cases hb)]
    exact k.ok.fh _ _ hb
  · obtain ⟨a1, o1, u1, a2, a3, a4⟩ := k.ok.am q hq
    exact ⟨a1, o1, u1, by rw [upd_ne (e6 q hq)]; exact a2, a3, a4⟩
  · rw [gt_st] at h
    split at h
    · cases h
    · exact x.dat j d h
  · rw [gt_st] at h
    split at h
    · rename_i hj
      cases h
      have ej := hj.1
      subst ej
      exact ⟨ha, ⟨u', upd_same, r⟩, e4, e5, e6⟩
    · rename_i hj
      obtain ⟨f1, ⟨u1, f2, f3⟩, f4⟩ := x.cel j q h
      have nj : c j ≠ c i := fun z => by
        have := x.inj j i q o h e z
        exact hj ⟨this, hl⟩
      exact ⟨f1, ⟨u1, by rw [upd_ne nj]; exact f2, f3⟩, f4⟩
  · have key : ∀ j q, gt (st en i (.cel o')) j = .cel q → ∃ q', gt en j = .cel q' := fun j q h => by
      rw [gt_st] at h
      split at h
      · rename_i z; rw [z.1]; exact ⟨o, e⟩
      · exact ⟨q, h⟩
    obtain ⟨p1, h1⟩ := key s q1 hs
    obtain ⟨p2, h2⟩ := key t q2 ht
    exact x.inj s t p1 p2 h1 h2 hc
  · rw [gt_st] at h
    split at h
    · rename_i hj
      cases h
      rw [hj.1]
      exact hat
    · exact x.pl j q h
/-- the frame may grow -/
theorem EnvOk.slot {i : Nat} {o : HD} (k : EnvOk K A F G H σ en) (e : gt en i = .cel o) : ∃ a u, σ[i]? = some (some (.ref a)) ∧ H a = some u ∧ RepO K G o u := by
  obtain ⟨c, x⟩ := k.ex
  obtain ⟨e1, ⟨u, e2, e3⟩, _⟩ := x.cel i o e
  exact ⟨c i, u, e1, e2, e3⟩
end

/-! ### statements -/
structure Ed where
  nx : En → Prop
  rt : D → Prop
  bk : En → Prop := fun _ => False
  ct : En → Prop := fun _ => False
abbrev FS := En → Ed → Prop
def LS (K : PySem.W.Frag) (A : Am) (f : FS) : TS := fun Dd σ H => ∃ (F G : Hp) (en : En) (Ψ : Ed), EnvOk K A F G H σ en ∧ f en Ψ ∧
  (∀ e σ' G' H', Ψ.nx e → EnvOk K A F G' H' σ' e → Step F G G' → Dd.nx σ' H') ∧
  (∀ d v G' H', Ψ.rt d → StOk K A F G' H' → Step F G G' → Rep K G' d v → Dd.rt v H') ∧
  (∀ e σ' G' H', Ψ.bk e → EnvOk K A F G' H' σ' e → Step F G G' → Dd.bk σ' H') ∧
  (∀ e σ' G' H', Ψ.ct e → EnvOk K A F G' H' σ' e → Step F G G' → Dd.ct σ' H')
abbrev DS (X : Cx) (A : Am) (s : Stmt) (f : FS) : Prop := PS X s (LS X.K A f)
abbrev DSs (X : Cx) (A : Am) (s : List Stmt) (f : FS) : Prop := PSs X s (LS X.K A f)
def fNext : FS := fun en Ψ => Ψ.nx en
def fSeq (f g : FS) : FS := fun en Ψ => f en { Ψ with nx := fun e => g e Ψ }
def fDrop (fa : FE) : FS := fun en Ψ => fa en fun _ e => Ψ.nx e
def fRet (fa : FE) : FS := fun en Ψ => fa en fun d _ => Ψ.rt d
def fRetN : FS := fun en Ψ => Ψ.rt .non
def fIfS (ft : FT) (f g : FS) : FS := fun en Ψ => ft en fun c e => if c = true then f e Ψ else g e Ψ
def fBreak : FS := fun en Ψ => Ψ.bk en
def fCont : FS := fun en Ψ => Ψ.ct en
section
variable {X : Cx} {A : Am} {s : Stmt} {ss : List Stmt} {e a b c : Expr} {es : List Expr} {pos : Pos} {fa fb : FE} {ft : FT} {f g h : FS}
theorem dss_nil : DSs X A [] fNext := pss_weak pss_nil fun Dd σ H ⟨F, G, en, Ψ, k, h, q, _⟩ => q en σ G H h k (Step.refl _ _)
theorem dss_cons (h1 : DS X A s f) (h2 : DSs X A ss g) : DSs X A (s :: ss) (fSeq f g) := pss_weak (pss_cons h1 h2) fun Dd σ H ⟨F, G, en, Ψ, k, h, q1, q2, q3, q4⟩ =>
  ⟨F, G, en, _, k, h, fun e σ' G1 H1 hg k1 s1 => ⟨F, G1, e, Ψ, k1, hg, fun e2 σ2 G2 H2 z k2 s2 => q1 e2 σ2 G2 H2 z k2 (s1.trans s2), fun d v G2 H2 z k2 s2 => q2 d v G2 H2 z k2 (s1.trans s2), fun e2 σ2 G2 H2 z k2 s2 => q3 e2 σ2 G2 H2 z k2 (s1.trans s2), fun e2 σ2 G2 H2 z k2 s2 => q4 e2 σ2 G2 H2 z k2 (s1.trans s2)⟩, q2, q3, q4⟩
theorem dss_one (h1 : DS X A s f) : DSs X A [s] f := pss_one h1
theorem ds_pass {p : Pos} : DS X A (.Pass p) fNext := ps_weak ps_pass fun Dd σ H ⟨F, G, en, Ψ, k, h, q, _⟩ => q en σ G H h k (Step.refl _ _)
theorem ds_break {p : Pos} : DS X A (.Break p) fBreak := ps_weak ps_break fun Dd σ H ⟨F, G, en, Ψ, k, h, _, _, q, _⟩ => q en σ G H h k (Step.refl _ _)
theorem ds_cont {p : Pos} : DS X A (.Continue p) fCont := ps_weak ps_continue fun Dd σ H ⟨F, G, en, Ψ, k, h, _, _, _, q⟩ => q en σ G H h k (Step.refl _ _)
theorem ds_expr (he : DE X A e fa) (hs : swapsWith e none pos.line X.env = pure false := by rfl) : DS X A (.Expr e pos) (fDrop fa) := ps_weak (ps_expr he hs) fun Dd σ H ⟨F, G, en, Ψ, k, h, q1, _⟩ =>
  ⟨F, G, en, _, k, h, fun d e1 v G1 H1 z k1 s1 _ => q1 e1 σ G1 H1 z k1 s1⟩
theorem ds_ret (he : DE X A e fa) : DS X A (.Return (some e) pos) (fRet fa) := ps_weak (ps_ret he) fun Dd σ H ⟨F, G, en, Ψ, k, h, _, q2, _⟩ =>
  ⟨F, G, en, _, k, h, fun d e1 v G1 H1 z k1 s1 r1 => q2 d v G1 H1 z k1.ok s1 r1⟩
theorem ds_retN : DS X A (.Return none pos) fRetN := ps_weak ps_retN fun Dd σ H ⟨F, G, en, Ψ, k, h, _, q2, _⟩ => q2 .non .non G H h k.ok (Step.refl _ _) (rep_non.mpr rfl)
theorem ds_if {sa sb : List Stmt} (hc : DT X A c ft) (ha : DSs X A sa f) (hb : DSs X A sb g) : DS X A (.If c sa sb pos) (fIfS ft f g) := ps_weak (ps_if hc ha hb) fun Dd σ H ⟨F, G, en, Ψ, k, h, q1, q2, q3, q4⟩ => by
  refine ⟨F, G, en, _, k, h, fun b e1 G1 H1 hg k1 s1 => ?_⟩
  cases b with
  | true => exact ⟨F, G1, e1, Ψ, k1, hg, fun e2 σ2 G2 H2 z k2 s2 => q1 e2 σ2 G2 H2 z k2 (s1.trans s2), fun d v G2 H2 z k2 s2 => q2 d v G2 H2 z k2 (s1.trans s2), fun e2 σ2 G2 H2 z k2 s2 => q3 e2 σ2 G2 H2 z k2 (s1.trans s2), fun e2 σ2 G2 H2 z k2 s2 => q4 e2 σ2 G2 H2 z k2 (s1.trans s2)⟩
  | false => exact ⟨F, G1, e1, Ψ, k1, hg, fun e2 σ2 G2 H2 z k2 s2 => q1 e2 σ2 G2 H2 z k2 (s1.trans s2), fun d v G2 H2 z k2 s2 => q2 d v G2 H2 z k2 (s1.trans s2), fun e2 σ2 G2 H2 z k2 s2 => q3 e2 σ2 G2 H2 z k2 (s1.trans s2), fun e2 σ2 G2 H2 z k2 s2 => q4 e2 σ2 G2 H2 z k2 (s1.trans s2)⟩

/-! ### targets -/
abbrev FG := D → En → (En → Prop) → Prop
abbrev FGs := List D → En → (En → Prop) → Prop
def LG (K : PySem.W.Frag) (A : Am) (vs : List Nat) (g : FG) : TG := fun v σ H Q => ∃ (F G : Hp) (en : En) (d : D) (Ψ : En → Prop), EnvOk K A F G H σ en ∧ Rep K G d v ∧ g d en Ψ ∧
  ∀ e σ' G' H', Ψ e → EnvOk K A F G' H' σ' e → Step F G G' → wipe σ' vs = wipe σ vs → Q σ' H'
def LGs (K : PySem.W.Frag) (A : Am) (vs : List Nat) (g : FGs) : TGs := fun v σ H Q => ∃ (F G : Hp) (en : En) (d : List D) (Ψ : En → Prop), EnvOk K A F G H σ en ∧ RepA K G d v ∧ g d en Ψ ∧
  ∀ e σ' G' H', Ψ e → EnvOk K A F G' H' σ' e → Step F G G' → wipe σ' vs = wipe σ vs → Q σ' H'
abbrev DG (X : Cx) (A : Am) (vs : List Nat) (t : Expr) (g : FG) : Prop := PG X t (LG X.K A vs g)
abbrev DGs (X : Cx) (A : Am) (vs : List Nat) (t : List Expr) (g : FGs) : Prop := PGs X t (LGs X.K A vs g)
theorem pg_weak {X : Cx} {e : Expr} {t t' : TG} (h : PG X e t) (k : ∀ v σ H Q, t' v σ H Q → t v σ H Q) : PG X e t' := ⟨fun pins s σ H v u Q I r q => h.run pins s σ H v u Q I r (k v σ H Q q)⟩
theorem pgs_weak {X : Cx} {e : List Expr} {t t' : TGs} (h : PGs X e t) (k : ∀ v σ H Q, t' v σ H Q → t v σ H Q) : PGs X e t' := ⟨fun pins s σ H v u Q I r q => h.run pins s σ H v u Q I r (k v σ H Q q)⟩
theorem wipe_set {v : Option V} {i : Nat} : ∀ {vs : List Nat} {σ : L2.St}, i ∈ vs → wipe (σ.set i v) vs = wipe σ vs
  | [], _, h => by simp at h
  | w :: vs, σ, h => by
    unfold wipe
    by_cases hw : i ∈ vs
    · rw [wipe_set hw]
    · have : i = w := by
        rcases List.mem_cons.mp h with z | z
        · exact z
        · exact absurd z hw
      subst this
      clear h
      have aux : ∀ (vs : List Nat) (σ : L2.St), (wipe (σ.set i v) vs).set i none = (wipe σ vs).set i none := fun vs => by
        induction vs with
        | nil => intro σ; unfold wipe; rw [List.set_set]
        | cons x r ih =>
          intro σ
          unfold wipe
          by_cases hx : x = i
          · subst hx; rw [List.set_set, List.set_set, ih]
          · rw [List.set_comm _ _ (by exact hx), ih, List.set_comm _ _ (by exact fun z => hx z.symm)]
      exact aux vs σ
def gN (i : Nat) : FG := fun d en Φ => Φ (st en i (.dat d))
theorem dg_name {i : Nat} {x : Str} {vs : List Nat} (hN : X.N.Nodup) (hi : X.N[i]? = some x) (hx : Loc X.env.scope x) (hm : i ∈ vs := by decide) (hf : X.fn x = true ∨ X.env.scope.names.lookup x = some .local := by first | exact .inl rfl | exact .inr rfl | assumption) : DG X A vs (.Name x pos) (gN i) :=
  pg_weak (pg_name hN hi hx hf) fun v σ H Q ⟨F, G, en, d, Ψ, k, r, h, q⟩ => q _ _ G H h (k.put r) (Step.refl _ _) (wipe_set hm)
def gNl : FGs := fun ds en Φ => ds = [] ∧ Φ en
def gCs (g : FG) (gs : FGs) : FGs := fun ds en Φ => match ds with
  | d :: r => g d en fun e => gs r e Φ
  | [] => False
theorem dgs_nil {vs : List Nat} : DGs X A vs [] gNl := pgs_weak pgs_nil fun v σ H Q ⟨F, G, en, d, Ψ, k, r, h, q⟩ => by
  obtain ⟨rfl, h⟩ := h
  unfold RepA at r
  exact ⟨r, q _ _ G H h k (Step.refl _ _) rfl⟩
theorem dgs_cons {vs : List Nat} {gg : FG} {gs : FGs} (h1 : DG X A vs e gg) (h2 : DGs X A vs es gs) (hs : (assignEach (e :: es) X.env).map (·.2) = assign e X.env :: (assignEach es X.env).map (·.2) := by rfl) : DGs X A vs (e :: es) (gCs gg gs) :=
  pgs_weak (pgs_cons h1 h2 hs) fun v σ H Q ⟨F, G, en, d, Ψ, k, r, h, q⟩ => by
    cases d with
    | nil => exact h.elim
    | cons d0 dr =>
      unfold RepA at r
      obtain ⟨x, xs, rfl, r1, r2⟩ := r
      exact ⟨x, xs, rfl, F, G, en, d0, _, k, r1, h, fun e1 σ1 G1 H1 hh k1 s1 w1 => ⟨F, G1, e1, dr, _, k1, r2.mono s1.g, hh, fun e2 σ2 G2 H2 z k2 s2 w2 => q e2 σ2 G2 H2 z k2 (s1.trans s2) (w2.trans w1)⟩⟩
def gT (n : Nat) (gs : FGs) : FG := fun d en Φ => match d with
  | .tup l => l.length = n ∧ gs l en Φ
  | _ => False
theorem dg_tup {vs : List Nat} {k : Nat} {gs : FGs} {n : Nat} (hc : X.calm = true) (h : DGs X A vs es gs) (hn : (assignEach es X.env).length = n := by rfl) (hst : (assignEach es X.env).findIdx? (·.1) = none := by rfl) : DG X A vs (.Tuple es k pos) (gT n gs) :=
  pg_weak (pg_tup hc h hn hst) fun v σ H Q ⟨F, G, en, d, Ψ, kk, r, h, q⟩ => by
    cases d with
    | tup l =>
      obtain ⟨hl, h⟩ := h
      obtain ⟨a, xs, rfl, sq, ra⟩ := rep_tup.mp r
      exact ⟨a, xs, rfl, sqt_mono kk.ok.gh sq, by rw [ra.len]; exact hl, F, G, en, l, Ψ, kk, ra, h, q⟩
    | _ => exact h.elim
def fAsg (fa : FE) (g : FG) : FS := fun en Ψ => fa en fun d e => g d e Ψ.nx
theorem ds_asg {tg : Expr} {vs : List Nat} {gg : FG} (he : DE X A e fa) (hg : DG X A vs tg gg) (hs : swapsWithSole [tg] e pos.line X.env = pure false := by rfl) (hw : swappedStores [tg] e X.env = pure none := by rfl)
    (h1 : (assignEach [tg] X.env).map (·.2) = [assign tg X.env] := by rfl) : DS X A (.Assign [tg] e pos) (fAsg fa gg) := ps_weak (ps_asg he hg hs hw h1) fun Dd σ H ⟨F, G, en, Ψ, k, h, q1, _⟩ =>
  ⟨F, G, en, _, k, h, fun d e1 v G1 H1 z k1 s1 r1 => ⟨F, G1, e1, d, Ψ.nx, k1, r1, z, fun e2 σ2 G2 H2 z2 k2 s2 _ => q1 e2 σ2 G2 H2 z2 k2 (s1.trans s2)⟩⟩
/-- a, b = e1, e2 -/
def fPar (i j : Nat) (fr : FA) : FS := fun en Ψ => fr en fun xs e => match xs with
  | [x, y] => Ψ.nx (st (st e i (.dat x)) j (.dat y))
  | _ => False
theorem ds_par {i j : Nat} {x y : Str} {fr : FA} {px py pt : Pos} {kt k2 pt2} (hc : X.calm = true) (hN : X.N.Nodup) (hi : X.N[i]? = some x) (hj : X.N[j]? = some y) (hij : i ≠ j)
    (hx : X.env.scope.names.lookup x = some .local) (hy : X.env.scope.names.lookup y = some .local) (ha : DA X A [a, b] fr)
    (hw : swappedStores [.Tuple [.Name x px, .Name y py] kt pt] (.Tuple [a, b] k2 pt2) X.env = pure (some [x, y]) := by rfl)
    (hs : swapsWithSole [.Tuple [.Name x px, .Name y py] kt pt] (.Tuple [a, b] k2 pt2) pos.line X.env = pure false := by rfl) :
    DS X A (.Assign [.Tuple [.Name x px, .Name y py] kt pt] (.Tuple [a, b] k2 pt2) pos) (fPar i j fr) := ps_weak (ps_par hc hN hi hj hij hx hy ha hw hs) fun Dd σ H ⟨F, G, en, Ψ, k, h, q1, _⟩ =>
  ⟨F, G, en, _, k, h, fun d e1 v G1 H1 z k1 s1 r1 => by
    match d, z with
    | [d1, d2], z =>
      unfold RepA at r1
      obtain ⟨v1, r, rfl, p1, r1⟩ := r1
      unfold RepA at r1
      obtain ⟨v2, r, rfl, p2, r1⟩ := r1
      unfold RepA at r1
      subst r1
      exact ⟨v1, v2, rfl, q1 _ _ G1 H1 z ((k1.put p1).put p2) s1⟩⟩
/-- x op= e -/
def fAug (i : Nat) (fe : FE) (r : R2D) : FS := fun en Ψ => match gt en i with
  | .dat x => fe en fun y e => gt e i = .dat x ∧ r x y fun z => Ψ.nx (st e i (.dat z))
  | _ => False
theorem ds_aug {i : Nat} {x : Str} {op : Operator} {r : R2D} {pos' : Pos} (hN : X.N.Nodup) (hi : X.N[i]? = some x) (hx : Loc X.env.scope x) (he : DE X A e fa) (ho : PIp X op (LR2 X.K r))
    (hf : X.fn x = true ∨ X.env.scope.names.lookup x = some .local := by first | exact .inl rfl | exact .inr rfl | assumption) : DS X A (.AugAssign (.Name x pos') op e pos) (fAug i fa r) := ps_weak (ps_aug hN hi hx he ho hf) fun Dd σ H ⟨F, G, en, Ψ, k, h, q1, _⟩ => by
  unfold fAug at h
  cases eg : gt en i with
  | un => rw [eg] at h; exact h.elim
  | cel o => rw [eg] at h; exact h.elim
  | dat d =>
    rw [eg] at h
    obtain ⟨c, sl⟩ := k.ex
    obtain ⟨v, e1, e2⟩ := sl.dat i d eg
    exact ⟨v, e1, F, G, en, _, k, h, fun y ey w G1 H1 hz k1 s1 r1 => ⟨G1, d, y, _, k1.ok.gh, e2.mono s1.g, r1, hz.2, fun z u G2 H2 h2 g2 s2 r2 => q1 _ _ G2 H2 h2 ((k1.grow g2 s2).put r2) (s1.trans (g2.step k1.ok.fh))⟩⟩

/-! ### what a loop walks -/
abbrev FI := En → (List D → En → Prop) → Prop
/-- an iterator that yields these data -/
structure Yl (K : PySem.W.Frag) (J : It) (G : Hp) (items : List D) : Prop where
  go : ∀ G1 H1 k, Same G G1 → Same G1 H1 → k < items.length → J.go k H1
  yl : ∀ G1 H1 k x H2 d, Same G G1 → Same G1 H1 → items[k]? = some d → J.yld k H1 x H2 → ∃ G2, Grow G1 H1 G2 H2 ∧ Same G2 H2 ∧ Rep K G2 d x
  sp : ∀ G1 H1 k, Same G G1 → Same G1 H1 → items.length ≤ k → J.stop k H1
def LI (K : PySem.W.Frag) (A : Am) (f : FI) : TI := fun σ H R => ∃ (F G : Hp) (en : En) (Ψ : List D → En → Prop), EnvOk K A F G H σ en ∧ f en Ψ ∧
  ∀ items e' G' H' J, Ψ items e' → EnvOk K A F G' H' σ e' → Step F G G' → Yl K J G' items → R J H'
abbrev DI (X : Cx) (A : Am) (tg e : Expr) (f : FI) : Prop := PI X tg e (LI X.K A f)
/-- what a for asks behind its source -/
def ForGoal (g : FG) (fb : FS) (e1 : En) (items : List D) (Ψ : Ed) : Prop := ∃ I : Nat → En → Prop, I 0 e1 ∧
  (∀ k x e, items[k]? = some x → I k e → g x e fun e2 => fb e2 { nx := I (k + 1), ct := I (k + 1), bk := Ψ.nx, rt := Ψ.rt }) ∧ ∀ e, I items.length e → Ψ.nx e
def fFor (fi : FI) (g : FG) (fb : FS) : FS := fun en Ψ => fi en fun items e1 => ForGoal g fb e1 items Ψ
theorem ds_for {iter tg : Expr} {body : List Stmt} {fi : FI} {gg : FG} {fb : FS} {vs : List Nat} (hp : PassesOwn (model X.prog X.w) X.A X.env X.xe) (hc : X.calm = true) (hi : DI X A tg iter fi) (hg : DG X A vs tg gg) (hb : DSs X A body fb)
    (hs : ∀ x, foldedSetIterable iter X.env x = pure x := by intro _; rfl) : DS X A (.For tg iter body [] pos) (fFor fi gg fb) := ps_weak (ps_for hp hc hi hg hb hs) fun Dd σ H ⟨F, G, en, Ψ, k, h, q1, q2, q3, q4⟩ =>
  ⟨F, G, en, _, k, h, fun items e1 G1 H1 J hI k1 s1 Y => by
    obtain ⟨I, i0, it, id⟩ := hI
    refine ⟨fun i m σ' H' => ∃ e G', EnvOk X.K A F G' H' σ' e ∧ Step F G1 G' ∧ I i e ∧ i + m = items.length, ⟨items.length, e1, G1, k1, Step.refl _ _, i0, by omega⟩, fun i m σ2 H2 w => ?_⟩
    obtain ⟨e2, G2, k2, s2, ie, hm⟩ := w
    by_cases hi : i < items.length
    · refine .inr ⟨Y.go G2 H2 i s2.g k2.ok.gh hi, fun σ' H' => ∃ e G', EnvOk X.K A F G' H' σ' e ∧ Step F G1 G' ∧ I (i + 1) e, fun σ' H' ⟨e, G', a, b, c⟩ => ⟨m - 1, by omega, e, G', a, b, c, by omega⟩, fun x H' hy => ?_⟩
      obtain ⟨G3, g3, s3, r3⟩ := Y.yl G2 H2 i x H' _ s2.g k2.ok.gh (List.getElem?_eq_getElem hi) hy
      have k3 := k2.grow g3 s3
      have st3 := s2.trans (g3.step k2.ok.fh)
      exact ⟨F, G3, e2, _, _, k3, r3, it i _ e2 (List.getElem?_eq_getElem hi) ie, fun e4 σ4 G4 H4 hb4 k4 s4 _ => ⟨F, G4, e4, _, k4, hb4,
        fun e5 σ5 G5 H5 z k5 s5 => ⟨e5, G5, k5, (st3.trans s4).trans s5, z⟩, fun d v G5 H5 z k5 s5 => q2 d v G5 H5 z k5 (((s1.trans st3).trans s4).trans s5),
        fun e5 σ5 G5 H5 z k5 s5 => q1 e5 σ5 G5 H5 z k5 (((s1.trans st3).trans s4).trans s5), fun e5 σ5 G5 H5 z k5 s5 => ⟨e5, G5, k5, (st3.trans s4).trans s5, z⟩⟩⟩
    · have hil : i = items.length := by omega
      subst hil
      exact .inl ⟨Y.sp G2 H2 _ s2.g k2.ok.gh (Nat.le_refl _), q1 e2 σ2 G2 H2 (id e2 ie) k2 (s1.trans s2)⟩⟩
def fWhile (ft : FT) (fb : FS) : FS := fun en Ψ => ∃ I : Nat → En → Prop, (∃ m, I m en) ∧ ∀ m e, I m e → ft e fun b e1 => if b = true then
  fb e1 { nx := fun e2 => ∃ m', m' < m ∧ I m' e2, ct := fun e2 => ∃ m', m' < m ∧ I m' e2, bk := Ψ.nx, rt := Ψ.rt } else Ψ.nx e1
theorem ds_while {body : List Stmt} {fb : FS} (hp : PassesOwn (model X.prog X.w) X.A X.env X.xe) (hc : DT X A c ft) (hb : DSs X A body fb) : DS X A (.While c body [] pos) (fWhile ft fb) := ps_weak (ps_while hp hc hb) fun Dd σ H ⟨F, G, en, Ψ, k, h, q1, q2, q3, q4⟩ => by
  obtain ⟨I, ⟨m0, i0⟩, it⟩ := h
  refine ⟨fun m σ' H' => ∃ e G', EnvOk X.K A F G' H' σ' e ∧ Step F G G' ∧ I m e, ⟨m0, en, G, k, Step.refl _ _, i0⟩, fun m σ1 H1 w => ?_⟩
  obtain ⟨e1, G1, k1, s1, ie⟩ := w
  refine ⟨F, G1, e1, _, k1, it m e1 ie, fun b e2 G2 H2 hb2 k2 s2 => ?_⟩
  cases b with
  | true =>
    refine (show (if true = true then _ else _) from ?_)
    rw [if_pos rfl]
    refine ⟨fun σ' H' => ∃ m', m' < m ∧ ∃ e G', EnvOk X.K A F G' H' σ' e ∧ Step F G G' ∧ I m' e, fun σ' H' ⟨m', hm, w⟩ => ⟨m', hm, w⟩, F, G2, e2, _, k2, hb2, fun e5 σ5 G5 H5 z k5 s5 => ?_, fun d v G5 H5 z k5 s5 => q2 d v G5 H5 z k5 ((s1.trans s2).trans s5), fun e5 σ5 G5 H5 z k5 s5 => q1 e5 σ5 G5 H5 z k5 ((s1.trans s2).trans s5), fun e5 σ5 G5 H5 z k5 s5 => ?_⟩
    · obtain ⟨m', hm, z⟩ := z
      exact ⟨m', hm, e5, G5, k5, (s1.trans s2).trans s5, z⟩
    · obtain ⟨m', hm, z⟩ := z
      exact ⟨m', hm, e5, G5, k5, (s1.trans s2).trans s5, z⟩
  | false =>
    rw [if_neg Bool.false_ne_true]
    exact q1 e2 σ1 G2 H2 hb2 k2 (s1.trans s2)
end
end Dz

/-! rules of the machine that the layer lacks: t[::-1], t * 1 -/
namespace Dz
open PySem PySem.Spec PyProof.Rows L2
section
variable {prog : Program} {w : World} {A : Around} {E : Value → Shared → Prop} {s : Shared}
theorem places_rev (n : Nat) : Builtin.Slice.slicePlaces ((n : Int) - 1) (-1) (-1) = n := by
  unfold Builtin.Slice.slicePlaces
  have h1 : ¬ ((-1 : Int) > 0) := by omega
  simp only [h1, if_false, Int.neg_neg, Int.ediv_one]
  split <;> omega
theorem fm_congr {α β : Type} {f g : α → Option β} : ∀ {l : List α}, (∀ x ∈ l, f x = g x) → l.filterMap f = l.filterMap g
  | [], _ => rfl
  | x :: l, h => by
    rw [List.filterMap_cons, List.filterMap_cons, h x List.mem_cons_self, fm_congr fun y hy => h y (List.mem_cons_of_mem _ hy)]
theorem sliceApplied_rev {sl : Addr} {u : Tok} {n : Nat} {Q : Int × Int × Nat → Shared → Prop} (hs : s.heap.IsSliceOf sl .none .none (.int (-1) u))
    (h : Q ((n : Int) - 1, -1, n) s) : wpAny (model prog w) A (Builtin.Slice.sliceApplied (.ref sl) (pure (n : Int))) Q E s := by
  obtain ⟨os, hos, hcs, hds⟩ := id hs
  unfold Builtin.Slice.sliceApplied Builtin.Slice.sliceFields
  refine wpAny_bind (wpAny_bind (wpAny_field hos hds (x := .none) rfl (wpAny_bind (wpAny_field hos hds (x := .none) rfl (wpAny_bind (wpAny_field hos hds (x := .int (-1) u) rfl (wpAny_pure ?_)))))))
  refine wpAny_bind (slicePart_int ?_)
  show wpAny _ _ (if ((-1 : Int) == 0) = true then _ else _) _ _ s
  rw [if_neg (by decide)]
  refine wpAny_bind (slicePart_none (wpAny_bind (slicePart_none (wpAny_bind (wpAny_pure ?_)))))
  show wpAny _ _ (match Builtin.Slice.sliceAdjust none none (-1) (n : Int) with | (lo, hi) => pure (lo, (-1 : Int), Builtin.Slice.slicePlaces lo hi (-1))) _ _ s
  have e : Builtin.Slice.sliceAdjust none none (-1) (n : Int) = ((n : Int) - 1, -1) := by
    unfold Builtin.Slice.sliceAdjust
    simp
  rw [e]
  show wpAny _ _ (pure ((n : Int) - 1, (-1 : Int), Builtin.Slice.slicePlaces ((n : Int) - 1) (-1) (-1))) _ _ s
  rw [places_rev]
  exact wpAny_pure h
theorem pick_rev (xs : Array Value) : ((List.range xs.size).filterMap fun (k : Nat) => xs[((xs.size : Int) - 1 + (k : Int) * (-1)).toNat]?).toArray = xs.toList.reverse.toArray := by
  have e : ((List.range xs.size).filterMap fun (k : Nat) => xs[((xs.size : Int) - 1 + (k : Int) * (-1)).toNat]?) = ((List.range xs.size).map fun k => xs.size - 1 - k).filterMap (xs[·]?) := by
    rw [List.filterMap_map]
    refine fm_congr fun k hk => ?_
    have := List.mem_range.mp hk
    have e2 : ((xs.size : Int) - 1 + (k : Int) * (-1)).toNat = xs.size - 1 - k := by omega
    simp only [e2, Function.comp]
  rw [e, PySem.W.krv_range, List.filterMap_reverse, PySem.W.krv_all]
theorem getItem_tuple_rev {t sl : Addr} {items : Array Value} {u : Tok} {Q : Value → Shared → Prop} (ht : IsTup s.heap t items) (hs : s.heap.IsSliceOf sl .none .none (.int (-1) u))
    (h : Q (.ref s.heap.objs.size) { s with heap := s.heap.push { cls := .type "tuple", data := .seq items.toList.reverse.toArray } })
    (hsz : items.size ≤ sizeLine) : wpAny (model prog w) A (getItem (.ref t) (.ref sl)) Q E s := by
  have htake : sizeOk (.seq items.toList.reverse.toArray) := by
    show items.toList.reverse.toArray.size ≤ sizeLine
    rw [List.size_toArray, List.length_reverse, Array.length_toList]
    exact hsz
  obtain ⟨os, hos, hcs, hds⟩ := id hs
  have hTs : s.TypeIs (.ref sl) "slice" := ⟨os, hos, hcs⟩
  unfold getItem
  try with_reducible refine wpAny_holding ?_
  first | refine wpAny_bind (wpAny_pure ?_) | skip
  refine wpAny_bind (wpAny_sequenceKey ht.typeIs (by decide) ?_)
  refine wpAny_bind (wpAny_callSpecial?_slot (name := Str.ofString "__getitem__") ht.typeIs PyProof.Rows.slot_tuple_getitem
    (wpAny_call_entry PyProof.Rows.slot_tuple_getitem ht.typeIs PyProof.Rows.entry_tuple_getitem ?_ (PyProof.Rows.args_tuple_getitem _ _)))
  show wpAny _ _ (Builtin.Tuple.tupleItemsOf (.ref t) >>= _) _ _ s
  refine wpAny_bind (PyProof.Rows.tupleItemsOf_ ht ?_)
  refine wpAny_bind (wpAny_typeOf hTs ?_)
  rw [if_pos (by decide)]
  refine wpAny_bind (sliceApplied_rev hs ?_)
  show wpAny _ _ (if (((items.size : Int) - 1) == 0 && (-1 : Int) == 1 && items.size == items.size) = true then _ else _) _ _ s
  have hno : ¬ ((((items.size : Int) - 1) == 0 && (-1 : Int) == 1 && items.size == items.size) = true) := by
    intro q
    rw [Bool.and_eq_true, Bool.and_eq_true] at q
    exact absurd q.1.2 (by decide)
  rw [if_neg hno, pick_rev]
  first
    | exact wpAny_bind (m := Builtin.Tuple.tupleExact _) (wpAny_newObj_type (wpAny_pure ⟨_, rfl, wpAny_pure h⟩) htake)
    | exact wpAny_bind (m := Builtin.Tuple.tupleExact _) (wpAny_newObj_type (wpAny_bind (wpAny_pure (wpAny_pure ⟨_, rfl, wpAny_pure h⟩))) htake)
    | exact wpAny_bind (wpAny_bind (m := Builtin.Tuple.tupleExact _) (wpAny_newObj_type (wpAny_pure (wpAny_pure ⟨_, rfl, wpAny_pure h⟩)) htake))
    | exact wpAny_bind (wpAny_bind (m := Builtin.Tuple.tupleExact _) (wpAny_newObj_type (wpAny_pure ⟨_, rfl, wpAny_pure h⟩) htake))
end
def tRevT (K : PySem.W.Frag) (te : TE) : TE := fun σ H Q => te σ H fun x H1 => ∃ a xs, x = .ref a ∧ SqT K H1 a xs ∧ ∀ p, H1 p = none → Q (.ref p) (upd H1 p (.tup xs.reverse))
theorem pe_revT {X : Cx} {e : Expr} {te : TE} {k : Nat} {p1 p2 p3 pos : Pos} (he : PE X e te) : PE X (.Subscript e (.Slice none none (some (.UnaryOp .USub (.Constant (.int 1) k p1) p2)) p3) pos) (tRevT X.K te) := by
  refine ⟨fun pins s σ H Q I h => ?_⟩
  refine Subscript_ (thn (he.run pins s σ H _ I h) fun v s1 ⟨x, H1, I1, r1, q1⟩ => ?_)
  obtain ⟨a, xs, ex, hx, q⟩ := q1
  subst ex
  cases r1
  have hst : PO X (some (.UnaryOp .USub (.Constant (.int 1) k p1) p2)) (tPart (tUn (rU fun i => .int (-i)) (tC (.int 1)))) := po_some (pe_un un_neg pe_int)
  refine wpAny_Slice (thn (po_none.run pins s1 σ H1 (fun o H2 => o = none ∧ H2 = H1) I1 ⟨rfl, rfl⟩) fun vl s2 ⟨l, H2, I2, pl, el, e2⟩ => ?_)
  subst el e2
  refine thn (po_none.run pins s2 σ H2 (fun o H3 => o = none ∧ H3 = H2) I2 ⟨rfl, rfl⟩) fun vu s3 ⟨u, H3, I3, pu, eu, e3⟩ => ?_
  subst eu e3
  refine thn (hst.run pins s3 σ H3 (fun o H4 => o = some (-1) ∧ H4 = H3) I3 ⟨1, rfl, -1, rfl, rfl, rfl⟩) fun vs s4 ⟨o, H4, I4, ps, eo, e4⟩ => ?_
  subst eo e4
  have I5 : Inv X pins σ H4 { s4 with heap := s4.heap.push { cls := .type "slice", data := .fields #[vl, vu, vs] } } := I4.kept (t' := s4.toks) fun b ob q => Heap.get?_push_of_some _ q
  obtain ⟨its, r, ht, hz⟩ := I5.tuple hx
  have hlen := r.length
  cases pl
  cases pu
  cases ps with
  | int i t =>
    show wpAny (model X.prog X.w) X.A (subscriptTail e (.Slice none none (some (.UnaryOp .USub (.Constant (.int 1) k p1) p2)) p3) (.ref a) (.ref s4.heap.objs.size)) (EP X pins σ Q) X.xe { s4 with heap := s4.heap.push { cls := .type "slice", data := .fields #[.none, .none, .int (-1) t] } }
    refine tail_any (ops := [.ref a, .ref s4.heap.objs.size]) ht.typeIs (PyProof.Rows.slot_tuple_getitem.lookup) ?_ (by with_unfolding_all rfl)
    refine getItem_tuple_rev ht (Heap.IsSliceOf.new _ .none .none (.int (-1) t)) ?_ (by rw [List.size_toArray]; omega)
    refine ⟨.ref _, _, I5.laid (t' := s4.toks) (o := .tup xs.reverse) (fun b ob q => Heap.get?_push_of_some _ q) (Nat.le_refl _) ?_, rfl, q _ (I5.hok.fresh (Nat.le_refl _))⟩
    refine ⟨by rw [List.length_reverse]; omega, its.reverse, ?_, ?_⟩
    · exact r.reverse
    · exact IsTup.new _ _
/-! t * 1 is t itself -/
theorem tuple_mul1 (l : Addr) (items : Array Value) (n : Nat) (dd : Option Addr) (sl : Array (Option Value)) (u : Tok) :
    Meets (Builtin.«tuple.__mul__» ⟨[.ref l, .int 1 u], []⟩) (fun _ R s => s.heap.get? l = some { cls := .type "tuple", dict := dd, data := .seq items n, slots := sl } ∧ R (.ok (.ret (Value.ref l))) s) :=
  .of_wp fun prog w A R s h => by
    obtain ⟨hp, g, d, tk, os⟩ := s
    obtain ⟨hl, h⟩ := h
    have f1 := AutoSeq1.idx_int
    have c0 : (decide ((1 : Int) < -(2 ^ 63)) || decide ((1 : Int) ≥ 2 ^ 63)) = false := by decide
    have c1 : (items.isEmpty || (1 : Int) == 1) = true := by
      rw [show ((1 : Int) == 1) = true from rfl, Bool.or_true]
    wp_walk using wpAny_loadPart' hl
    repeat (first
      | (refine wpAny_ite_false (decide_eq_false (by rw [c0]; exact Bool.false_ne_true)) ?_; wp_walk using wpAny_loadPart' hl)
      | (refine wpAny_ite_true (decide_eq_true c1) ?_; wp_walk using wpAny_loadPart' hl))
    all_goals exact ⟨_, rfl, h⟩
def rRep1T (K : PySem.W.Frag) : R2 := fun x y H Q => ∃ l xs, x = .ref l ∧ y = .int 1 ∧ SqT K H l xs ∧ Q (.ref l) H
theorem op_rep1T {X : Cx} : OpR X (binaryOp .Mult) (rRep1T X.K) := by
  intro pins s σ H x y v u Q I rx ry h
  obtain ⟨l, xs, rfl, rfl, hT, q⟩ := h
  cases rx
  obtain ⟨t, rfl⟩ := ry
  obtain ⟨its, r, ⟨⟨cls, dd, data, sl⟩, ho, hc, n, hd⟩, hs⟩ := I.tuple hT
  simp only at hc hd
  subst hc hd
  refine wpAny_binaryOp_repeat_ref (T := "tuple") (U := "int") (by decide) ⟨_, ho, rfl⟩ (fun s' => typeIs_int s' 1 t) noFill_tuple_mul PySem.F.fills_int_mul PySem.F.slot_int_rmul repeat_tuple PySem.F.slot_int_index.lookup
    (call_meets PySem.F.slot_int_rmul (typeIs_int s 1 t) PySem.F.entry_int_rmul (PySem.F.args_int_rmul_2 _ _) (int_rmul_tuple 1 t l its.toArray n dd sl)
      ⟨ho, rfl, ⟨_, ho, rfl⟩, call_meets PySem.F.slot_tuple_mul ⟨_, ho, rfl⟩ PySem.F.entry_tuple_mul (PySem.F.args_tuple_mul_2 _ _) (tuple_mul1 l its.toArray n dd sl t) ⟨ho, ?_⟩⟩)
  exact ⟨.ref l, H, I, rfl, q⟩
end Dz

namespace Dz
open PySem PySem.Spec PyProof.Rows L2

/-! ### plain data, and == -/
mutual
def eqD : D → D → Bool
  | .non, .non => true
  | .bl a, .bl b => a == b
  | .bl a, .int j => (if a then 1 else 0) == j
  | .int i, .bl b => i == (if b then 1 else 0)
  | .int i, .int j => i == j
  | .str x, .str y => x == y
  | .lst a, .lst b => eqL a b
  | .lst a, .fro b => eqL a b
  | .fro a, .lst b => eqL a b
  | .fro a, .fro b => eqL a b
  | .tup a, .tup b => eqL a b
  | _, _ => false
def eqL : List D → List D → Bool
  | [], [] => true
  | x :: a, y :: b => eqD x y && eqL a b
  | _, _ => false
end
mutual
def plD : Nat → D → Bool
  | _, .non => true
  | _, .bl _ => true
  | _, .int _ => true
  | _, .str x => PyData.strOk x
  | n, .tup l => match n with
    | 0 => false
    | m + 1 => plL m l
  | n, .lst l => match n with
    | 0 => false
    | m + 1 => plL m l
  | n, .fro l => match n with
    | 0 => false
    | m + 1 => plL m l
  | _, _ => false
def plL : Nat → List D → Bool
  | _, [] => true
  | n, x :: l => plD n x && plL n l
end
mutual
def toPy : D → PyData
  | .non => .none
  | .bl b => .bool b
  | .int i => .int i
  | .str x => .str x
  | .tup l => .tuple (toPyL l)
  | .lst l => .list (toPyL l)
  | .fro l => .list (toPyL l)
  | _ => .none
def toPyL : List D → List PyData
  | [] => []
  | x :: l => toPy x :: toPyL l
end
mutual
theorem rep_dp {K : PySem.W.Frag} {G H : Hp} (gh : Same G H) : ∀ (n : Nat) (d : D) (v : V), plD n d = true → Rep K G d v → Dp K H v (toPy d)
  | _, .non, v, _, h => by rw [rep_non.mp h]; exact .non
  | _, .bl b, v, _, h => by rw [rep_bl.mp h]; exact .bl b
  | _, .int b, v, _, h => by rw [rep_int.mp h]; exact .int b
  | _, .str b, v, _, h => by rw [rep_str.mp h]; exact .str b
  | 0, .tup l, v, h, _ => by unfold plD at h; cases h
  | m + 1, .tup l, v, hp, h => by
    obtain ⟨a, xs, rfl, s, r⟩ := rep_tup.mp h
    unfold plD at hp
    exact .tup (sqt_mono gh s) (rep_dpL gh m l xs hp r)
  | 0, .lst l, v, h, _ => by unfold plD at h; cases h
  | m + 1, .lst l, v, hp, h => by
    obtain ⟨a, xs, rfl, s, r⟩ := rep_lst.mp h
    unfold plD at hp
    exact .lst (.inl (.inl (gh _ _ s))) (rep_dpL gh m l xs hp r)
  | 0, .fro l, v, h, _ => by unfold plD at h; cases h
  | m + 1, .fro l, v, hp, h => by
    obtain ⟨a, xs, rfl, s, r⟩ := rep_fro.mp h
    unfold plD at hp
    exact .lst (gh.seq s) (rep_dpL gh m l xs hp r)
  | _, .dct _ _, _, h, _ => by unfold plD at h; cases h
  | _, .ins _ _ _, _, h, _ => by unfold plD at h; cases h
  | _, .tok _, _, h, _ => by unfold plD at h; cases h
  | _, .ty _, _, h, _ => by unfold plD at h; cases h
theorem rep_dpL {K : PySem.W.Frag} {G H : Hp} (gh : Same G H) : ∀ (n : Nat) (l : List D) (xs : List V), plL n l = true → RepA K G l xs → DpAll K H xs (toPyL l)
  | _, [], xs, _, h => by unfold RepA at h; subst h; exact .nil
  | n, d :: l, xs, hp, h => by
    unfold RepA at h
    obtain ⟨x, r, rfl, h1, h2⟩ := h
    unfold plL at hp
    rw [Bool.and_eq_true] at hp
    exact .cons (rep_dp gh n d x hp.1 h1) (rep_dpL gh n l r hp.2 h2)
end
mutual
theorem pl_lay : ∀ (n : Nat) (d : D), plD n d = true → (toPy d).canLay0 = true ∧ (toPy d).depth ≤ n + 1
  | n, .non, _ => by unfold toPy PyData.canLay0; exact ⟨rfl, by simp only [PyData.depth]; omega⟩
  | n, .bl b, _ => by unfold toPy PyData.canLay0; exact ⟨rfl, by simp only [PyData.depth]; omega⟩
  | n, .int b, _ => by unfold toPy PyData.canLay0; exact ⟨rfl, by simp only [PyData.depth]; omega⟩
  | n, .str b, h => by unfold plD at h; unfold toPy PyData.canLay0; exact ⟨h, by simp only [PyData.depth]; omega⟩
  | 0, .tup l, h => by unfold plD at h; cases h
  | m + 1, .tup l, h => by
    unfold plD at h
    obtain ⟨h1, h2⟩ := pl_layL m l h
    unfold toPy PyData.canLay0
    exact ⟨h1, by simp only [PyData.depth]; omega⟩
  | 0, .lst l, h => by unfold plD at h; cases h
  | m + 1, .lst l, h => by
    unfold plD at h
    obtain ⟨h1, h2⟩ := pl_layL m l h
    unfold toPy PyData.canLay0
    exact ⟨h1, by simp only [PyData.depth]; omega⟩
  | 0, .fro l, h => by unfold plD at h; cases h
  | m + 1, .fro l, h => by
    unfold plD at h
    obtain ⟨h1, h2⟩ := pl_layL m l h
    unfold toPy PyData.canLay0
    exact ⟨h1, by simp only [PyData.depth]; omega⟩
  | _, .dct _ _, h => by unfold plD at h; cases h
  | _, .ins _ _ _, h => by unfold plD at h; cases h
  | _, .tok _, h => by unfold plD at h; cases h
  | _, .ty _, h => by unfold plD at h; cases h
theorem pl_layL : ∀ (n : Nat) (l : List D), plL n l = true → PyData.canLayAll0 (toPyL l) = true ∧ PyData.depthAll (toPyL l) ≤ n + 1
  | n, [], _ => by unfold toPyL PyData.canLayAll0; exact ⟨rfl, by simp only [PyData.depthAll]; omega⟩
  | n, d :: l, h => by
    unfold plL at h
    rw [Bool.and_eq_true] at h
    obtain ⟨h1, h2⟩ := pl_lay n d h.1
    obtain ⟨h3, h4⟩ := pl_layL n l h.2
    unfold toPyL PyData.canLayAll0
    exact ⟨by rw [h1, h3]; rfl, by simp only [PyData.depthAll]; omega⟩
end
theorem pl_tup {n : Nat} {l : List D} (h : plD n (.tup l) = true) : ∃ m, n = m + 1 ∧ plL m l = true := by
  cases n with
  | zero => unfold plD at h; cases h
  | succ m => unfold plD at h; exact ⟨m, rfl, h⟩
theorem pl_lst {n : Nat} {l : List D} (h : plD n (.lst l) = true) : ∃ m, n = m + 1 ∧ plL m l = true := by
  cases n with
  | zero => unfold plD at h; cases h
  | succ m => unfold plD at h; exact ⟨m, rfl, h⟩
theorem pl_fro {n : Nat} {l : List D} (h : plD n (.fro l) = true) : ∃ m, n = m + 1 ∧ plL m l = true := by
  cases n with
  | zero => unfold plD at h; cases h
  | succ m => unfold plD at h; exact ⟨m, rfl, h⟩
mutual
theorem eqv_eqD : ∀ (x : D) (n m : Nat) (y : D), plD n x = true → plD m y = true → PyData.eqv (toPy x) (toPy y) = eqD x y
  | .non, n, m, y, hx, hy => by cases y <;> first | (unfold plD at hy; cases hy; done) | (unfold toPy eqD PyData.eqv; rfl)
  | .bl _, n, m, y, hx, hy => by cases y <;> first | (unfold plD at hy; cases hy; done) | (unfold toPy eqD PyData.eqv; rfl)
  | .int _, n, m, y, hx, hy => by cases y <;> first | (unfold plD at hy; cases hy; done) | (unfold toPy eqD PyData.eqv; rfl)
  | .str _, n, m, y, hx, hy => by cases y <;> first | (unfold plD at hy; cases hy; done) | (unfold toPy eqD PyData.eqv; rfl)
  | .tup a, n, m, y, hx, hy => by
    obtain ⟨n', _, hx'⟩ := pl_tup hx
    cases y with
    | tup b =>
      obtain ⟨m', _, hy'⟩ := pl_tup hy
      unfold toPy eqD PyData.eqv
      exact eqv_eqL a n' m' b hx' hy'
    | _ => first | (unfold plD at hy; cases hy; done) | (unfold toPy eqD PyData.eqv; rfl)
  | .lst a, n, m, y, hx, hy => by
    obtain ⟨n', _, hx'⟩ := pl_lst hx
    cases y with
    | lst b =>
      obtain ⟨m', _, hy'⟩ := pl_lst hy
      unfold toPy eqD PyData.eqv
      exact eqv_eqL a n' m' b hx' hy'
    | fro b =>
      obtain ⟨m', _, hy'⟩ := pl_fro hy
      unfold toPy eqD PyData.eqv
      exact eqv_eqL a n' m' b hx' hy'
    | _ => first | (unfold plD at hy; cases hy; done) | (unfold toPy eqD PyData.eqv; rfl)
  | .fro a, n, m, y, hx, hy => by
    obtain ⟨n', _, hx'⟩ := pl_fro hx
    cases y with
    | lst b =>
      obtain ⟨m', _, hy'⟩ := pl_lst hy
      unfold toPy eqD PyData.eqv
      exact eqv_eqL a n' m' b hx' hy'
    | fro b =>
      obtain ⟨m', _, hy'⟩ := pl_fro hy
      unfold toPy eqD PyData.eqv
      exact eqv_eqL a n' m' b hx' hy'
    | _ => first | (unfold plD at hy; cases hy; done) | (unfold toPy eqD PyData.eqv; rfl)
  | .dct _ _, _, _, _, h, _ => by unfold plD at h; cases h
  | .ins _ _ _, _, _, _, h, _ => by unfold plD at h; cases h
  | .tok _, _, _, _, h, _ => by unfold plD at h; cases h
  | .ty _, _, _, _, h, _ => by unfold plD at h; cases h
theorem eqv_eqL : ∀ (a : List D) (n m : Nat) (b : List D), plL n a = true → plL m b = true → PyData.eqvAll (toPyL a) (toPyL b) = eqL a b
  | [], _, _, [], _, _ => by unfold toPyL eqL PyData.eqvAll; rfl
  | [], _, _, y :: b, _, _ => by unfold toPyL eqL PyData.eqvAll; rfl
  | x :: a, _, _, [], _, _ => by unfold toPyL eqL PyData.eqvAll; rfl
  | x :: a, n, m, y :: b, hx, hy => by
    unfold plL at hx hy
    rw [Bool.and_eq_true] at hx hy
    unfold toPyL eqL PyData.eqvAll
    rw [eqv_eqD x n m y hx.1 hy.1, eqv_eqL a n m b hx.2 hy.2]
end
theorem shaped_pl {n : Nat} {d : D} (hn : n ≤ 63) (h : plD n d = true) : SeqAt.shaped (toPy d) = true := by
  obtain ⟨h1, h2⟩ := pl_lay n d h
  unfold SeqAt.shaped
  rw [h1, Bool.true_and]
  exact decide_eq_true (by omega)
/-! equal data are equal -/
mutual
def noBl : D → Bool
  | .bl _ => false
  | .tup l => noBlL l
  | .lst l => noBlL l
  | .int _ => true
  | .str _ => true
  | .non => true
  | _ => false
def noBlL : List D → Bool
  | [] => true
  | x :: l => noBl x && noBlL l
end
mutual
theorem eqD_eq : ∀ (x y : D), noBl x = true → noBl y = true → (eqD x y = true ↔ x = y)
  | .non, y, _, hy => by cases y <;> first | (unfold noBl at hy; cases hy; done) | (unfold eqD; simp)
  | .bl _, y, hx, hy => by unfold noBl at hx; cases hx
  | .int _, y, _, hy => by cases y <;> first | (unfold noBl at hy; cases hy; done) | (unfold eqD; simp)
  | .str _, y, _, hy => by cases y <;> first | (unfold noBl at hy; cases hy; done) | (unfold eqD; simp)
  | .tup a, y, hx, hy => by
    unfold noBl at hx
    cases y with
    | tup b =>
      unfold noBl at hy
      unfold eqD
      rw [eqL_eq a b hx hy]
      simp
    | _ => first | (unfold noBl at hy; cases hy; done) | (unfold eqD; simp)
  | .lst a, y, hx, hy => by
    unfold noBl at hx
    cases y with
    | lst b =>
      unfold noBl at hy
      unfold eqD
      rw [eqL_eq a b hx hy]
      simp
    | _ => first | (unfold noBl at hy; cases hy; done) | (unfold eqD; simp)
  | .fro _, _, h, _ => by unfold noBl at h; cases h
  | .dct _ _, _, h, _ => by unfold noBl at h; cases h
  | .ins _ _ _, _, h, _ => by unfold noBl at h; cases h
  | .tok _, _, h, _ => by unfold noBl at h; cases h
  | .ty _, _, h, _ => by unfold noBl at h; cases h
theorem eqL_eq : ∀ (a b : List D), noBlL a = true → noBlL b = true → (eqL a b = true ↔ a = b)
  | [], [], _, _ => by unfold eqL; simp
  | [], y :: b, _, _ => by unfold eqL; simp
  | x :: a, [], _, _ => by unfold eqL; simp
  | x :: a, y :: b, hx, hy => by
    unfold noBlL at hx hy
    rw [Bool.and_eq_true] at hx hy
    unfold eqL
    rw [Bool.and_eq_true, eqD_eq x y hx.1 hy.1, eqL_eq a b hx.2 hy.2]
    simp
end
/-! ### operations by their data -/
def rEqDD : R2D := fun x y Φ => plD 12 x = true ∧ plD 12 y = true ∧ Φ (.bl (eqD x y))
def rNeDD : R2D := fun x y Φ => plD 12 x = true ∧ plD 12 y = true ∧ Φ (.bl (!eqD x y))
def rAddD : R2D := fun x y Φ => match x, y with
  | .int i, .int j => Φ (.int (i + j))
  | .str a, .str b => a.length + b.length ≤ sizeLine ∧ Φ (.str (a ++ b))
  | .tup a, .tup b => a.length + b.length ≤ 100000 ∧ Φ (.tup (a ++ b))
  | .lst a, .lst b => a.length + b.length ≤ 100000 ∧ Φ (.lst (a ++ b))
  | _, _ => False
def rSubD : R2D := fun x y Φ => match x, y with
  | .int i, .int j => Φ (.int (i - j))
  | _, _ => False
def rMulD : R2D := fun x y Φ => match x, y with
  | .int i, .int j => CMul i j ∧ Φ (.int (i * j))
  | .tup a, .int k => a ≠ [] ∧ 1 ≤ k ∧ k ≤ 1000 ∧ a.length ≤ 1000 ∧ Φ (.tup (List.replicate k.toNat a).flatten)
  | .lst a, .int k => -(2 ^ 63) ≤ k ∧ k < 2 ^ 63 ∧ a.length * k.toNat ≤ 100000 ∧ Φ (.lst (List.replicate k.toNat a).flatten)
  | _, _ => False
def rModD : R2D := fun x y Φ => match x, y with
  | .int i, .int j => 0 < j ∧ Φ (.int (i % j))
  | _, _ => False
def rDivD : R2D := fun x y Φ => match x, y with
  | .int i, .int j => (0 < j ∧ j < 1073741824) ∧ Φ (.int (i / j))
  | _, _ => False
def rPowD : R2D := fun x y Φ => match x, y with
  | .int i, .int j => CPow i j ∧ Φ (.int (i ^ j.toNat))
  | _, _ => False
def rLtD : R2D := fun x y Φ => match x, y with
  | .int i, .int j => Φ (.bl (decide (i < j)))
  | .str i, .str j => Φ (.bl (decide (i.cps.toList < j.cps.toList)))
  | _, _ => False
def rLeD : R2D := fun x y Φ => match x, y with
  | .int i, .int j => Φ (.bl (decide (i ≤ j)))
  | .str i, .str j => Φ (.bl (!decide (j.cps.toList < i.cps.toList)))
  | _, _ => False
def rGtD : R2D := fun x y Φ => match x, y with
  | .int i, .int j => Φ (.bl (decide (j < i)))
  | _, _ => False
def rGeD : R2D := fun x y Φ => match x, y with
  | .int i, .int j => Φ (.bl (decide (j ≤ i)))
  | _, _ => False
/-- is None, is not None -/
def rIsND : R1D := fun x Φ => match x with
  | .non => Φ (.bl true)
  | _ => Φ (.bl false)
def rNegD : R1D := fun x Φ => match x with
  | .int i => Φ (.int (-i))
  | _ => False
theorem repA_flat {K : PySem.W.Frag} {G : Hp} {l : List D} {xs : List V} (r : RepA K G l xs) : ∀ n, RepA K G (List.replicate n l).flatten (List.replicate n xs).flatten
  | 0 => .nil
  | n + 1 => by
    rw [List.replicate_succ, List.replicate_succ, List.flatten_cons, List.flatten_cons]
    exact r.app (repA_flat r n)
section
variable {X : Cx}
theorem opd_add : OpR X (binaryOp .Add) (LR2 X.K rAddD) := by
  intro pins s σ H x y v u Q I rx ry ⟨G, dx, dy, Ψ, gh, r1, r2, h, q⟩
  unfold rAddD at h
  split at h
  · rename_i i j
    cases rep_int.mp r1; cases rep_int.mp r2
    exact op_add pins s σ H _ _ v u Q I rx ry ⟨i, j, rfl, rfl, q _ _ G H h (Grow.refl _ _) gh (rep_int.mpr rfl)⟩
  · rename_i i j
    cases rep_str.mp r1; cases rep_str.mp r2
    exact op_add_str pins s σ H _ _ v u Q I rx ry ⟨i, j, rfl, rfl, h.1, q _ _ G H h.2 (Grow.refl _ _) gh (rep_str.mpr rfl)⟩
  · rename_i a b
    obtain ⟨p1, xs, rfl, s1, a1⟩ := rep_tup.mp r1
    obtain ⟨p2, ys, rfl, s2, a2⟩ := rep_tup.mp r2
    refine op_catA pins s σ H _ _ v u Q I rx ry ⟨p1, p2, xs, ys, rfl, rfl, sqt_mono gh s1, sqt_mono gh s2, by rw [a1.len, a2.len]; exact sz_of h.1, fun e => ?_, fun e e2 => ?_, fun e e2 p hp => ?_⟩
    · subst e
      have e2 : a = [] := List.eq_nil_of_length_eq_zero (by have := a1.len; simpa using this.symm)
      subst e2
      exact q _ _ G H h.2 (Grow.refl _ _) gh (by rw [List.nil_append]; exact r2)
    · subst e2
      have e2 : b = [] := List.eq_nil_of_length_eq_zero (by have := a2.len; simpa using this.symm)
      subst e2
      exact q _ _ G H h.2 (Grow.refl _ _) gh (by rw [List.append_nil]; exact r1)
    · have g : Grow G H (upd G p (.tup (xs ++ ys))) (upd H p (.tup (xs ++ ys))) := Grow.new gh hp
      exact q _ _ _ _ h.2 g (same_upd2 gh) (rep_tup.mpr ⟨p, _, rfl, .inl (.inl upd_same), (a1.app a2).mono g.g⟩)
  · rename_i a b
    obtain ⟨p1, xs, rfl, s1, a1⟩ := rep_lst.mp r1
    obtain ⟨p2, ys, rfl, s2, a2⟩ := rep_lst.mp r2
    refine op_cat pins s σ H _ _ v u Q I rx ry ⟨p1, p2, xs, ys, rfl, rfl, gh _ _ s1, gh _ _ s2, by rw [a1.len, a2.len]; exact sz_of h.1, fun p hp => ?_⟩
    have g : Grow G H (upd G p (.lst (xs ++ ys))) (upd H p (.lst (xs ++ ys))) := Grow.new gh hp
    exact q _ _ _ _ h.2 g (same_upd2 gh) (rep_lst.mpr ⟨p, _, rfl, upd_same, (a1.app a2).mono g.g⟩)
  · exact h.elim
theorem opd_mul : OpR X (binaryOp .Mult) (LR2 X.K rMulD) := by
  intro pins s σ H x y v u Q I rx ry ⟨G, dx, dy, Ψ, gh, r1, r2, h, q⟩
  unfold rMulD at h
  split at h
  · rename_i i j
    cases rep_int.mp r1; cases rep_int.mp r2
    exact op_mul pins s σ H _ _ v u Q I rx ry ⟨i, j, rfl, rfl, h.1, q _ _ G H h.2 (Grow.refl _ _) gh (rep_int.mpr rfl)⟩
  · rename_i a k
    obtain ⟨p1, xs, rfl, s1, a1⟩ := rep_tup.mp r1
    cases rep_int.mp r2
    obtain ⟨hne, k1, k2, hl, h⟩ := h
    have hxs : xs ≠ [] := fun e => by
      subst e
      exact hne (List.eq_nil_of_length_eq_zero (by have := a1.len; simpa using this.symm))
    by_cases hk : k = 1
    · subst hk
      have e : (List.replicate (1 : Int).toNat a).flatten = a := by simp
      rw [e] at h
      exact op_rep1T pins s σ H _ _ v u Q I rx ry ⟨p1, xs, rfl, rfl, sqt_mono gh s1, q _ _ G H h (Grow.refl _ _) gh r1⟩
    · refine op_repT pins s σ H _ _ v u Q I rx ry ⟨p1, k, xs, rfl, rfl, sqt_mono gh s1, hxs, by omega, k2, by rw [a1.len]; exact hl, fun p hp => ?_⟩
      have g : Grow G H (upd G p (.tup (List.replicate k.toNat xs).flatten)) (upd H p (.tup (List.replicate k.toNat xs).flatten)) := Grow.new gh hp
      exact q _ _ _ _ h g (same_upd2 gh) (rep_tup.mpr ⟨p, _, rfl, .inl (.inl upd_same), (repA_flat a1 _).mono g.g⟩)
  · rename_i a k
    obtain ⟨p1, xs, rfl, s1, a1⟩ := rep_lst.mp r1
    cases rep_int.mp r2
    obtain ⟨k1, k2, hl, h⟩ := h
    refine op_rep pins s σ H _ _ v u Q I rx ry ⟨p1, k, xs, rfl, rfl, gh _ _ s1, k1, k2, by rw [a1.len]; exact sz_of hl, fun p hp => ?_⟩
    have g : Grow G H (upd G p (.lst (List.replicate k.toNat xs).flatten)) (upd H p (.lst (List.replicate k.toNat xs).flatten)) := Grow.new gh hp
    exact q _ _ _ _ h g (same_upd2 gh) (rep_lst.mpr ⟨p, _, rfl, upd_same, (repA_flat a1 _).mono g.g⟩)
  · exact h.elim
/-- two ints -/
theorem opd_i2 {f : Value → Value → Sem Value} {C : Int → Int → Prop} {g : Int → Int → D} {w : Int → Int → V} {r : R2D} (ho : OpR X f (rI C w)) (hw : ∀ i j G, Rep X.K G (g i j) (w i j)) (hr : ∀ x y Φ, r x y Φ → ∃ i j, x = .int i ∧ y = .int j ∧ C i j ∧ Φ (g i j)) : OpR X f (LR2 X.K r) := by
  intro pins s σ H x y v u Q I rx ry ⟨G, dx, dy, Ψ, gh, r1, r2, h, q⟩
  obtain ⟨i, j, rfl, rfl, c, h⟩ := hr _ _ _ h
  cases rep_int.mp r1; cases rep_int.mp r2
  exact ho pins s σ H _ _ v u Q I rx ry ⟨i, j, rfl, rfl, c, q _ _ G H h (Grow.refl _ _) gh (hw i j G)⟩
theorem opI0_of {f : Value → Value → Sem Value} {w : Int → Int → V} (ho : OpR X f (rI0 w)) : OpR X f (rI (fun _ _ => True) w) := fun pins s σ H x y v u Q I rx ry ⟨i, j, e1, e2, _, h⟩ => ho pins s σ H x y v u Q I rx ry ⟨i, j, e1, e2, h⟩
theorem opd_sub : OpR X (binaryOp .Sub) (LR2 X.K rSubD) := opd_i2 (g := fun i j => .int (i - j)) (opI0_of op_sub) (fun _ _ _ => rep_int.mpr rfl) fun x y Φ h => by
  unfold rSubD at h
  split at h
  · exact ⟨_, _, rfl, rfl, trivial, h⟩
  · exact h.elim
theorem opd_mod : OpR X (binaryOp .Mod) (LR2 X.K rModD) := opd_i2 (g := fun i j => .int (i % j)) op_mod (fun _ _ _ => rep_int.mpr rfl) fun x y Φ h => by
  unfold rModD at h
  split at h
  · exact ⟨_, _, rfl, rfl, h.1, h.2⟩
  · exact h.elim
theorem opd_div : OpR X (binaryOp .FloorDiv) (LR2 X.K rDivD) := opd_i2 (g := fun i j => .int (i / j)) op_fdiv (fun _ _ _ => rep_int.mpr rfl) fun x y Φ h => by
  unfold rDivD at h
  split at h
  · exact ⟨_, _, rfl, rfl, h.1, h.2⟩
  · exact h.elim
theorem opd_pow : OpR X (binaryOp .Pow) (LR2 X.K rPowD) := opd_i2 (g := fun i j => .int (i ^ j.toNat)) op_pow (fun _ _ _ => rep_int.mpr rfl) fun x y Φ h => by
  unfold rPowD at h
  split at h
  · exact ⟨_, _, rfl, rfl, h.1, h.2⟩
  · exact h.elim
theorem opd_gt : OpR X (compareOp .Gt) (LR2 X.K rGtD) := opd_i2 (g := fun i j => .bl (decide (j < i))) (opI0_of op_gt) (fun _ _ _ => rep_bl.mpr rfl) fun x y Φ h => by
  unfold rGtD at h
  split at h
  · exact ⟨_, _, rfl, rfl, trivial, h⟩
  · exact h.elim
theorem opd_ge : OpR X (compareOp .GtE) (LR2 X.K rGeD) := opd_i2 (g := fun i j => .bl (decide (j ≤ i))) (opI0_of op_ge) (fun _ _ _ => rep_bl.mpr rfl) fun x y Φ h => by
  unfold rGeD at h
  split at h
  · exact ⟨_, _, rfl, rfl, trivial, h⟩
  · exact h.elim
theorem opd_lt : OpR X (compareOp .Lt) (LR2 X.K rLtD) := by
  intro pins s σ H x y v u Q I rx ry ⟨G, dx, dy, Ψ, gh, r1, r2, h, q⟩
  unfold rLtD at h
  split at h
  · rename_i i j
    cases rep_int.mp r1; cases rep_int.mp r2
    exact op_lt pins s σ H _ _ v u Q I rx ry ⟨i, j, rfl, rfl, q _ _ G H h (Grow.refl _ _) gh (rep_bl.mpr rfl)⟩
  · rename_i i j
    cases rep_str.mp r1; cases rep_str.mp r2
    exact op_lt_str pins s σ H _ _ v u Q I rx ry ⟨i, j, rfl, rfl, q _ _ G H h (Grow.refl _ _) gh (rep_bl.mpr rfl)⟩
  · exact h.elim
theorem opd_le : OpR X (compareOp .LtE) (LR2 X.K rLeD) := by
  intro pins s σ H x y v u Q I rx ry ⟨G, dx, dy, Ψ, gh, r1, r2, h, q⟩
  unfold rLeD at h
  split at h
  · rename_i i j
    cases rep_int.mp r1; cases rep_int.mp r2
    exact op_le pins s σ H _ _ v u Q I rx ry ⟨i, j, rfl, rfl, q _ _ G H h (Grow.refl _ _) gh (rep_bl.mpr rfl)⟩
  · rename_i i j
    cases rep_str.mp r1; cases rep_str.mp r2
    exact op_le_str pins s σ H _ _ v u Q I rx ry ⟨i, j, rfl, rfl, q _ _ G H h (Grow.refl _ _) gh (rep_bl.mpr rfl)⟩
  · exact h.elim
theorem opd_eq (hu : X.A.units + 64 < cLine) : OpR X (compareOp .Eq) (LR2 X.K rEqDD) := by
  intro pins s σ H x y v u Q I rx ry ⟨G, dx, dy, Ψ, gh, r1, r2, ⟨p1, p2, h⟩, q⟩
  refine op_eqD hu pins s σ H x y v u Q I rx ry ⟨_, _, rep_dp gh _ _ _ p1 r1, rep_dp gh _ _ _ p2 r2, shaped_pl (by decide) p1, shaped_pl (by decide) p2, ?_⟩
  rw [eqv_eqD _ _ _ _ p1 p2]
  exact q _ _ G H h (Grow.refl _ _) gh (rep_bl.mpr rfl)
theorem opd_ne (hu : X.A.units + 64 < cLine) : OpR X (compareOp .NotEq) (LR2 X.K rNeDD) := by
  intro pins s σ H x y v u Q I rx ry ⟨G, dx, dy, Ψ, gh, r1, r2, ⟨p1, p2, h⟩, q⟩
  refine op_neD hu pins s σ H x y v u Q I rx ry ⟨_, _, rep_dp gh _ _ _ p1 r1, rep_dp gh _ _ _ p2 r2, shaped_pl (by decide) p1, shaped_pl (by decide) p2, ?_⟩
  rw [eqv_eqD _ _ _ _ p1 p2]
  exact q _ _ G H h (Grow.refl _ _) gh (rep_bl.mpr rfl)
end
end Dz

namespace Dz
open PySem PySem.Spec PyProof.Rows L2

/-! ### subscripts -/
def seqD : D → Option (List D)
  | .tup l => some l
  | .lst l => some l
  | .fro l => some l
  | _ => none
/-- what a dict holds at a key -/
def getK : List Key → List D → Key → Option D
  | k' :: ks, d :: l, k => if k' = k then some d else getK ks l k
  | _, _, _ => none
def rIxDD : R2D := fun x y Φ => match x, y with
  | .tup l, .int i => ∃ d, atI l i = some d ∧ Φ d
  | .lst l, .int i => ∃ d, atI l i = some d ∧ Φ d
  | .fro l, .int i => ∃ d, atI l i = some d ∧ Φ d
  | .dct ks l, .str z => ∃ d, getK ks l (Sum.inr z) = some d ∧ Φ d
  | .dct ks l, .int z => ∃ d, getK ks l (Sum.inl z) = some d ∧ Φ d
  | _, _ => False
section
variable {K : PySem.W.Frag} {G H : Hp}
theorem atI_len {α β : Type} {l : List α} {xs : List β} (h : xs.length = l.length) {i : Int} {d : α} (e : atI l i = some d) : ∃ j, ixN xs.length i = some j ∧ l[j]? = some d := by
  unfold atI at e
  rw [h]
  cases q : ixN l.length i with
  | none => rw [q] at e; cases e
  | some j => rw [q] at e; exact ⟨j, rfl, e⟩
theorem RepA.atI {l : List D} {xs : List V} {i : Int} {d : D} (r : RepA K G l xs) (e : atI l i = some d) : ∃ x, L2.atI xs i = some x ∧ Rep K G d x := by
  obtain ⟨j, h1, h2⟩ := atI_len r.len e
  obtain ⟨x, h3, h4⟩ := r.get h2
  exact ⟨x, by unfold L2.atI; rw [h1]; exact h3, h4⟩
theorem repA_val {k : Key} : ∀ {ks : List Key} {l : List D} {xs : List V} {d : D}, RepA K G l xs → getK ks l k = some d → ∃ x, valV (ks.zip xs) k = some x ∧ Rep K G d x
  | [], l, xs, d, _, h => by simp [getK] at h
  | k' :: ks, [], xs, d, r, h => by simp [getK] at h
  | k' :: ks, e :: l, xs, d, r, h => by
    unfold RepA at r
    obtain ⟨x, t, rfl, r1, r2⟩ := r
    unfold getK at h
    unfold valV
    simp only [List.zip_cons_cons, List.find?_cons]
    by_cases hk : k' = k
    · simp only [hk, if_true] at h
      simp only [hk, decide_true, Option.map_some]
      cases h
      exact ⟨x, rfl, r1⟩
    · simp only [if_neg hk] at h
      simp only [hk, decide_false]
      exact repA_val (ks := ks) r2 h
theorem repA_valN {k : Key} : ∀ {ks : List Key} {l : List D} {xs : List V}, RepA K G l xs → ((valV (ks.zip xs) k).isSome = (getK ks l k).isSome)
  | [], l, xs, _ => by simp [valV, getK]
  | k' :: ks, [], xs, r => by unfold RepA at r; subst r; simp [valV, getK]
  | k' :: ks, e :: l, xs, r => by
    unfold RepA at r
    obtain ⟨x, t, rfl, r1, r2⟩ := r
    unfold valV getK
    simp only [List.zip_cons_cons, List.find?_cons]
    by_cases hk : k' = k
    · simp only [hk, decide_true, Option.map_some, Option.isSome_some, if_true]
    · simp only [if_neg hk]
      simp only [hk, decide_false]
      exact repA_valN (ks := ks) r2
end
section
variable {X : Cx}
theorem ix_dK (hu : X.A.units + 1 < cLine) : IxR X (fun x y H Q => ∃ a v, x = .ref a ∧ DGet H a y (some v) ∧ Q v H) := by
  intro value slice pins s σ H x y v u Q I rx ry ⟨a, w, ex, g, q⟩ hs
  subst ex
  obtain rfl : v = Value.ref a := rx
  exact tail_any (dict_typeIs I g) PySem.F.slot_dict_getitem.lookup (d_getItem hu I g ry fun w' s3 I3 rw' => ⟨w, H, I3, rw', q⟩) hs
theorem ixd (hu : X.A.units + 64 < cLine) : IxR X (LR2 X.K rIxDD) := by
  intro value slice pins s σ H x y v u Q I rx ry ⟨G, dx, dy, Ψ, gh, r1, r2, h, q⟩ hs
  unfold rIxDD at h
  split at h
  · obtain ⟨d, e, h⟩ := h
    obtain ⟨p, xs, rfl, s1, a1⟩ := rep_tup.mp r1
    cases rep_int.mp r2
    obtain ⟨z, e1, e2⟩ := a1.atI e
    exact ix_tup value slice pins s σ H _ _ v u Q I rx ry ⟨p, xs, _, z, rfl, rfl, sqt_mono gh s1, e1, q _ _ G H h (Grow.refl _ _) gh e2⟩ hs
  · obtain ⟨d, e, h⟩ := h
    obtain ⟨p, xs, rfl, s1, a1⟩ := rep_lst.mp r1
    cases rep_int.mp r2
    obtain ⟨z, e1, e2⟩ := a1.atI e
    exact ix_list value slice pins s σ H _ _ v u Q I rx ry ⟨p, xs, _, z, rfl, rfl, .inl (.inl (gh _ _ s1)), e1, q _ _ G H h (Grow.refl _ _) gh e2⟩ hs
  · obtain ⟨d, e, h⟩ := h
    obtain ⟨p, xs, rfl, s1, a1⟩ := rep_fro.mp r1
    cases rep_int.mp r2
    obtain ⟨z, e1, e2⟩ := a1.atI e
    exact ix_list value slice pins s σ H _ _ v u Q I rx ry ⟨p, xs, _, z, rfl, rfl, gh.seq s1, e1, q _ _ G H h (Grow.refl _ _) gh e2⟩ hs
  · obtain ⟨d, e, h⟩ := h
    obtain ⟨p, xs, rfl, s1, a1, _⟩ := rep_dct.mp r1
    cases rep_str.mp r2
    obtain ⟨z, e1, e2⟩ := repA_val a1 e
    exact ix_dK (by omega) value slice pins s σ H _ _ v u Q I rx ry ⟨p, z, rfl, .inl ⟨_, Sum.inr _, .inl (gh _ _ s1), rfl, e1.symm⟩, q _ _ G H h (Grow.refl _ _) gh e2⟩ hs
  · obtain ⟨d, e, h⟩ := h
    obtain ⟨p, xs, rfl, s1, a1, _⟩ := rep_dct.mp r1
    cases rep_int.mp r2
    obtain ⟨z, e1, e2⟩ := repA_val a1 e
    exact ix_dK (by omega) value slice pins s σ H _ _ v u Q I rx ry ⟨p, z, rfl, .inl ⟨_, Sum.inl _, .inl (gh _ _ s1), rfl, e1.symm⟩, q _ _ G H h (Grow.refl _ _) gh e2⟩ hs
  · exact h.elim

/-! ### a written dict with text keys -/
structure KTab (K : PySem.W.Frag) (w : World) (a : Addr) (tab : Str → Option (Option D)) : Prop where
  dk : ∃ es n, KDict K w a es n
  non : ∀ z, tab z = some none → PySem.W.nsIn K a z = some none
  som : ∀ z d, tab z = some (some d) → ∃ u v, PySem.W.nsIn K a z = some (some u) ∧ RelV v u ∧ ∀ G, Rep K G d v
def rKix (a : Addr) (tab : Str → Option (Option D)) : R2D := fun x y Φ => match x, y with
  | .tok b, .str z => a = b ∧ ∃ d, tab z = some (some d) ∧ Φ d
  | _, _ => False
def rKin (a : Addr) (tab : Str → Option (Option D)) : R2D := fun x y Φ => match x, y with
  | .str z, .tok b => a = b ∧ ∃ d, tab z = some d ∧ Φ (.bl d.isSome)
  | _, _ => False
theorem ixk {a : Addr} {tab : Str → Option (Option D)} (T : KTab X.K X.w a tab) : IxR X (LR2 X.K (rKix a tab)) := by
  intro value slice pins s σ H x y v u Q I rx ry ⟨G, dx, dy, Ψ, gh, r1, r2, h, q⟩ hs
  unfold rKix at h
  split at h
  · obtain ⟨rfl, d, e, h⟩ := h
    cases rep_tok.mp r1
    cases rep_str.mp r2
    obtain ⟨es, n, kd⟩ := T.dk
    obtain ⟨u0, v0, e1, e2, e3⟩ := T.som _ _ e
    exact ix_kdict value slice pins s σ H _ _ v u Q I rx ry ⟨a, _, v0, rfl, rfl, ⟨es, n, u0, kd.at_, kd.lit, e1, e2⟩, q _ _ G H h (Grow.refl _ _) gh (e3 G)⟩ hs
  · exact h.elim
theorem opd_ink {a : Addr} {tab : Str → Option (Option D)} (T : KTab X.K X.w a tab) : OpR X (compareOp .In) (LR2 X.K (rKin a tab)) := by
  intro pins s σ H x y v u Q I rx ry ⟨G, dx, dy, Ψ, gh, r1, r2, h, q⟩
  unfold rKin at h
  split at h
  · obtain ⟨rfl, d, e, h⟩ := h
    cases rep_str.mp r1
    cases rep_tok.mp r2
    obtain ⟨es, n, kd⟩ := T.dk
    cases d with
    | none => exact op_in_kd kd pins s σ H _ _ v u Q I rx ry ⟨_, none, rfl, rfl, T.non _ e, q _ _ G H h (Grow.refl _ _) gh (rep_bl.mpr rfl)⟩
    | some d =>
      obtain ⟨u0, v0, e1, e2, e3⟩ := T.som _ _ e
      exact op_in_kd kd pins s σ H _ _ v u Q I rx ry ⟨_, some u0, rfl, rfl, e1, q _ _ G H h (Grow.refl _ _) gh (rep_bl.mpr rfl)⟩
  · exact h.elim

/-! ### built-ins -/
def rLenD : RAD := fun xs Φ => match xs with
  | [.str z] => z.length ≤ sizeLine ∧ Φ (.int z.length)
  | [.tup l] => Φ (.int l.length)
  | [.lst l] => Φ (.int l.length)
  | [.fro l] => Φ (.int l.length)
  | _ => False
theorem callD_len : CallR X (.builtin "len") (LRA X.K rLenD) := by
  intro pins s σ H xs us Q I r ⟨G, ds, Ψ, gh, r1, h, q⟩
  unfold rLenD at h
  split at h
  · unfold RepA at r1
    obtain ⟨x, t, rfl, p1, r1⟩ := r1
    unfold RepA at r1
    subst r1
    cases rep_str.mp p1
    exact call_len_str pins s σ H _ us Q I r ⟨_, rfl, h.1, q _ _ G H h.2 (Grow.refl _ _) gh (rep_int.mpr rfl)⟩
  · unfold RepA at r1
    obtain ⟨x, t, rfl, p1, r1⟩ := r1
    unfold RepA at r1
    subst r1
    obtain ⟨p, xs, rfl, s1, a1⟩ := rep_tup.mp p1
    exact call_len_seq pins s σ H _ us Q I r ⟨p, xs, rfl, .inr (sqt_mono gh s1), by rw [a1.len]; exact q _ _ G H h (Grow.refl _ _) gh (rep_int.mpr rfl)⟩
  · unfold RepA at r1
    obtain ⟨x, t, rfl, p1, r1⟩ := r1
    unfold RepA at r1
    subst r1
    obtain ⟨p, xs, rfl, s1, a1⟩ := rep_lst.mp p1
    exact call_len_seq pins s σ H _ us Q I r ⟨p, xs, rfl, .inl (.inl (.inl (gh _ _ s1))), by rw [a1.len]; exact q _ _ G H h (Grow.refl _ _) gh (rep_int.mpr rfl)⟩
  · unfold RepA at r1
    obtain ⟨x, t, rfl, p1, r1⟩ := r1
    unfold RepA at r1
    subst r1
    obtain ⟨p, xs, rfl, s1, a1⟩ := rep_fro.mp p1
    exact call_len_seq pins s σ H _ us Q I r ⟨p, xs, rfl, .inl (gh.seq s1), by rw [a1.len]; exact q _ _ G H h (Grow.refl _ _) gh (rep_int.mpr rfl)⟩
  · exact h.elim
def rAbsD : RAD := fun xs Φ => match xs with
  | [.int i] => Φ (.int (if i < 0 then -i else i))
  | _ => False
theorem callD_abs : CallR X (.builtin "abs") (LRA X.K rAbsD) := by
  intro pins s σ H xs us Q I r ⟨G, ds, Ψ, gh, r1, h, q⟩
  unfold rAbsD at h
  split at h
  · unfold RepA at r1
    obtain ⟨x, t, rfl, p1, r1⟩ := r1
    unfold RepA at r1
    subst r1
    cases rep_int.mp p1
    exact call_abs pins s σ H _ us Q I r ⟨_, rfl, q _ _ G H h (Grow.refl _ _) gh (rep_int.mpr rfl)⟩
  · exact h.elim
def rIntD : RAD := fun xs Φ => match xs with
  | [.int i] => Φ (.int i)
  | [.bl k] => Φ (.int (if k then 1 else 0))
  | [.str a] => ∃ n, PySem.intText? a = some n ∧ a.length ≤ 640 ∧ Φ (.int n)
  | _ => False
theorem callD_int : CallR X (.type "int") (LRA X.K rIntD) := by
  intro pins s σ H xs us Q I r ⟨G, ds, Ψ, gh, r1, h, q⟩
  unfold rIntD at h
  split at h
  · unfold RepA at r1
    obtain ⟨x, t, rfl, p1, r1⟩ := r1
    unfold RepA at r1
    subst r1
    cases rep_int.mp p1
    exact call_int1 pins s σ H _ us Q I r (.inl ⟨_, rfl, q _ _ G H h (Grow.refl _ _) gh (rep_int.mpr rfl)⟩)
  · unfold RepA at r1
    obtain ⟨x, t, rfl, p1, r1⟩ := r1
    unfold RepA at r1
    subst r1
    cases rep_bl.mp p1
    exact call_int1 pins s σ H _ us Q I r (.inr ⟨_, rfl, q _ _ G H h (Grow.refl _ _) gh (rep_int.mpr rfl)⟩)
  · unfold RepA at r1
    obtain ⟨x, t, rfl, p1, r1⟩ := r1
    unfold RepA at r1
    subst r1
    cases rep_str.mp p1
    obtain ⟨n, e1, e2, h⟩ := h
    exact call_int_str pins s σ H _ us Q I r ⟨_, n, rfl, e1, e2, q _ _ G H h (Grow.refl _ _) gh (rep_int.mpr rfl)⟩
  · exact h.elim
/-- all(list of truth values), any(..) -/
def rAllD : RAD := fun xs Φ => ∃ bs : List Bool, xs = [.lst (bs.map D.bl)] ∧ Φ (.bl (bs.all id))
def rAnyD : RAD := fun xs Φ => ∃ bs : List Bool, xs = [.lst (bs.map D.bl)] ∧ Φ (.bl (bs.any id))
def rSumD : RAD := fun xs Φ => ∃ ns : List Int, xs = [.lst (ns.map D.int)] ∧ Φ (.int ns.sum)
theorem callD_all (hc : X.calm = true) : CallR X (.builtin "all") (LRA X.K rAllD) := by
  intro pins s σ H xs us Q I r ⟨G, ds, Ψ, gh, r1, ⟨bs, e, h⟩, q⟩
  subst e
  unfold RepA at r1
  obtain ⟨x, t, rfl, p1, r1⟩ := r1
  unfold RepA at r1
  subst r1
  obtain ⟨p, xs, rfl, s1, a1⟩ := rep_lst.mp p1
  have e := repA_bls_inv a1
  subst e
  exact cr_all hc pins s σ H _ us Q I r ⟨p, bs, rfl, .inl (.inl (gh _ _ s1)), q _ _ G H h (Grow.refl _ _) gh (rep_bl.mpr rfl)⟩
theorem callD_any (hc : X.calm = true) : CallR X (.builtin "any") (LRA X.K rAnyD) := by
  intro pins s σ H xs us Q I r ⟨G, ds, Ψ, gh, r1, ⟨bs, e, h⟩, q⟩
  subst e
  unfold RepA at r1
  obtain ⟨x, t, rfl, p1, r1⟩ := r1
  unfold RepA at r1
  subst r1
  obtain ⟨p, xs, rfl, s1, a1⟩ := rep_lst.mp p1
  have e := repA_bls_inv a1
  subst e
  exact cr_any hc pins s σ H _ us Q I r ⟨p, bs, rfl, .inl (.inl (gh _ _ s1)), q _ _ G H h (Grow.refl _ _) gh (rep_bl.mpr rfl)⟩
theorem callD_sum (hc : X.calm = true) : CallR X (.builtin "sum") (LRA X.K rSumD) := by
  intro pins s σ H xs us Q I r ⟨G, ds, Ψ, gh, r1, ⟨bs, e, h⟩, q⟩
  subst e
  unfold RepA at r1
  obtain ⟨x, t, rfl, p1, r1⟩ := r1
  unfold RepA at r1
  subst r1
  obtain ⟨p, xs, rfl, s1, a1⟩ := rep_lst.mp p1
  have e := repA_ints_inv a1
  subst e
  exact cr_sum hc pins s σ H _ us Q I r ⟨p, bs, rfl, .inl (.inl (gh _ _ s1)), q _ _ G H h (Grow.refl _ _) gh (rep_int.mpr rfl)⟩
/-- sorted(list of texts) -/
def rSortedSD : RAD := fun xs Φ => ∃ zs : List Str, xs = [.lst (zs.map D.str)] ∧ zs.length < 64 ∧ ∀ ys : List Str, ys.Perm zs → sortedS ys = true → Φ (.lst (ys.map D.str))
theorem callD_sortedS : CallR X (.builtin "sorted") (LRA X.K rSortedSD) := by
  intro pins s σ H xs us Q I r ⟨G, ds, Ψ, gh, r1, ⟨zs, e, h64, h⟩, q⟩
  subst e
  unfold RepA at r1
  obtain ⟨x, t, rfl, p1, r1⟩ := r1
  unfold RepA at r1
  subst r1
  obtain ⟨p, xs, rfl, s1, a1⟩ := rep_lst.mp p1
  have e := repA_strs_inv a1
  subst e
  refine cr_sortedS pins s σ H _ us Q I r ⟨p, zs, rfl, .inl (.inl (gh _ _ s1)), h64, fun ys l hp hs hl => ?_⟩
  have g : Grow G H (upd G l (.lst (ys.map V.str))) (upd H l (.lst (ys.map V.str))) := Grow.new gh hl
  exact q _ _ _ _ (h ys hp hs) g (same_upd2 gh) (rep_lst.mpr ⟨l, _, rfl, upd_same, repA_strs ys⟩)
/-- list(..) of a list, a tuple, a dict; tuple(..) -/
def kD : Key → D
  | .inl i => .int i
  | .inr x => .str x
def rListDD : RAD := fun xs Φ => match xs with
  | [.lst l] => Φ (.lst l)
  | [.fro l] => Φ (.lst l)
  | [.tup l] => Φ (.lst l)
  | [.dct ks l] => Φ (.lst (ks.map kD))
  | _ => False
theorem repA_keys {K : PySem.W.Frag} {G : Hp} : ∀ ks : List Key, RepA K G (ks.map kD) (ks.map kV)
  | [] => .nil
  | .inl i :: r => .cons (rep_int.mpr rfl) (repA_keys r)
  | .inr i :: r => .cons (rep_str.mpr rfl) (repA_keys r)
theorem callD_list (hc : X.calm = true) : CallR X (.type "list") (LRA X.K rListDD) := by
  intro pins s σ H xs us Q I r ⟨G, ds, Ψ, gh, r1, h, q⟩
  unfold rListDD at h
  split at h
  · unfold RepA at r1
    obtain ⟨x, t, rfl, p1, r1⟩ := r1
    unfold RepA at r1
    subst r1
    obtain ⟨p, xs, rfl, s1, a1⟩ := rep_lst.mp p1
    refine call_list_of pins s σ H _ us Q I r ⟨p, xs, rfl, .inl (.inl (.inl (gh _ _ s1))), fun l hl => ?_⟩
    have g : Grow G H (upd G l (.lst xs)) (upd H l (.lst xs)) := Grow.new gh hl
    exact q _ _ _ _ h g (same_upd2 gh) (rep_lst.mpr ⟨l, _, rfl, upd_same, a1.mono g.g⟩)
  · unfold RepA at r1
    obtain ⟨x, t, rfl, p1, r1⟩ := r1
    unfold RepA at r1
    subst r1
    obtain ⟨p, xs, rfl, s1, a1⟩ := rep_fro.mp p1
    refine call_list_of pins s σ H _ us Q I r ⟨p, xs, rfl, .inl (gh.seq s1), fun l hl => ?_⟩
    have g : Grow G H (upd G l (.lst xs)) (upd H l (.lst xs)) := Grow.new gh hl
    exact q _ _ _ _ h g (same_upd2 gh) (rep_lst.mpr ⟨l, _, rfl, upd_same, a1.mono g.g⟩)
  · unfold RepA at r1
    obtain ⟨x, t, rfl, p1, r1⟩ := r1
    unfold RepA at r1
    subst r1
    obtain ⟨p, xs, rfl, s1, a1⟩ := rep_tup.mp p1
    refine call_list_of pins s σ H _ us Q I r ⟨p, xs, rfl, .inr (sqt_mono gh s1), fun l hl => ?_⟩
    have g : Grow G H (upd G l (.lst xs)) (upd H l (.lst xs)) := Grow.new gh hl
    exact q _ _ _ _ h g (same_upd2 gh) (rep_lst.mpr ⟨l, _, rfl, upd_same, a1.mono g.g⟩)
  · unfold RepA at r1
    obtain ⟨x, t, rfl, p1, r1⟩ := r1
    unfold RepA at r1
    subst r1
    rename_i ks l
    obtain ⟨p, xs, rfl, s1, a1, hl2⟩ := rep_dct.mp p1
    have ek : (ks.zip xs).map (·.1) = ks := by
      rw [List.map_fst_zip]
      rw [a1.len, hl2]; exact Nat.le_refl _
    refine call_list_dK hc pins s σ H _ us Q I r ⟨p, ks.zip xs, rfl, gh _ _ s1, fun l hl => ?_⟩
    have e2 : (ks.zip xs).map (fun kv => kV kv.1) = ks.map kV := by
      rw [show (fun kv : Key × V => kV kv.1) = kV ∘ (·.1) from rfl, ← List.map_map, ek]
    rw [e2]
    have g : Grow G H (upd G l (.lst (ks.map kV))) (upd H l (.lst (ks.map kV))) := Grow.new gh hl
    exact q _ _ _ _ h g (same_upd2 gh) (rep_lst.mpr ⟨l, _, rfl, upd_same, repA_keys ks⟩)
  · exact h.elim
def rTupleD : RAD := fun xs Φ => match xs with
  | [.lst l] => Φ (.tup l)
  | [.fro l] => Φ (.tup l)
  | [.tup l] => Φ (.tup l)
  | _ => False
theorem callD_tuple : CallR X (.type "tuple") (LRA X.K rTupleD) := by
  intro pins s σ H xs us Q I r ⟨G, ds, Ψ, gh, r1, h, q⟩
  unfold rTupleD at h
  split at h
  · unfold RepA at r1
    obtain ⟨x, t, rfl, p1, r1⟩ := r1
    unfold RepA at r1
    subst r1
    obtain ⟨p, xs, rfl, s1, a1⟩ := rep_lst.mp p1
    refine call_tuple_of pins s σ H _ us Q I r ⟨p, xs, rfl, .inl ⟨.inl (.inl (gh _ _ s1)), fun l hl => ?_⟩⟩
    have g : Grow G H (upd G l (.tup xs)) (upd H l (.tup xs)) := Grow.new gh hl
    exact q _ _ _ _ h g (same_upd2 gh) (rep_tup.mpr ⟨l, _, rfl, .inl (.inl upd_same), a1.mono g.g⟩)
  · unfold RepA at r1
    obtain ⟨x, t, rfl, p1, r1⟩ := r1
    unfold RepA at r1
    subst r1
    obtain ⟨p, xs, rfl, s1, a1⟩ := rep_fro.mp p1
    refine call_tuple_of pins s σ H _ us Q I r ⟨p, xs, rfl, .inl ⟨gh.seq s1, fun l hl => ?_⟩⟩
    have g : Grow G H (upd G l (.tup xs)) (upd H l (.tup xs)) := Grow.new gh hl
    exact q _ _ _ _ h g (same_upd2 gh) (rep_tup.mpr ⟨l, _, rfl, .inl (.inl upd_same), a1.mono g.g⟩)
  · unfold RepA at r1
    obtain ⟨x, t, rfl, p1, r1⟩ := r1
    unfold RepA at r1
    subst r1
    obtain ⟨p, xs, rfl, s1, a1⟩ := rep_tup.mp p1
    exact call_tuple_of pins s σ H _ us Q I r ⟨p, xs, rfl, .inr ⟨sqt_mono gh s1, q _ _ G H h (Grow.refl _ _) gh p1⟩⟩
  · exact h.elim
/-- isinstance with one built-in class -/
def tyN : D → Option String
  | .non => some "NoneType"
  | .bl _ => some "bool"
  | .int _ => some "int"
  | .str _ => some "str"
  | .tup _ => some "tuple"
  | .lst _ => some "list"
  | .dct _ _ => some "dict"
  | _ => none
def isT (t T : String) : Bool := t == T || (t == "bool" && T == "int")
theorem kit_all : ∀ t ∈ ["NoneType", "bool", "int", "str", "tuple", "list", "dict"], ∀ T ∈ ["str", "tuple", "int", "bool", "list", "dict"], kitB t T = some (isT t T) := by decide +kernel
def rIsiD : RAD := fun xs Φ => match xs with
  | [x, .ty T] => T ∈ ["str", "tuple", "int", "bool", "list", "dict"] ∧ ∃ t, tyN x = some t ∧ Φ (.bl (isT t T))
  | _ => False
theorem tyN_mem : ∀ {x : D} {t : String}, tyN x = some t → t ∈ ["NoneType", "bool", "int", "str", "tuple", "list", "dict"]
  | .non, _, h => by cases h; decide
  | .bl _, _, h => by cases h; decide
  | .int _, _, h => by cases h; decide
  | .str _, _, h => by cases h; decide
  | .tup _, _, h => by cases h; decide
  | .lst _, _, h => by cases h; decide
  | .dct _ _, _, h => by cases h; decide
  | .fro _, _, h => by cases h
  | .ins _ _ _, _, h => by cases h
  | .tok _, _, h => by cases h
  | .ty _, _, h => by cases h
  | .rng _ _, _, h => by cases h
  | .obj _ _, _, h => by cases h
theorem tyN_ty {K : PySem.W.Frag} {G H : Hp} (gh : Same G H) : ∀ {x : D} {t : String} {v : V}, tyN x = some t → Rep K G x v → TyX K H v (.type t)
  | .non, _, _, h, r => by cases h; rw [rep_non.mp r]; exact .base .non
  | .bl _, _, _, h, r => by cases h; rw [rep_bl.mp r]; exact .base (.bl _)
  | .int _, _, _, h, r => by cases h; rw [rep_int.mp r]; exact .base (.int _)
  | .str _, _, _, h, r => by cases h; rw [rep_str.mp r]; exact .base (.str _)
  | .tup _, _, _, h, r => by
    cases h
    obtain ⟨p, xs, rfl, s1, a1⟩ := rep_tup.mp r
    rcases sqt_mono gh s1 with (h | ⟨o, h⟩) | ⟨o, its, n, h1, h2, _⟩
    · exact .base (.tup h)
    · exact .fTuple h
    · exact .kTuple h1 h2
  | .lst _, _, _, h, r => by
    cases h
    obtain ⟨p, xs, rfl, s1, a1⟩ := rep_lst.mp r
    exact .base (.lst (gh _ _ s1))
  | .dct _ _, _, _, h, r => by
    cases h
    obtain ⟨p, xs, rfl, s1, a1, _⟩ := rep_dct.mp r
    exact .base (.dK (gh _ _ s1))
  | .fro _, _, _, h, _ => by cases h
  | .ins _ _ _, _, _, h, _ => by cases h
  | .tok _, _, _, h, _ => by cases h
  | .ty _, _, _, h, _ => by cases h
  | .rng _ _, _, _, h, _ => by cases h
  | .obj _ _, _, _, h, _ => by cases h
theorem callD_isi : CallR X (.builtin "isinstance") (LRA X.K rIsiD) := by
  intro pins s σ H xs us Q I r ⟨G, ds, Ψ, gh, r1, h, q⟩
  unfold rIsiD at h
  split at h
  · obtain ⟨hT, t, ht, h⟩ := h
    unfold RepA at r1
    obtain ⟨x, tl, rfl, p1, r1⟩ := r1
    unfold RepA at r1
    obtain ⟨y, tl, rfl, p2, r1⟩ := r1
    unfold RepA at r1
    subst r1
    cases rep_ty.mp p2
    exact call_isi pins s σ H _ us Q I r ⟨x, .ty _, .type t, .type _, isT t _, rfl, .ty _, tyN_ty gh ht p1, kit_ty (kit_all _ (tyN_mem ht) _ hT), q _ _ G H h (Grow.refl _ _) gh (rep_bl.mpr rfl)⟩
  · exact h.elim
end
end Dz

namespace Dz
open PySem PySem.Spec PyProof.Rows L2

/-! ### what is walked -/
section
variable {X : Cx} {A : Am} {tg e : Expr} {es : List Expr} {fa : FE} {fr : FA}
def iSeq (K : PySem.W.Frag) (tl : TE) : TI := fun σ H R => tl σ H fun x H1 => ∃ a, x = .ref a ∧ (((∃ xs, SqL K H1 a xs) ∧ R (Itl K a) H1) ∨ ((∃ xs, SqT K H1 a xs) ∧ R (Itt K a) H1))
theorem pi_seq {l : Expr} {tl : TE} (hl : PE X l tl) : PI X tg l (iSeq X.K tl) := by
  refine ⟨fun pins s σ H R I h => ?_⟩
  refine thn (hl.run pins s σ H _ I h) fun v s1 ⟨x, H1, I1, r1, q1⟩ => ?_
  obtain ⟨a, e, q1⟩ := q1
  subst e
  cases r1
  rcases q1 with ⟨⟨xs, hq⟩, q⟩ | ⟨⟨xs, hq⟩, q⟩
  · obtain ⟨its, rv, p, hz⟩ := I1.list hq
    refine wpAny_pyIter_list p.isList ?_
    refine ⟨s1.heap.objs.size, [s1.heap.objs.size], _, _, H1, rfl, I1.kept (t' := s1.toks) fun b o e => Heap.get?_push_of_some _ e, turn_list a _, ⟨_, Heap.get?_push_size _ rfl, rfl, rfl⟩, fun b hb => ?_, q⟩
    have e : b = s1.heap.objs.size := by simpa using hb
    subst e
    exact I1.fpOk (Nat.le_refl _) (I1.hok.fresh (Nat.le_refl _))
  · obtain ⟨its, rv, p, hz⟩ := I1.tuple hq
    refine wpAny_pyIter_tuple (show s1.heap.IsTuple a its.toArray from p) ?_
    refine ⟨s1.heap.objs.size, [s1.heap.objs.size], _, _, H1, rfl, I1.kept (t' := s1.toks) fun b o e => Heap.get?_push_of_some _ e, turn_tuple a _, ⟨_, Heap.get?_push_size _ rfl, rfl, rfl⟩, fun b hb => ?_, q⟩
    have e : b = s1.heap.objs.size := by simpa using hb
    subst e
    exact I1.fpOk (Nat.le_refl _) (I1.hok.fresh (Nat.le_refl _))
theorem yl_list {K : PySem.W.Frag} {G : Hp} {a : Addr} {xs : List V} {items : List D} (s : SqL K G a xs) (r : RepA K G items xs) : Yl K (Itl K a) G items where
  go := fun G1 H1 k g h hk => ⟨xs, _, h.seq (g.seq s), List.getElem?_eq_getElem (by rw [r.len]; exact hk)⟩
  yl := fun G1 H1 k x H2 d g h hd hy => by
    obtain ⟨rfl, hx⟩ := hy
    have e := hx xs (h.seq (g.seq s))
    obtain ⟨d', e1, e2⟩ := r.get' e
    rw [hd] at e1
    cases e1
    exact ⟨G1, Grow.refl _ _, h, e2.mono g⟩
  sp := fun G1 H1 k g h hk => ⟨xs, h.seq (g.seq s), by rw [r.len]; exact hk⟩
theorem yl_tup {K : PySem.W.Frag} {G : Hp} {a : Addr} {xs : List V} {items : List D} (s : SqT K G a xs) (r : RepA K G items xs) : Yl K (Itt K a) G items where
  go := fun G1 H1 k g h hk => ⟨xs, _, sqt_mono h (sqt_mono g s), List.getElem?_eq_getElem (by rw [r.len]; exact hk)⟩
  yl := fun G1 H1 k x H2 d g h hd hy => by
    obtain ⟨rfl, hx⟩ := hy
    have e := hx xs (sqt_mono h (sqt_mono g s))
    obtain ⟨d', e1, e2⟩ := r.get' e
    rw [hd] at e1
    cases e1
    exact ⟨G1, Grow.refl _ _, h, e2.mono g⟩
  sp := fun G1 H1 k g h hk => ⟨xs, sqt_mono h (sqt_mono g s), by rw [r.len]; exact hk⟩
def fISeq (fa : FE) : FI := fun en Φ => fa en fun d e => ∃ l, seqD d = some l ∧ Φ l e
theorem di_seq (ha : DE X A e fa) : DI X A tg e (fISeq fa) := pi_weak (pi_seq ha) fun σ H R ⟨F, G, en, Ψ, k, h, q⟩ =>
  ⟨F, G, en, _, k, h, fun d e1 v G1 H1 z k1 s1 r1 => by
    obtain ⟨l, hl, z⟩ := z
    cases d with
    | tup l' =>
      cases hl
      obtain ⟨p, xs, rfl, sq, ra⟩ := rep_tup.mp r1
      exact ⟨p, rfl, .inr ⟨⟨xs, sqt_mono k1.ok.gh sq⟩, q _ _ G1 H1 _ z k1 s1 (yl_tup sq ra)⟩⟩
    | lst l' =>
      cases hl
      obtain ⟨p, xs, rfl, sq, ra⟩ := rep_lst.mp r1
      exact ⟨p, rfl, .inl ⟨⟨xs, .inl (.inl (k1.ok.gh _ _ sq))⟩, q _ _ G1 H1 _ z k1 s1 (yl_list (.inl (.inl sq)) ra)⟩⟩
    | fro l' =>
      cases hl
      obtain ⟨p, xs, rfl, sq, ra⟩ := rep_fro.mp r1
      exact ⟨p, rfl, .inl ⟨⟨xs, k1.ok.gh.seq sq⟩, q _ _ G1 H1 _ z k1 s1 (yl_list sq ra)⟩⟩
    | _ => cases hl⟩
/-- range(n), range(a, b) -/
def rngD (lo : Int) (n : Nat) : List D := (List.range n).map fun i => D.int (lo + (i : Nat))
theorem rngD_get {lo : Int} {n i : Nat} {d : D} (h : (rngD lo n)[i]? = some d) : i < n ∧ d = .int (lo + i) := by
  unfold rngD at h
  rw [List.getElem?_map] at h
  by_cases hi : i < n
  · rw [List.getElem?_range hi] at h
    exact ⟨hi, (Option.some.inj h).symm⟩
  · rw [List.getElem?_eq_none (by rw [List.length_range]; omega)] at h
    cases h
theorem rngD_len {lo : Int} {n : Nat} : (rngD lo n).length = n := by unfold rngD; rw [List.length_map, List.length_range]
theorem yl_rng {K : PySem.W.Frag} {G : Hp} {lo : Int} {n : Nat} : Yl K (Itr lo n) G (rngD lo n) where
  go := fun G1 H1 k g h hk => by rw [rngD_len] at hk; exact hk
  yl := fun G1 H1 k x H2 d g h hd hy => by
    obtain ⟨rfl, rfl⟩ := hy
    obtain ⟨_, rfl⟩ := rngD_get hd
    exact ⟨G1, Grow.refl _ _, h, rep_int.mpr rfl⟩
  sp := fun G1 H1 k g h hk => by rw [rngD_len] at hk; exact hk
def fRng1 (fr : FA) : FI := fun en Φ => fr en fun ds e => ∃ j : Int, ds = [.int j] ∧ -(2 ^ 62) ≤ j ∧ j < 2 ^ 62 ∧ Φ (rngD 0 j.toNat) e
def fRng2 (fr : FA) : FI := fun en Φ => fr en fun ds e => ∃ i j : Int, ds = [.int i, .int j] ∧ (-(2 ^ 62) ≤ i ∧ i < 2 ^ 62 ∧ -(2 ^ 62) ≤ j ∧ j < 2 ^ 62) ∧ Φ (rngD i (j - i).toNat) e
theorem repA_1 {K : PySem.W.Frag} {G : Hp} {d : D} {v : List V} (r : RepA K G [d] v) : ∃ x, v = [x] ∧ Rep K G d x := by
  unfold RepA at r
  obtain ⟨x, t, rfl, p1, r⟩ := r
  unfold RepA at r
  subst r
  exact ⟨x, rfl, p1⟩
theorem repA_2 {K : PySem.W.Frag} {G : Hp} {d d2 : D} {v : List V} (r : RepA K G [d, d2] v) : ∃ x y, v = [x, y] ∧ Rep K G d x ∧ Rep K G d2 y := by
  unfold RepA at r
  obtain ⟨x, t, rfl, p1, r⟩ := r
  obtain ⟨y, rfl, p2⟩ := repA_1 r
  exact ⟨x, y, rfl, p1, p2⟩
theorem di_rng1 {a : Expr} {p pos : Pos} (hg : Gl X "range") (hm : X.mg "range" = none) (ha : DA X A [a] fr) (hs : starEach [a] X.env = [(false, eval a X.env)] := by rfl) : DI X A tg (.Call (.Name "range" p) [a] [] pos) (fRng1 fr) :=
  pi_weak (pi_range1 hg hm ha hs) fun σ H R ⟨F, G, en, Ψ, k, h, q⟩ => ⟨F, G, en, _, k, h, fun d e1 v G1 H1 z k1 s1 r1 => by
    obtain ⟨j, rfl, j1, j2, z⟩ := z
    obtain ⟨x, rfl, p1⟩ := repA_1 r1
    cases rep_int.mp p1
    exact ⟨j, rfl, j1, j2, q _ _ G1 H1 _ z k1 s1 yl_rng⟩⟩
theorem di_rng2 {a b : Expr} {p pos : Pos} (hg : Gl X "range") (hm : X.mg "range" = none) (ha : DA X A [a, b] fr) (hs : starEach [a, b] X.env = [(false, eval a X.env), (false, eval b X.env)] := by rfl) (hs2 : starEach [b] X.env = [(false, eval b X.env)] := by rfl) :
    DI X A tg (.Call (.Name "range" p) [a, b] [] pos) (fRng2 fr) :=
  pi_weak (pi_range2 hg hm ha hs hs2) fun σ H R ⟨F, G, en, Ψ, k, h, q⟩ => ⟨F, G, en, _, k, h, fun d e1 v G1 H1 z k1 s1 r1 => by
    obtain ⟨i, j, rfl, hb, z⟩ := z
    obtain ⟨x, y, rfl, p1, p2⟩ := repA_2 r1
    cases rep_int.mp p1
    cases rep_int.mp p2
    exact ⟨i, j, rfl, hb, q _ _ G1 H1 _ z k1 s1 yl_rng⟩⟩
end

/-! ### comprehensions -/
def wipeE (en : En) : List Nat → En
  | [] => en
  | v :: vs => st (wipeE en vs) v .un
section
variable {K : PySem.W.Frag} {A : Am} {F G H : Hp} {σ : L2.St} {en : En}
theorem EnvOk.wiped (k : EnvOk K A F G H σ en) : ∀ vs : List Nat, EnvOk K A F G H (wipe σ vs) (wipeE en vs)
  | [] => k
  | v :: vs => by unfold wipe wipeE; exact (EnvOk.wiped k vs).forget
theorem st_st {en : En} : ∀ {i : Nat} {a b : EV}, st (st en i a) i b = st en i b := by
  induction en with
  | nil => intro i a b; rfl
  | cons e r ih =>
    intro i a b
    cases i with
    | zero => rfl
    | succ i => simp only [st, ih]
theorem st_comm {en : En} : ∀ {i j : Nat} {a b : EV}, i ≠ j → st (st en i a) j b = st (st en j b) i a := by
  induction en with
  | nil => intro i j a b _; rfl
  | cons e r ih =>
    intro i j a b h
    cases i with
    | zero =>
      cases j with
      | zero => exact absurd rfl h
      | succ j => rfl
    | succ i =>
      cases j with
      | zero => rfl
      | succ j => simp only [st]; rw [ih (fun z => h (by rw [z]))]
theorem wipeE_wipeE (en : En) (vs : List Nat) : wipeE (wipeE en vs) vs = wipeE en vs := by
  have aux : ∀ (ws us : List Nat), (∀ w ∈ us, w ∈ ws) → wipeE (wipeE en ws) us = wipeE en ws := by
    intro ws us
    induction us with
    | nil => intro _; rfl
    | cons u us ih =>
      intro h
      show st (wipeE (wipeE en ws) us) u .un = wipeE en ws
      rw [ih fun w hw => h w (List.mem_cons_of_mem _ hw)]
      have : ∀ (ws : List Nat) (en : En), u ∈ ws → st (wipeE en ws) u .un = wipeE en ws := by
        intro ws
        induction ws with
        | nil => intro _ h; cases h
        | cons w ws ih2 =>
          intro en hm
          unfold wipeE
          by_cases hw : w = u
          · subst hw; rw [st_st]
          · rw [st_comm hw, ih2 en (by
              rcases List.mem_cons.mp hm with z | z
              · exact absurd z.symm hw
              · exact z)]
      exact this ws en (h u List.mem_cons_self)
  exact aux vs vs fun w h => h
theorem EnvOk.unwipe {vs : List Nat} (k : EnvOk K A F G H (wipe σ vs) en) : EnvOk K A F G H σ en := by
  obtain ⟨c, x⟩ := k.ex
  refine ⟨k.ok, by rw [← k.len, wipe_length], c, fun i d h => ?_, fun i o h => ?_, x.inj, x.pl⟩
  · obtain ⟨v, e1, e2⟩ := x.dat i d h
    exact ⟨v, (wipe_some e1).1, e2⟩
  · obtain ⟨e1, e2⟩ := x.cel i o h
    exact ⟨(wipe_some e1).1, e2⟩
theorem wipe_wipe (σ : L2.St) (vs : List Nat) : wipe (wipe σ vs) vs = wipe σ vs := by
  have aux : ∀ (ws us : List Nat), (∀ w ∈ us, w ∈ ws) → wipe (wipe σ ws) us = wipe σ ws := by
    intro ws us
    induction us with
    | nil => intro _; rfl
    | cons u us ih =>
      intro h
      show (wipe (wipe σ ws) us).set u none = wipe σ ws
      rw [ih fun w hw => h w (List.mem_cons_of_mem _ hw)]
      have : ∀ (ws : List Nat) (σ : L2.St), u ∈ ws → (wipe σ ws).set u none = wipe σ ws := by
        intro ws
        induction ws with
        | nil => intro _ h; cases h
        | cons w ws ih2 =>
          intro σ hm
          unfold wipe
          by_cases hw : w = u
          · subst hw; rw [List.set_set]
          · rw [List.set_comm _ _ hw, ih2 σ (by
              rcases List.mem_cons.mp hm with z | z
              · exact absurd z.symm hw
              · exact z)]
      exact this ws σ (h u List.mem_cons_self)
  exact aux vs vs fun w h => h
/-- a temporary object, kept by the frame -/
theorem EnvOk.tmpAdd {Dd : Addr} {u : HO} (k : EnvOk K A F G H σ en) (h : H Dd = none) (hn : plainO u := by exact ⟨fun _ z => (by cases z), fun _ z => (by cases z)⟩) : EnvOk K A (upd F Dd u) G (upd H Dd u) σ en ∧ G Dd = none ∧ F Dd = none := by
  have sg : Same G (upd H Dd u) := k.ok.gh.trans (same_new h)
  have k1 := k.grow (Grow.tmp (o := u) h) sg
  obtain ⟨c, x⟩ := k1.ex
  have nA : ∀ q ∈ A.q, q.1 ≠ Dd := fun q hq z => by
    obtain ⟨_, _, _, e, _⟩ := k.ok.am q hq
    rw [z, h] at e; cases e
  have nC : ∀ i o, gt en i = .cel o → c i ≠ Dd := fun i o e z => by
    obtain ⟨a, u2, e1, e2, _⟩ := k.slot e
    obtain ⟨f1, _⟩ := x.cel i o e
    rw [e1] at f1
    have : a = c i := by injection f1 with f1; injection f1 with f1; injection f1
    rw [this, z, h] at e2; cases e2
  refine ⟨⟨⟨⟨sg, fun b w hb => ?_, fun q hq => ?_, k1.ok.am⟩, ⟨fun b w hb => by rw [upd_ne (fun z => by subst z; have hb := k.ok.fh _ _ (k.ok.bs _ _ hb); rw [h] at hb; cases hb)]; exact k.ok.bs _ _ hb, fun z => (k.ok.bz.n z).new hn⟩, k.ok.bg⟩, k1.len, c, x.dat, fun i o e => ?_, x.inj, x.pl⟩, k.ok.gh.free h, k.ok.fh.free h⟩
  · by_cases hbd : b = Dd
    · subst hbd; rw [upd_same] at hb ⊢; exact hb
    · rw [upd_ne hbd] at hb ⊢; exact k.ok.fh _ _ hb
  · rw [upd_ne (nA q hq)]; exact k.ok.fa q hq
  · obtain ⟨e1, e2, e3, e4, e5⟩ := x.cel i o e
    exact ⟨e1, e2, e3, by rw [upd_ne (nC i o e)]; exact e4, e5⟩
theorem EnvOk.tmpSet {Dd : Addr} {u u' : HO} (k : EnvOk K A (upd F Dd u) G H σ en) (hG : G Dd = none) (h0 : A.F0 Dd = none) (hn : plainO u') : EnvOk K A (upd F Dd u') G (upd H Dd u') σ en := by
  obtain ⟨c, x⟩ := k.ex
  have nA : ∀ q ∈ A.q, q.1 ≠ Dd := fun q hq z => by
    have := k.ok.fa q hq
    rw [z, upd_same] at this; cases this
  have nC : ∀ i o, gt en i = .cel o → c i ≠ Dd := fun i o e z => by
    obtain ⟨_, _, _, e4, _⟩ := x.cel i o e
    rw [z, upd_same] at e4; cases e4
  refine ⟨⟨⟨fun b w hb => ?_, fun b w hb => ?_, fun q hq => ?_, fun q hq => ?_⟩, ⟨fun b w hb => (by
    have nb : b ≠ Dd := fun z => by subst z; rw [h0] at hb; cases hb
    have := k.ok.bs b w hb
    rw [upd_ne nb] at this ⊢
    exact this), fun z a w e => (by
    by_cases ha : a = Dd
    · rw [ha, upd_same] at e; cases e; exact hn
    · rw [upd_ne ha] at e
      exact k.ok.bz.n z a w (by rw [upd_ne ha]; exact e))⟩, k.ok.bg⟩, k.len, c, x.dat, fun i o e => ?_, x.inj, x.pl⟩
  · rw [upd_ne (fun z => by subst z; rw [hG] at hb; cases hb)]; exact k.ok.gh _ _ hb
  · by_cases hbd : b = Dd
    · subst hbd; rw [upd_same] at hb ⊢; exact hb
    · have := k.ok.fh b w
      rw [upd_ne hbd] at hb this ⊢
      exact this hb
  · have := k.ok.fa q hq
    rw [upd_ne (nA q hq)] at this ⊢; exact this
  · obtain ⟨a1, o1, u1, a2, a3, a4⟩ := k.ok.am q hq
    exact ⟨a1, o1, u1, by rw [upd_ne (nA q hq)]; exact a2, a3, a4⟩
  · obtain ⟨e1, ⟨u1, e2, e2'⟩, e3, e4, e5⟩ := x.cel i o e
    rw [upd_ne (nC i o e)] at e4
    exact ⟨e1, ⟨u1, by rw [upd_ne (nC i o e)]; exact e2, e2'⟩, e3, by rw [upd_ne (nC i o e)]; exact e4, e5⟩
theorem EnvOk.tmpFrz {Dd : Addr} {u : HO} (k : EnvOk K A (upd F Dd u) G H σ en) (hG : G Dd = none) (hF : F Dd = none) (h0 : A.F0 Dd = none) (hn : ∀ ps, u ≠ .tbl ps) : EnvOk K A F (upd G Dd u) H σ en := by
  obtain ⟨c, x⟩ := k.ex
  have hD : H Dd = some u := k.ok.fh _ _ upd_same
  have sg : Same G (upd G Dd u) := same_new hG
  have nA : ∀ q ∈ A.q, q.1 ≠ Dd := fun q hq z => by
    have := k.ok.fa q hq
    rw [z, upd_same] at this; cases this
  have nC : ∀ i o, gt en i = .cel o → c i ≠ Dd := fun i o e z => by
    obtain ⟨_, _, _, e4, _⟩ := x.cel i o e
    rw [z, upd_same] at e4; cases e4
  refine ⟨⟨⟨fun b w hb => ?_, fun b w hb => ?_, fun q hq => ?_, fun q hq => ?_⟩, ⟨fun b w hb => (by
    have nb : b ≠ Dd := fun z => by subst z; rw [h0] at hb; cases hb
    have := k.ok.bs b w hb
    rw [upd_ne nb] at this
    exact this), fun z a ps e => k.ok.bz.n z a ps (by rw [upd_ne (fun q => by subst q; rw [hF] at e; cases e)]; exact e)⟩, k.ok.bg.trans ⟨fun z => z.new hn, sg, fun a w ha => upd_ne (fun z => by subst z; rw [h0] at ha; cases ha)⟩⟩, k.len, c, fun i d e => ?_, fun i o e => ?_, x.inj, x.pl⟩
  · by_cases hbd : b = Dd
    · subst hbd; rw [upd_same] at hb; cases hb; exact hD
    · rw [upd_ne hbd] at hb; exact k.ok.gh _ _ hb
  · refine k.ok.fh b w ?_
    rw [upd_ne (fun z => by subst z; rw [hF] at hb; cases hb)]; exact hb
  · have := k.ok.fa q hq
    rw [upd_ne (nA q hq)] at this; exact this
  · obtain ⟨a1, o1, u1, a2, a3, a4⟩ := k.ok.am q hq
    exact ⟨by rw [upd_ne (nA q hq)]; exact a1, o1, u1, a2, a3.mono sg, a4⟩
  · obtain ⟨v, e1, e2⟩ := x.dat i d e
    exact ⟨v, e1, e2.mono sg⟩
  · obtain ⟨e1, ⟨u1, e2, e2'⟩, e3, e4, e5⟩ := x.cel i o e
    rw [upd_ne (nC i o e)] at e4
    exact ⟨e1, ⟨u1, e2, e2'.mono sg⟩, by rw [upd_ne (nC i o e)]; exact e3, e4, e5⟩
end
/-- what a comprehension asks behind its source -/
def LcGoal (g : FG) (ft : FT) (fe : FE) (vs : List Nat) (e1 : En) (items : List D) (Φ : D → En → Prop) : Prop := ∃ I : Nat → List D → Prop, I 0 [] ∧
  (∀ k x acc, items[k]? = some x → I k acc → acc.length < 100000 ∧ g x (wipeE e1 vs) fun e2 => ft e2 fun b e3 =>
    if b = true then fe e3 fun d e4 => wipeE e4 vs = wipeE e1 vs ∧ I (k + 1) (acc ++ [d]) else wipeE e3 vs = wipeE e1 vs ∧ I (k + 1) acc) ∧ ∀ acc, I items.length acc → Φ (.lst acc) (wipeE e1 vs)
def fLc (fi : FI) (g : FG) (ft : FT) (fe : FE) (vs : List Nat) : FE := fun en Φ => fi en fun items e1 => LcGoal g ft fe vs e1 items Φ
theorem le_lc {K : PySem.W.Frag} {A : Am} {fi : FI} {g : FG} {ft : FT} {fe : FE} {vs : List Nat} {σ : L2.St} {H : Hp} {Q : VK} (h : LE K A (fLc fi g ft fe vs) σ H Q) : tLc (LI K A fi) (LG K A vs g) (LT K A ft) (LE K A fe) vs σ H Q := by
  obtain ⟨F, G, en, Ψ, k, h, q⟩ := h
  refine ⟨F, G, en, _, k, h, fun items e1 G1 H1 J hI k1 s1 Y Dd hD => ?_⟩
  obtain ⟨I, i0, it, id⟩ := hI
  obtain ⟨k2, gD, fD⟩ := k1.tmpAdd (u := .lst []) hD
  refine ⟨fun i m H' => ∃ G' acc xs, I i acc ∧ EnvOk K A (upd F Dd (.lst xs)) G' H' σ (wipeE e1 vs) ∧ Step F G1 G' ∧ G' Dd = none ∧ RepA K G' acc xs ∧ i + m = items.length,
    ⟨items.length, G1, [], [], i0, (k2.wiped vs).unwipe, Step.refl _ _, gD, .nil, by omega⟩, fun i m H2 w => ?_⟩
  obtain ⟨G2, acc, xs, ia, k3, s3, g3, ra, hm⟩ := w
  by_cases hi : i < items.length
  · refine .inr ⟨Y.go G2 H2 i s3.g k3.ok.gh hi, fun H' => ∃ G' acc xs, I (i + 1) acc ∧ EnvOk K A (upd F Dd (.lst xs)) G' H' σ (wipeE e1 vs) ∧ Step F G1 G' ∧ G' Dd = none ∧ RepA K G' acc xs,
      fun H' ⟨G', acc, xs, a, b, c, d, e⟩ => ⟨m - 1, by omega, G', acc, xs, a, b, c, d, e, by omega⟩, fun x H' hy => ?_⟩
    obtain ⟨G4, g4, s4, r4⟩ := Y.yl G2 H2 i x H' _ s3.g k3.ok.gh (List.getElem?_eq_getElem hi) hy
    have k4 := k3.grow g4 s4
    obtain ⟨hlen, hturn⟩ := it i _ acc (List.getElem?_eq_getElem hi) ia
    have k4' : EnvOk K A (upd F Dd (.lst xs)) G4 H' (wipe σ vs) (wipeE e1 vs) := by
      have := k4.wiped vs
      have ee : wipeE (wipeE e1 vs) vs = wipeE e1 vs := wipeE_wipeE e1 vs
      rw [ee] at this
      exact this
    have st4 := g4.step k3.ok.fh
    refine ⟨_, G4, _, _, _, k4', r4, hturn, fun e5 σ5 G5 H5 h5 k5 s5 w5 => ?_⟩
    have w5' : wipe σ5 vs = wipe σ vs := by rw [w5, wipe_wipe]
    refine ⟨w5', _, G5, e5, _, k5, h5, fun b e6 G6 H6 h6 k6 s6 => ?_⟩
    cases b with
    | true =>
      rw [if_pos rfl]
      refine ⟨_, G6, e6, _, k6, h6, fun d e7 v G7 H7 h7 k7 s7 r7 => ?_⟩
      obtain ⟨we, i7⟩ := h7
      have hstep : Step (upd F Dd (.lst xs)) G2 G7 := ((st4.trans s5).trans s6).trans s7
      have hDD : H7 Dd = some (.lst xs) := k7.ok.fh _ _ upd_same
      have hGD : G7 Dd = none := by rw [hstep.f Dd _ upd_same]; exact g3
      refine ⟨xs, hDD, by rw [ra.len]; exact Nat.lt_of_lt_of_le hlen (by decide), G7, acc ++ [d], xs ++ [v], i7, ?_, ⟨fun z => hstep.n (s3.n z), s3.g.trans hstep.g, fun a u hu => ?_⟩, hGD, (ra.mono hstep.g).app (.cons r7 .nil)⟩
      · have kk := (k7.wiped vs)
        rw [we, w5'] at kk
        exact (kk.unwipe).tmpSet hGD (k1.ok.bs.free fD) ⟨fun _ z => (by cases z), fun _ z => (by cases z)⟩
      · rw [← s3.f a u hu]
        refine hstep.f a u ?_
        rw [upd_ne (fun z => by subst z; rw [fD] at hu; cases hu)]
        exact hu
    | false =>
      rw [if_neg Bool.false_ne_true]
      obtain ⟨we, i7⟩ := h6
      have hstep : Step (upd F Dd (.lst xs)) G2 G6 := (st4.trans s5).trans s6
      refine ⟨G6, acc, xs, i7, ?_, ⟨fun z => hstep.n (s3.n z), s3.g.trans hstep.g, fun a u hu => ?_⟩, by rw [hstep.f Dd _ upd_same]; exact g3, ra.mono hstep.g⟩
      · have kk := (k6.wiped vs)
        rw [we, w5'] at kk
        exact kk.unwipe
      · rw [← s3.f a u hu]
        refine hstep.f a u ?_
        rw [upd_ne (fun z => by subst z; rw [fD] at hu; cases hu)]
        exact hu
  · have hil : i = items.length := by omega
    subst hil
    refine .inl ⟨Y.sp G2 H2 _ s3.g k3.ok.gh (Nat.le_refl _), ?_⟩
    have kf := k3.tmpFrz g3 fD (k1.ok.bs.free fD) (fun _ z => by cases z)
    have sg : Same G2 (upd G2 Dd (.lst xs)) := same_new g3
    exact q _ _ (.ref Dd) (upd G2 Dd (.lst xs)) H2 (id acc ia) kf ((s1.trans s3).trans ⟨fun z => z.new (fun _ z => by cases z), sg, fun a u hu => upd_ne (fun z => by subst z; rw [fD] at hu; cases hu)⟩)
      (rep_lst.mpr ⟨Dd, xs, rfl, upd_same, ra.mono sg⟩)
abbrev DTs (X : Cx) (A : Am) (ifs : List Expr) (f : FT) : Prop := PTs X ifs (LT X.K A f)
theorem pts_weak {X : Cx} {e : List Expr} {t t' : TT} (h : PTs X e t) (k : ∀ σ H Q, t' σ H Q → t σ H Q) : PTs X e t' := ⟨fun pins s σ H Q I q => h.run pins s σ H Q I (k σ H Q q)⟩
def fYes : FT := fun en Φ => Φ true en
section
variable {X : Cx} {A : Am}
theorem dts_nil : DTs X A [] fYes := pts_weak pts_nil fun σ H Q ⟨F, G, en, Ψ, k, h, q⟩ => q true en G H h k (Step.refl _ _)
theorem dts_one {c : Expr} {ft : FT} (h : DT X A c ft) : DTs X A [c] ft := pts_one h
theorem de_lc {elt tg iter : Expr} {ifs : List Expr} {scope : Scope} {own : List (Str × Nat)} {pos : Pos} {fi : FI} {g : FG} {ft : FT} {fe : FE} (hc : X.calm = true) (hN : X.N.Nodup) (hi : DI X A tg iter fi) (ok : BlkOk X.N X.env.scope scope own)
    (hg : ∀ (s : Shared) (H : Hp) (C : Addr) (cl : List (Str × Addr)) (fp : List Addr), DG (X.blk s H scope (compEnvC scope cl C X.env) fp) A (own.map (·.2)) tg g) (ht : ∀ (s : Shared) (H : Hp) (C : Addr) (cl : List (Str × Addr)) (fp : List Addr), DTs (X.blk s H scope (compEnvC scope cl C X.env) fp) A ifs ft)
    (he : ∀ (s : Shared) (H : Hp) (C : Addr) (cl : List (Str × Addr)) (fp : List Addr), DE (X.blk s H scope (compEnvC scope cl C X.env) fp) A elt fe) (hs : ∀ x, foldedSetIterable iter X.env x = pure x := by intro _; rfl) :
    DE X A (.ListComp elt [⟨tg, iter, ifs, 0⟩] scope pos) (fLc fi g ft fe (own.map (·.2))) := pe_weak (pe_lc hc hN hi ok hg ht he hs) fun _ _ _ h => le_lc h
theorem ds_setLc {i : Nat} {y : Str} {py : Pos} {elt tg iter : Expr} {ifs : List Expr} {scope : Scope} {own : List (Str × Nat)} {pos spos : Pos} {fi : FI} {g : FG} {ft : FT} {fe : FE} (hc : X.calm = true) (hN : X.N.Nodup) (hy : X.N[i]? = some y) (hyl : X.env.scope.names.lookup y = some .local)
    (hsw : swapsWith (.ListComp elt [⟨tg, iter, ifs, 0⟩] scope pos) (some (.Name y py)) spos.line X.env = pure true) (hi : DI X A tg iter fi) (ok : BlkOk X.N X.env.scope scope own)
    (hg : ∀ (s : Shared) (H : Hp) (C : Addr) (cl : List (Str × Addr)) (fp : List Addr), DG (X.blk s H scope (compEnvC scope cl C X.env) fp) A (own.map (·.2)) tg g) (ht : ∀ (s : Shared) (H : Hp) (C : Addr) (cl : List (Str × Addr)) (fp : List Addr), DTs (X.blk s H scope (compEnvC scope cl C X.env) fp) A ifs ft)
    (he : ∀ (s : Shared) (H : Hp) (C : Addr) (cl : List (Str × Addr)) (fp : List Addr), DE (X.blk s H scope (compEnvC scope cl C X.env) fp) A elt fe) (hs : ∀ x, foldedSetIterable iter X.env x = pure x := by intro _; rfl) :
    DS X A (.Assign [.Name y py] (.ListComp elt [⟨tg, iter, ifs, 0⟩] scope pos) spos) (fAsg (fLc fi g ft fe (own.map (·.2))) (gN i)) :=
  ps_weak (ps_setLc hc hN hy hyl hsw hi ok hg ht he hs) fun Dd σ H ⟨F, G, en, Ψ, k, h, q1, _⟩ => by
    show tLc _ _ _ _ _ σ H fun x H1 => gName i x σ H1 Dd.nx
    refine le_lc ⟨F, G, en, _, k, h, fun d e1 v G1 H1 z k1 s1 r1 => ?_⟩
    exact q1 _ _ G1 H1 z (k1.put r1) s1
end
end Dz

namespace Dz
open PySem PySem.Spec PyProof.Rows L2

/-! ### calls of own defs -/
abbrev PD := AQ → List D → (D → Prop) → Prop
/-- the frame of a call: all but the ambient -/
def minus (A : AQ) (H : Hp) : Hp := fun a => if (A.any fun q => q.1 == a) = true then none else H a
theorem minus_in {A : AQ} {H : Hp} {q : Addr × (HD → Prop)} (h : q ∈ A) : minus A H q.1 = none := by
  unfold minus
  rw [if_pos]
  rw [List.any_eq_true]
  exact ⟨q, h, by simp⟩
theorem minus_out {A : AQ} {H : Hp} {a : Addr} (h : ∀ q ∈ A, q.1 ≠ a) : minus A H a = H a := by
  unfold minus
  rw [if_neg]
  intro z
  rw [List.any_eq_true] at z
  obtain ⟨q, h1, h2⟩ := z
  exact h q h1 (by simpa using h2)
theorem minus_same {A : AQ} {H : Hp} : Same (minus A H) H := fun a u h => by
  unfold minus at h
  split at h
  · cases h
  · exact h
def spD (K : PySem.W.Frag) (pd : PD) : Sp := fun vs H Q _ => ∃ (A : AQ) (G : Hp) (ds : List D) (Ψ : D → Prop), StQ K A (minus A H) G H ∧ RepA K G ds vs ∧ pd A ds Ψ ∧
  ∀ d v G' H', Ψ d → StQ K A (minus A H) G' H' → Step (minus A H) G G' → Rep K G' d v → Q v H'
section
variable {K : PySem.W.Frag} {A : Am} {F G H G' H' : Hp} {σ : L2.St} {en : En}
theorem StOk.call (k : StOk K A F G H) : StQ K A.q (minus A.q H) G H := ⟨k.gh, minus_same, fun q hq => minus_in hq, k.am⟩
theorem frame_minus (k : StOk K A F G H) {a : Addr} {u : HO} (h : F a = some u) : minus A.q H a = some u := by
  rw [minus_out]
  · exact k.fh _ _ h
  · intro q hq z
    subst z
    rw [k.fa q hq] at h; cases h
theorem EnvOk.called (k : EnvOk K A F G H σ en) (k' : StQ K A.q (minus A.q H) G' H') (s : Step (minus A.q H) G G') : EnvOk K A F G' H' σ en ∧ Step F G G' := by
  have sF : Step F G G' := ⟨s.n, s.g, fun a u h => s.f a u (frame_minus k.ok h)⟩
  obtain ⟨c, x⟩ := k.ex
  refine ⟨⟨⟨⟨k'.gh, fun a u h => k'.fh _ _ (frame_minus k.ok h), k.ok.fa, k'.am⟩, k.ok.bz, k.ok.bg.trans (sF.less k.ok.bs)⟩, k.len, c, fun i d e => ?_, fun i o e => ?_, x.inj, x.pl⟩, sF⟩
  · obtain ⟨v, e1, e2⟩ := x.dat i d e
    exact ⟨v, e1, e2.mono s.g⟩
  · obtain ⟨e1, ⟨u, e2, e3⟩, e4, e5, e6⟩ := x.cel i o e
    have hm : minus A.q H (c i) = some u := by rw [minus_out e6]; exact e2
    exact ⟨e1, ⟨u, k'.fh _ _ hm, e3.mono s.g⟩, (s.f _ _ hm).trans e4, e5, e6⟩
end
def fCall (pd : PD) (A : Am) (fr : FA) : FE := fun en Φ => fr en fun ds e => pd A.q ds fun d => Φ d e
section
variable {X : Cx} {A : Am} {k : Nat} {f : Addr} {fd : FuncData} {ps : List Str} {pd : PD} {x : Str} {p pos : Pos} {e : Expr} {es : List Expr} {fr : FA}
theorem le_call {E : XK} {σ : L2.St} {H : Hp} {Q : VK} {K : PySem.W.Frag} (h : LE K A (fCall pd A fr) σ H Q) : tCall (spD K pd) [] E (LA K A fr) σ H Q := by
  obtain ⟨F, G, en, Ψ, k, h, q⟩ := h
  refine ⟨F, G, en, _, k, h, fun ds e1 vs G1 H1 hp k1 s1 r1 => ?_⟩
  show spD K pd (vs ++ []) H1 Q E
  rw [List.append_nil]
  refine ⟨A.q, G1, ds, _, k1.ok.call, r1, hp, fun d v G2 H2 hd k2 s2 r2 => ?_⟩
  obtain ⟨k3, s3⟩ := k1.called k2 s2
  exact q d e1 v G2 H2 hd k3 (s1.trans s3) r2
theorem de_call (Fk : FnOk X.prog X.w X.K X.mg X.base CX0 k f fd ps (spD X.K pd)) (hr : Room k X.A) (hg : Gl X x) (hm : X.mg x = some (.ref f)) (hk : PySem.W.keepIn X.K (.ref f) = true) (hb : Binds X.K fd ps [])
    (ha : DA X A (e :: es) fr) (hdb : (x == ("__debug__" : Str)) = false := by decide) (he : starEach (e :: es) X.env = (false, eval e X.env) :: starEach es X.env := by rfl) (hpl : (backTo pos (starEach es X.env)).any (·.1) = false := by rfl) :
    DE X A (.Call (.Name x p) (e :: es) [] pos) (fCall pd A fr) := pe_weak (pe_call Fk hr hg hm hk hb .nil pass0 ha hdb he hpl) fun _ _ _ h => le_call h
theorem de_call0 (Fk : FnOk X.prog X.w X.K X.mg X.base CX0 k f fd ps (spD X.K pd)) (hr : Room k X.A) (hg : Gl X x) (hm : X.mg x = some (.ref f)) (hk : PySem.W.keepIn X.K (.ref f) = true) (hb : Binds X.K fd ps [])
    (hdb : (x == ("__debug__" : Str)) = false := by decide) : DE X A (.Call (.Name x p) [] [] pos) (fCall pd A fNil) := pe_weak (pe_call0 Fk hr hg hm hk hb .nil pass0 hdb) fun σ H Q h => by
      obtain ⟨F, G, en, Ψ, k, h, q⟩ := h
      show spD X.K pd ([] ++ []) H Q E0
      refine ⟨A.q, G, [], _, k.ok.call, .nil, h, fun d v G2 H2 hd k2 s2 r2 => ?_⟩
      obtain ⟨k3, s3⟩ := k.called k2 s2
      exact q d en v G2 H2 hd k3 s3 r2
end
/-- the entry of a body -/
theorem gt_dat : ∀ {ds : List D} {m i : Nat} {e : EV}, gt (ds.map EV.dat ++ List.replicate m EV.un) i = e → e ≠ .un → ∃ d, e = .dat d ∧ ds[i]? = some d
  | [], 0, i, e, h, hn => by simp [gt] at h; exact absurd h.symm hn
  | [], m + 1, 0, e, h, hn => by
    rw [List.map_nil, List.nil_append, List.replicate_succ] at h
    exact absurd h.symm hn
  | [], m + 1, i + 1, e, h, hn => by
    rw [List.map_nil, List.nil_append, List.replicate_succ] at h
    exact gt_dat (ds := []) (m := m) (i := i) h hn
  | d :: ds, m, 0, e, h, hn => ⟨d, h.symm, rfl⟩
  | d :: ds, m, i + 1, e, h, hn => by
    obtain ⟨d', h1, h2⟩ := gt_dat (ds := ds) (m := m) (i := i) (e := e) h hn
    exact ⟨d', h1, by simpa using h2⟩
theorem EnvOk.start {K : PySem.W.Frag} {A : Am} {F G H : Hp} {ds : List D} {vs : List V} {N : List Str} (k : StOk K A F G H) (r : RepA K G ds vs) : EnvOk K A F G H (start N vs) (ds.map EV.dat ++ List.replicate (N.length - ds.length) EV.un) := by
  have hl := r.len
  refine ⟨k, ?_, fun _ => 0, fun i d e => ?_, fun i o e => ?_, fun i j o u e => ?_, fun i o e => ?_⟩
  · unfold L2.start
    simp only [List.length_append, List.length_map, List.length_replicate, hl]
  · obtain ⟨d', h1, h2⟩ := gt_dat e (by intro z; cases z)
    cases h1
    obtain ⟨v, e1, e2⟩ := r.get h2
    refine ⟨v, ?_, e2⟩
    unfold L2.start
    have hi : i < vs.length := (List.getElem?_eq_some_iff.mp e1).1
    rw [List.getElem?_append_left (by rw [List.length_map]; exact hi), List.getElem?_map, e1]
    rfl
  · obtain ⟨d', h1, _⟩ := gt_dat e (by intro z; cases z)
    cases h1
  · obtain ⟨d', h1, _⟩ := gt_dat e (by intro z; cases z)
    cases h1
  · obtain ⟨d', h1, _⟩ := gt_dat e (by intro z; cases z)
    cases h1
section
variable {P : Program} {w : World} {K : PySem.W.Frag} {mg : Str → Option Value} {base : Heap}
theorem fn_dz {x qual : Str} {s0 : Stmt} {f : Addr} {fd : FuncData} {N ps : List Str} {k : Nat} {pd : PD} {fb : Am → FS} (Fk : Fun K x qual s0 f fd) (S : FnScope N ps (defScope s0)) (hlen : ∀ A ds Ψ, pd A ds Ψ → ds.length = ps.length)
    (hb : ∀ (A : Am) (cdv : Value) (Ar : Around) (outer : List PySem.Env) (s : Shared) (H : Hp) (E : XK), Room k (Ar.deeper (envOfC qual (defScope s0) s.heap.objs.size f cdv)) → DSs (cxOf CX0 P w K mg base N qual (defScope s0) f cdv Ar outer s H E).nox A (defBody s0) (fb A))
    (hm : ∀ (A : Am) ds Ψ, pd A.q ds Ψ → fb A (ds.map EV.dat ++ List.replicate (N.length - ds.length) EV.un) { nx := fun _ => Ψ .non, rt := Ψ }) : FnOk P w K mg base CX0 (k + 1) f fd ps (spD K pd) := by
  refine Fk.ok S (fun vs H Q E h => ?_) (fun cdv A outer s H vs Q E hr h => ?_)
  · obtain ⟨A, G, ds, Ψ, _, r, hp, _⟩ := h
    rw [r.len]
    exact hlen A ds Ψ hp
  · obtain ⟨Am', G, ds, Ψ, k0, r, hp, q⟩ := h
    refine ⟨_, hb ⟨Am', minus Am' H, G⟩ cdv A outer s H E hr, minus Am' H, G, _, _, EnvOk.start ⟨k0, Fro.refl _, Step.refl _ _⟩ r, hm ⟨Am', minus Am' H, G⟩ ds Ψ hp, fun e σ' G' H' hn k1 s1 => ?_, fun d v G' H' hd k1 s1 r1 => ?_, fun _ _ _ _ z => z.elim, fun _ _ _ _ z => z.elim⟩
    · exact q .non .non G' H' hn k1.ok.st s1 (rep_non.mpr rfl)
    · exact q d v G' H' hd k1.st s1 r1
end

/-! ### changing lists and dicts of one's own -/
abbrev FN := En → (HD → En → Prop) → Prop
def LN (K : PySem.W.Frag) (A : Am) (f : FN) : TE := fun σ H Q => ∃ (F G : Hp) (en : En) (Ψ : HD → En → Prop), EnvOk K A F G H σ en ∧ f en Ψ ∧
  ∀ o en' p G' H', Ψ o en' → EnvOk K A F G' H' (σ ++ [some (.ref p)]) (en' ++ [.cel o]) → Step F G G' → Q (.ref p) H'
abbrev DN (X : Cx) (A : Am) (e : Expr) (f : FN) : Prop := PE X e (LN X.K A f)
section
variable {X : Cx} {A : Am} {e a b : Expr} {es : List Expr} {pos : Pos} {fa fb : FE} {fn : FN} {fr : FA}
def nLst (fr : FA) : FN := fun en Φ => fr en fun xs e => xs.length ≤ 100000 ∧ Φ (.lst xs) e
theorem dn_lst (h : DA X A es fr) : DN X A (.List es pos) (nLst fr) := pe_weak (pe_lst h) fun σ H Q ⟨F, G, en, Ψ, k, h, q⟩ =>
  ⟨F, G, en, _, k, h, fun xs e1 vs G1 H1 hb k1 s1 r1 => ⟨by rw [r1.len]; exact sz_of hb.1, fun p hp => q _ _ p G1 _ hb.2 (k1.newcell hp ⟨vs, rfl, r1⟩) s1⟩⟩
def nDct : FN := fun en Φ => Φ (.dct [] []) en
theorem dn_dct : DN X A (.Dict [] [] pos) nDct := pe_weak pe_dnewK fun σ H Q ⟨F, G, en, Ψ, k, h, q⟩ => fun p hp => q _ _ p G _ h (k.newcell hp ⟨[], rfl, .nil, rfl⟩) (Step.refl _ _)
def fSetN (i : Nat) (fn : FN) : FS := fun en Ψ => fn en fun o e => Ψ.nx (st e i (.cel o))
theorem ds_setN {i : Nat} {x : Str} {px : Pos} (hN : X.N.Nodup) (hi : X.N[i]? = some x) (hx : Loc X.env.scope x) (he : DN X A e fn) (hf : X.fn x = true ∨ X.env.scope.names.lookup x = some .local := by first | exact .inl rfl | exact .inr rfl | assumption)
    (hs : swapsWithSole [.Name x px] e pos.line X.env = pure false := by rfl) (hw : swappedStores [.Name x px] e X.env = pure none := by rfl) : DS X A (.Assign [.Name x px] e pos) (fSetN i fn) :=
  ps_weak (ps_asg he (pg_name hN hi hx hf) hs hw) fun Dd σ H ⟨F, G, en, Ψ, k, h, q1, _⟩ => ⟨F, G, en, _, k, h, fun o e1 p G1 H1 z k1 s1 => q1 _ _ G1 H1 z k1.move s1⟩
/-- a slot's value as it is -/
theorem slot_var {K : PySem.W.Frag} {F G H : Hp} {σ : L2.St} {en : En} {i : Nat} {o : HD} {Q : VK} (k : EnvOk K A F G H σ en) (eg : gt en i = .cel o) (h : ∀ p u, σ[i]? = some (some (.ref p)) → H p = some u → RepO K G o u → Q (.ref p) H) : tVar i σ H Q := by
  obtain ⟨p, u, e1, e2, e3⟩ := k.slot eg
  exact ⟨.ref p, e1, h p u e1 e2 e3⟩
/-- x.append(e), x a changing list -/
def fApp (i : Nat) (fa : FE) : FS := fun en Ψ => ∃ l, gt en i = .cel (.lst l) ∧ fa en fun d e => ∃ l', gt e i = .cel (.lst l') ∧ l'.length < 100000 ∧ Ψ.nx (st e i (.cel (.lst (l' ++ [d]))))
theorem ds_append {i : Nat} {x : Str} {px apos cpos : Pos} (hN : X.N[i]? = some x) (hv : Vis X.env.scope x) (he : DE X A e fa)
    (hd : (x == ("__debug__" : Str)) = false := by decide) (hcd : (x == ("__classdict__" : Str)) = false := by decide)
    (hbase : attributeBase (.Name x px) "append" X.env (eval (.Name x px) X.env) = eval (.Name x px) X.env := by rfl)
    (hfew : ((backTo cpos (starEach [e] X.env)).all (fun x => !x.1) && (backToKw cpos (keywordEach [] X.env)).all (fun x => x.1.isSome)
      && decide (([e] : List Expr).length + ([] : List Keyword).length + (if ([] : List Keyword).isEmpty then 0 else 1) < 30)) = true := by rfl)
    (hline : (apos.endLine == cpos.line) = true := by rfl) (hs : starEach [e] X.env = (false, eval e X.env) :: starEach [] X.env := by rfl) (hplain : (backTo cpos (starEach [] X.env)).any (·.1) = false := by rfl)
    (hsw : swapsWith (.Call (.Attribute (.Name x px) "append" apos) [e] [] cpos) none pos.line X.env = pure false := by rfl) :
    DS X A (.Expr (.Call (.Attribute (.Name x px) "append" apos) [e] [] cpos) pos) (fApp i fa) :=
  ps_weak (ps_expr (pe_bm PySem.F.plainAttrs_list PySem.F.slot_list_append PySem.F.type_list_append mt_append (pv i hN hv hd hcd) (pa_cons he pa_nil hs) hbase hfew hline hs hplain) hsw) fun Dd σ H ⟨F, G, en, Ψ, k, h, q1, _⟩ => by
    obtain ⟨l, eg, h⟩ := h
    obtain ⟨p, u, e1, e2, e3⟩ := k.slot eg
    obtain ⟨xs, eu, ra⟩ := e3
    subst eu
    refine ⟨.ref p, e1, .inl ⟨rfl, xs, .inl (.inl e2)⟩, F, G, en, _, k, h, fun d ee v G1 H1 z k1 s1 r1 => ?_⟩
    obtain ⟨l', eg', hl, z⟩ := z
    obtain ⟨p', u', f1, f2, f3⟩ := k1.slot eg'
    rw [e1] at f1
    have ep : p = p' := by injection f1 with f1; injection f1 with f1; injection f1
    subst ep
    obtain ⟨ys, eu, rb⟩ := f3
    subst eu
    refine ⟨p, ys, v, rfl, rfl, f2, by rw [rb.len]; exact Nat.lt_of_lt_of_le hl (by decide), ?_⟩
    exact q1 _ _ G1 _ z (k1.alter (u' := .lst (ys ++ [v])) eg' e1 ⟨_, rfl, rb.app (.cons r1 .nil)⟩) s1
/-- x[k] = e, x a changing dict -/
def mapAt : List Key → List D → Key → D → List D
  | k' :: ks, d :: l, k, v => (if k' = k then v else d) :: mapAt ks l k v
  | _, _, _, _ => []
def hasK (ks : List Key) (k : Key) : Bool := ks.any fun k' => decide (k' = k)
def putKd (ks : List Key) (l : List D) (k : Key) (v : D) : List D := if hasK ks k = true then mapAt ks l k v else l ++ [v]
def putKs (ks : List Key) (k : Key) : List Key := if hasK ks k = true then ks else ks ++ [k]
def keyD : D → Option Key
  | .int i => some (.inl i)
  | .str x => some (.inr x)
  | _ => none
theorem keyD_rep {K : PySem.W.Frag} {G : Hp} {d : D} {k : Key} {v : V} (h : keyD d = some k) (r : Rep K G d v) : v = kV k := by
  cases d <;> try (cases h; done)
  · cases h; exact rep_int.mp r
  · cases h; exact rep_str.mp r
theorem any_zip {k : Key} : ∀ {ks : List Key} {xs : List V}, ks.length = xs.length → ((ks.zip xs).any fun kv => decide (kv.1 = k)) = hasK ks k
  | [], [], _ => rfl
  | [], _ :: _, h => by cases h
  | _ :: _, [], h => by cases h
  | k' :: ks, x :: xs, h => by
    have ih := any_zip (k := k) (ks := ks) (xs := xs) (by simpa using h)
    unfold hasK at ih ⊢
    simp only [List.zip_cons_cons, List.any_cons, ih]
theorem map_zip {K : PySem.W.Frag} {G : Hp} {k : Key} {v : V} {d : D} (hd : Rep K G d v) : ∀ {ks : List Key} {l : List D} {xs : List V}, ks.length = l.length → RepA K G l xs →
    ∃ ys, (ks.zip xs).map (fun kv => if kv.1 = k then (kv.1, v) else kv) = ks.zip ys ∧ RepA K G (mapAt ks l k d) ys ∧ (mapAt ks l k d).length = l.length
  | [], [], xs, _, r => by
    unfold RepA at r
    subst r
    exact ⟨[], rfl, .nil, rfl⟩
  | [], _ :: _, _, h, _ => by cases h
  | _ :: _, [], _, h, _ => by cases h
  | k' :: ks, d' :: l, xs, h, r => by
    unfold RepA at r
    obtain ⟨x, t, rfl, r1, r2⟩ := r
    have h' : ks.length = l.length := by simpa using h
    obtain ⟨ys, e1, e2, e3⟩ := map_zip (k := k) hd h' r2
    unfold mapAt
    simp only [List.zip_cons_cons, List.map_cons, e1, List.length_cons, e3]
    by_cases hk : k' = k
    · simp only [if_pos hk]
      exact ⟨v :: ys, rfl, .cons hd e2, trivial⟩
    · simp only [if_neg hk]
      exact ⟨x :: ys, rfl, .cons r1 e2, trivial⟩
theorem putK_zip {K : PySem.W.Frag} {G : Hp} {k : Key} {v : V} {d : D} (hd : Rep K G d v) {ks : List Key} {l : List D} {xs : List V} (h : ks.length = l.length) (r : RepA K G l xs) :
    ∃ ys, putK (ks.zip xs) k v = (putKs ks k).zip ys ∧ RepA K G (putKd ks l k d) ys ∧ (putKs ks k).length = (putKd ks l k d).length := by
  have hx : ks.length = xs.length := h.trans r.len.symm
  unfold putK putKs putKd
  rw [any_zip hx]
  by_cases hk : hasK ks k = true
  · simp only [hk, if_true]
    obtain ⟨ys, e1, e2, e3⟩ := map_zip (k := k) hd h r
    exact ⟨ys, e1, e2, by rw [e3]; exact h⟩
  · simp only [if_neg hk]
    refine ⟨xs ++ [v], ?_, r.app (.cons hd .nil), by simp only [List.length_append, h, List.length_singleton]⟩
    rw [List.zip_append hx]
    rfl
def fPutD (i : Nat) (fk fv : FE) : FS := fun en Ψ => fv en fun dv e1 => ∃ ks l, gt e1 i = .cel (.dct ks l) ∧ fk e1 fun dk e2 => ∃ k, keyD dk = some k ∧ ∃ ks' l', gt e2 i = .cel (.dct ks' l') ∧ ks'.length < 100000 ∧ Ψ.nx (st e2 i (.cel (.dct (putKs ks' k) (putKd ks' l' k dv))))
theorem ds_putD {i : Nat} {x : Str} {px pos' : Pos} {kx : Expr} {fk fv : FE} (hu : X.A.units + 1 < cLine) (hN : X.N[i]? = some x) (hv : Vis X.env.scope x) (hk : DE X A kx fk) (he : DE X A e fv)
    (hd : (x == ("__debug__" : Str)) = false := by decide) (hcd : (x == ("__classdict__" : Str)) = false := by decide) (hs : swapsWith e (some (.Subscript (.Name x px) kx pos')) pos.line X.env = pure false := by rfl) :
    DS X A (.Assign [.Subscript (.Name x px) kx pos'] e pos) (fPutD i fk fv) := ps_weak (ps_dput hu (pv i hN hv hd hcd) hk he hs) fun Dd σ H ⟨F, G, en, Ψ, k, h, q1, _⟩ => by
  refine ⟨F, G, en, _, k, h, fun dv e1 v G1 H1 z k1 s1 r1 => ?_⟩
  obtain ⟨ks, l, eg, z⟩ := z
  obtain ⟨p, u, f1, f2, f3⟩ := k1.slot eg
  refine ⟨.ref p, f1, F, G1, e1, _, k1, z, fun dk e2 kv G2 H2 z k2 s2 r2 => ?_⟩
  obtain ⟨key, hkey, ks', l', eg', hl, z⟩ := z
  have ek := keyD_rep hkey r2
  subst ek
  obtain ⟨p', u', g1, g2, g3⟩ := k2.slot eg'
  rw [f1] at g1
  have ep : p = p' := by injection g1 with g1; injection g1 with g1; injection g1
  subst ep
  obtain ⟨ys, eu, rb, hlen⟩ := g3
  subst eu
  obtain ⟨zs, e3, e4, e5⟩ := putK_zip (k := key) (r1.mono s2.g) hlen rb
  refine ⟨p, upd H2 p (.dK (putK (ks'.zip ys) key v)), rfl, .inl ⟨_, key, g2, rfl, ?_, rfl⟩, ?_⟩
  · rw [List.length_zip]
    exact Nat.lt_of_le_of_lt (Nat.min_le_left _ _) (Nat.lt_of_lt_of_le hl (by decide))
  · rw [e3]
    exact q1 _ _ G2 _ z (k2.alter (u' := .dK ((putKs ks' key).zip zs)) eg' f1 ⟨zs, rfl, e4, e5⟩) (s1.trans s2)

/-! ### t[::-1]; split -/
def rRevD : R1D := fun x Φ => match x with
  | .tup l => Φ (.tup l.reverse)
  | _ => False
def fRev (fa : FE) : FE := fun en Φ => fa en fun x e1 => rRevD x fun z => Φ z e1
theorem de_revT {k : Nat} {p1 p2 p3 : Pos} (he : DE X A e fa) : DE X A (.Subscript e (.Slice none none (some (.UnaryOp .USub (.Constant (.int 1) k p1) p2)) p3) pos) (fRev fa) := pe_weak (pe_revT he) fun σ H Q ⟨F, G, en, Ψ, k, h, q⟩ =>
  ⟨F, G, en, _, k, h, fun d e1 v G1 H1 z k1 s1 r1 => by
    unfold rRevD at z
    cases d with
    | tup l =>
      obtain ⟨p, xs, rfl, sq, ra⟩ := rep_tup.mp r1
      refine ⟨p, xs, rfl, sqt_mono k1.ok.gh sq, fun p' hp => ?_⟩
      have g : Grow G1 H1 (upd G1 p' (.tup xs.reverse)) (upd H1 p' (.tup xs.reverse)) := Grow.new k1.ok.gh hp
      exact q _ e1 _ _ _ z (k1.grow g (same_upd2 k1.ok.gh)) (s1.trans (g.step k1.ok.fh)) (rep_tup.mpr ⟨p', _, rfl, .inl (.inl upd_same), (ra.rev).mono g.g⟩)
    | _ => exact z.elim⟩
def fSplit (fa fb : FE) : FE := fun en Φ => fa en fun x e1 => ∃ a, x = .str a ∧ fb e1 fun y e2 => ∃ b, y = .str b ∧ (b.length == 0) = false ∧ a.length + 2 ≤ sizeLine ∧ Φ (.lst ((Txt.split a b).map D.str)) e2
theorem de_split {o : Expr} {apos : Pos} (ho : DE X A o fa) (he : DE X A e fb) (hs : starEach [e] X.env = [(false, eval e X.env)] := by rfl) (hbase : attributeBase o "split" X.env (eval o X.env) = eval o X.env := by rfl) (hline : (apos.endLine == pos.line) = true := by rfl) :
    DE X A (.Call (.Attribute o "split" apos) [e] [] pos) (fSplit fa fb) := pe_weak (pe_split ho he hs hbase hline) fun σ H Q ⟨F, G, en, Ψ, k, h, q⟩ =>
  ⟨F, G, en, _, k, h, fun d e1 v G1 H1 z k1 s1 r1 => by
    obtain ⟨a, rfl, z⟩ := z
    cases rep_str.mp r1
    refine ⟨⟨a, rfl⟩, F, G1, e1, _, k1, z, fun d2 e2 v2 G2 H2 z2 k2 s2 r2 => ?_⟩
    obtain ⟨b, rfl, h1, h2, z2⟩ := z2
    cases rep_str.mp r2
    refine ⟨a, b, rfl, rfl, h1, h2, fun p hp => ?_⟩
    have g : Grow G2 H2 (upd G2 p (.lst ((Txt.split a b).map V.str))) (upd H2 p (.lst ((Txt.split a b).map V.str))) := Grow.new k2.ok.gh hp
    exact q _ e2 _ _ _ z2 (k2.grow g (same_upd2 k2.ok.gh)) ((s1.trans s2).trans (g.step k2.ok.fh)) (rep_lst.mpr ⟨p, _, rfl, upd_same, repA_strs _⟩)⟩
/-- truth -/
def truD : D → Option Bool
  | .non => some false
  | .bl b => some b
  | .int i => some (i != 0)
  | .tup l => some (!l.isEmpty)
  | .lst l => some (!l.isEmpty)
  | .fro l => some (!l.isEmpty)
  | _ => none
theorem empty_of {K : PySem.W.Frag} {G : Hp} {l : List D} {xs : List V} (r : RepA K G l xs) : xs.isEmpty = l.isEmpty := by
  have := r.len
  cases l <;> cases xs <;> simp_all
def fTru (fa : FE) : FT := fun en Φ => fa en fun x e => ∃ k, truD x = some k ∧ Φ k e
theorem truV_of {K : PySem.W.Frag} {G H : Hp} (gh : Same G H) : ∀ {x : D} {v : V} {k : Bool}, truD x = some k → Rep K G x v → TruV K v H k
  | .non, v, k, h, r => by cases h; rw [rep_non.mp r]; rfl
  | .bl b, v, k, h, r => by cases h; rw [rep_bl.mp r]; rfl
  | .int b, v, k, h, r => by cases h; rw [rep_int.mp r]; rfl
  | .tup l, v, k, h, r => by
    cases h
    obtain ⟨p, xs, rfl, sq, ra⟩ := rep_tup.mp r
    exact .inr (.inl ⟨xs, sqt_mono gh sq, by rw [empty_of ra]⟩)
  | .lst l, v, k, h, r => by
    cases h
    obtain ⟨p, xs, rfl, sq, ra⟩ := rep_lst.mp r
    exact .inl ⟨xs, .inl (.inl (gh _ _ sq)), by rw [empty_of ra]⟩
  | .fro l, v, k, h, r => by
    cases h
    obtain ⟨p, xs, rfl, sq, ra⟩ := rep_fro.mp r
    exact .inl ⟨xs, gh.seq sq, by rw [empty_of ra]⟩
  | .str _, _, _, h, _ => by cases h
  | .dct _ _, _, _, h, _ => by cases h
  | .ins _ _ _, _, _, h, _ => by cases h
  | .tok _, _, _, h, _ => by cases h
  | .ty _, _, _, h, _ => by cases h
  | .rng _ _, _, _, h, _ => by cases h
  | .obj _ _, _, _, h, _ => by cases h
theorem dt_truth (ha : DE X A a fa) (he : ∀ whole, isTrue a X.env whole = (do let v ← whole; standAt a.pos; holding [v] (truthy v)) := by intro _; rfl) : DT X A a (fTru fa) := pt_weak (pt_truth ha he) fun σ H Q ⟨F, G, en, Ψ, k, h, q⟩ =>
  ⟨F, G, en, _, k, h, fun d e1 v G1 H1 z k1 s1 r1 => by
    obtain ⟨b, hb, z⟩ := z
    exact ⟨b, truV_of k1.ok.gh hb r1, q b e1 G1 H1 z k1 s1⟩⟩
end
end Dz

namespace Dz
open PySem PySem.Spec PyProof.Rows L2

/-! ### by truth -/
section
variable {X : Cx} {A : Am} {e a b : Expr} {es : List Expr} {pos : Pos} {fa fb : FE} {fr : FA}
def fNotT (fa : FE) : FE := fun en Φ => fa en fun x e1 => ∃ k, truD x = some k ∧ Φ (.bl (!k)) e1
theorem de_notT (ha : DE X A a fa) : DE X A (.UnaryOp .Not a pos) (fNotT fa) := pe_weak (pe_notT ha) fun σ H Q ⟨F, G, en, Ψ, k, h, q⟩ =>
  ⟨F, G, en, _, k, h, fun d e1 v G1 H1 z k1 s1 r1 => by
    obtain ⟨b, hb, z⟩ := z
    exact ⟨b, truV_of k1.ok.gh hb r1, q _ e1 _ G1 H1 z k1 s1 (rep_bl.mpr rfl)⟩⟩
def fAndT (fa fb : FE) : FE := fun en Φ => fa en fun x e1 => ∃ k, truD x = some k ∧ if k = true then fb e1 Φ else Φ x e1
def fOrT (fa fb : FE) : FE := fun en Φ => fa en fun x e1 => ∃ k, truD x = some k ∧ if k = true then Φ x e1 else fb e1 Φ
theorem de_andT {rest : List Expr} (ha : DE X A a fa) (hb : DE X A (.BoolOp .And (b :: rest) pos) fb) : DE X A (.BoolOp .And (a :: b :: rest) pos) (fAndT fa fb) := pe_weak (pe_andT ha hb) fun σ H Q ⟨F, G, en, Ψ, k, h, q⟩ =>
  ⟨F, G, en, _, k, h, fun d e1 v G1 H1 z k1 s1 r1 => by
    obtain ⟨b, hb, z⟩ := z
    refine ⟨b, truV_of k1.ok.gh hb r1, ?_⟩
    cases b with
    | true => exact ⟨F, G1, e1, _, k1, z, fun y e2 v2 G2 H2 hr k2 s2 r2 => q y e2 v2 G2 H2 hr k2 (s1.trans s2) r2⟩
    | false => exact q _ e1 _ G1 H1 z k1 s1 r1⟩
theorem de_orT {rest : List Expr} (ha : DE X A a fa) (hb : DE X A (.BoolOp .Or (b :: rest) pos) fb) : DE X A (.BoolOp .Or (a :: b :: rest) pos) (fOrT fa fb) := pe_weak (pe_orT ha hb) fun σ H Q ⟨F, G, en, Ψ, k, h, q⟩ =>
  ⟨F, G, en, _, k, h, fun d e1 v G1 H1 z k1 s1 r1 => by
    obtain ⟨b, hb, z⟩ := z
    refine ⟨b, truV_of k1.ok.gh hb r1, ?_⟩
    cases b with
    | false => exact ⟨F, G1, e1, _, k1, z, fun y e2 v2 G2 H2 hr k2 s2 r2 => q y e2 v2 G2 H2 hr k2 (s1.trans s2) r2⟩
    | true => exact q _ e1 _ G1 H1 z k1 s1 r1⟩
end

/-! ### the draw: a list of the script and a number that goes up -/
def drawOk (ns : List Int) : HD → Prop := fun o => ∃ n : Int, o = .lst [.fro (ns.map D.int), .int n]
structure DrawIn (A : AQ) (p : Addr) (ns : List Int) : Prop where
  mem : (p, drawOk ns) ∈ A
  one : ∀ q ∈ A, q.1 = p → q = (p, drawOk ns)
  few : ns.length ≤ 63
theorem EnvOk.amb {K : PySem.W.Frag} {A : Am} {F G H : Hp} {σ : L2.St} {en : En} {p : Addr} {ns : List Int} {o : HD} {u : HO} (k : EnvOk K A F G H σ en) (d : DrawIn A.q p ns) (r : RepO K G o u) (ho : drawOk ns o) : EnvOk K A F G (upd H p u) σ en := by
  obtain ⟨c, x⟩ := k.ex
  obtain ⟨gp, _⟩ := k.ok.am _ d.mem
  have fp := k.ok.fa _ d.mem
  refine ⟨⟨⟨fun b w hb => ?_, fun b w hb => ?_, k.ok.fa, fun q hq => ?_⟩, k.ok.bz, k.ok.bg⟩, k.len, c, x.dat, fun i o e => ?_, x.inj, x.pl⟩
  · rw [upd_ne (fun z => by subst z; rw [gp] at hb; cases hb)]; exact k.ok.gh _ _ hb
  · rw [upd_ne (fun z => by subst z; rw [fp] at hb; cases hb)]; exact k.ok.fh _ _ hb
  · obtain ⟨a1, o1, u1, a2, a3, a4⟩ := k.ok.am q hq
    by_cases hqp : q.1 = p
    · have e := d.one q hq hqp
      subst e
      exact ⟨a1, o, u, upd_same, r, ho⟩
    · exact ⟨a1, o1, u1, by rw [upd_ne hqp]; exact a2, a3, a4⟩
  · obtain ⟨e1, ⟨u1, e2, e3⟩, e4, e5, e6⟩ := x.cel i o e
    exact ⟨e1, ⟨u1, by rw [upd_ne (fun z => e6 _ d.mem z.symm)]; exact e2, e3⟩, e4, e5, e6⟩
theorem EnvOk.draw {K : PySem.W.Frag} {A : Am} {F G H : Hp} {σ : L2.St} {en : En} {p : Addr} {ns : List Int} (k : EnvOk K A F G H σ en) (d : DrawIn A.q p ns) :
    ∃ (x : V) (n : Int), H p = some (.lst [x, .int n]) ∧ Rep K G (.fro (ns.map D.int)) x := by
  obtain ⟨_, o, u, e, r, n, ho⟩ := k.ok.am _ d.mem
  subst ho
  obtain ⟨xs, rfl, ra⟩ := r
  obtain ⟨x, y, rfl, p1, p2⟩ := repA_2 ra
  cases rep_int.mp p2
  exact ⟨x, n, e, p1⟩
def fDrawIx (A : Am) (i : Nat) (k : Int) : FE := fun en Φ => ∃ p ns, gt en i = .dat (.tok p) ∧ DrawIn A.q p ns ∧ ((k = 0 ∧ Φ (.fro (ns.map D.int)) en) ∨ (k = 1 ∧ ∀ n : Int, Φ (.int n) en))
section
variable {X : Cx} {A : Am} {pos : Pos}
theorem de_drawIx (i : Nat) {k : Int} {x : Str} {px pk : Pos} {j} (hN : X.N[i]? = some x := by rfl) (hv : Vis X.env.scope x := by first | exact Or.inl rfl | exact Or.inr (Or.inl rfl) | exact Or.inr (Or.inr rfl)) (hd : (x == ("__debug__" : Str)) = false := by decide)
    (hcd : (x == ("__classdict__" : Str)) = false := by decide) : DE X A (.Subscript (.Name x px) (.Constant (.int k) j pk) pos) (fDrawIx A i k) := pe_weak (pe_ix ix_list (pv i hN hv hd hcd) pe_int (fun _ _ => rfl)) fun σ H Q ⟨F, G, en, Ψ, k0, h, q⟩ => by
  obtain ⟨p, ns, eg, d, h⟩ := h
  obtain ⟨c, sl⟩ := k0.ex
  obtain ⟨v, e1, e2⟩ := sl.dat i _ eg
  cases rep_tok.mp e2
  obtain ⟨y, n, hp, ry⟩ := k0.draw d
  rcases h with ⟨rfl, h⟩ | ⟨rfl, h⟩
  · exact ⟨.ref p, e1, p, _, 0, y, rfl, rfl, .inl (.inl hp), rfl, q _ en _ G H h k0 (Step.refl _ _) ry⟩
  · exact ⟨.ref p, e1, p, _, 1, .int n, rfl, rfl, .inl (.inl hp), rfl, q _ en _ G H (h n) k0 (Step.refl _ _) (rep_int.mpr rfl)⟩
def rGetL (K : PySem.W.Frag) : V → V → Hp → VK → Prop := fun o i H Q => ∃ p xs k v, o = .ref p ∧ i = .int k ∧ SqL K H p xs ∧ 0 ≤ k ∧ xs[k.toNat]? = some v ∧ Q v H
theorem get_list : PGet X (rGetL X.K) := by
  intro pins s σ H o i ov iv Q I ro ri ⟨p, xs, k, v, eo, ei, hq, h0, hx, q⟩
  subst eo
  subst ei
  obtain rfl : ov = Value.ref p := ro
  obtain ⟨t, rfl⟩ := (show ∃ t, iv = Value.int k t from ri)
  obtain ⟨its, r, pl, hz⟩ := I.list hq
  obtain ⟨w, ew, rw'⟩ := r.get hx
  have hk : k.toNat < its.length := (List.getElem?_eq_some_iff.mp ew).1
  have hl := r.length
  have hn := line63
  exact wpAny_getItem_list pl.isList h0 (by omega) (by simpa using ew) ⟨v, H, I, rw', q⟩
def fDrawInc (A : Am) (i : Nat) : FS := fun en Ψ => ∃ p ns, gt en i = .dat (.tok p) ∧ DrawIn A.q p ns ∧ Ψ.nx en
theorem ds_drawInc (i : Nat) {x : Str} {px pk tpos p1 : Pos} {j j2} (hN : X.N[i]? = some x := by rfl) (hv : Vis X.env.scope x := by first | exact Or.inl rfl | exact Or.inr (Or.inl rfl) | exact Or.inr (Or.inr rfl)) (hd : (x == ("__debug__" : Str)) = false := by decide)
    (hcd : (x == ("__classdict__" : Str)) = false := by decide) : DS X A (.AugAssign (.Subscript (.Name x px) (.Constant (.int 1) j pk) tpos) .Add (.Constant (.int 1) j2 p1) pos) (fDrawInc A i) :=
  ps_weak (ps_augS (pv i hN hv hd hcd) pe_int get_list pe_int ip_add set_list) fun Dd σ H ⟨F, G, en, Ψ, k0, h, q1, _⟩ => by
    obtain ⟨p, ns, eg, d, h⟩ := h
    obtain ⟨c, sl⟩ := k0.ex
    obtain ⟨v, e1, e2⟩ := sl.dat i _ eg
    cases rep_tok.mp e2
    obtain ⟨y, n, hp, ry⟩ := k0.draw d
    refine ⟨.ref p, e1, p, [y, .int n], 1, .int n, rfl, rfl, .inl (.inl hp), by decide, rfl, n, 1, rfl, rfl, p, [y, .int n], 1, 1, rfl, rfl, hp, rfl, ?_⟩
    exact q1 en σ G _ h (k0.amb (o := .lst [.fro (ns.map D.int), .int (n + 1)]) d ⟨_, rfl, .cons ry (.cons (rep_int.mpr rfl) .nil)⟩ ⟨_, rfl⟩) (Step.refl _ _)
end
theorem de_constI {X : Cx} {A : Am} {x : Str} {pos : Pos} {i : Int} (hg : Gl X x) (hm : ∃ t, X.mg x = some (.int i t)) (hd : (x == ("__debug__" : Str)) = false := by decide) : DE X A (.Name x pos) (fC (.int i)) := by
  obtain ⟨t, hm⟩ := hm
  exact de_glob (v := .int i) hg hm ⟨t, rfl⟩ (fun _ => rep_int.mpr rfl) hd
/-- the facts of an own def -/
structure Own (P : Program) (w : World) (K : PySem.W.Frag) (mg : Str → Option Value) (base : Heap) (x : Str) (k : Nat) (ps : List Str) (pd : PD) : Prop where
  ex : ∃ (f : Addr) (fd : FuncData), FnOk P w K mg base CX0 k f fd ps (spD K pd) ∧ mg x = some (.ref f) ∧ PySem.W.keepIn K (.ref f) = true ∧ Binds K fd ps []
section
variable {X : Cx} {A : Am} {k : Nat} {ps : List Str} {pd : PD} {x : Str} {p pos : Pos} {e : Expr} {es : List Expr} {fr : FA}
theorem de_own (O : Own X.prog X.w X.K X.mg X.base x k ps pd) (hr : Room k X.A) (hg : Gl X x) (ha : DA X A (e :: es) fr) (hdb : (x == ("__debug__" : Str)) = false := by decide)
    (he : starEach (e :: es) X.env = (false, eval e X.env) :: starEach es X.env := by rfl) (hpl : (backTo pos (starEach es X.env)).any (·.1) = false := by rfl) : DE X A (.Call (.Name x p) (e :: es) [] pos) (fCall pd A fr) := by
  obtain ⟨f, fd, h1, h2, h3, h4⟩ := O.ex
  exact de_call h1 hr hg h2 h3 h4 ha hdb he hpl
theorem de_own0 (O : Own X.prog X.w X.K X.mg X.base x k ps pd) (hr : Room k X.A) (hg : Gl X x) (hdb : (x == ("__debug__" : Str)) = false := by decide) : DE X A (.Call (.Name x p) [] [] pos) (fCall pd A fNil) := by
  obtain ⟨f, fd, h1, h2, h3, h4⟩ := O.ex
  exact de_call0 h1 hr hg h2 h3 h4 hdb
end
theorem Own.mk' {P : Program} {w : World} {K : PySem.W.Frag} {mg : Str → Option Value} {base : Heap} {x : Str} {k : Nat} {ps : List Str} {pd : PD} {f : Addr} {fd : FuncData} (h1 : FnOk P w K mg base CX0 k f fd ps (spD K pd)) (h2 : mg x = some (.ref f)) (h3 : PySem.W.keepIn K (.ref f) = true) (h4 : Binds K fd ps []) : Own P w K mg base x k ps pd := ⟨f, fd, h1, h2, h3, h4⟩
end Dz

namespace Dz
open PySem PySem.Spec PyProof.Rows L2
/-! ### forms of comprehensions, loops and draws that one uses -/
section
variable {g : FG} {ft : FT} {fe : FE} {vs : List Nat} {e1 : En} {items : List D} {Φ : D → En → Prop}
/-- each item gives the value h -/
theorem lc_map {α : Type} (xs : List α) (enc h : α → D) (hi : items = xs.map enc) (hl : xs.length ≤ 99999)
    (turn : ∀ x ∈ xs, ∀ (J : List D → Prop) (Kk : List D → Prop) (acc : List D), (J (acc ++ [h x])) → g (enc x) (wipeE e1 vs) fun e2 => ft e2 fun b e3 =>
      if b = true then fe e3 fun d e4 => wipeE e4 vs = wipeE e1 vs ∧ J (acc ++ [d]) else wipeE e3 vs = wipeE e1 vs ∧ Kk acc)
    (done : Φ (.lst (xs.map h)) (wipeE e1 vs)) : LcGoal g ft fe vs e1 items Φ := by
  subst hi
  refine ⟨fun k acc => acc = (xs.take k).map h, rfl, fun k x acc hx ha => ?_, fun acc ha => ?_⟩
  · subst ha
    rw [List.getElem?_map] at hx
    cases hk : xs[k]? with
    | none => rw [hk] at hx; cases hx
    | some y =>
      rw [hk] at hx
      have ex : enc y = x := Option.some.inj hx
      subst ex
      have hm : y ∈ xs := List.mem_of_getElem? hk
      refine ⟨?_, turn y hm (fun acc' => acc' = (xs.take (k + 1)).map h) (fun acc' => acc' = (xs.take (k + 1)).map h) _ ?_⟩
      · rw [List.length_map, List.length_take]
        have := Nat.min_le_right k xs.length
        omega
      · rw [List.take_add_one, hk, List.map_append]
        rfl
  · subst ha
    rw [List.length_map, List.take_length]
    exact done
/-- the items that pass, with their values -/
theorem lc_filter {α : Type} (xs : List α) (enc h : α → D) (p : α → Bool) (hi : items = xs.map enc) (hl : xs.length ≤ 99999)
    (turn : ∀ x ∈ xs, ∀ (J : List D → Prop) (acc : List D), (p x = true → J (acc ++ [h x])) → (p x = false → J acc) → g (enc x) (wipeE e1 vs) fun e2 => ft e2 fun b e3 =>
      if b = true then fe e3 fun d e4 => wipeE e4 vs = wipeE e1 vs ∧ J (acc ++ [d]) else wipeE e3 vs = wipeE e1 vs ∧ J acc)
    (done : Φ (.lst ((xs.filter p).map h)) (wipeE e1 vs)) : LcGoal g ft fe vs e1 items Φ := by
  subst hi
  refine ⟨fun k acc => acc = ((xs.take k).filter p).map h, rfl, fun k x acc hx ha => ?_, fun acc ha => ?_⟩
  · subst ha
    rw [List.getElem?_map] at hx
    cases hk : xs[k]? with
    | none => rw [hk] at hx; cases hx
    | some y =>
      rw [hk] at hx
      have ex : enc y = x := Option.some.inj hx
      subst ex
      have hm : y ∈ xs := List.mem_of_getElem? hk
      refine ⟨?_, turn y hm (fun acc' => acc' = ((xs.take (k + 1)).filter p).map h) _ (fun hp => ?_) (fun hp => ?_)⟩
      · rw [List.length_map]
        have h1 := List.length_filter_le p (xs.take k)
        rw [List.length_take] at h1
        have := Nat.min_le_right k xs.length
        omega
      · rw [List.take_add_one, hk, List.filter_append, List.map_append]
        simp [hp]
      · rw [List.take_add_one, hk, List.filter_append]
        simp [hp]
  · subst ha
    rw [List.length_map, List.take_length]
    exact done
/-- each item gives some value with P (a draw) -/
theorem lc_any (Pq : D → Prop) (hl : items.length ≤ 99999)
    (turn : ∀ x ∈ items, ∀ (J : List D → Prop) (Kk : List D → Prop) (acc : List D), (∀ d, Pq d → J (acc ++ [d])) → g x (wipeE e1 vs) fun e2 => ft e2 fun b e3 =>
      if b = true then fe e3 fun d e4 => wipeE e4 vs = wipeE e1 vs ∧ J (acc ++ [d]) else wipeE e3 vs = wipeE e1 vs ∧ Kk acc)
    (done : ∀ acc, acc.length = items.length → (∀ d ∈ acc, Pq d) → Φ (.lst acc) (wipeE e1 vs)) : LcGoal g ft fe vs e1 items Φ := by
  refine ⟨fun k acc => acc.length = k ∧ k ≤ items.length ∧ ∀ d ∈ acc, Pq d, ⟨rfl, Nat.zero_le _, fun d h => nomatch h⟩, fun k x acc hx ha => ?_, fun acc ha => done acc ha.1 ha.2.2⟩
  have hk : k < items.length := (List.getElem?_eq_some_iff.mp hx).1
  refine ⟨by omega, turn x (List.mem_of_getElem? hx) (fun acc' => acc'.length = k + 1 ∧ k + 1 ≤ items.length ∧ ∀ d ∈ acc', Pq d) (fun acc' => acc'.length = k + 1 ∧ k + 1 ≤ items.length ∧ ∀ d ∈ acc', Pq d) acc fun d hd => ⟨by rw [List.length_append, ha.1]; rfl, hk, fun y hy => ?_⟩⟩
  rcases List.mem_append.mp hy with hy | hy
  · exact ha.2.2 y hy
  · rw [List.mem_singleton.mp hy]; exact hd
/-- each item keeps the list or grows it by a value with P (a drawn test) -/
theorem lc_some (Pq : D → Prop) (hl : items.length ≤ 99999)
    (turn : ∀ x ∈ items, ∀ (J : List D → Prop) (acc : List D), (∀ d, Pq d → J (acc ++ [d])) → J acc → g x (wipeE e1 vs) fun e2 => ft e2 fun b e3 =>
      if b = true then fe e3 fun d e4 => wipeE e4 vs = wipeE e1 vs ∧ J (acc ++ [d]) else wipeE e3 vs = wipeE e1 vs ∧ J acc)
    (done : ∀ acc, acc.length ≤ items.length → (∀ d ∈ acc, Pq d) → Φ (.lst acc) (wipeE e1 vs)) : LcGoal g ft fe vs e1 items Φ := by
  refine ⟨fun k acc => acc.length ≤ k ∧ k ≤ items.length ∧ ∀ d ∈ acc, Pq d, ⟨Nat.le_refl _, Nat.zero_le _, fun d h => nomatch h⟩, fun k x acc hx ha => ?_, fun acc ha => done acc ha.1 ha.2.2⟩
  have hk : k < items.length := (List.getElem?_eq_some_iff.mp hx).1
  refine ⟨by omega, turn x (List.mem_of_getElem? hx) (fun acc' => acc'.length ≤ k + 1 ∧ k + 1 ≤ items.length ∧ ∀ d ∈ acc', Pq d) acc (fun d hd => ⟨by rw [List.length_append]; show acc.length + 1 ≤ k + 1; omega, hk, fun y hy => ?_⟩) ⟨by omega, hk, ha.2.2⟩⟩
  rcases List.mem_append.mp hy with hy | hy
  · exact ha.2.2 y hy
  · rw [List.mem_singleton.mp hy]; exact hd
end
section
variable {g : FG} {fe : FE} {vs : List Nat} {e1 : En} {items : List D} {Φ : D → En → Prop}
theorem yes_eq {X Y : En → Prop} : (fun e2 => fYes e2 fun b e3 => if b = true then X e3 else Y e3) = X := funext fun e2 => by
  show (if true = true then X e2 else Y e2) = X e2
  rw [if_pos rfl]
/-- the same without tests -/
theorem lc_map0 {α : Type} (xs : List α) (enc h : α → D) (hi : items = xs.map enc) (hl : xs.length ≤ 99999)
    (turn : ∀ x ∈ xs, ∀ (J : List D → Prop) (acc : List D), (J (acc ++ [h x])) → g (enc x) (wipeE e1 vs) fun e2 => fe e2 fun d e4 => wipeE e4 vs = wipeE e1 vs ∧ J (acc ++ [d]))
    (done : Φ (.lst (xs.map h)) (wipeE e1 vs)) : LcGoal g fYes fe vs e1 items Φ := lc_map xs enc h hi hl (fun x hx J Kk acc hJ => by rw [yes_eq]; exact turn x hx J acc hJ) done
theorem lc_any0 (Pq : D → Prop) (hl : items.length ≤ 99999)
    (turn : ∀ x ∈ items, ∀ (J : List D → Prop) (acc : List D), (∀ d, Pq d → J (acc ++ [d])) → g x (wipeE e1 vs) fun e2 => fe e2 fun d e4 => wipeE e4 vs = wipeE e1 vs ∧ J (acc ++ [d]))
    (done : ∀ acc, acc.length = items.length → (∀ d ∈ acc, Pq d) → Φ (.lst acc) (wipeE e1 vs)) : LcGoal g fYes fe vs e1 items Φ := lc_any Pq hl (fun x hx J Kk acc hJ => by rw [yes_eq]; exact turn x hx J acc hJ) done
end
/-! ### some data -/
theorem plL_ints {n : Nat} : ∀ ns : List Int, plL n (ns.map D.int) = true
  | [] => by unfold plL; rfl
  | a :: r => by
    rw [List.map_cons]
    unfold plL plD
    exact plL_ints r
theorem pl_fro_ints (n : Nat) (ns : List Int) : plD (n + 1) (.fro (ns.map D.int)) = true := by
  unfold plD
  exact plL_ints ns
theorem eqL_nil {l : List D} : eqL l [] = l.isEmpty := by
  cases l <;> (unfold eqL; rfl)
/-! ### the drawn numbers -/
/-- _law_number: some int from 0 on -/
def pdNumber : PD := fun _ ds Φ => ∃ (ns : List Int) (i : Int), ds = [.fro (ns.map D.int), .int i] ∧ ns.length ≤ 63 ∧ ∀ r : Int, 0 ≤ r → Φ (.int r)
/-- _law_take: any int from 0 to below many -/
def pdTake : PD := fun A ds Φ => ∃ (p : Addr) (ns : List Int) (m : Int), ds = [.tok p, .int m] ∧ DrawIn A p ns ∧ 0 < m ∧ ∀ r : Int, 0 ≤ r → r < m → Φ (.int r)
/-- _law_pick: any item -/
def pdPick : PD := fun A ds Φ => ∃ (p : Addr) (ns : List Int) (l : List D), (ds = [.tok p, .lst l] ∨ ds = [.tok p, .tup l]) ∧ DrawIn A p ns ∧ l ≠ [] ∧ ∀ d ∈ l, Φ d
end Dz

namespace Dz
open PySem PySem.Spec PyProof.Rows L2
/-! ### list(..) of a written dict with text keys -/
def keyTxt : Value → Option Str
  | .str z _ => some z
  | _ => none
def KKeys (K : PySem.W.Frag) (w : World) (a : Addr) (ks : List Str) : Prop := ∃ es n, KDict K w a es n ∧ es.toList.map (fun e => keyTxt e.key) = ks.map some ∧ ks.length ≤ 1000
def rListKD (a : Addr) (ks : List Str) : RAD := fun xs Φ => match xs with
  | [.tok b] => a = b ∧ Φ (.lst (ks.map D.str))
  | _ => False
theorem keyTxt_rel {v : Value} {z : Str} (h : keyTxt v = some z) : RelV (.str z) v := by
  cases v <;> try (cases h; done)
  cases h
  exact ⟨_, rfl⟩
theorem callD_listK {X : Cx} {a : Addr} {ks : List Str} (T : KKeys X.K X.w a ks) (hc : X.calm = true) : CallR X (.type "list") (LRA X.K (rListKD a ks)) := by
  intro pins s σ H xs us Q I r ⟨G, ds, Ψ, gh, r1, h, q⟩
  unfold rListKD at h
  split at h
  · obtain ⟨rfl, h⟩ := h
    obtain ⟨x, rfl, p1⟩ := repA_1 r1
    cases rep_tok.mp p1
    obtain ⟨u, eu, rx⟩ := vals1 r
    subst eu
    obtain rfl : u = Value.ref a := rx
    obtain ⟨es, n, kd, hks, hl⟩ := T
    have hat : s.heap.get? a = some ⟨.type "dict", none, .dict es n, #[]⟩ := I.kIn _ _ kd.at_
    have hsz : es.size = ks.length := by
      have := congrArg List.length hks
      rw [List.length_map, List.length_map] at this
      rw [← this]; simp
    refine PySem.W.kdl_call (kdl_raw (o := ⟨.type "dict", none, .dict es n, #[]⟩) kd.low ⟨rfl, rfl, rfl⟩ rfl) (I.ok.hd hc) hat (by rw [hsz]; exact Nat.le_trans hl (by decide)) fun h' tk acc' c' hkeep hS hacc => ?_
    have hp := I.hok.fresh (Nat.le_refl s.heap.objs.size)
    have g : Grow G H (upd G s.heap.objs.size (.lst (ks.map V.str))) (upd H s.heap.objs.size (.lst (ks.map V.str))) := Grow.new gh hp
    refine ⟨.ref s.heap.objs.size, upd H s.heap.objs.size (.lst (ks.map V.str)), I.laid hkeep (Nat.le_refl _) (show ObjOk X.prog X.w _ _ _ (.lst (ks.map V.str)) from ⟨?_, acc'.toList, c', ?_, ?_⟩), rfl, q _ _ _ _ h g (same_upd2 gh) (rep_lst.mpr ⟨_, _, rfl, upd_same, repA_strs ks⟩)⟩
    · rw [List.length_map]; exact Nat.le_trans hl (by decide)
    · have el : acc'.toList.length = acc'.size := by simp
      refine vals_of_at (by rw [List.length_map, el, hacc.1, hsz]) fun j x w h1 h2 => ?_
      obtain ⟨en, hen, hw⟩ := hacc.2 j w (by rw [← Array.getElem?_toList]; exact h2)
      rw [List.getElem?_map] at h1
      cases hk : ks[j]? with
      | none => rw [hk] at h1; cases h1
      | some z =>
        rw [hk] at h1
        have ez : V.str z = x := Option.some.inj h1
        subst ez
        have e2 : (es.toList.map fun e => keyTxt e.key)[j]? = some (some z) := by
          rw [hks, List.getElem?_map, hk]; rfl
        rw [List.getElem?_map, Array.getElem?_toList, hen] at e2
        have e3 : keyTxt en.key = some z := Option.some.inj e2
        rw [hw]
        exact keyTxt_rel e3
    · rw [Array.toArray_toList]; exact hS
  · exact h.elim
end Dz

namespace Dz
open PySem PySem.Spec PyProof.Rows L2
/-! ### the law's own def: draw = [script, 0], then the rest -/
def spLaw (K : PySem.W.Frag) : Sp := fun vs H Q _ => ∃ (a : Addr) (ns : List Int), vs = [.ref a] ∧ SqL K H a (ns.map V.int) ∧ ns.length ≤ 63 ∧ ∀ H', Q (.bl true) H'
theorem pss_ex {X : Cx} {ss : List Stmt} {fb : Am → FS} (h : ∀ A, DSs X A ss (fb A)) : PSs X ss (fun Dd σ H => ∃ A, LS X.K A (fb A) Dd σ H) := ⟨fun pins s σ H Dd I ⟨A, q⟩ => (h A).run pins s σ H Dd I q⟩
section
variable {P : Program} {w : World} {K : PySem.W.Frag} {mg : Str → Option Value} {base : Heap}
theorem law_dz {s0 : Stmt} {f : Addr} {fd : FuncData} {N : List Str} {k : Nat} {fb : Am → FS} {p1 p2 p3 p4 p5 : Pos} {rest : List Stmt} (Fk : Fun K "law" "law" s0 f fd) (S : FnScope N ["script"] (defScope s0))
    (hb0 : defBody s0 = .Assign [.Name "draw" p1] (.List [.Name "script" p2, .Constant (.int 0) 0 p3] p4) p5 :: rest)
    (h1 : ∀ (cdv : Value) (Ar : Around) (outer : List PySem.Env) (s : Shared) (H : Hp) (E : XK), PS (cxOf CX0 P w K mg base N "law" (defScope s0) f cdv Ar outer s H E).nox (.Assign [.Name "draw" p1] (.List [.Name "script" p2, .Constant (.int 0) 0 p3] p4) p5) (tAsg (tLst (tCons (tVar 0) (tCons (tC (.int 0)) tNil))) (gName 1)))
    (hn : 2 ≤ N.length)
    (hb : ∀ (A : Am) (cdv : Value) (Ar : Around) (outer : List PySem.Env) (s : Shared) (H : Hp) (E : XK), Room k (Ar.deeper (envOfC "law" (defScope s0) s.heap.objs.size f cdv)) → DSs (cxOf CX0 P w K mg base N "law" (defScope s0) f cdv Ar outer s H E).nox A rest (fb A))
    (hm : ∀ (A : Am) p ns, DrawIn A.q p ns → fb A ([EV.dat (.fro (ns.map D.int)), EV.dat (.tok p)] ++ List.replicate (N.length - 2) EV.un) { nx := fun _ => False, rt := fun d => d = .bl true }) : FnOk P w K mg base CX0 (k + 1) f fd ["script"] (spLaw K) := by
  refine Fk.ok S (fun vs H Q E h => ?_) (fun cdv A outer s H vs Q E hr h => ?_)
  · obtain ⟨a, ns, rfl, _⟩ := h
    rfl
  · obtain ⟨a, ns, rfl, hS, hlen, q⟩ := h
    rw [hb0]
    refine ⟨_, pss_cons (h1 cdv A outer s H E) (pss_ex fun A' => hb A' cdv A outer s H E hr), ?_⟩
    refine ⟨.ref a, ?_, (by show 2 ≤ sizeLine; decide), fun p hp => ?_⟩
    · unfold L2.start; rfl
    · have hd : DrawIn [(p, drawOk ns)] p ns := ⟨List.mem_cons_self, fun z hz _ => List.mem_singleton.mp hz, hlen⟩
      have gH : Same H (upd H p (.lst [.ref a, .int 0])) := same_new hp
      have hro : Rep K H (.fro (ns.map D.int)) (.ref a) := rep_fro.mpr ⟨a, _, rfl, hS, RepA.ints ns⟩
      have k0 : StQ K [(p, drawOk ns)] (minus [(p, drawOk ns)] (upd H p (.lst [.ref a, .int 0]))) H (upd H p (.lst [.ref a, .int 0])) := ⟨gH, minus_same, fun z hz => minus_in hz, fun z hz => by
        rw [List.mem_singleton.mp hz]
        exact ⟨hp, .lst [.fro (ns.map D.int), .int 0], _, upd_same, ⟨_, rfl, .cons hro (.cons (rep_int.mpr rfl) .nil)⟩, 0, rfl⟩⟩
      have k1 : EnvOk K ⟨[(p, drawOk ns)], minus [(p, drawOk ns)] (upd H p (.lst [.ref a, .int 0])), H⟩ (minus [(p, drawOk ns)] (upd H p (.lst [.ref a, .int 0]))) H (upd H p (.lst [.ref a, .int 0])) (start N [.ref a]) ([EV.dat (.fro (ns.map D.int))] ++ List.replicate (N.length - 1) EV.un) := EnvOk.start (ds := [.fro (ns.map D.int)]) ⟨k0, Fro.refl _, Step.refl _ _⟩ (.cons hro .nil)
      have k2 := k1.put (i := 1) (d := .tok p) (v := .ref p) (rep_tok.mpr rfl)
      have ee : st ([EV.dat (.fro (ns.map D.int))] ++ List.replicate (N.length - 1) EV.un) 1 (.dat (.tok p)) = [EV.dat (.fro (ns.map D.int)), EV.dat (.tok p)] ++ List.replicate (N.length - 2) EV.un := by
        obtain ⟨m, hm2⟩ : ∃ m, N.length = m + 2 := ⟨N.length - 2, by omega⟩
        rw [hm2]
        rfl
      rw [ee] at k2
      exact ⟨_, _, H, _, _, k2, hm _ p ns hd, fun _ _ _ _ z => z.elim, fun d v G' H' z _ _ r => by
        have z : d = .bl true := z
        subst z
        cases rep_bl.mp r
        exact q H', fun _ _ _ _ z => z.elim, fun _ _ _ _ z => z.elim⟩
end
/-- a, b, c = e1, e2, e3 -/
def fPar3 (i j l : Nat) (fr : FA) : FS := fun en Ψ => fr en fun xs e => match xs with
  | [x, y, z] => Ψ.nx (st (st (st e i (.dat x)) j (.dat y)) l (.dat z))
  | _ => False
theorem ds_par3 {X : Cx} {A : Am} {i j l : Nat} {x y z : Str} {a b c : Expr} {fr : FA} {px py pz pt pos : Pos} {kt k2 pt2} (hc : X.calm = true) (hN : X.N.Nodup) (hi : X.N[i]? = some x) (hj : X.N[j]? = some y) (hl : X.N[l]? = some z) (hij : i ≠ j) (hil : i ≠ l) (hjl : j ≠ l)
    (hx : X.env.scope.names.lookup x = some .local) (hy : X.env.scope.names.lookup y = some .local) (hz : X.env.scope.names.lookup z = some .local) (ha : DA X A [a, b, c] fr)
    (hw : swappedStores [.Tuple [.Name x px, .Name y py, .Name z pz] kt pt] (.Tuple [a, b, c] k2 pt2) X.env = pure (some [x, y, z]) := by rfl)
    (hs : swapsWithSole [.Tuple [.Name x px, .Name y py, .Name z pz] kt pt] (.Tuple [a, b, c] k2 pt2) pos.line X.env = pure false := by rfl) :
    DS X A (.Assign [.Tuple [.Name x px, .Name y py, .Name z pz] kt pt] (.Tuple [a, b, c] k2 pt2) pos) (fPar3 i j l fr) := ps_weak (ps_par3 hc hN hi hj hl hij hil hjl hx hy hz ha hw hs) fun Dd σ H ⟨F, G, en, Ψ, k, h, q1, _⟩ =>
  ⟨F, G, en, _, k, h, fun d e1 v G1 H1 z k1 s1 r1 => by
    match d, z with
    | [d1, d2, d3], z =>
      unfold RepA at r1
      obtain ⟨v1, r, rfl, p1, r1⟩ := r1
      obtain ⟨v2, v3, rfl, p2, p3⟩ := repA_2 r1
      exact ⟨v1, v2, v3, rfl, q1 _ _ G1 H1 z (((k1.put p1).put p2).put p3) s1⟩⟩
/-! ### items at a drawn place -/
theorem atI_in {α : Type} {l : List α} {r : Int} (h0 : 0 ≤ r) (h1 : r < l.length) : ∃ d, d ∈ l ∧ atI l r = some d := by
  have hr : r.toNat < l.length := by omega
  refine ⟨l[r.toNat], List.getElem_mem hr, ?_⟩
  unfold atI ixN
  rw [if_pos h0, if_pos h1]
  show l[r.toNat]? = _
  exact List.getElem?_eq_getElem hr
end Dz

namespace Dz
open PySem PySem.Spec PyProof.Rows L2

/-! ### exceptions of own classes: a class, and its fields if it has some -/
abbrev XF := Option (List Str × List D)
/-- what is wished of one, by a caller; in a body -/
abbrev XQ := Value → XF → Prop
abbrev XW := Value → XF → En → Prop
def XQ.w (Ξ : XQ) : XW := fun c x _ => Ξ c x
def RepX (K : PySem.W.Frag) (G H : Hp) : XF → Option Addr → Prop
  | none, d => d = none
  | some (ns, l), d => ∃ a xs, d = some a ∧ H a = some (.xd (ns.zip xs)) ∧ RepA K G l xs ∧ ns.length = l.length
def WD (K : PySem.W.Frag) (A : Am) (Ξ : XW) : WX := fun c d σ H => ∃ (F G : Hp) (en : En) (x : XF), EnvOk K A F G H σ en ∧ RepX K G H x d ∧ Ξ c x en

/-! ### raise -/
def fRaise (Ξ : XW) (c : Value) (fa : FA) : FS := fun en _ => fa en fun _ e1 => Ξ c none e1
section
variable {X : Cx} {A : Am} {Ξ : XW} {C : Addr} {bmB : List Value} {B newId initId : String} {x : Str} {p p2 pos pos' : Pos} {e : Expr} {fa : FE}
/-- raise X('..') -/
theorem ds_raise {m : Str} {j : Nat} (hc : X.calm = true) (tk : Takes X (WD X.K A Ξ)) (F : ExcBaseFacts B newId initId bmB) (q : PySem.W.excIn X.K C bmB newId = true) (gC : X.mg x = some (.ref C)) (kC : PySem.W.keepIn X.K (.ref C) = true) (r : Raises X (.ref C)) (hg : Gl X x)
    (hdb : (x == ("__debug__" : Str)) = false := by decide) : DS X A (.Raise (some (.Call (.Name x p) [.Constant (.str m) j p2] [] pos)) none pos') (fRaise Ξ (.ref C) fNil) :=
  ps_weak (ps_raise hc tk (pmk_own F q gC kC r hg hdb)) fun Dd σ H ⟨F, G, en, Ψ, k, h, _⟩ => ⟨F, G, en, none, k, rfl, h⟩
end

/-! ### defs that may raise -/
abbrev PDX := AQ → List D → (D → Prop) → XQ → Prop
def spX (K : PySem.W.Frag) (pd : PDX) : Sp := fun vs H Q E => ∃ (A : AQ) (G : Hp) (ds : List D) (Ψ : D → Prop) (Ξ : XQ), StQ K A (minus A H) G H ∧ RepA K G ds vs ∧ pd A ds Ψ Ξ ∧
  (∀ d v G' H', Ψ d → StQ K A (minus A H) G' H' → Step (minus A H) G G' → Rep K G' d v → Q v H') ∧
  ∀ c x d G' H', Ξ c x → StQ K A (minus A H) G' H' → Step (minus A H) G G' → RepX K G' H' x d → E c d H'
/-- from a body: the state of the caller is as it was where the body began, and more -/
theorem WD.out {K : PySem.W.Frag} {A : AQ} {H G : Hp} {Ξ : XQ} {c : Value} {d : Option Addr} {σ : L2.St} {H' : Hp} (h : WD K ⟨A, minus A H, G⟩ Ξ.w c d σ H') :
    ∃ G' x, Ξ c x ∧ StQ K A (minus A H) G' H' ∧ Step (minus A H) G G' ∧ RepX K G' H' x d := by
  obtain ⟨F, G', en, x, k, r, q⟩ := h
  exact ⟨G', x, q, ⟨k.ok.gh, k.ok.bs.trans k.ok.fh, fun q hq => minus_in hq, k.ok.am⟩, k.ok.bg, r⟩
section
variable {P : Program} {w : World} {K : PySem.W.Frag} {mg : Str → Option Value} {base : Heap}
theorem fn_dzx {x qual : Str} {s0 : Stmt} {f : Addr} {fd : FuncData} {N ps : List Str} {k : Nat} {pd : PDX} {fb : Am → XW → FS} (Fk : Fun K x qual s0 f fd) (S : FnScope N ps (defScope s0)) (hlen : ∀ A ds Ψ Ξ, pd A ds Ψ Ξ → ds.length = ps.length)
    (hb : ∀ (A : Am) (Ξ : XW) (cdv : Value) (Ar : Around) (outer : List PySem.Env) (s : Shared) (H : Hp) (E : XK), Room k (Ar.deeper (envOfC qual (defScope s0) s.heap.objs.size f cdv)) →
      Takes (cxOf (L2.CX P w) P w K mg base N qual (defScope s0) f cdv Ar outer s H E) (WD K A Ξ) → DSs (cxOf (L2.CX P w) P w K mg base N qual (defScope s0) f cdv Ar outer s H E) A (defBody s0) (fb A Ξ))
    (hm : ∀ (A : Am) ds Ψ (Ξ : XQ), pd A.q ds Ψ Ξ → fb A Ξ.w (ds.map EV.dat ++ List.replicate (N.length - ds.length) EV.un) { nx := fun _ => Ψ .non, rt := Ψ }) : FnOk P w K mg base (L2.CX P w) (k + 1) f fd ps (spX K pd) := by
  refine Fk.okX S (fun vs H Q E h => ?_) (fun cdv A outer s H vs Q E hr h => ?_)
  · obtain ⟨A, G, ds, Ψ, Ξ, _, r, hp, _⟩ := h
    rw [r.len]
    exact hlen A ds Ψ Ξ hp
  · obtain ⟨Am', G, ds, Ψ, Ξ, k0, r, hp, q, qx⟩ := h
    have tk : Takes (cxOf (L2.CX P w) P w K mg base N qual (defScope s0) f cdv A outer s H E) (WD K ⟨Am', minus Am' H, G⟩ Ξ.w) := (takes_of rfl rfl rfl rfl).imp fun c d σ H' z => by
      obtain ⟨G', x, z1, z2, z3, z4⟩ := z.out
      exact qx c x d G' H' z1 z2 z3 z4
    refine ⟨_, hb ⟨Am', minus Am' H, G⟩ Ξ.w cdv A outer s H E hr tk, minus Am' H, G, _, _, EnvOk.start ⟨k0, Fro.refl _, Step.refl _ _⟩ r, hm ⟨Am', minus Am' H, G⟩ ds Ψ Ξ hp, fun e σ' G' H' hn k1 s1 => ?_, fun d v G' H' hd k1 s1 r1 => ?_, fun _ _ _ _ z => z.elim, fun _ _ _ _ z => z.elim⟩
    · exact q .non .non G' H' hn k1.ok.st s1 (rep_non.mpr rfl)
    · exact q d v G' H' hd k1.st s1 r1
end
def fCallX (pd : PDX) (A : Am) (Ξ : XW) (fr : FA) : FE := fun en Φ => fr en fun ds e => pd A.q ds (fun d => Φ d e) (fun c x => Ξ c x e)
def fCallN (pd : PDX) (A : Am) (fr : FA) : FE := fun en Φ => fr en fun ds e => pd A.q ds (fun d => Φ d e) (fun _ _ => False)
/-- the facts of an own def that may raise -/
structure OwnX (P : Program) (w : World) (K : PySem.W.Frag) (mg : Str → Option Value) (base : Heap) (x : Str) (k : Nat) (ps : List Str) (pd : PDX) : Prop where
  ex : ∃ (f : Addr) (fd : FuncData), FnOk P w K mg base (L2.CX P w) k f fd ps (spX K pd) ∧ mg x = some (.ref f) ∧ PySem.W.keepIn K (.ref f) = true ∧ Binds K fd ps []
section
variable {X : Cx} {A : Am} {k : Nat} {ps : List Str} {pd : PDX} {x : Str} {p pos : Pos} {e : Expr} {es : List Expr} {fr : FA} {Ξ : XW}
theorem le_callX {σ : L2.St} {H : Hp} {Q : VK} {K : PySem.W.Frag} (h : LE K A (fCallX pd A Ξ fr) σ H Q) : tCallS (spX K pd) (WE (WD K A Ξ)) (LA K A fr) σ H Q := by
  obtain ⟨F, G, en, Ψ, k, h, q⟩ := h
  refine ⟨F, G, en, _, k, h, fun ds e1 vs G1 H1 hp k1 s1 r1 => ?_⟩
  refine ⟨A.q, G1, ds, _, _, k1.ok.call, r1, hp, fun d v G2 H2 hd k2 s2 r2 => ?_, fun c x d G2 H2 hx k2 s2 r2 => ?_⟩
  · obtain ⟨k3, s3⟩ := k1.called k2 s2
    exact q d e1 v G2 H2 hd k3 (s1.trans s3) r2
  · obtain ⟨k3, s3⟩ := k1.called k2 s2
    exact ⟨F, G2, e1, x, k3, r2, hx⟩
theorem le_callN {σ : L2.St} {H : Hp} {Q : VK} {K : PySem.W.Frag} (h : LE K A (fCallN pd A fr) σ H Q) : tCall (spX K pd) [] E0 (LA K A fr) σ H Q := by
  obtain ⟨F, G, en, Ψ, k, h, q⟩ := h
  refine ⟨F, G, en, _, k, h, fun ds e1 vs G1 H1 hp k1 s1 r1 => ?_⟩
  show spX K pd (vs ++ []) H1 Q E0
  rw [List.append_nil]
  refine ⟨A.q, G1, ds, _, _, k1.ok.call, r1, hp, fun d v G2 H2 hd k2 s2 r2 => ?_, fun c x d G2 H2 hx k2 s2 r2 => hx.elim⟩
  obtain ⟨k3, s3⟩ := k1.called k2 s2
  exact q d e1 v G2 H2 hd k3 (s1.trans s3) r2
theorem de_ownX (O : OwnX X.prog X.w X.K X.mg X.base x k ps pd) (tk : Takes X (WD X.K A Ξ)) (hr : Room k X.A) (hg : Gl X x) (ha : DA X A (e :: es) fr) (hdb : (x == ("__debug__" : Str)) = false := by decide)
    (he : starEach (e :: es) X.env = (false, eval e X.env) :: starEach es X.env := by rfl) (hpl : (backTo pos (starEach es X.env)).any (·.1) = false := by rfl) : DE X A (.Call (.Name x p) (e :: es) [] pos) (fCallX pd A Ξ fr) := by
  obtain ⟨f, fd, h1, h2, h3, h4⟩ := O.ex
  exact pe_weak (pe_callS h1 hr hg h2 h3 h4 (fun σ => passAt tk σ) ha hdb he hpl) fun _ _ _ h => le_callX h
theorem de_ownN (O : OwnX X.prog X.w X.K X.mg X.base x k ps pd) (hr : Room k X.A) (hg : Gl X x) (ha : DA X A (e :: es) fr) (hdb : (x == ("__debug__" : Str)) = false := by decide)
    (he : starEach (e :: es) X.env = (false, eval e X.env) :: starEach es X.env := by rfl) (hpl : (backTo pos (starEach es X.env)).any (·.1) = false := by rfl) : DE X A (.Call (.Name x p) (e :: es) [] pos) (fCallN pd A fr) := by
  obtain ⟨f, fd, h1, h2, h3, h4⟩ := O.ex
  exact pe_weak (pe_call h1 hr hg h2 h3 h4 .nil passL ha hdb he hpl) fun _ _ _ h => le_callN h
end

/-! ### raise with a made text -/
def fRaise1 (Ξ : XW) (c : Value) (fa : FE) : FS := fun en _ => fa en fun _ e1 => Ξ c none e1
section
variable {X : Cx} {A : Am} {Ξ : XW} {C : Addr} {bmB : List Value} {B newId initId : String} {x : Str} {p p2 pos pos' : Pos} {e : Expr} {fa : FE}
theorem ds_raise1 (hc : X.calm = true) (tk : Takes X (WD X.K A Ξ)) (F : ExcBaseFacts B newId initId bmB) (q : PySem.W.excIn X.K C bmB newId = true) (gC : X.mg x = some (.ref C)) (kC : PySem.W.keepIn X.K (.ref C) = true) (r : Raises X (.ref C)) (hg : Gl X x)
    (he : DE X A e fa) (hs : starEach [e] X.env = (false, eval e X.env) :: starEach [] X.env := by rfl) (hdb : (x == ("__debug__" : Str)) = false := by decide) : DS X A (.Raise (some (.Call (.Name x p) [e] [] pos)) none pos') (fRaise1 Ξ (.ref C) fa) :=
  ps_weak (ps_raise hc tk (SkE.pmk_own1 F q gC kC r hg he hs hdb)) fun Dd σ H ⟨F, G, en, Ψ, k, h, _⟩ => ⟨F, G, en, _, k, h, fun d e1 v G1 H1 z k1 s1 r1 => ⟨F, G1, e1, none, k1, rfl, z⟩⟩
end

/-! ### try -/
section
variable {K : PySem.W.Frag} {A : Am} {F G H F1 G1 H1 : Hp} {σ : L2.St} {en : En}
/-- the body begins here -/
theorem EnvOk.rebase (k : EnvOk K A F G H σ en) : EnvOk K ⟨A.q, F, G⟩ F G H σ en := by
  obtain ⟨c, x⟩ := k.ex
  exact ⟨⟨k.ok.st, Fro.refl _, Step.refl _ _⟩, k.len, c, x.dat, x.cel, x.inj, x.pl⟩
theorem EnvOk.back (k0 : StOk K A F G H) (k : EnvOk K ⟨A.q, F, G⟩ F G1 H1 σ en) (s : Step F G G1) : EnvOk K A F G1 H1 σ en := by
  obtain ⟨c, x⟩ := k.ex
  exact ⟨⟨k.ok.st, k0.bz, k0.bg.trans (s.less k0.bs)⟩, k.len, c, x.dat, x.cel, x.inj, x.pl⟩
/-- the frame of the beginning -/
theorem EnvOk.shrink (k : EnvOk K A F G H σ en) : EnvOk K A A.F0 G H σ en := by
  obtain ⟨c, x⟩ := k.ex
  refine ⟨⟨⟨k.ok.gh, k.ok.bs.trans k.ok.fh, fun q hq => k.ok.bs.free (k.ok.fa q hq), k.ok.am⟩, Fro.refl _, k.ok.bg⟩, k.len, c, x.dat, fun i o e => ?_, x.inj, x.pl⟩
  obtain ⟨e1, e2, e3, e4, e5⟩ := x.cel i o e
  exact ⟨e1, e2, e3, k.ok.bs.free e4, e5⟩
end
/-- what the clause 'except c' wishes -/
def xOnly (K : PySem.W.Frag) (c : Value) (fh : Hp → Hp → Addr → Value → Option Addr → FS) (Ξ : XW) (Ψ : Ed) : XW := fun cls x e => ∃ b, PySem.W.exmOne K cls c = some b ∧ (b = true → ∀ a d F G, (x = none → d = none) → fh F G a cls d e Ψ) ∧ (b = false → Ξ cls x e)
def xAs (K : PySem.W.Frag) (c : Value) (i : Nat) (fh : Hp → Hp → Addr → Value → Option Addr → FS) (Ξ : XW) (Ψ : Ed) : XW := fun cls x e => ∃ b, PySem.W.exmOne K cls c = some b ∧
  (b = true → ∀ a d F G, (x = none → d = none) → fh F G a cls d (st e i (.dat (.tok a))) { nx := fun e' => Ψ.nx (st e' i .un), rt := Ψ.rt, bk := fun e' => Ψ.bk (st e' i .un), ct := fun e' => Ψ.ct (st e' i .un) }) ∧ (b = false → Ξ cls x e)
def fTryOnly (K : PySem.W.Frag) (c : Value) (fb : Hp → Hp → XW → FS) (fh : Hp → Hp → Addr → Value → Option Addr → FS) (Ξ : XW) : FS := fun en Ψ => ∀ F G, fb F G (xOnly K c fh Ξ Ψ) en Ψ
def fTryAs (K : PySem.W.Frag) (c : Value) (i : Nat) (fb : Hp → Hp → XW → FS) (fh : Hp → Hp → Addr → Value → Option Addr → FS) (Ξ : XW) : FS := fun en Ψ => ∀ F G, fb F G (xAs K c i fh Ξ Ψ) en Ψ
section
variable {X : Cx} {A : Am} {Ξ : XW} {x n : Str} {c : Value} {i : Nat} {body suite : List Stmt} {b₀ : Stmt} {np pos pos' : Pos} {fb : Hp → Hp → XW → FS} {fh : Hp → Hp → Addr → Value → Option Addr → FS}
theorem ds_try_only (hs : X.stack = X.env :: X.outer) (hf : X.env.frame = some X.env.locals) (hc : Names X x c) (tk : Takes X (WD X.K A Ξ))
    (hb : ∀ (F G : Hp) (Ξ' : XW) (pn : List (Addr × Obj)) (xe : Value → Shared → Prop), Takes (X.tr pn xe) (WD X.K ⟨A.q, F, G⟩ Ξ') → PassesOwn (model X.prog X.w) X.A X.env xe → DSs (X.tr pn xe) ⟨A.q, F, G⟩ body (fb F G Ξ'))
    (hsu : ∀ (F G : Hp) (a : Addr) (oe : Obj) (cls : Value) (d : Option Addr) (pn : List (Addr × Obj)), Zc cls d oe → (∃ vs, oe.data = .fields vs) → DSs (X.suite a ((a, oe) :: pn)) ⟨A.q, F, G⟩ (b₀ :: suite) (fh F G a cls d)) :
    DS X A (.Try body [.ExceptHandler (some (.Name x np)) none (b₀ :: suite) pos'] [] [] pos) (fTryOnly X.K c fb fh Ξ) :=
  ps_weak (ps_try_only (tb := fun W Dd σ H => ∃ F G Ξ', (∀ c d σ H, WD X.K ⟨A.q, F, G⟩ Ξ' c d σ H → W c d σ H) ∧ LS X.K ⟨A.q, F, G⟩ (fb F G Ξ') Dd σ H) (ts := fun a cls d Dd σ H => ∃ F G, LS X.K ⟨A.q, F, G⟩ (fh F G a cls d) Dd σ H) hs hf hc tk
    (fun W pn xe tkW po => ⟨fun pins s σ H Dd I ⟨F, G, Ξ', hw, q⟩ => (hb F G Ξ' pn xe (tkW.imp hw) po).run pins s σ H Dd I q⟩)
    (fun a oe cls d pn z1 z2 => ⟨fun pins s σ H Dd I ⟨F, G, q⟩ => (hsu F G a oe cls d pn z1 z2).run pins s σ H Dd I q⟩)) fun Dd σ H ⟨F, G, en, Ψ, k, h, q1, q2, q3, q4⟩ => by
    refine ⟨F, G, xOnly X.K c fh Ξ Ψ, fun cls d σ1 H1 ⟨F1, G1, e1, xf, k1, r1, b, hb1, hyes, hno⟩ => ?_, F, G, en, Ψ, k.rebase, h F G, fun e σ' G' H' z k' s' => q1 e σ' G' H' z (k'.back k.ok s') s', ?_, fun e σ' G' H' z k' s' => q3 e σ' G' H' z (k'.back k.ok s') s', fun e σ' G' H' z k' s' => q4 e σ' G' H' z (k'.back k.ok s') s'⟩
    · have k2 : EnvOk X.K ⟨A.q, F, G⟩ F G1 H1 σ1 e1 := k1.shrink
      have s2 : Step F G G1 := k1.ok.bg
      refine ⟨b, hb1, fun hbt a ha => ?_, fun hbf => ⟨F, G1, e1, xf, k2.back k.ok s2, r1, hno hbf⟩⟩
      refine ⟨F, G1, F, G1, e1, Ψ, k2.rebase, hyes hbt a d F G1 (fun hx => by subst hx; exact r1), fun e σ' G' H' z k' s' => q1 e σ' G' H' z ((k'.back k2.ok s').back k.ok (s2.trans s')) (s2.trans s'), ?_, fun e σ' G' H' z k' s' => q3 e σ' G' H' z ((k'.back k2.ok s').back k.ok (s2.trans s')) (s2.trans s'), fun e σ' G' H' z k' s' => q4 e σ' G' H' z ((k'.back k2.ok s').back k.ok (s2.trans s')) (s2.trans s')⟩
      intro d v G' H' z k' s' r'
      exact q2 d v G' H' z ⟨k'.st, k.ok.bz, k.ok.bg.trans ((s2.trans s').less k.ok.bs)⟩ (s2.trans s') r'
    · intro d v G' H' z k' s' r'
      exact q2 d v G' H' z ⟨k'.st, k.ok.bz, k.ok.bg.trans (s'.less k.ok.bs)⟩ s' r'
theorem ds_try_as (hs : X.stack = X.env :: X.outer) (hf : X.env.frame = some X.env.locals) (hN : X.N.Nodup) (hi : X.N[i]? = some n) (hln : X.env.kindOf n = some .local) (hc : Names X x c) (tk : Takes X (WD X.K A Ξ))
    (hb : ∀ (F G : Hp) (Ξ' : XW) (pn : List (Addr × Obj)) (xe : Value → Shared → Prop), Takes (X.tr pn xe) (WD X.K ⟨A.q, F, G⟩ Ξ') → PassesOwn (model X.prog X.w) X.A X.env xe → DSs (X.tr pn xe) ⟨A.q, F, G⟩ body (fb F G Ξ'))
    (hsu : ∀ (F G : Hp) (a : Addr) (oe : Obj) (cls : Value) (d : Option Addr) (pn : List (Addr × Obj)), Zc cls d oe → (∃ vs, oe.data = .fields vs) → DSs (X.suite a ((a, oe) :: pn)) ⟨A.q, F, G⟩ (b₀ :: suite) (fh F G a cls d)) :
    DS X A (.Try body [.ExceptHandler (some (.Name x np)) (some n) (b₀ :: suite) pos'] [] [] pos) (fTryAs X.K c i fb fh Ξ) :=
  ps_weak (ps_try_as (tb := fun W Dd σ H => ∃ F G Ξ', (∀ c d σ H, WD X.K ⟨A.q, F, G⟩ Ξ' c d σ H → W c d σ H) ∧ LS X.K ⟨A.q, F, G⟩ (fb F G Ξ') Dd σ H) (ts := fun a cls d Dd σ H => ∃ F G, LS X.K ⟨A.q, F, G⟩ (fh F G a cls d) Dd σ H) hs hf hN hi hln hc tk
    (fun W pn xe tkW po => ⟨fun pins s σ H Dd I ⟨F, G, Ξ', hw, q⟩ => (hb F G Ξ' pn xe (tkW.imp hw) po).run pins s σ H Dd I q⟩)
    (fun a oe cls d pn z1 z2 => ⟨fun pins s σ H Dd I ⟨F, G, q⟩ => (hsu F G a oe cls d pn z1 z2).run pins s σ H Dd I q⟩)) fun Dd σ H ⟨F, G, en, Ψ, k, h, q1, q2, q3, q4⟩ => by
    refine ⟨F, G, xAs X.K c i fh Ξ Ψ, fun cls d σ1 H1 ⟨F1, G1, e1, xf, k1, r1, b, hb1, hyes, hno⟩ => ?_, F, G, en, Ψ, k.rebase, h F G, fun e σ' G' H' z k' s' => q1 e σ' G' H' z (k'.back k.ok s') s', ?_, fun e σ' G' H' z k' s' => q3 e σ' G' H' z (k'.back k.ok s') s', fun e σ' G' H' z k' s' => q4 e σ' G' H' z (k'.back k.ok s') s'⟩
    · have k2 : EnvOk X.K ⟨A.q, F, G⟩ F G1 H1 σ1 e1 := k1.shrink
      have s2 : Step F G G1 := k1.ok.bg
      refine ⟨b, hb1, fun hbt a ha => ?_, fun hbf => ⟨F, G1, e1, xf, k2.back k.ok s2, r1, hno hbf⟩⟩
      have k3 := (k2.put (i := i) (d := .tok a) (v := .ref a) (rep_tok.mpr rfl)).rebase
      refine ⟨F, G1, F, G1, _, _, k3, hyes hbt a d F G1 (fun hx => by subst hx; exact r1), fun e σ' G' H' z k' s' => q1 _ _ G' H' z ((k'.back k2.ok s').back k.ok (s2.trans s')).forget (s2.trans s'), ?_, fun e σ' G' H' z k' s' => q3 _ _ G' H' z ((k'.back k2.ok s').back k.ok (s2.trans s')).forget (s2.trans s'), fun e σ' G' H' z k' s' => q4 _ _ G' H' z ((k'.back k2.ok s').back k.ok (s2.trans s')).forget (s2.trans s')⟩
      intro d v G' H' z k' s' r'
      exact q2 d v G' H' z ⟨k'.st, k.ok.bz, k.ok.bg.trans ((s2.trans s').less k.ok.bs)⟩ (s2.trans s') r'
    · intro d v G' H' z k' s' r'
      exact q2 d v G' H' z ⟨k'.st, k.ok.bz, k.ok.bg.trans (s'.less k.ok.bs)⟩ s' r'
end

/-! ### f-strings -/
def fFmt (fe : FE) : FE := fun en Φ => fe en fun x e1 => (∃ y : Str, x = .str y ∧ y.length ≤ 100000 ∧ Φ (.str y) e1) ∨ ∃ i : Int, x = .int i ∧ i.natAbs.log2 < 1920 ∧ Φ (.str (toString i)) e1
def fJs : List FE → Str → FE
  | [], acc => fun en Φ => Φ (.str acc) en
  | f :: fs, acc => fun en Φ => f en fun x e1 => ∃ y : Str, x = .str y ∧ (acc ++ y).length ≤ 100000 ∧ fJs fs (acc ++ y) e1 Φ
inductive DJ (X : Cx) (A : Am) : List Expr → List FE → Prop where
  | nil : DJ X A [] []
  | cons {e : Expr} {f : FE} {es : List Expr} {fs : List FE} (h : DE X A e f) (r : DJ X A es fs) : DJ X A (e :: es) (f :: fs)
section
variable {X : Cx} {A : Am} {e v1 v2 : Expr} {rest : List Expr} {fe : FE} {pos : Pos} {fs : List FE}
theorem de_fmt (he : DE X A e fe) : DE X A (.FormattedValue e (-1) none pos) (fFmt fe) := pe_weak (pe_fmt he) fun σ H Q ⟨F, G, en, Ψ, k, h, q⟩ =>
  ⟨F, G, en, _, k, h, fun x e1 v G1 H1 z k1 s1 r1 => by
    rcases z with ⟨y, rfl, hz, z⟩ | ⟨i, rfl, hz, z⟩
    · cases rep_str.mp r1
      exact .inl ⟨y, rfl, sz_of hz, q _ e1 _ G1 H1 z k1 s1 (rep_str.mpr rfl)⟩
    · cases rep_int.mp r1
      exact .inr ⟨i, rfl, hz, q _ e1 _ G1 H1 z k1 s1 (rep_str.mpr rfl)⟩⟩
theorem dj_pj {es : List Expr} (h : DJ X A es fs) : PJ X es (fs.map (LE X.K A)) := by
  induction h with
  | nil => exact .nil
  | cons h r ih => exact .cons h ih
theorem le_js {K : PySem.W.Frag} : ∀ (fs : List FE) (acc : Str) (σ : L2.St) (H : Hp) (Q : VK), LE K A (fJs fs acc) σ H Q → tJs (fs.map (LE K A)) acc σ H fun out H1 => Q (.str out) H1
  | [], acc, σ, H, Q, ⟨F, G, en, Ψ, k, h, q⟩ => q _ en _ G H h k (Step.refl _ _) (rep_str.mpr rfl)
  | f :: fs, acc, σ, H, Q, ⟨F, G, en, Ψ, k, h, q⟩ => ⟨F, G, en, _, k, h, fun x e1 v G1 H1 z k1 s1 r1 => by
    obtain ⟨y, rfl, hz, z⟩ := z
    cases rep_str.mp r1
    exact ⟨y, rfl, sz_of hz, le_js fs (acc ++ y) σ H1 Q ⟨F, G1, e1, Ψ, k1, z, fun d e2 v2 G2 H2 z2 k2 s2 r2 => q d e2 v2 G2 H2 z2 k2 (s1.trans s2) r2⟩⟩⟩
theorem de_join (h : DJ X A (v1 :: v2 :: rest) fs) : DE X A (.JoinedStr (v1 :: v2 :: rest) pos) (fJs fs Str.empty) := pe_weak (pe_joined (dj_pj h)) fun σ H Q h => le_js fs _ σ H Q h
end
end Dz

namespace Dz
open PySem PySem.Spec PyProof.Rows L2

/-! ### instances of own classes -/
def fldD : List Str → List D → Str → Option D
  | n :: ns, d :: l, f => if n = f then some d else fldD ns l f
  | _, _, _ => none
theorem lookup_zip {K : PySem.W.Frag} {G : Hp} {f : Str} : ∀ {ns : List Str} {l : List D} {xs : List V} {d : D}, RepA K G l xs → fldD ns l f = some d → ∃ v, (ns.zip xs).lookup f = some v ∧ Rep K G d v
  | [], _, _, _, _, h => by cases h
  | _ :: _, [], _, _, _, h => by cases h
  | n :: ns, d' :: l, xs, d, r, h => by
    unfold RepA at r
    obtain ⟨x, t, rfl, r1, r2⟩ := r
    unfold fldD at h
    rw [List.zip_cons_cons, List.lookup_cons]
    by_cases hn : n = f
    · rw [if_pos hn] at h
      cases h
      subst hn
      rw [beq_self_eq_true]
      exact ⟨x, rfl, r1⟩
    · rw [if_neg hn] at h
      have : (f == n) = false := by
        rw [beq_eq_false_iff_ne]
        exact fun z => hn z.symm
      rw [this]
      exact lookup_zip r2 h
theorem lookup_zip_no {f : Str} : ∀ {ns : List Str} {xs : List V}, f ∉ ns → (ns.zip xs).lookup f = none
  | [], _, _ => by simp
  | _ :: _, [], _ => by simp
  | n :: ns, x :: xs, h => by
    rw [List.zip_cons_cons, List.lookup_cons]
    have : (f == n) = false := by
      rw [beq_eq_false_iff_ne]
      intro z
      subst z
      exact h List.mem_cons_self
    rw [this]
    exact lookup_zip_no fun z => h (List.mem_cons_of_mem _ z)
theorem putF_zip {f : Str} {v : V} : ∀ {ns : List Str} {xs : List V}, ns.length = xs.length → f ∉ ns → putF f v (ns.zip xs) = (ns ++ [f]).zip (xs ++ [v])
  | [], [], _, _ => rfl
  | [], _ :: _, h, _ => by cases h
  | _ :: _, [], h, _ => by cases h
  | n :: ns, x :: xs, h, hn => by
    rw [List.zip_cons_cons, List.cons_append, List.cons_append, List.zip_cons_cons]
    show (if n = f then _ else _) = _
    rw [if_neg (show ¬ n = f from fun z => hn (by rw [z]; exact List.mem_cons_self))]
    rw [putF_zip (by simpa using h) fun z => hn (List.mem_cons_of_mem _ z)]
/-- e.f -/
def fFld (C : Addr) (f : Str) (fa : FE) : FE := fun en Φ => fa en fun x e1 => ∃ ns l d, x = .ins C ns l ∧ fldD ns l f = some d ∧ Φ d e1
section
variable {X : Cx} {A : Am} {C : Addr} {f : Str} {e o value : Expr} {pos pos' px : Pos} {fa fv : FE}
theorem de_fld (c : Cls X.K C) (n : NoAttr X.K C f) (ha : DE X A e fa) (hb : attributeBase e f X.env (eval e X.env) = eval e X.env := by rfl) : DE X A (.Attribute e f pos) (fFld C f fa) := pe_weak (pe_fld ha hb) fun σ H Q ⟨F, G, en, Ψ, k, h, q⟩ =>
  ⟨F, G, en, _, k, h, fun x e1 v G1 H1 z k1 s1 r1 => by
    obtain ⟨ns, l, d, rfl, hd, z⟩ := z
    obtain ⟨a, dx, xs, rfl, ha, ra, hl⟩ := rep_ins.mp r1
    obtain ⟨w, e2, r2⟩ := lookup_zip ra hd
    exact ⟨a, C, dx, _, w, rfl, k1.ok.gh _ _ ha, c, n, e2, q d e1 w G1 H1 z k1 s1 r2⟩⟩
/-- self.f = value, the first time -/
def fFput (C : Addr) (i : Nat) (f : Str) (fv : FE) : FS := fun en Ψ => fv en fun d e1 => ∃ p dx ns l, gt e1 i = .cel (.me p C dx ns l) ∧ f ∉ ns ∧ ns.length < 1000 ∧ Ψ.nx (st e1 i (.cel (.me p C dx (ns ++ [f]) (l ++ [d]))))
theorem ds_fput {i : Nat} {x : Str} (c : Cls X.K C) (n : NoAttr X.K C f) (hN : X.N[i]? = some x) (hv : Vis X.env.scope x) (he : DE X A value fv) (hd : (x == ("__debug__" : Str)) = false := by decide) (hcd : (x == ("__classdict__" : Str)) = false := by decide)
    (hs : swapsWith value (some (.Attribute (.Name x px) f pos')) pos.line X.env = pure false := by rfl) : DS X A (.Assign [.Attribute (.Name x px) f pos'] value pos) (fFput C i f fv) :=
  ps_weak (ps_fld (pv i hN hv hd hcd) he hs) fun Dd σ H ⟨F, G, en, Ψ, k, h, q1, _⟩ => ⟨F, G, en, _, k, h, fun d e1 v G1 H1 z k1 s1 r1 => by
    obtain ⟨p, dx, ns, l, eg, hf, hlen, z⟩ := z
    obtain ⟨sl, x⟩ := k1.ex
    have hp := x.pl i _ eg
    obtain ⟨f1, ⟨u, f2, f3⟩, _⟩ := x.cel i _ eg
    have hp : sl i = p := hp
    rw [hp] at f1 f2
    obtain ⟨xs, rfl, ra, hl⟩ := f3
    refine ⟨.ref p, f1, p, C, dx, _, rfl, f2, c, n, ?_, ?_⟩
    · rw [List.length_zip]
      exact Nat.lt_of_le_of_lt (Nat.min_le_left _ _) hlen
    · rw [putF_zip (hl.trans ra.len.symm) hf]
      exact q1 _ _ G1 _ z (k1.alter (u' := .ins C dx ((ns ++ [f]).zip (xs ++ [v]))) eg f1 ⟨_, rfl, ra.app (.cons r1 .nil), by simp only [List.length_append, hl, List.length_singleton]⟩ rfl) s1⟩
end

/-! ### making an instance -/
def hide (p : Addr) (F : Hp) : Hp := fun a => if a = p then none else F a
theorem hide_same {p : Addr} {F : Hp} : Same (hide p F) F := fun a u h => by
  unfold hide at h
  split at h
  · cases h
  · exact h
theorem hide_at {p : Addr} {F : Hp} : hide p F p = none := by unfold hide; rw [if_pos rfl]
theorem hide_ne {p a : Addr} {F : Hp} (h : a ≠ p) : hide p F a = F a := by unfold hide; rw [if_neg h]
/-- what an __init__ promises: the names and values of the fields that it leaves -/
abbrev PDI := AQ → List D → (List Str → List D → Prop) → XQ → Prop
def spI (K : PySem.W.Frag) (C : Addr) (pd : PDI) : Sp := fun vs H Q E => ∃ (A : AQ) (G : Hp) (p dx : Addr) (ds : List D) (vs' : List V) (Ψ : List Str → List D → Prop) (Ξ : XQ), vs = .ref p :: vs' ∧ H p = some (.ins C dx []) ∧
  StQ K A (hide p (minus A H)) G H ∧ G p = none ∧ (∀ q ∈ A, q.1 ≠ p) ∧ RepA K G ds vs' ∧ pd A ds Ψ Ξ ∧
  (∀ ns l G' H', Ψ ns l → StQ K A (hide p (minus A H)) G' H' → Step (hide p (minus A H)) G G' → G' p = none → (∃ xs, H' p = some (.ins C dx (ns.zip xs)) ∧ RepA K G' l xs ∧ ns.length = l.length) → Q .non H') ∧
  ∀ c x d G' H', Ξ c x → StQ K A (hide p (minus A H)) G' H' → Step (hide p (minus A H)) G G' → RepX K G' H' x d → E c d H'
theorem gt_cons0 {e : EV} {en : En} : gt (e :: en) 0 = e := rfl
theorem EnvOk.startI {K : PySem.W.Frag} {A : Am} {F G H : Hp} {p C dx : Addr} {ds : List D} {vs : List V} {N : List Str} (k : StOk K A F G H) (hp : H p = some (.ins C dx [])) (gp : G p = none) (fp : F p = none) (ap : ∀ q ∈ A.q, q.1 ≠ p) (r : RepA K G ds vs) :
    EnvOk K A F G H (L2.start N (.ref p :: vs)) (.cel (.me p C dx [] []) :: (ds.map EV.dat ++ List.replicate (N.length - (ds.length + 1)) EV.un)) := by
  have hl := r.len
  refine ⟨k, ?_, fun _ => p, fun i d e => ?_, fun i o e => ?_, fun i j o u e1 e2 _ => ?_, fun i o e => ?_⟩
  · unfold L2.start
    simp only [List.length_append, List.length_map, List.length_replicate, List.length_cons, hl]
    omega
  · cases i with
    | zero => cases e
    | succ i =>
      obtain ⟨d', h1, h2⟩ := gt_dat (ds := ds) (show gt (ds.map EV.dat ++ List.replicate (N.length - (ds.length + 1)) EV.un) i = .dat d from e) (by intro z; cases z)
      cases h1
      obtain ⟨v, e1, e2⟩ := r.get h2
      refine ⟨v, ?_, e2⟩
      unfold L2.start
      have hi : i < vs.length := (List.getElem?_eq_some_iff.mp e1).1
      rw [List.getElem?_append_left (by rw [List.length_map, List.length_cons]; omega), List.getElem?_map, List.getElem?_cons_succ, e1]
      rfl
  · cases i with
    | zero =>
      cases e
      refine ⟨?_, ⟨_, hp, [], rfl, .nil, rfl⟩, gp, fp, ap⟩
      unfold L2.start
      rfl
    | succ i =>
      obtain ⟨d', h1, _⟩ := gt_dat (ds := ds) (show gt (ds.map EV.dat ++ List.replicate (N.length - (ds.length + 1)) EV.un) i = .cel o from e) (by intro z; cases z)
      cases h1
  · have z : ∀ (i : Nat) (o : HD), gt (.cel (.me p C dx [] []) :: (ds.map EV.dat ++ List.replicate (N.length - (ds.length + 1)) EV.un)) i = .cel o → i = 0 := fun i o e => by
      cases i with
      | zero => rfl
      | succ i =>
        obtain ⟨d', h1, _⟩ := gt_dat (ds := ds) (show gt (ds.map EV.dat ++ List.replicate (N.length - (ds.length + 1)) EV.un) i = .cel o from e) (by intro z; cases z)
        cases h1
    rw [z i o e1, z j u e2]
  · cases i with
    | zero => cases e; exact rfl
    | succ i =>
      obtain ⟨d', h1, _⟩ := gt_dat (ds := ds) (show gt (ds.map EV.dat ++ List.replicate (N.length - (ds.length + 1)) EV.un) i = .cel o from e) (by intro z; cases z)
      cases h1
section
variable {P : Program} {w : World} {K : PySem.W.Frag} {mg : Str → Option Value} {base : Heap}
theorem fn_dzi {C : Addr} {x qual : Str} {s0 : Stmt} {f : Addr} {fd : FuncData} {N ps : List Str} {k : Nat} {pd : PDI} {fb : Am → XW → FS} (Fk : Fun K x qual s0 f fd) (S : FnScope N ps (defScope s0)) (hlen : ∀ A ds Ψ Ξ, pd A ds Ψ Ξ → ds.length + 1 = ps.length)
    (hb : ∀ (A : Am) (Ξ : XW) (cdv : Value) (Ar : Around) (outer : List PySem.Env) (s : Shared) (H : Hp) (E : XK), Room k (Ar.deeper (envOfC qual (defScope s0) s.heap.objs.size f cdv)) →
      Takes (cxOf (L2.CX P w) P w K mg base N qual (defScope s0) f cdv Ar outer s H E) (WD K A Ξ) → DSs (cxOf (L2.CX P w) P w K mg base N qual (defScope s0) f cdv Ar outer s H E) A (defBody s0) (fb A Ξ))
    (hm : ∀ (A : Am) ds Ψ (Ξ : XQ) p dx, pd A.q ds Ψ Ξ → fb A Ξ.w (.cel (.me p C dx [] []) :: (ds.map EV.dat ++ List.replicate (N.length - (ds.length + 1)) EV.un)) { nx := fun e => ∃ ns l, gt e 0 = .cel (.me p C dx ns l) ∧ Ψ ns l, rt := fun _ => False }) :
    FnOk P w K mg base (L2.CX P w) (k + 1) f fd ps (spI K C pd) := by
  refine Fk.okX S (fun vs H Q E h => ?_) (fun cdv A outer s H vs Q E hr h => ?_)
  · obtain ⟨A, G, p, dx, ds, vs', Ψ, Ξ, rfl, _, _, _, _, r, hp, _⟩ := h
    rw [List.length_cons, r.len]
    exact hlen A ds Ψ Ξ hp
  · obtain ⟨Aq, G, p, dx, ds, vs', Ψ, Ξ, rfl, hp, k0, gp, ap, r, hpd, q, qx⟩ := h
    have tk : Takes (cxOf (L2.CX P w) P w K mg base N qual (defScope s0) f cdv A outer s H E) (WD K ⟨Aq, hide p (minus Aq H), G⟩ Ξ.w) := (takes_of rfl rfl rfl rfl).imp fun c d σ H' z => by
      obtain ⟨F, G', en, x, k1, r1, z1⟩ := z
      exact qx c x d G' H' z1 ⟨k1.ok.gh, k1.ok.bs.trans k1.ok.fh, fun q hq => k1.ok.bs.free (k1.ok.fa q hq), k1.ok.am⟩ k1.ok.bg r1
    refine ⟨_, hb ⟨Aq, hide p (minus Aq H), G⟩ Ξ.w cdv A outer s H E hr tk, hide p (minus Aq H), G, _, _, EnvOk.startI (A := ⟨Aq, hide p (minus Aq H), G⟩) ⟨k0, Fro.refl _, Step.refl _ _⟩ hp gp hide_at ap r, hm ⟨Aq, hide p (minus Aq H), G⟩ ds Ψ Ξ p dx hpd, fun e σ' G' H' hn k1 s1 => ?_, fun d v G' H' hd k1 s1 r1 => hd.elim, fun _ _ _ _ z => z.elim, fun _ _ _ _ z => z.elim⟩
    obtain ⟨ns, l, eg, hz⟩ := hn
    obtain ⟨c, x⟩ := k1.ex
    have e1 : c 0 = p := x.pl 0 _ eg
    obtain ⟨_, ⟨u, e2, xs, eu, ra, hl⟩, e4, _⟩ := x.cel 0 _ eg
    rw [e1] at e2 e4
    subst eu
    exact q ns l G' H' hz k1.ok.st s1 e4 ⟨xs, e2, ra, hl⟩
end
def fMakeX (C : Addr) (pd : PDI) (A : Am) (Ξ : XW) (fr : FA) : FE := fun en Φ => fr en fun ds e => pd A.q ds (fun ns l => Φ (.ins C ns l) e) (fun c x => Ξ c x e)
def fMakeN (C : Addr) (pd : PDI) (A : Am) (fr : FA) : FE := fun en Φ => fr en fun ds e => pd A.q ds (fun ns l => Φ (.ins C ns l) e) (fun _ _ => False)
structure MkX (P : Program) (w : World) (K : PySem.W.Frag) (mg : Str → Option Value) (base : Heap) (x : Str) (C : Addr) (k : Nat) (ps : List Str) (pd : PDI) : Prop where
  gl : mg x = some (.ref C)
  cls : Cls K C
  ex : ∃ (f : Addr) (fd : FuncData), FnOk P w K mg base (L2.CX P w) k f fd ps (spI K C pd) ∧ Mk K C f ∧ Binds K fd ps []
section
variable {K : PySem.W.Frag} {A : Am} {F G H : Hp} {σ : L2.St} {en : En} {C x dx : Addr}
theorem make_same {H : Hp} {x dx C : Addr} (hx : H x = none) (hdx : H dx = none) : Same H (upd (upd H dx (.own x)) x (.ins C dx [])) := fun b u hb => by
  rw [upd_ne (fun z => by rw [z, hx] at hb; cases hb), upd_ne (fun z => by rw [z, hdx] at hb; cases hb)]
  exact hb
theorem make_in {H' : Hp} (k : EnvOk K A F G H σ en) (hx : H x = none) (hdx : H dx = none) (e : H' = upd (upd H dx (.own x)) x (.ins C dx [])) : StQ K A.q (hide x (minus A.q H')) G H' ∧ Same H H' ∧ G x = none ∧ (∀ q ∈ A.q, q.1 ≠ x) ∧ H' x = some (.ins C dx []) := by
  have s1 : Same H H' := by rw [e]; exact make_same hx hdx
  refine ⟨⟨k.ok.gh.trans s1, hide_same.trans minus_same, fun q hq => ?_, fun q hq => ?_⟩, s1, k.ok.gh.free hx, fun q hq z => ?_, ?_⟩
  · by_cases h : q.1 = x
    · rw [h]; exact hide_at
    · rw [hide_ne h]; exact minus_in hq
  · obtain ⟨a1, o, u, a2, a3, a4⟩ := k.ok.am q hq
    exact ⟨a1, o, u, s1 _ _ a2, a3, a4⟩
  · obtain ⟨_, _, u, a2, _⟩ := k.ok.am q hq
    rw [z, hx] at a2; cases a2
  · rw [e, upd_same]
theorem make_less {H H' : Hp} {q : AQ} (s : Same H H') (hx : H x = none) : Same (minus q H) (hide x (minus q H')) := fun a u h => by
  have hH : H a = some u := minus_same _ _ h
  have ne : a ≠ x := fun z => by rw [z, hx] at hH; cases hH
  rw [hide_ne ne]
  unfold minus at h ⊢
  split at h
  · cases h
  · rename_i hn
    rw [if_neg hn]
    exact s _ _ hH
/-- the object is made: it stands still from now on -/
theorem make_out {H' G1 H1 : Hp} {ns : List Str} {l : List D} {xs : List V} (k : EnvOk K A F G H σ en) (s : Same H H') (hx : H x = none) (ap : ∀ q ∈ A.q, q.1 ≠ x) (k1 : StQ K A.q (hide x (minus A.q H')) G1 H1) (s1 : Step (hide x (minus A.q H')) G G1) (g1 : G1 x = none)
    (hp : H1 x = some (.ins C dx (ns.zip xs))) (ra : RepA K G1 l xs) (hl : ns.length = l.length) : ∃ G2, EnvOk K A F G2 H1 σ en ∧ Step F G G2 ∧ Rep K G2 (.ins C ns l) (.ref x) := by
  have sg : Same G1 (upd G1 x (.ins C dx (ns.zip xs))) := same_new g1
  have kk : StQ K A.q (minus A.q H) (upd G1 x (.ins C dx (ns.zip xs))) H1 := ⟨fun b u hb => by
    by_cases h : b = x
    · subst h; rw [upd_same] at hb; cases hb; exact hp
    · rw [upd_ne h] at hb; exact k1.gh _ _ hb, (make_less s hx).trans k1.fh, fun q hq => minus_in hq, fun q hq => by
    obtain ⟨a1, o, u, a2, a3, a4⟩ := k1.am q hq
    exact ⟨by rw [upd_ne (ap q hq)]; exact a1, o, u, a2, a3.mono sg, a4⟩⟩
  have ss : Step (minus A.q H) G (upd G1 x (.ins C dx (ns.zip xs))) := ⟨fun z => (s1.n z).new (fun _ z => by cases z), s1.g.trans sg, fun a u h => by
    have hH : H a = some u := minus_same _ _ h
    rw [upd_ne (fun z => by rw [z, hx] at hH; cases hH)]
    exact s1.f a u (make_less s hx _ _ h)⟩
  obtain ⟨k2, s2⟩ := k.called kk ss
  exact ⟨_, k2, s2, rep_ins.mpr ⟨x, dx, xs, rfl, upd_same, ra.mono sg, hl⟩⟩
theorem make_outX {H' G1 H1 : Hp} (k : EnvOk K A F G H σ en) (s : Same H H') (hx : H x = none) (k1 : StQ K A.q (hide x (minus A.q H')) G1 H1) (s1 : Step (hide x (minus A.q H')) G G1) : EnvOk K A F G1 H1 σ en ∧ Step F G G1 :=
  k.called ⟨k1.gh, (make_less s hx).trans k1.fh, fun q hq => minus_in hq, k1.am⟩ (s1.less (make_less s hx))
end
section
variable {X : Cx} {A : Am} {k : Nat} {C : Addr} {ps : List Str} {pd : PDI} {x : Str} {p pos : Pos} {e : Expr} {es : List Expr} {fr : FA} {Ξ : XW}
theorem le_makeN {σ : L2.St} {H : Hp} {Q : VK} {K : PySem.W.Frag} (h : LE K A (fMakeN C pd A fr) σ H Q) : tMake C (spI K C pd) [] E0 (LA K A fr) σ H Q := by
  obtain ⟨F, G, en, Ψ, k, h, q⟩ := h
  refine ⟨F, G, en, _, k, h, fun ds e1 vs G1 H1 hp k1 s1 r1 => fun x dx hx hdx hne => ?_⟩
  rw [List.append_nil]
  obtain ⟨m1, m2, m3, m4, m5⟩ := make_in (C := C) k1 hx hdx rfl
  refine ⟨A.q, G1, x, dx, ds, vs, _, _, rfl, m5, m1, m3, m4, r1, hp, fun ns l G2 H2 hz k2 s2 g2 ⟨xs, h2, ra, hl⟩ => ⟨rfl, ?_⟩, fun c x d G2 H2 hx k2 s2 r2 => hx.elim⟩
  obtain ⟨G3, k3, s3, r3⟩ := make_out k1 m2 hx m4 k2 s2 g2 h2 ra hl
  exact q _ e1 _ G3 H2 hz k3 (s1.trans s3) r3
theorem de_mkN (O : MkX X.prog X.w X.K X.mg X.base x C k ps pd) (hr : Room (k + 1) X.A) (hg : Gl X x) (ha : DA X A (e :: es) fr) (hdb : (x == ("__debug__" : Str)) = false := by decide)
    (he : starEach (e :: es) X.env = (false, eval e X.env) :: starEach es X.env := by rfl) (hpl : (backTo pos (starEach es X.env)).any (·.1) = false := by rfl) : DE X A (.Call (.Name x p) (e :: es) [] pos) (fMakeN C pd A fr) := by
  obtain ⟨f, fd, h1, h2, h3⟩ := O.ex
  exact pe_weak (pe_make h2 h1 hr hg O.gl h3 .nil passL ha hdb he hpl) fun _ _ _ h => le_makeN h
/-- .. where it may be refused -/
def tMakeS (C : Addr) (sp : Sp) (E : L2.St → XK) (t : TA) : TE := fun σ H Q => t σ H fun vs H1 => ∀ x dx, H1 x = none → H1 dx = none → dx ≠ x →
  sp (.ref x :: vs) (upd (upd H1 dx (.own x)) x (.ins C dx [])) (fun v H2 => v = .non ∧ Q (.ref x) H2) (E σ)
theorem pe_makeS {CX : CXT} {f : Addr} {fd : FuncData} {sp : Sp} {E : L2.St → XK} {t : TA} (M : Mk X.K C f) (F : FnOk X.prog X.w X.K X.mg X.base CX k f fd ps sp) (hr : Room (k + 1) X.A) (hg : Gl X x) (hm : X.mg x = some (.ref C)) (hb : Binds X.K fd ps []) (hx : ∀ σ, PassesAt CX X σ (E σ))
    (ha : PA X (e :: es) t) (hdb : (x == ("__debug__" : Str)) = false := by decide) (he : starEach (e :: es) X.env = (false, eval e X.env) :: starEach es X.env := by rfl) (hpl : (backTo pos (starEach es X.env)).any (·.1) = false := by rfl) :
    PE X (.Call (.Name x p) (e :: es) [] pos) (tMakeS C sp E t) := by
  refine ⟨fun pins s σ H Q I h => ?_⟩
  refine wpAny_Call_Name_kw (ld_glob I hg hm ?_ hdb)
  refine PySem.W.callWith_K (h₀ := X.base) I.ok.mod.kin M.kp (thn (ha.run pos pins s σ H _ I h) fun us s1 ⟨vs, H1, I1, r, q⟩ => ⟨I1.kIn, ?_⟩) he hpl
  have hq := q (s1.heap.objs.size + 1) s1.heap.objs.size (I1.hok.fresh (Nat.le_succ _)) (I1.hok.fresh (Nat.le_refl _)) (Nat.ne_of_lt (Nat.lt_succ_self _))
  have I2 := Inv.made (C := C) I1
  have r2 : Vals (V.ref (s1.heap.objs.size + 1) :: vs) (Value.ref (s1.heap.objs.size + 1) :: us) := .cons rfl r
  have hl : (Value.ref (s1.heap.objs.size + 1) :: us).length = ps.length := by
    have e := r2.length
    rw [F.len _ _ _ _ hq] at e
    exact e.symm
  have b := hb _ (Value.ref (s1.heap.objs.size + 1) :: us) I2.kIn (by rw [List.append_nil]; exact hl)
  rw [List.append_nil] at b
  refine wpAny_call (make_map (f := f) I1.kIn M.makes M.init (beq_iff_eq.mp M.fn) (codeAny_mono (F.run _ X.stack _ _ ⟨Value.ref (s1.heap.objs.size + 1) :: us, []⟩ (Value.ref (s1.heap.objs.size + 1) :: us) _ _ (E σ) (hr.make C us [])
    (I2.env0.make C us []) b r2 hq) fun r s' hq' => ?_))
  cases r with
  | error e => exact hx σ pins _ _ e s' I2 hq'
  | ok fl =>
    cases fl with
    | ret u =>
      obtain ⟨v, H', I3, rv, ev, q3⟩ := I2.after hq'
      subst ev
      exact ⟨rv, ⟨V.ref (s1.heap.objs.size + 1), H', I3, rfl, q3⟩⟩
    | next => exact False.elim hq'
    | brk => exact False.elim hq'
    | cont => exact False.elim hq'
theorem le_makeX {σ : L2.St} {H : Hp} {Q : VK} {K : PySem.W.Frag} (h : LE K A (fMakeX C pd A Ξ fr) σ H Q) : tMakeS C (spI K C pd) (WE (WD K A Ξ)) (LA K A fr) σ H Q := by
  obtain ⟨F, G, en, Ψ, k, h, q⟩ := h
  refine ⟨F, G, en, _, k, h, fun ds e1 vs G1 H1 hp k1 s1 r1 => fun x dx hx hdx hne => ?_⟩
  obtain ⟨m1, m2, m3, m4, m5⟩ := make_in (C := C) k1 hx hdx rfl
  refine ⟨A.q, G1, x, dx, ds, vs, _, _, rfl, m5, m1, m3, m4, r1, hp, fun ns l G2 H2 hz k2 s2 g2 ⟨xs, h2, ra, hl⟩ => ⟨rfl, ?_⟩, fun c y d G2 H2 hxx k2 s2 r2 => ?_⟩
  · obtain ⟨G3, k3, s3, r3⟩ := make_out k1 m2 hx m4 k2 s2 g2 h2 ra hl
    exact q _ e1 _ G3 H2 hz k3 (s1.trans s3) r3
  · obtain ⟨k3, s3⟩ := make_outX k1 m2 hx k2 s2
    exact ⟨F, G2, e1, y, k3, r2, hxx⟩
theorem de_mkX (O : MkX X.prog X.w X.K X.mg X.base x C k ps pd) (tk : Takes X (WD X.K A Ξ)) (hr : Room (k + 1) X.A) (hg : Gl X x) (ha : DA X A (e :: es) fr) (hdb : (x == ("__debug__" : Str)) = false := by decide)
    (he : starEach (e :: es) X.env = (false, eval e X.env) :: starEach es X.env := by rfl) (hpl : (backTo pos (starEach es X.env)).any (·.1) = false := by rfl) : DE X A (.Call (.Name x p) (e :: es) [] pos) (fMakeX C pd A Ξ fr) := by
  obtain ⟨f, fd, h1, h2, h3⟩ := O.ex
  exact pe_weak (pe_makeS h2 h1 hr hg O.gl h3 (fun σ => passAt tk σ) ha hdb he hpl) fun _ _ _ h => le_makeX h
end
end Dz

namespace PySem.W
open PySem PySem.Calls PyProof.Rows
section
variable {prog : Program} {w : World} {A : Around} {E : Value → Shared → Prop} {s : Shared} {K : Frag} {x y C L f : Addr} {h₀ : Heap} {m : Str → Option Value} {ox oy : Obj} {od od' : Option Obj}
/-- a binary operator on two objects of one class -/
theorem own_binII {op : Operator} {Q : Value → Shared → Prop} (F : Fr h₀ L s.heap m) (X₀ : K.In h₀) (I : InstAt s.heap x ox C od) (J : InstAt s.heap y oy C od') (hc : selfFirst K C = true)
    (hs : findIn K (.ref C) (PySem.dunder op.info.2) = some (some (.ref f))) (hf : isFn K (.ref f) = true)
    (h : wpAny (model prog w) A (call (.ref f) [.ref x, .ref y]) (CmpBack Q) E s) : wpAny (model prog w) A (binaryOp op (.ref x) (.ref y)) Q E s := by
  have X := X₀.keeps F.keep
  obtain ⟨cd, rest, hcd, hm⟩ := ksp_first hc
  rcases hi : op.info with ⟨sym, nm'⟩
  rw [hi] at hs
  dsimp only at hs
  have one := ksp_try X I hs hf h
  obtain ⟨hh, g, d, tt, os⟩ := s
  have L1 : Looks (model prog w) hh (typeOf (.ref x)) (.ref C) := I.type
  have L2 : Looks (model prog w) hh (typeOf (.ref y)) (.ref C) := J.type
  have L3 : Looks (model prog w) hh (fillsNumberSlot (.ref C) nm') true := fills_K X hcd hm hs
  simp only [binaryOp, hi]
  refine wpAny_holding (wpAny_bind ?_)
  unfold binaryOp1
  refine wpAny_bind (L1.at (wpAny_bind (L2.at (wpAny_bind (L3.at ?_)))))
  simp only [beq_self_eq_true, Bool.false_eq_true, if_true, if_false]
  ksp_lk
  refine wpAny_mono one (fun r s' hr' => ?_) fun _ _ e => e
  obtain ⟨v, rfl, hq⟩ := hr'
  ksp_lk
  exact hq
end
end PySem.W
namespace Dz
open PySem PySem.Spec PyProof.Rows L2

/-! ### methods -/
structure MthD (P : Program) (w : World) (K : PySem.W.Frag) (mg : Str → Option Value) (base : Heap) (C : Addr) (m : Str) (k : Nat) (ps : List Str) (pd : PD) : Prop where
  ex : ∃ (f : Addr) (fd : FuncData), FnOk P w K mg base CX0 k f fd ps (spD K pd) ∧ Meth K C m f ∧ Binds K fd ps []
structure MthX (P : Program) (w : World) (K : PySem.W.Frag) (mg : Str → Option Value) (base : Heap) (C : Addr) (m : Str) (k : Nat) (ps : List Str) (pd : PDX) : Prop where
  ex : ∃ (f : Addr) (fd : FuncData), FnOk P w K mg base (L2.CX P w) k f fd ps (spX K pd) ∧ Meth K C m f ∧ Binds K fd ps []
/-- a promise that lets nothing out, as one that may -/
def PD.x (pd : PD) : PDX := fun A ds Ψ _ => pd A ds Ψ
theorem passC {X : Cx} : Passes CX0 X E0 := pass0

def fMeth (C : Addr) (m : Str) (pd : PD) (A : Am) (fa : FE) (fr : FA) : FE := fun en Φ => fa en fun x e1 => ∃ ns l, x = .ins C ns l ∧ m ∉ ns ∧ fr e1 fun ds e2 => pd A.q (x :: ds) fun d => Φ d e2
def fMethN (C : Addr) (m : Str) (pd : PDX) (A : Am) (fa : FE) (fr : FA) : FE := fun en Φ => fa en fun x e1 => ∃ ns l, x = .ins C ns l ∧ m ∉ ns ∧ fr e1 fun ds e2 => pd A.q (x :: ds) (fun d => Φ d e2) fun _ _ => False
section
variable {X : Cx} {A : Am} {C : Addr} {m : Str} {k : Nat} {ps : List Str} {pd : PD} {pdx : PDX} {e o : Expr} {es : List Expr} {pos apos : Pos} {fa fb : FE} {fr : FA} {Ξ : XW}
theorem le_meth {E : XK} {σ : L2.St} {H : Hp} {Q : VK} {K : PySem.W.Frag} (h : LE K A (fMeth C m pd A fa fr) σ H Q) : tMeth C m (spD K pd) [] E (LE K A fa) (LA K A fr) σ H Q := by
  obtain ⟨F, G, en, Ψ, k, h, q⟩ := h
  refine ⟨F, G, en, _, k, h, fun x e1 v G1 H1 z k1 s1 r1 => ?_⟩
  obtain ⟨ns, l, rfl, hm, z⟩ := z
  obtain ⟨a, dx, xs, rfl, ha, ra, hl⟩ := rep_ins.mp r1
  refine ⟨a, dx, _, rfl, k1.ok.gh _ _ ha, lookup_zip_no hm, F, G1, e1, _, k1, z, fun ds e2 vs G2 H2 hp k2 s2 r2 => ?_⟩
  show spD K pd (V.ref a :: (vs ++ [])) H2 Q E
  rw [List.append_nil]
  refine ⟨A.q, G2, _, _, k2.ok.call, .cons (r1.mono s2.g) r2, hp, fun d v G3 H3 hd k3 s3 r3 => ?_⟩
  obtain ⟨k4, s4⟩ := k2.called k3 s3
  exact q d e2 v G3 H3 hd k4 ((s1.trans s2).trans s4) r3
theorem le_methN {σ : L2.St} {H : Hp} {Q : VK} {K : PySem.W.Frag} (h : LE K A (fMethN C m pdx A fa fr) σ H Q) : tMeth C m (spX K pdx) [] E0 (LE K A fa) (LA K A fr) σ H Q := by
  obtain ⟨F, G, en, Ψ, k, h, q⟩ := h
  refine ⟨F, G, en, _, k, h, fun x e1 v G1 H1 z k1 s1 r1 => ?_⟩
  obtain ⟨ns, l, rfl, hm, z⟩ := z
  obtain ⟨a, dx, xs, rfl, ha, ra, hl⟩ := rep_ins.mp r1
  refine ⟨a, dx, _, rfl, k1.ok.gh _ _ ha, lookup_zip_no hm, F, G1, e1, _, k1, z, fun ds e2 vs G2 H2 hp k2 s2 r2 => ?_⟩
  show spX K pdx (V.ref a :: (vs ++ [])) H2 Q E0
  rw [List.append_nil]
  refine ⟨A.q, G2, _, _, _, k2.ok.call, .cons (r1.mono s2.g) r2, hp, fun d v G3 H3 hd k3 s3 r3 => ?_, fun c y d G3 H3 hx _ _ _ => hx.elim⟩
  obtain ⟨k4, s4⟩ := k2.called k3 s3
  exact q d e2 v G3 H3 hd k4 ((s1.trans s2).trans s4) r3
theorem de_meth {pl : Sem Bool} (O : MthD X.prog X.w X.K X.mg X.base C m k ps pd) (c : Cls X.K C) (hr : Room k X.A) (he : DE X A o fa) (ha : DA X A (e :: es) fr)
    (hst : starEach (e :: es) X.env = (false, eval e X.env) :: starEach es X.env := by rfl) (hpl : (backTo pos (starEach es X.env)).any (·.1) = false := by rfl)
    (ht : eval (.Call (.Attribute o m apos) (e :: es) [] pos) X.env = (do
      let ov ← eval o X.env
      standAt apos.atName
      let (f, first) ← holding [ov] (getMethod ov m pl)
      callWith pos f first (backTo pos (starEach (e :: es) X.env)) (backToKw pos (keywordEach [] X.env))) := by rfl) : DE X A (.Call (.Attribute o m apos) (e :: es) [] pos) (fMeth C m pd A fa fr) := by
  obtain ⟨f, fd, h1, h2, h3⟩ := O.ex
  exact pe_weak (pe_meth he c h2 h1 hr h3 .nil pass0 ha hst hpl ht) fun _ _ _ h => le_meth h
theorem de_methN {pl : Sem Bool} (O : MthX X.prog X.w X.K X.mg X.base C m k ps pdx) (c : Cls X.K C) (hr : Room k X.A) (he : DE X A o fa) (ha : DA X A (e :: es) fr)
    (hst : starEach (e :: es) X.env = (false, eval e X.env) :: starEach es X.env := by rfl) (hpl : (backTo pos (starEach es X.env)).any (·.1) = false := by rfl)
    (ht : eval (.Call (.Attribute o m apos) (e :: es) [] pos) X.env = (do
      let ov ← eval o X.env
      standAt apos.atName
      let (f, first) ← holding [ov] (getMethod ov m pl)
      callWith pos f first (backTo pos (starEach (e :: es) X.env)) (backToKw pos (keywordEach [] X.env))) := by rfl) : DE X A (.Call (.Attribute o m apos) (e :: es) [] pos) (fMethN C m pdx A fa fr) := by
  obtain ⟨f, fd, h1, h2, h3⟩ := O.ex
  exact pe_weak (pe_meth he c h2 h1 hr h3 .nil passL ha hst hpl ht) fun _ _ _ h => le_methN h
theorem de_meth0 {pl : Sem Bool} (O : MthD X.prog X.w X.K X.mg X.base C m k ps pd) (c : Cls X.K C) (hr : Room k X.A) (he : DE X A o fa)
    (ht : eval (.Call (.Attribute o m apos) [] [] pos) X.env = (do
      let ov ← eval o X.env
      standAt apos.atName
      let (f, first) ← holding [ov] (getMethod ov m pl)
      callWith pos f first (backTo pos (starEach [] X.env)) (backToKw pos (keywordEach [] X.env))) := by rfl) : DE X A (.Call (.Attribute o m apos) [] [] pos) (fMeth C m pd A fa fNil) := by
  obtain ⟨f, fd, h1, h2, h3⟩ := O.ex
  refine pe_weak (pe_meth0 he c h2 h1 hr h3 .nil pass0 ht) fun σ H Q h => ?_
  obtain ⟨F, G, en, Ψ, k, h, q⟩ := h
  refine ⟨F, G, en, _, k, h, fun x e1 v G1 H1 z k1 s1 r1 => ?_⟩
  obtain ⟨ns, l, rfl, hm, z⟩ := z
  obtain ⟨a, dx, xs, rfl, ha, ra, hl⟩ := rep_ins.mp r1
  refine ⟨a, dx, _, rfl, k1.ok.gh _ _ ha, lookup_zip_no hm, ?_⟩
  show spD X.K pd ([V.ref a] ++ []) H1 Q E0
  refine ⟨A.q, G1, _, _, k1.ok.call, .cons r1 .nil, z, fun d v G3 H3 hd k3 s3 r3 => ?_⟩
  obtain ⟨k4, s4⟩ := k1.called k3 s3
  exact q d e1 v G3 H3 hd k4 (s1.trans s4) r3
/-- o.f, a property -/
def fProp (C : Addr) (pd : PD) (A : Am) (fa : FE) : FE := fun en Φ => fa en fun x e1 => ∃ ns l, x = .ins C ns l ∧ pd A.q [x] fun d => Φ d e1
structure PropD (P : Program) (w : World) (K : PySem.W.Frag) (mg : Str → Option Value) (base : Heap) (C : Addr) (f : Str) (k : Nat) (ps : List Str) (pd : PD) : Prop where
  ex : ∃ (p g : Addr) (fd : FuncData), FnOk P w K mg base CX0 k g fd ps (spD K pd) ∧ PropOf K C f p g ∧ Binds K fd ps []
theorem de_prop {f : Str} (O : PropD X.prog X.w X.K X.mg X.base C f k ps pd) (c : Cls X.K C) (hr : Room (k + 1) X.A) (he : DE X A e fa)
    (hab : attributeBase e f X.env (eval e X.env) = eval e X.env := by rfl) : DE X A (.Attribute e f pos) (fProp C pd A fa) := by
  obtain ⟨p, g, fd, h1, h2, h3⟩ := O.ex
  refine pe_weak (pe_prop he c h2 h1 hr h3 .nil pass0 hab) fun σ H Q h => ?_
  obtain ⟨F, G, en, Ψ, k, h, q⟩ := h
  refine ⟨F, G, en, _, k, h, fun x e1 v G1 H1 z k1 s1 r1 => ?_⟩
  obtain ⟨ns, l, rfl, z⟩ := z
  obtain ⟨a, dx, xs, rfl, ha, ra, hl⟩ := rep_ins.mp r1
  refine ⟨a, dx, _, rfl, k1.ok.gh _ _ ha, ?_⟩
  refine ⟨A.q, G1, _, _, k1.ok.call, .cons r1 .nil, z, fun d v G3 H3 hd k3 s3 r3 => ?_⟩
  obtain ⟨k4, s4⟩ := k1.called k3 s3
  exact q d e1 v G3 H3 hd k4 (s1.trans s4) r3
end

/-! ### operators of own classes -/
theorem relV_ni {z : V} (r : RelV z .notImplemented) : False := by
  cases z <;> first | (cases r; done) | (obtain ⟨t, e⟩ := r; cases e)
theorem cmpBack_EP {X : Cx} {pins : List (Addr × Obj)} {σ : L2.St} {Q : VK} {u : Value} {s : Shared} (h : EP X pins σ Q u s) : PySem.W.CmpBack (EP X pins σ Q) u s := by
  obtain ⟨z, H', I, r, q⟩ := h
  cases u <;> first | exact (relV_ni r).elim | exact ⟨z, H', I, r, q⟩
section
variable {X : Cx} {CX : CXT} {C f : Addr} {fd : FuncData} {k : Nat} {ps : List Str} {sp : Sp} {a b : Expr} {pos : Pos} {ta tb : TE}
/-- a op b by an own method, which may raise -/
def tBinO (C : Addr) (sp : Sp) (E : L2.St → XK) (ta tb : TE) : TE := fun σ H Q => ta σ H fun x H1 => tb σ H1 fun y H2 => ∃ p q dx dy fs gs, x = .ref p ∧ y = .ref q ∧ H2 p = some (.ins C dx fs) ∧ H2 q = some (.ins C dy gs) ∧ sp [x, y] H2 Q (E σ)
theorem pe_binO {op : Operator} {E : L2.St → XK} (F : FnOk X.prog X.w X.K X.mg X.base CX k f fd ps sp) (hr : Room k X.A) (hb : Binds X.K fd ps []) (hc : PySem.W.selfFirst X.K C = true) (hm : Meth X.K C (PySem.dunder op.info.2) f) (hx : ∀ σ, PassesAt CX X σ (E σ))
    (ha : PE X a ta) (hb2 : PE X b tb) : PE X (.BinOp a op b pos) (tBinO C sp E ta tb) := by
  refine ⟨fun pins s σ H Q I h => ?_⟩
  refine wpAny_BinOp (binT (R := fun x y H2 => ∃ p q dx dy fs gs, x = .ref p ∧ y = .ref q ∧ H2 p = some (.ins C dx fs) ∧ H2 q = some (.ins C dy gs) ∧ sp [x, y] H2 Q (E σ)) ha hb2 I h fun v u s2 x y H2 I2 rx ry q => ?_)
  obtain ⟨p, q', dx, dy, fs, gs, rfl, rfl, h1, h2, hs⟩ := q
  cases rx
  cases ry
  obtain ⟨mA, J, _⟩ := ins_get I2.hok h1
  obtain ⟨mB, J', _⟩ := ins_get I2.hok h2
  obtain ⟨od, J, _⟩ := J.look
  obtain ⟨od', J', _⟩ := J'.look
  obtain ⟨m, hF⟩ := I2.fr
  refine PySem.W.own_binII hF I2.ok.mod.kin J J' hc hm.at_ hm.fn ?_
  exact wpAny_mono (run_fnS (us := [.ref p, .ref q']) (vs := [.ref p, .ref q']) F hr hb (hx σ) I2 (.cons rfl (.cons rfl .nil)) hs) (fun _ _ z => cmpBack_EP z) fun _ _ z => z
/-- ~ a -/
def tUnO (C : Addr) (sp : Sp) (E : L2.St → XK) (ta : TE) : TE := fun σ H Q => ta σ H fun x H1 => ∃ p dx fs, x = .ref p ∧ H1 p = some (.ins C dx fs) ∧ sp [x] H1 Q (E σ)
theorem pe_invO {E : L2.St → XK} (F : FnOk X.prog X.w X.K X.mg X.base CX k f fd ps sp) (hr : Room k X.A) (hb : Binds X.K fd ps []) (hm : Meth X.K C "__invert__" f) (hx : ∀ σ, PassesAt CX X σ (E σ)) (ha : PE X a ta) : PE X (.UnaryOp .Invert a pos) (tUnO C sp E ta) := by
  refine ⟨fun pins s σ H Q I h => ?_⟩
  refine UnaryOp_ (thn (ha.run pins s σ H _ I h) fun v s1 ⟨x, H1, I1, r1, q1⟩ => ?_)
  obtain ⟨p, dx, fs, rfl, h1, hs⟩ := q1
  cases r1
  obtain ⟨mA, J, _⟩ := ins_get I1.hok h1
  obtain ⟨od, J, _⟩ := J.look
  obtain ⟨m, hF⟩ := I1.fr
  exact PySem.W.ksp_inv hF I1.ok.mod.kin J hm.at_ hm.fn (run_fnS (us := [.ref p]) (vs := [.ref p]) F hr hb (hx σ) I1 (.cons rfl .nil) hs)
end

/-- .. over data -/
def fBinN (C : Addr) (pd : PDX) (A : Am) (fa fb : FE) : FE := fun en Φ => fa en fun x e1 => fb e1 fun y e2 => (∃ ns l, x = .ins C ns l) ∧ (∃ ns l, y = .ins C ns l) ∧ pd A.q [x, y] (fun d => Φ d e2) fun _ _ => False
def fBinX (C : Addr) (pd : PDX) (A : Am) (Ξ : XW) (fa fb : FE) : FE := fun en Φ => fa en fun x e1 => fb e1 fun y e2 => (∃ ns l, x = .ins C ns l) ∧ (∃ ns l, y = .ins C ns l) ∧ pd A.q [x, y] (fun d => Φ d e2) fun c x => Ξ c x e2
def fUnN (C : Addr) (pd : PDX) (A : Am) (fa : FE) : FE := fun en Φ => fa en fun x e1 => (∃ ns l, x = .ins C ns l) ∧ pd A.q [x] (fun d => Φ d e1) fun _ _ => False
def fUnX (C : Addr) (pd : PDX) (A : Am) (Ξ : XW) (fa : FE) : FE := fun en Φ => fa en fun x e1 => (∃ ns l, x = .ins C ns l) ∧ pd A.q [x] (fun d => Φ d e1) fun c x => Ξ c x e1
theorem passNo {X : Cx} (σ : L2.St) : PassesAt (L2.CX X.prog X.w) X σ E0 := fun pins H s e s' I h => passL pins σ H s e s' I h
section
variable {X : Cx} {A : Am} {C : Addr} {k : Nat} {ps : List Str} {pd : PDX} {a b : Expr} {pos : Pos} {fa fb : FE} {Ξ : XW} {m : Str}
theorem le_binN {K : PySem.W.Frag} {σ : L2.St} {H : Hp} {Q : VK} (h : LE K A (fBinN C pd A fa fb) σ H Q) : tBinO C (spX K pd) (fun _ => E0) (LE K A fa) (LE K A fb) σ H Q := by
  obtain ⟨F, G, en, Ψ, k, h, q⟩ := h
  refine ⟨F, G, en, _, k, h, fun x e1 v1 G1 H1 hz k1 s1 r1 => ⟨F, G1, e1, _, k1, hz, fun y e2 v2 G2 H2 hz2 k2 s2 r2 => ?_⟩⟩
  obtain ⟨⟨ns, l, rfl⟩, ⟨ns', l', rfl⟩, hp⟩ := hz2
  have r1' := r1.mono s2.g
  obtain ⟨p, dx, xs, rfl, h1, _, _⟩ := rep_ins.mp r1'
  obtain ⟨p', dx', xs', rfl, h2, _, _⟩ := rep_ins.mp r2
  refine ⟨p, p', dx, dx', _, _, rfl, rfl, k2.ok.gh _ _ h1, k2.ok.gh _ _ h2, A.q, G2, _, _, _, k2.ok.call, .cons r1' (.cons r2 .nil), hp, fun d v G3 H3 hd k3 s3 r3 => ?_, fun c y d G3 H3 hx _ _ _ => hx.elim⟩
  obtain ⟨k4, s4⟩ := k2.called k3 s3
  exact q d e2 v G3 H3 hd k4 ((s1.trans s2).trans s4) r3
theorem le_binX {K : PySem.W.Frag} {σ : L2.St} {H : Hp} {Q : VK} (h : LE K A (fBinX C pd A Ξ fa fb) σ H Q) : tBinO C (spX K pd) (WE (WD K A Ξ)) (LE K A fa) (LE K A fb) σ H Q := by
  obtain ⟨F, G, en, Ψ, k, h, q⟩ := h
  refine ⟨F, G, en, _, k, h, fun x e1 v1 G1 H1 hz k1 s1 r1 => ⟨F, G1, e1, _, k1, hz, fun y e2 v2 G2 H2 hz2 k2 s2 r2 => ?_⟩⟩
  obtain ⟨⟨ns, l, rfl⟩, ⟨ns', l', rfl⟩, hp⟩ := hz2
  have r1' := r1.mono s2.g
  obtain ⟨p, dx, xs, rfl, h1, _, _⟩ := rep_ins.mp r1'
  obtain ⟨p', dx', xs', rfl, h2, _, _⟩ := rep_ins.mp r2
  refine ⟨p, p', dx, dx', _, _, rfl, rfl, k2.ok.gh _ _ h1, k2.ok.gh _ _ h2, A.q, G2, _, _, _, k2.ok.call, .cons r1' (.cons r2 .nil), hp, fun d v G3 H3 hd k3 s3 r3 => ?_, fun c y d G3 H3 hx k3 s3 r3 => ?_⟩
  · obtain ⟨k4, s4⟩ := k2.called k3 s3
    exact q d e2 v G3 H3 hd k4 ((s1.trans s2).trans s4) r3
  · obtain ⟨k4, s4⟩ := k2.called k3 s3
    exact ⟨F, G3, e2, y, k4, r3, hx⟩
theorem de_binN {op : Operator} (O : MthX X.prog X.w X.K X.mg X.base C (PySem.dunder op.info.2) k ps pd) (hc : PySem.W.selfFirst X.K C = true) (hr : Room k X.A) (ha : DE X A a fa) (hb : DE X A b fb) : DE X A (.BinOp a op b pos) (fBinN C pd A fa fb) := by
  obtain ⟨f, fd, h1, h2, h3⟩ := O.ex
  exact pe_weak (pe_binO h1 hr h3 hc h2 passNo ha hb) fun _ _ _ h => le_binN h
theorem de_binX {op : Operator} (O : MthX X.prog X.w X.K X.mg X.base C (PySem.dunder op.info.2) k ps pd) (tk : Takes X (WD X.K A Ξ)) (hc : PySem.W.selfFirst X.K C = true) (hr : Room k X.A) (ha : DE X A a fa) (hb : DE X A b fb) : DE X A (.BinOp a op b pos) (fBinX C pd A Ξ fa fb) := by
  obtain ⟨f, fd, h1, h2, h3⟩ := O.ex
  exact pe_weak (pe_binO h1 hr h3 hc h2 (fun σ => passAt tk σ) ha hb) fun _ _ _ h => le_binX h
theorem de_invN (O : MthX X.prog X.w X.K X.mg X.base C "__invert__" k ps pd) (hr : Room k X.A) (ha : DE X A a fa) : DE X A (.UnaryOp .Invert a pos) (fUnN C pd A fa) := by
  obtain ⟨f, fd, h1, h2, h3⟩ := O.ex
  refine pe_weak (pe_invO (E := fun _ => E0) h1 hr h3 h2 passNo ha) fun σ H Q ⟨F, G, en, Ψ, k, h, q⟩ => ⟨F, G, en, _, k, h, fun x e1 v1 G1 H1 hz k1 s1 r1 => ?_⟩
  obtain ⟨⟨ns, l, rfl⟩, hp⟩ := hz
  obtain ⟨p, dx, xs, rfl, h1, _, _⟩ := rep_ins.mp r1
  refine ⟨p, dx, _, rfl, k1.ok.gh _ _ h1, A.q, G1, _, _, _, k1.ok.call, .cons r1 .nil, hp, fun d v G3 H3 hd k3 s3 r3 => ?_, fun c y d G3 H3 hx _ _ _ => hx.elim⟩
  obtain ⟨k4, s4⟩ := k1.called k3 s3
  exact q d e1 v G3 H3 hd k4 (s1.trans s4) r3
theorem de_invX (O : MthX X.prog X.w X.K X.mg X.base C "__invert__" k ps pd) (tk : Takes X (WD X.K A Ξ)) (hr : Room k X.A) (ha : DE X A a fa) : DE X A (.UnaryOp .Invert a pos) (fUnX C pd A Ξ fa) := by
  obtain ⟨f, fd, h1, h2, h3⟩ := O.ex
  refine pe_weak (pe_invO h1 hr h3 h2 (fun σ => passAt tk σ) ha) fun σ H Q ⟨F, G, en, Ψ, k, h, q⟩ => ⟨F, G, en, _, k, h, fun x e1 v1 G1 H1 hz k1 s1 r1 => ?_⟩
  obtain ⟨⟨ns, l, rfl⟩, hp⟩ := hz
  obtain ⟨p, dx, xs, rfl, h1, _, _⟩ := rep_ins.mp r1
  refine ⟨p, dx, _, rfl, k1.ok.gh _ _ h1, A.q, G1, _, _, _, k1.ok.call, .cons r1 .nil, hp, fun d v G3 H3 hd k3 s3 r3 => ?_, fun c y d G3 H3 hx k3 s3 r3 => ?_⟩
  · obtain ⟨k4, s4⟩ := k1.called k3 s3
    exact q d e1 v G3 H3 hd k4 (s1.trans s4) r3
  · obtain ⟨k4, s4⟩ := k1.called k3 s3
    exact ⟨F, G3, e1, y, k4, r3, hx⟩
end

/-! ### own defs inside operations that change nothing -/
theorem StQ.bare {K : PySem.W.Frag} {G H : Hp} (s : Same G H) : StQ K [] (minus [] H) G H := ⟨s, minus_same, fun q hq => (List.not_mem_nil hq).elim, fun q hq => (List.not_mem_nil hq).elim⟩
theorem minus_nil {H : Hp} : minus [] H = H := by
  funext a
  unfold minus
  rfl
theorem grow_of {K : PySem.W.Frag} {G H G' H' : Hp} (k : StQ K [] (minus [] H) G' H') (s : Step (minus [] H) G G') : Grow G H G' H' := by
  rw [minus_nil] at k s
  exact ⟨s.n, s.g, k.fh, s.f⟩
section
variable {X : Cx} {CX : CXT} {C f : Addr} {fd : FuncData} {k : Nat} {ps : List Str} {sp : Sp}
/-- x in y, y of an own class whose __contains__ gives a bool -/
theorem op_inO (F : FnOk X.prog X.w X.K X.mg X.base CX k f fd ps sp) (hr : Room k X.A) (hb : Binds X.K fd ps []) (hm : Meth X.K C "__contains__" f) (hx : ∀ σ, PassesAt CX X σ E0) :
    OpR X (compareOp .In) (fun x y H Q => ∃ p dx fs, y = .ref p ∧ H p = some (.ins C dx fs) ∧ sp [y, x] H (fun z H' => ∃ b, z = .bl b ∧ Q (.bl b) H') E0) := by
  intro pins s σ H x y v u Q I rx ry h
  obtain ⟨p, dx, fs, rfl, h1, hs⟩ := h
  cases ry
  obtain ⟨mA, J, _⟩ := ins_get I.hok h1
  obtain ⟨od, J, _⟩ := J.look
  obtain ⟨m, hF⟩ := I.fr
  refine PySem.W.in_K hF I.ok.mod.kin J hm.at_ hm.fn (wpAny_mono (run_fnS (us := [.ref p, v]) (vs := [.ref p, x]) (E := fun _ => E0) F hr hb (hx σ) I (.cons rfl (.cons rx .nil)) hs) (fun w s' z => ?_) fun _ _ z => z)
  obtain ⟨z, H', I', r, b, rfl, q⟩ := z
  cases r
  exact wpAny_truthy_bool ⟨.bl b, H', I', rfl, q⟩
theorem op_notinO (F : FnOk X.prog X.w X.K X.mg X.base CX k f fd ps sp) (hr : Room k X.A) (hb : Binds X.K fd ps []) (hm : Meth X.K C "__contains__" f) (hx : ∀ σ, PassesAt CX X σ E0) :
    OpR X (compareOp .NotIn) (fun x y H Q => ∃ p dx fs, y = .ref p ∧ H p = some (.ins C dx fs) ∧ sp [y, x] H (fun z H' => ∃ b, z = .bl b ∧ Q (.bl (!b)) H') E0) := by
  intro pins s σ H x y v u Q I rx ry h
  obtain ⟨p, dx, fs, rfl, h1, hs⟩ := h
  cases ry
  obtain ⟨mA, J, _⟩ := ins_get I.hok h1
  obtain ⟨od, J, _⟩ := J.look
  obtain ⟨m, hF⟩ := I.fr
  refine PySem.W.notIn_K hF I.ok.mod.kin J hm.at_ hm.fn (wpAny_mono (run_fnS (us := [.ref p, v]) (vs := [.ref p, x]) (E := fun _ => E0) F hr hb (hx σ) I (.cons rfl (.cons rx .nil)) hs) (fun w s' z => ?_) fun _ _ z => z)
  obtain ⟨z, H', I', r, b, rfl, q⟩ := z
  cases r
  exact wpAny_truthy_bool ⟨.bl (!b), H', I', rfl, q⟩
/-- x == y, both of one own class -/
theorem op_eqO (F : FnOk X.prog X.w X.K X.mg X.base CX k f fd ps sp) (hr : Room k X.A) (hb : Binds X.K fd ps []) (hm : Meth X.K C "__eq__" f) (hx : ∀ σ, PassesAt CX X σ E0) :
    OpR X (compareOp .Eq) (fun x y H Q => ∃ p q dx dy fs gs, x = .ref p ∧ y = .ref q ∧ H p = some (.ins C dx fs) ∧ H q = some (.ins C dy gs) ∧ sp [x, y] H Q E0) := by
  intro pins s σ H x y v u Q I rx ry h
  obtain ⟨p, q', dx, dy, fs, gs, rfl, rfl, h1, h2, hs⟩ := h
  cases rx
  cases ry
  obtain ⟨mA, J, _⟩ := ins_get I.hok h1
  obtain ⟨mB, J', _⟩ := ins_get I.hok h2
  obtain ⟨od, J, _⟩ := J.look
  obtain ⟨od', J', _⟩ := J'.look
  obtain ⟨m, hF⟩ := I.fr
  show wpAny (model X.prog X.w) X.A (richCompare .Eq (.ref p) (.ref q')) (EP X pins σ Q) X.xe s
  refine PySem.W.cmp_K (op := .Eq) (tb := .ref C) hr.units0 hF I.ok.mod.kin J J'.type (by simp [PySem.W.notFirst]) hm.at_ hm.fn ?_
  exact wpAny_mono (run_fnS (us := [.ref p, .ref q']) (vs := [.ref p, .ref q']) (E := fun _ => E0) F hr hb (hx σ) I (.cons rfl (.cons rfl .nil)) hs) (fun _ _ z => cmpBack_EP z) fun _ _ z => z
end
section
variable {X : Cx} {C : Addr} {k : Nat} {ps : List Str} {pd : PD}
/-- the data's answers of these -/
def rInO (C : Addr) (pd : PD) : R2D := fun x y Φ => (∃ ns l, y = .ins C ns l) ∧ pd [] [y, x] fun d => ∃ b, d = .bl b ∧ Φ (.bl b)
def rNotInO (C : Addr) (pd : PD) : R2D := fun x y Φ => (∃ ns l, y = .ins C ns l) ∧ pd [] [y, x] fun d => ∃ b, d = .bl b ∧ Φ (.bl (!b))
def rEqO (C : Addr) (pd : PD) : R2D := fun x y Φ => (∃ ns l, x = .ins C ns l) ∧ (∃ ns l, y = .ins C ns l) ∧ pd [] [x, y] Φ
theorem opr_weak {f : Value → Value → Sem Value} {r r' : R2} (h : OpR X f r) (k : ∀ x y H Q, r' x y H Q → r x y H Q) : OpR X f r' := fun pins s σ H x y v u Q I rx ry q => h pins s σ H x y v u Q I rx ry (k x y H Q q)
theorem op_inD (O : MthD X.prog X.w X.K X.mg X.base C "__contains__" k ps pd) (hr : Room k X.A) : OpR X (compareOp .In) (LR2 X.K (rInO C pd)) := by
  obtain ⟨f, fd, h1, h2, h3⟩ := O.ex
  refine opr_weak (op_inO h1 hr h3 h2 fun σ _ _ _ _ _ _ h => h.elim) fun x y H Q ⟨G, dx, dy, Ψ, s, rx, ry, h, q⟩ => ?_
  obtain ⟨⟨ns, l, rfl⟩, h⟩ := h
  obtain ⟨p, dd, xs, rfl, hp, _, _⟩ := rep_ins.mp ry
  refine ⟨p, dd, _, rfl, s _ _ hp, [], G, [_, dx], _, StQ.bare s, .cons ry (.cons rx .nil), h, fun d v G' H' hd k' s' r' => ?_⟩
  obtain ⟨b, rfl, hd⟩ := hd
  exact ⟨b, rep_bl.mp r', q _ _ G' H' hd (grow_of k' s') k'.gh (rep_bl.mpr rfl)⟩
theorem op_notinD (O : MthD X.prog X.w X.K X.mg X.base C "__contains__" k ps pd) (hr : Room k X.A) : OpR X (compareOp .NotIn) (LR2 X.K (rNotInO C pd)) := by
  obtain ⟨f, fd, h1, h2, h3⟩ := O.ex
  refine opr_weak (op_notinO h1 hr h3 h2 fun σ _ _ _ _ _ _ h => h.elim) fun x y H Q ⟨G, dx, dy, Ψ, s, rx, ry, h, q⟩ => ?_
  obtain ⟨⟨ns, l, rfl⟩, h⟩ := h
  obtain ⟨p, dd, xs, rfl, hp, _, _⟩ := rep_ins.mp ry
  refine ⟨p, dd, _, rfl, s _ _ hp, [], G, [_, dx], _, StQ.bare s, .cons ry (.cons rx .nil), h, fun d v G' H' hd k' s' r' => ?_⟩
  obtain ⟨b, rfl, hd⟩ := hd
  exact ⟨b, rep_bl.mp r', q _ _ G' H' hd (grow_of k' s') k'.gh (rep_bl.mpr rfl)⟩
theorem op_eqOD (O : MthD X.prog X.w X.K X.mg X.base C "__eq__" k ps pd) (hr : Room k X.A) : OpR X (compareOp .Eq) (LR2 X.K (rEqO C pd)) := by
  obtain ⟨f, fd, h1, h2, h3⟩ := O.ex
  refine opr_weak (op_eqO h1 hr h3 h2 fun σ _ _ _ _ _ _ h => h.elim) fun x y H Q ⟨G, dx, dy, Ψ, s, rx, ry, h, q⟩ => ?_
  obtain ⟨⟨ns, l, rfl⟩, ⟨ns', l', rfl⟩, h⟩ := h
  obtain ⟨p, dd, xs, rfl, hp, _, _⟩ := rep_ins.mp rx
  obtain ⟨p', dd', xs', rfl, hp', _, _⟩ := rep_ins.mp ry
  exact ⟨p, p', dd, dd', _, _, rfl, rfl, s _ _ hp, s _ _ hp', [], G, [_, _], _, StQ.bare s, .cons rx (.cons ry .nil), h, fun d v G' H' hd k' s' r' => q _ _ G' H' hd (grow_of k' s') k'.gh r'⟩
end
end Dz

namespace Dz
open PySem PySem.Spec PyProof.Rows L2

/-! ### zip, enumerate, range of three -/
def zipD (a b : List D) : List D := (a.zip b).map fun q => .tup [q.1, q.2]
theorem zipD_len {a b : List D} : (zipD a b).length = min a.length b.length := by unfold zipD; rw [List.length_map, List.length_zip]
theorem zipD_get {a b : List D} {i : Nat} {d : D} (h : (zipD a b)[i]? = some d) : ∃ x y, a[i]? = some x ∧ b[i]? = some y ∧ d = .tup [x, y] := by
  unfold zipD at h
  rw [List.getElem?_map] at h
  cases q : (a.zip b)[i]? with
  | none => rw [q] at h; cases h
  | some z =>
    rw [q] at h
    cases h
    rw [List.getElem?_zip_eq_some] at q
    exact ⟨z.1, z.2, q.1, q.2, rfl⟩
def enuD (a : List D) : List D := a.mapIdx fun i d => .tup [.int (i : Int), d]
theorem enuD_len {a : List D} : (enuD a).length = a.length := by unfold enuD; rw [List.length_mapIdx]
theorem enuD_get {a : List D} {i : Nat} {d : D} (h : (enuD a)[i]? = some d) : ∃ x, a[i]? = some x ∧ d = .tup [.int (i : Int), x] := by
  unfold enuD at h
  rw [List.getElem?_mapIdx] at h
  cases q : a[i]? with
  | none => rw [q] at h; cases h
  | some z => rw [q] at h; cases h; exact ⟨z, rfl, rfl⟩
section
variable {K : PySem.W.Frag} {G : Hp} {a b : Addr} {xs ys : List V} {la lb : List D}
theorem pairT {G1 H1 : Hp} {T : Addr} {x y : V} {dx dy : D} (h : Same G1 H1) (hT : H1 T = none) (rx : Rep K G1 dx x) (ry : Rep K G1 dy y) :
    ∃ G2, Grow G1 H1 G2 (upd H1 T (.tup [x, y])) ∧ Same G2 (upd H1 T (.tup [x, y])) ∧ Rep K G2 (.tup [dx, dy]) (.ref T) := by
  have g : Grow G1 H1 (upd G1 T (.tup [x, y])) (upd H1 T (.tup [x, y])) := Grow.new h hT
  exact ⟨_, g, same_upd2 h, rep_tup.mpr ⟨T, _, rfl, .inl (.inl upd_same), .cons (rx.mono g.g) (.cons (ry.mono g.g) .nil)⟩⟩
theorem yl_zip (sa : SqL K G a xs) (sb : SqL K G b ys) (ra : RepA K G la xs) (rb : RepA K G lb ys) : Yl K (Itz K a b) G (zipD la lb) where
  go := fun G1 H1 k g h hk => by
    rw [zipD_len] at hk
    exact ⟨xs, ys, _, _, h.seq (g.seq sa), h.seq (g.seq sb), List.getElem?_eq_getElem (by rw [ra.len]; omega), List.getElem?_eq_getElem (by rw [rb.len]; omega)⟩
  yl := fun G1 H1 k x H2 d g h hd hy => by
    obtain ⟨T, v, w, rfl, hT, rfl, h1, h2⟩ := hy
    obtain ⟨dx, dy, e1, e2, rfl⟩ := zipD_get hd
    obtain ⟨v', f1, f2⟩ := ra.get e1
    obtain ⟨w', f3, f4⟩ := rb.get e2
    rw [h1 xs (h.seq (g.seq sa))] at f1
    rw [h2 ys (h.seq (g.seq sb))] at f3
    cases f1; cases f3
    exact pairT h hT (f2.mono g) (f4.mono g)
  sp := fun G1 H1 k g h hk => by
    rw [zipD_len] at hk
    exact ⟨xs, ys, h.seq (g.seq sa), h.seq (g.seq sb), by rw [ra.len, rb.len]; omega⟩
theorem yl_zipT (sa : SqT K G a xs) (sb : SqT K G b ys) (ra : RepA K G la xs) (rb : RepA K G lb ys) : Yl K (RZ.ItzT K a b) G (zipD la lb) where
  go := fun G1 H1 k g h hk => by
    rw [zipD_len] at hk
    exact ⟨xs, ys, _, _, sqt_mono h (sqt_mono g sa), sqt_mono h (sqt_mono g sb), List.getElem?_eq_getElem (by rw [ra.len]; omega), List.getElem?_eq_getElem (by rw [rb.len]; omega)⟩
  yl := fun G1 H1 k x H2 d g h hd hy => by
    obtain ⟨T, v, w, rfl, hT, rfl, h1, h2⟩ := hy
    obtain ⟨dx, dy, e1, e2, rfl⟩ := zipD_get hd
    obtain ⟨v', f1, f2⟩ := ra.get e1
    obtain ⟨w', f3, f4⟩ := rb.get e2
    rw [h1 xs (sqt_mono h (sqt_mono g sa))] at f1
    rw [h2 ys (sqt_mono h (sqt_mono g sb))] at f3
    cases f1; cases f3
    exact pairT h hT (f2.mono g) (f4.mono g)
  sp := fun G1 H1 k g h hk => by
    rw [zipD_len] at hk
    exact ⟨xs, ys, sqt_mono h (sqt_mono g sa), sqt_mono h (sqt_mono g sb), by rw [ra.len, rb.len]; omega⟩
theorem yl_enu (sa : SqL K G a xs) (ra : RepA K G la xs) : Yl K (Ite K a) G (enuD la) where
  go := fun G1 H1 k g h hk => by
    rw [enuD_len] at hk
    exact ⟨xs, _, h.seq (g.seq sa), List.getElem?_eq_getElem (by rw [ra.len]; omega)⟩
  yl := fun G1 H1 k x H2 d g h hd hy => by
    obtain ⟨T, v, rfl, hT, rfl, h1⟩ := hy
    obtain ⟨dx, e1, rfl⟩ := enuD_get hd
    obtain ⟨v', f1, f2⟩ := ra.get e1
    rw [h1 xs (h.seq (g.seq sa))] at f1
    cases f1
    exact pairT h hT (rep_int.mpr rfl) (f2.mono g)
  sp := fun G1 H1 k g h hk => by
    rw [enuD_len] at hk
    exact ⟨xs, h.seq (g.seq sa), by rw [ra.len]; omega⟩
end
/-- a list, as the machine has it -/
theorem seql_of {K : PySem.W.Frag} {G : Hp} {d : D} {v : V} {l : List D} (h : d = .lst l ∨ d = .fro l) (r : Rep K G d v) : ∃ a xs, v = .ref a ∧ SqL K G a xs ∧ RepA K G l xs := by
  rcases h with rfl | rfl
  · obtain ⟨p, xs, rfl, sq, ra⟩ := rep_lst.mp r
    exact ⟨p, xs, rfl, .inl (.inl sq), ra⟩
  · exact rep_fro.mp r
def fIZip (fr : FA) : FI := fun en Φ => fr en fun ds e => ∃ x y la lb, ds = [x, y] ∧ (((x = .lst la ∨ x = .fro la) ∧ (y = .lst lb ∨ y = .fro lb)) ∨ (x = .tup la ∧ y = .tup lb)) ∧ Φ (zipD la lb) e
def fIEnu (fr : FA) : FI := fun en Φ => fr en fun ds e => ∃ x la, ds = [x] ∧ (x = .lst la ∨ x = .fro la) ∧ Φ (enuD la) e
def rng3D (lo c : Int) (n : Nat) : List D := (List.range n).map fun i => D.int (lo + (i : Nat) * c)
theorem rng3D_len {lo c : Int} {n : Nat} : (rng3D lo c n).length = n := by unfold rng3D; rw [List.length_map, List.length_range]
theorem rng3D_get {lo c : Int} {n i : Nat} {d : D} (h : (rng3D lo c n)[i]? = some d) : i < n ∧ d = .int (lo + (i : Nat) * c) := by
  unfold rng3D at h
  rw [List.getElem?_map] at h
  cases q : (List.range n)[i]? with
  | none => rw [q] at h; cases h
  | some z =>
    rw [q] at h
    cases h
    have hi := (List.getElem?_eq_some_iff.mp q).1
    rw [List.length_range] at hi
    rw [List.getElem?_range hi] at q
    cases q
    exact ⟨hi, rfl⟩
theorem yl_rng3 {K : PySem.W.Frag} {G : Hp} {lo c : Int} {n : Nat} : Yl K (Itc lo c n) G (rng3D lo c n) where
  go := fun G1 H1 k g h hk => by rw [rng3D_len] at hk; exact hk
  yl := fun G1 H1 k x H2 d g h hd hy => by
    obtain ⟨rfl, rfl⟩ := hy
    obtain ⟨_, rfl⟩ := rng3D_get hd
    exact ⟨G1, Grow.refl _ _, h, rep_int.mpr rfl⟩
  sp := fun G1 H1 k g h hk => by rw [rng3D_len] at hk; exact hk
def fRng3 (fr : FA) : FI := fun en Φ => fr en fun ds e => ∃ (i j c : Int) (n : Nat), ds = [.int i, .int j, .int c] ∧ RgC i j c n ∧ Φ (rng3D i c n) e
section
variable {X : Cx} {A : Am} {tg e e2 a b c : Expr} {elts : List Expr} {kk : Nat} {p pos tpos : Pos} {fr : FA}
theorem di_zip (hg : Gl X "zip") (hm : X.mg "zip" = none) (ha : DA X A [e, e2] fr) (hs : starEach [e, e2] X.env = (false, eval e X.env) :: starEach [e2] X.env := by rfl) (hpl : (backTo pos (starEach [e2] X.env)).any (·.1) = false := by rfl) :
    DI X A (.Tuple elts kk tpos) (.Call (.Name "zip" p) [e, e2] [] pos) (fIZip fr) := pi_weak (RZ.pi_zipA hg hm ha hs hpl) fun σ H R ⟨F, G, en, Ψ, k, h, q⟩ =>
  ⟨F, G, en, _, k, h, fun ds e1 vs G1 H1 z k1 s1 r1 => by
    obtain ⟨x, y, la, lb, rfl, hz, z⟩ := z
    obtain ⟨v, w, rfl, rx, ry⟩ := repA_2 r1
    rcases hz with ⟨hx, hy⟩ | ⟨rfl, rfl⟩
    · obtain ⟨pa, xs, rfl, sa, ra⟩ := seql_of hx rx
      obtain ⟨pb, ys, rfl, sb, rb⟩ := seql_of hy ry
      exact ⟨pa, pb, xs, ys, rfl, .inl ⟨k1.ok.gh.seq sa, k1.ok.gh.seq sb, q _ e1 G1 H1 _ z k1 s1 (yl_zip sa sb ra rb)⟩⟩
    · obtain ⟨pa, xs, rfl, sa, ra⟩ := rep_tup.mp rx
      obtain ⟨pb, ys, rfl, sb, rb⟩ := rep_tup.mp ry
      exact ⟨pa, pb, xs, ys, rfl, .inr ⟨sqt_mono k1.ok.gh sa, sqt_mono k1.ok.gh sb, q _ e1 G1 H1 _ z k1 s1 (yl_zipT sa sb ra rb)⟩⟩⟩
theorem di_enu (hg : Gl X "enumerate") (hm : X.mg "enumerate" = none) (ha : DA X A [e] fr) (hs : starEach [e] X.env = [(false, eval e X.env)] := by rfl) :
    DI X A (.Tuple elts kk tpos) (.Call (.Name "enumerate" p) [e] [] pos) (fIEnu fr) := pi_weak (pi_enum hg hm ha hs) fun σ H R ⟨F, G, en, Ψ, k, h, q⟩ =>
  ⟨F, G, en, _, k, h, fun ds e1 vs G1 H1 z k1 s1 r1 => by
    obtain ⟨x, la, rfl, hx, z⟩ := z
    obtain ⟨v, rfl, rx⟩ := repA_1 r1
    obtain ⟨pa, xs, rfl, sa, ra⟩ := seql_of hx rx
    exact ⟨pa, xs, rfl, k1.ok.gh.seq sa, q _ e1 G1 H1 _ z k1 s1 (yl_enu sa ra)⟩⟩
theorem di_rng3 (hg : Gl X "range") (hm : X.mg "range" = none) (ha : DA X A [a, b, c] fr) (hs : starEach [a, b, c] X.env = (false, eval a X.env) :: starEach [b, c] X.env := by rfl) (hpl : (backTo pos (starEach [b, c] X.env)).any (·.1) = false := by rfl) :
    DI X A tg (.Call (.Name "range" p) [a, b, c] [] pos) (fRng3 fr) := pi_weak (pi_range3 hg hm ha hs hpl) fun σ H R ⟨F, G, en, Ψ, k, h, q⟩ =>
  ⟨F, G, en, _, k, h, fun ds e1 vs G1 H1 z k1 s1 r1 => by
    obtain ⟨i, j, c, n, rfl, hc, z⟩ := z
    unfold RepA at r1
    obtain ⟨x, t, rfl, p1, r1⟩ := r1
    obtain ⟨y, w, rfl, p2, p3⟩ := repA_2 r1
    cases rep_int.mp p1
    cases rep_int.mp p2
    cases rep_int.mp p3
    exact ⟨i, j, c, n, rfl, hc, q _ e1 G1 H1 _ z k1 s1 yl_rng3⟩⟩
end

/-! ### slices -/
def cutD (xs : List D) (lo hi : Option Int) : List D := (xs.drop (HT.sIx xs.length 0 lo)).take (HT.sIx xs.length xs.length hi - HT.sIx xs.length 0 lo)
theorem RepA.cut {K : PySem.W.Frag} {G : Hp} {l : List D} {xs : List V} (r : RepA K G l xs) (lo hi : Option Int) : RepA K G (cutD l lo hi) (cutV xs lo hi) := by
  unfold cutD cutV
  rw [r.len]
  exact (r.drop _).take _
abbrev FO := En → (Option Int → En → Prop) → Prop
def LO (K : PySem.W.Frag) (A : Am) (f : FO) : TO := fun σ H Q => ∃ (F G : Hp) (en : En) (Ψ : Option Int → En → Prop), EnvOk K A F G H σ en ∧ f en Ψ ∧
  ∀ d en' G' H', Ψ d en' → EnvOk K A F G' H' σ en' → Step F G G' → Q d H'
abbrev DO (X : Cx) (A : Am) (e : Option Expr) (f : FO) : Prop := PO X e (LO X.K A f)
def fNo : FO := fun en Φ => Φ none en
def fPt (fa : FE) : FO := fun en Φ => fa en fun x e => ∃ i, x = .int i ∧ Φ (some i) e
theorem po_weak {X : Cx} {e : Option Expr} {t t' : TO} (h : PO X e t) (k : ∀ σ H Q, t' σ H Q → t σ H Q) : PO X e t' := ⟨fun pins s σ H Q I q => h.run pins s σ H Q I (k σ H Q q)⟩
theorem do_no {X : Cx} {A : Am} : DO X A none fNo := po_weak po_none fun σ H Q ⟨F, G, en, Ψ, k, h, q⟩ => q _ en G H h k (Step.refl _ _)
theorem do_pt {X : Cx} {A : Am} {e : Expr} {fa : FE} (he : DE X A e fa) : DO X A (some e) (fPt fa) := po_weak (po_some he) fun σ H Q ⟨F, G, en, Ψ, k, h, q⟩ => ⟨F, G, en, _, k, h, fun x e1 v G1 H1 z k1 s1 r1 => by
  obtain ⟨i, rfl, z⟩ := z
  exact ⟨i, rep_int.mp r1, q _ e1 G1 H1 z k1 s1⟩⟩
def rSliceD (lo hi : Option Int) : R1D := fun x Φ => match x with
  | .lst l => Φ (.lst (cutD l lo hi))
  | .fro l => Φ (.lst (cutD l lo hi))
  | .tup l => Φ (.tup (cutD l lo hi))
  | _ => False
def fSlice (fa : FE) (fl fu : FO) : FE := fun en Φ => fa en fun x e1 => fl e1 fun l e2 => fu e2 fun u e3 => rSliceD l u x fun z => Φ z e3
theorem cutD_all {l : List D} {lo hi : Option Int} (h : HT.sIx l.length 0 lo = 0 ∧ HT.sIx l.length l.length hi = l.length) : cutD l lo hi = l := by
  unfold cutD
  rw [h.1, h.2, List.drop_zero, Nat.sub_zero, List.take_length]
theorem de_slice {X : Cx} {A : Am} {e : Expr} {lo hi : Option Expr} {p2 pos : Pos} {fa : FE} {fl fu : FO} (he : DE X A e fa) (hl : DO X A lo fl) (hu : DO X A hi fu) : DE X A (.Subscript e (.Slice lo hi none p2) pos) (fSlice fa fl fu) :=
  pe_weak (pe_slice (SlR.or sl_list sl_tupA) he hl hu) fun σ H Q ⟨F, G, en, Ψ, k, h, q⟩ => ⟨F, G, en, _, k, h, fun x e1 v G1 H1 z k1 s1 r1 => ⟨F, G1, e1, _, k1, z, fun l e2 G2 H2 z k2 s2 => ⟨F, G2, e2, _, k2, z, fun u e3 G3 H3 z k3 s3 => by
    have s13 := s2.trans s3
    have s03 := s1.trans s13
    have r3 := r1.mono s13.g
    cases x with
    | lst w =>
      obtain ⟨p, xs, rfl, sq, ra⟩ := rep_lst.mp r3
      refine .inl ⟨p, xs, rfl, .inl (.inl (k3.ok.gh _ _ sq)), fun p' hp => ?_⟩
      have g : Grow G3 H3 (upd G3 p' (.lst (cutV xs l u))) (upd H3 p' (.lst (cutV xs l u))) := Grow.new k3.ok.gh hp
      exact q _ e3 _ _ _ z (k3.grow g (same_upd2 k3.ok.gh)) (s03.trans (g.step k3.ok.fh)) (rep_lst.mpr ⟨p', _, rfl, upd_same, (ra.cut l u).mono g.g⟩)
    | fro w =>
      obtain ⟨p, xs, rfl, sq, ra⟩ := rep_fro.mp r3
      refine .inl ⟨p, xs, rfl, k3.ok.gh.seq sq, fun p' hp => ?_⟩
      have g : Grow G3 H3 (upd G3 p' (.lst (cutV xs l u))) (upd H3 p' (.lst (cutV xs l u))) := Grow.new k3.ok.gh hp
      exact q _ e3 _ _ _ z (k3.grow g (same_upd2 k3.ok.gh)) (s03.trans (g.step k3.ok.fh)) (rep_lst.mpr ⟨p', _, rfl, upd_same, (ra.cut l u).mono g.g⟩)
    | tup w =>
      obtain ⟨p, xs, rfl, sq, ra⟩ := rep_tup.mp r3
      refine .inr ⟨p, xs, rfl, sqt_mono k3.ok.gh sq, fun hw => ?_, fun hw p' hp => ?_⟩
      · rw [ra.len] at hw
        have z : Ψ (.tup (cutD w l u)) e3 := z
        rw [cutD_all hw] at z
        exact q _ e3 _ G3 H3 z k3 s03 (rep_tup.mpr ⟨p, xs, rfl, sq, ra⟩)
      · have g : Grow G3 H3 (upd G3 p' (.tup (cutV xs l u))) (upd H3 p' (.tup (cutV xs l u))) := Grow.new k3.ok.gh hp
        exact q _ e3 _ _ _ z (k3.grow g (same_upd2 k3.ok.gh)) (s03.trans (g.step k3.ok.fh)) (rep_tup.mpr ⟨p', _, rfl, .inl (.inl upd_same), (ra.cut l u).mono g.g⟩)
    | _ => exact False.elim z⟩⟩⟩
end Dz

namespace Dz
open PySem PySem.Spec PyProof.Rows L2

/-! ### xs[i] = v, xs a changing list of one's own -/
def fSetI (i : Nat) (fk fv : FE) : FS := fun en Ψ => fv en fun d e1 => ∃ o, gt e1 i = .cel o ∧ fk e1 fun kd e2 => ∃ k j l, kd = .int k ∧ gt e2 i = .cel (.lst l) ∧ ixN l.length k = some j ∧ Ψ.nx (st e2 i (.cel (.lst (l.set j d))))
section
variable {X : Cx} {A : Am} {e kx : Expr} {fk fv : FE} {pos pos' px : Pos}
theorem ds_setI {i : Nat} {x : Str} (hN : X.N[i]? = some x) (hv : Vis X.env.scope x) (hk : DE X A kx fk) (he : DE X A e fv)
    (hd : (x == ("__debug__" : Str)) = false := by decide) (hcd : (x == ("__classdict__" : Str)) = false := by decide)
    (ha : ∀ v, assign (.Subscript (.Name x px) kx pos') X.env v = (do
      let ov ← holding [v] (eval (.Name x px) X.env)
      let iv ← holding [v, ov] (eval kx X.env)
      standAt pos'
      holding [v, ov, iv] (setItem ov iv v)
      release [v, ov, iv] []) := by intro _; rfl)
    (hs : swapsWithSole [.Subscript (.Name x px) kx pos'] e pos.line X.env = pure false := by rfl) (hw : swappedStores [.Subscript (.Name x px) kx pos'] e X.env = pure none := by rfl) :
    DS X A (.Assign [.Subscript (.Name x px) kx pos'] e pos) (fSetI i fk fv) :=
  ps_weak (ps_asg he (pg_sub (pv i hN hv hd hcd) hk set_list ha) hs hw) fun Dd σ H ⟨F, G, en, Ψ, k, h, q1, _⟩ => ⟨F, G, en, _, k, h, fun dv e1 v G1 H1 z k1 s1 r1 => by
    obtain ⟨o, eg, z⟩ := z
    obtain ⟨p, u, f1, f2, f3⟩ := k1.slot eg
    refine ⟨.ref p, f1, F, G1, e1, _, k1, z, fun dk e2 kv G2 H2 z k2 s2 r2 => ?_⟩
    obtain ⟨ki, j, l, rfl, eg', hj, z⟩ := z
    obtain ⟨p', u', g1, g2, g3⟩ := k2.slot eg'
    rw [f1] at g1
    have ep : p = p' := by injection g1 with g1; injection g1 with g1; injection g1
    subst ep
    obtain ⟨xs, eu, ra⟩ := g3
    subst eu
    cases rep_int.mp r2
    refine ⟨p, xs, ki, j, rfl, rfl, g2, by rw [ra.len]; exact hj, ?_⟩
    exact q1 _ _ G2 _ z (k2.alter (u' := .lst (xs.set j v)) eg' f1 ⟨_, rfl, RepA.set (r1.mono s2.g) j ra⟩) (s1.trans s2)⟩
end

/-! ### min, max, lcm -/
def rMinD : RAD := fun xs Φ => ∃ (ns : List Int) (m : Int), xs = [.lst (ns.map D.int)] ∧ m ∈ ns ∧ (∀ y ∈ ns, m ≤ y) ∧ Φ (.int m)
def rMaxD : RAD := fun xs Φ => ∃ (ns : List Int) (m : Int), xs = [.lst (ns.map D.int)] ∧ m ∈ ns ∧ (∀ y ∈ ns, y ≤ m) ∧ Φ (.int m)
def rMax2D : RAD := fun xs Φ => ∃ i j : Int, xs = [.int i, .int j] ∧ Φ (.int (max i j))
def rMin2D : RAD := fun xs Φ => ∃ i j : Int, xs = [.int i, .int j] ∧ Φ (.int (min i j))
def rLcmD : RAD := fun xs Φ => ∃ i j : Nat, xs = [.int (i : Int), .int (j : Int)] ∧ i < 100000000 ∧ j < 100000000 ∧ Φ (.int ((Nat.lcm i j : Nat) : Int))
def rGcdD : RAD := fun xs Φ => ∃ i j : Int, xs = [.int i, .int j] ∧ Φ (.int ((Nat.gcd i.natAbs j.natAbs : Nat) : Int))
section
variable {X : Cx}
theorem callD_min (hc : X.calm = true) : CallR X (.builtin "min") (LRA X.K rMinD) := fun pins s σ H xs us Q I r ⟨G, ds, Ψ, gh, r1, h, q⟩ => by
  obtain ⟨ns, m, rfl, hm, hle, z⟩ := h
  obtain ⟨v, rfl, rv⟩ := repA_1 r1
  obtain ⟨a, ys, rfl, sq, ra⟩ := rep_lst.mp rv
  cases repA_ints_inv ra
  refine cr_min hc pins s σ H _ us Q I r ⟨a, ns, rfl, .inl (.inl (gh _ _ sq)), List.length_pos_of_mem hm, fun m' hm' hle' => ?_⟩
  have e : m' = m := Int.le_antisymm (hle' m hm) (hle m' hm')
  subst e
  exact q _ _ G H z (Grow.refl _ _) gh (rep_int.mpr rfl)
theorem callD_max (hc : X.calm = true) : CallR X (.builtin "max") (LRA X.K rMaxD) := fun pins s σ H xs us Q I r ⟨G, ds, Ψ, gh, r1, h, q⟩ => by
  obtain ⟨ns, m, rfl, hm, hle, z⟩ := h
  obtain ⟨v, rfl, rv⟩ := repA_1 r1
  obtain ⟨a, ys, rfl, sq, ra⟩ := rep_lst.mp rv
  cases repA_ints_inv ra
  refine cr_max hc pins s σ H _ us Q I r ⟨a, ns, rfl, .inl (.inl (gh _ _ sq)), List.length_pos_of_mem hm, fun m' hm' hle' => ?_⟩
  have e : m' = m := Int.le_antisymm (hle m' hm') (hle' m hm)
  subst e
  exact q _ _ G H z (Grow.refl _ _) gh (rep_int.mpr rfl)
theorem callD_max2 (hc : X.calm = true) : CallR X (.builtin "max") (LRA X.K rMax2D) := fun pins s σ H xs us Q I r ⟨G, ds, Ψ, gh, r1, h, q⟩ => by
  obtain ⟨i, j, rfl, z⟩ := h
  obtain ⟨v, w, rfl, rv, rw'⟩ := repA_2 r1
  cases rep_int.mp rv
  cases rep_int.mp rw'
  refine call_max2 hc pins s σ H _ us Q I r ⟨i, j, rfl, ?_⟩
  have e : (if j > i then j else i) = max i j := by
    by_cases h : j > i
    · rw [if_pos h]; omega
    · rw [if_neg h]; omega
  rw [e]
  exact q _ _ G H z (Grow.refl _ _) gh (rep_int.mpr rfl)
theorem callD_min2 (hc : X.calm = true) : CallR X (.builtin "min") (LRA X.K rMin2D) := fun pins s σ H xs us Q I r ⟨G, ds, Ψ, gh, r1, h, q⟩ => by
  obtain ⟨i, j, rfl, z⟩ := h
  obtain ⟨v, w, rfl, rv, rw'⟩ := repA_2 r1
  cases rep_int.mp rv
  cases rep_int.mp rw'
  refine call_min2 hc pins s σ H _ us Q I r ⟨i, j, rfl, ?_⟩
  have e : (if j < i then j else i) = min i j := by
    by_cases h : j < i
    · rw [if_pos h]; omega
    · rw [if_neg h]; omega
  rw [e]
  exact q _ _ G H z (Grow.refl _ _) gh (rep_int.mpr rfl)
theorem cr_lcm : CallR X (.builtin "math.lcm") (fun vs H Q => ∃ i j : Nat, vs = [.int (i : Int), .int (j : Int)] ∧ i < 100000000 ∧ j < 100000000 ∧ Q (.int ((Nat.lcm i j : Nat) : Int)) H) := by
  intro pins s σ H vs us Q I r h
  obtain ⟨a, b, rfl, ha, hb, q⟩ := h
  obtain ⟨t, u, rfl⟩ := Vals.int2 r
  have e : ((((Nat.lcm 1 (a : Int).natAbs).lcm (b : Int).natAbs : Nat) : Int)) = ((Nat.lcm a b : Nat) : Int) := by
    rw [Nat.lcm_one_left, Int.natAbs_natCast, Int.natAbs_natCast]
  have hm : Nat.lcm a b ≤ a * b := Nat.div_le_self _ _
  have hab : a * b ≤ 100000000 * 100000000 := Nat.mul_le_mul (by omega) (by omega)
  refine PySem.W.mg_lcm_v (by omega) (by omega) e ?_ ⟨.int _, H, I.tok _, ⟨_, rfl⟩, q⟩
  rw [Int.natAbs_natCast]
  have h64 : Nat.lcm a b < 2 ^ 64 := by omega
  have : (Nat.lcm a b).log2 < 64 := by
    by_cases h0 : Nat.lcm a b = 0
    · rw [h0]; decide
    · exact (Nat.log2_lt h0).mpr h64
  exact Nat.lt_of_lt_of_le this (by decide)
theorem callD_lcm : CallR X (.builtin "math.lcm") (LRA X.K rLcmD) := fun pins s σ H xs us Q I r ⟨G, ds, Ψ, gh, r1, h, q⟩ => by
  obtain ⟨i, j, rfl, hi, hj, z⟩ := h
  obtain ⟨v, w, rfl, rv, rw'⟩ := repA_2 r1
  cases rep_int.mp rv
  cases rep_int.mp rw'
  exact cr_lcm pins s σ H _ us Q I r ⟨i, j, rfl, hi, hj, q _ _ G H z (Grow.refl _ _) gh (rep_int.mpr rfl)⟩
theorem callD_gcd : CallR X (.builtin "math.gcd") (LRA X.K rGcdD) := fun pins s σ H xs us Q I r ⟨G, ds, Ψ, gh, r1, h, q⟩ => by
  obtain ⟨i, j, rfl, z⟩ := h
  obtain ⟨v, w, rfl, rv, rw'⟩ := repA_2 r1
  cases rep_int.mp rv
  cases rep_int.mp rw'
  exact cr_gcd pins s σ H _ us Q I r ⟨i, j, rfl, q _ _ G H z (Grow.refl _ _) gh (rep_int.mpr rfl)⟩
theorem de_callBf {A : Am} {x : Str} {p pos : Pos} {e : Expr} {es : List Expr} {id : String} {r : RAD} {fr : FA} (hc : CallR X (.builtin id) (LRA X.K r)) (hg : Gl X x) (hm : X.mg x = some (.builtin id)) (ha : DA X A (e :: es) fr) (hdb : (x == ("__debug__" : Str)) = false := by decide)
    (he : starEach (e :: es) X.env = (false, eval e X.env) :: starEach es X.env := by rfl) (hpl : (backTo pos (starEach es X.env)).any (·.1) = false := by rfl) : DE X A (.Call (.Name x p) (e :: es) [] pos) (fCB r fr) :=
  pe_weak (pe_callBfun hc hg hm ha hdb he hpl) fun _ _ _ h => le_cb h
end

/-! ### isinstance with an own class -/
/-- what the class's text must say -/
structure IsC (K : PySem.W.Frag) (C : Addr) : Prop where
  me : C8.InsC K C
  no : ∀ t ∈ ["NoneType", "bool", "int", "str", "tuple", "list", "dict"], PySem.W.kitOne K (.type t) (.ref C) = some false
def rIsOD (C : Addr) : RAD := fun xs Φ => ∃ x, xs = [x, .tok C] ∧ (((∃ ns l, x = .ins C ns l) ∧ Φ (.bl true)) ∨ ((∃ t, tyN x = some t) ∧ Φ (.bl false)))
theorem callD_isO {X : Cx} {C : Addr} (c : IsC X.K C) : CallR X (.builtin "isinstance") (LRA X.K (rIsOD C)) := fun pins s σ H xs us Q I r ⟨G, ds, Ψ, gh, r1, h, q⟩ => by
  obtain ⟨x, rfl, h⟩ := h
  obtain ⟨v, w, rfl, rv, rw'⟩ := repA_2 r1
  cases rep_tok.mp rw'
  rcases h with ⟨⟨ns, l, rfl⟩, z⟩ | ⟨⟨t, ht⟩, z⟩
  · obtain ⟨a, dx, ys, rfl, ha, _, _⟩ := rep_ins.mp rv
    exact C8.call_isC c.me pins s σ H _ us Q I r ⟨a, dx, _, rfl, gh _ _ ha, q _ _ G H z (Grow.refl _ _) gh (rep_bl.mpr rfl)⟩
  · exact call_isi pins s σ H _ us Q I r ⟨v, .ref C, .type t, .ref C, false, rfl, .own C, tyN_ty gh ht rv, c.no t (tyN_mem ht), q _ _ G H z (Grow.refl _ _) gh (rep_bl.mpr rfl)⟩
end Dz
namespace Dz
open PySem PySem.Spec PyProof.Rows L2
/-! ### [x] * n as a changing list of one's own -/
def nRep (fa fb : FE) : FN := fun en Φ => fa en fun x e1 => fb e1 fun y e2 => ∃ (l : List D) (k : Int), x = .lst l ∧ y = .int k ∧ -(2 ^ 63) ≤ k ∧ k < 2 ^ 63 ∧ l.length * k.toNat ≤ 1000000 ∧ Φ (.lst (List.replicate k.toNat l).flatten) e2
theorem RepA.flat {K : PySem.W.Frag} {G : Hp} {l : List D} {xs : List V} (r : RepA K G l xs) : ∀ n : Nat, RepA K G (List.replicate n l).flatten (List.replicate n xs).flatten
  | 0 => .nil
  | n + 1 => by
    rw [List.replicate_succ, List.replicate_succ, List.flatten_cons, List.flatten_cons]
    exact r.app (RepA.flat r n)
theorem dn_rep {X : Cx} {A : Am} {a b : Expr} {pos : Pos} {fa fb : FE} (ha : DE X A a fa) (hb : DE X A b fb) : DN X A (.BinOp a .Mult b pos) (nRep fa fb) := pe_weak (pe_op op_rep ha hb) fun σ H Q ⟨F, G, en, Ψ, k, h, q⟩ =>
  ⟨F, G, en, _, k, h, fun x e1 v1 G1 H1 z k1 s1 r1 => ⟨F, G1, e1, _, k1, z, fun y e2 v2 G2 H2 z k2 s2 r2 => by
    obtain ⟨l, n, rfl, rfl, h1, h2, h3, z⟩ := z
    obtain ⟨p, xs, rfl, sq, ra⟩ := rep_lst.mp (r1.mono s2.g)
    cases rep_int.mp r2
    exact ⟨p, n, xs, rfl, rfl, k2.ok.gh _ _ sq, h1, h2, by rw [ra.len]; exact Nat.le_trans h3 (by decide), fun p' hp => q _ e2 p' G2 _ z (k2.newcell hp ⟨_, rfl, ra.flat _⟩) (s1.trans s2)⟩⟩⟩
end Dz
namespace Dz
open PySem PySem.Spec PyProof.Rows L2
/-! ### a chain as a test -/
theorem le_chain {K : PySem.W.Frag} {A : Am} {r r' : R2D} {fa fb fc : FE} {σ : L2.St} {H : Hp} {Q : VK} (h : LE K A (fChain r r' fa fb fc) σ H Q) : tChain (LR2 K r) (LR2 K r') (LE K A fa) (LE K A fb) (LE K A fc) σ H Q := by
  obtain ⟨F, G, en, Ψ, k, h, q⟩ := h
  refine ⟨F, G, en, _, k, h, fun x e1 v1 G1 H1 hb k1 s1 r1 => ⟨F, G1, e1, _, k1, hb, fun y e2 v2 G2 H2 hr k2 s2 r2 =>
    ⟨G2, x, y, _, k2.ok.gh, r1.mono s2.g, r2, hr, fun z w G3 H3 hz g s r3 => ?_⟩⟩⟩
  obtain ⟨b, rfl, hz⟩ := hz
  refine ⟨b, rep_bl.mp r3, ?_⟩
  have k3 := k2.grow g s
  have s3 := (s1.trans s2).trans (g.step k2.ok.fh)
  cases b with
  | false => exact q _ e2 _ G3 H3 hz k3 s3 (rep_bl.mpr rfl)
  | true => exact ⟨F, G3, e2, _, k3, hz, fun w' e4 v4 G4 H4 hw k4 s4 r4 => ⟨G4, y, w', _, k4.ok.gh, (r2.mono g.g).mono s4.g, r4, hw, fun z5 w5 G5 H5 hz5 g5 s5 r5 => q z5 e4 w5 G5 H5 hz5 (k4.grow g5 s5) ((s3.trans s4).trans (g5.step k4.ok.fh)) r5⟩⟩
theorem dt_chain {X : Cx} {A : Am} {a b c : Expr} {pos : Pos} {op op' : CmpOp} {r r' : R2D} {fa fb fc : FE} (ho : OpR X (compareOp op) (LR2 X.K r)) (ho' : OpR X (compareOp op') (LR2 X.K r')) (ha : DE X A a fa) (hb : DE X A b fb) (hc : DE X A c fc)
    (hm : lastMarks [op, op'] [b, c] = false := by with_unfolding_all rfl) : DT X A (.Compare a [op, op'] [b, c] pos) (fTest (fChain r r' fa fb fc)) := pt_weak (pt_chain ho ho' ha hb hc hm) fun σ H Q h => le_chain (le_test h)
end Dz

namespace DzB
open PySem
section
variable {pr : Program} {wo : World} {Ar : Around} {Ex : Value → Shared → Prop} {st : Shared} {v : Value} {Want : Value → Shared → Prop}
/-- bool(v), by the truth of v as the built-in asks it -/
theorem call_bool_via (h : wpAny (model pr wo) Ar.in1.in1 (truthy v) (fun b s' => Want (.bool b) s') Ex st) : wpAny (model pr wo) Ar (call (.type "bool") [v]) Want Ex st := by
  have ft := F.called_bool
  obtain ⟨c0, r0, m0⟩ := F.called_bool.mro
  have n1 := ft.notType; have n2 := ft.canCreate; have n3 := ft.made; have n4 := ft.sub; have n5 := F.typeCall_bool_1 v
  refine wpAny_call (codeAny_of_tree (show wpAny _ _ (callAny (.type "bool") _) _ _ _ from wpAny_pure ⟨Code.quiet_builtin _ (by decide +kernel), codeAny_builtin F.entry_type_call ?_⟩))
  rw [Around.under_plain (weight_type_call_type _ [v] []) (units_type_call_type _ [v] [])]
  (repeat (any_goals (first | assumption | wp_step)))
  have body : wpAny (model pr wo) Ar.in1.in1 (Builtin.«bool.__new__» ⟨[.type "bool", v], []⟩) (fun fin s1 => match fin with | .done fl => wants (fun o s2 => ∃ b, o = .bool b ∧ Want o s2) Ex (.ok fl) s1 | .again c1 => c1.quiet = true ∧ codeAny (model pr wo) Ar.in1 c1 (wants (fun o s2 => ∃ b, o = .bool b ∧ Want o s2) Ex) s1) (fun e s1 => wants (fun o s1 => ∃ b, o = .bool b ∧ Want o s1) Ex (.error e) s1) st := by
    have f1 := F.conv_sub_bool
    unfold Builtin.«bool.__new__»
    repeat (any_goals (first | assumption | (with_reducible refine wpAny_bind (wpAny_mono h (fun b s' hb => ?_) fun _ _ e => e)) | wp_step))
    all_goals exact ⟨_, rfl, hb⟩
  refine codeAny_mono (codeAny_call_builtin ft.plain F.entry_bool_new (wpAny_of_eq (F.newCall_bool_1 v) body)) fun r s1 hr => ?_
  cases r with
  | error e => exact hr
  | ok fl =>
    cases fl with
    | ret o =>
      obtain ⟨b, rfl, hw⟩ := hr
      have k1 := ft.init.lookup; have k2 := ft.init.bind (.bool b)
      (repeat (any_goals (first | assumption | wp_step)))
      refine codeAny_mono (codeAny_call_builtin ft.init.plain F.entry_object_init (ft.init.check _ _ _ _ _ _ _ _ (show s1.TypeIs (.bool b) "bool" from rfl) (F.args_object_init_2 _ v)
        (object_init_meets (newId := "bool.__new__") ft.init.lookup ft.made F.newNe_bool pr wo Ar.in1 (wants (fun r s2 => r = .none ∧ Want (.bool b) s2) Ex) s1 ⟨rfl, rfl, hw⟩))) fun r2 s2 hr2 => ?_
      cases r2 with
      | error e => exact hr2
      | ok fl2 =>
        cases fl2 with
        | ret r =>
          obtain ⟨rfl, hq⟩ := hr2
          (repeat (any_goals (first | assumption | wp_step)))
        | next => exact hr2.elim
        | brk => exact hr2.elim
        | cont => exact hr2.elim
    | next => exact hr.elim
    | brk => exact hr.elim
    | cont => exact hr.elim
end
end DzB
namespace Dz
open PySem PySem.Spec PyProof.Rows L2
section
variable {X : Cx}
/-- a value's truth, wherever it is asked -/
theorem tru_any {Ar : Around} {pins : List (Addr × Obj)} {s : Shared} {σ : L2.St} {H : Hp} {p : Addr} {k : Bool} {Q : Bool → Shared → Prop} (I : Inv X pins σ H s) (e : (∃ xs, SqL X.K H p xs ∧ k = !xs.isEmpty) ∨ (∃ xs, SqT X.K H p xs ∧ k = !xs.isEmpty))
    (h : ∀ tk, Q k { s with toks := tk }) : wpAny (model X.prog X.w) Ar (truthy (.ref p)) Q X.xe s := by
  have l1 := line63
  have l2 : sizeLine = 16777216 := sizeLine_eq
  rcases e with ⟨xs, hx, ek⟩ | ⟨xs, hx, ek⟩
  · obtain ⟨its, r, pl, _⟩ := I.list hx
    have hlen := r.length
    refine wpAny_truthy_list pl.isList (by simp only [List.size_toArray]; omega) ?_
    have ee : (!its.toArray.isEmpty) = k := by rw [ek, ← isEmpty_of r]
    rw [ee]
    exact h _
  · obtain ⟨its, r, pl, _⟩ := I.tuple hx
    have hlen := r.length
    refine truthy_tuple pl (by simp only [List.size_toArray]; omega) ?_
    have ee : (!its.toArray.isEmpty) = k := by rw [ek, ← isEmpty_of r]
    rw [ee]
    exact h _
def rBoolD : RAD := fun xs Φ => ∃ x k, xs = [x] ∧ truD x = some k ∧ x ≠ .non ∧ Φ (.bl k)
theorem callD_bool : CallR X (.type "bool") (LRA X.K rBoolD) := fun pins s σ H xs us Q I r ⟨G, ds, Ψ, gh, r1, h, q⟩ => by
  obtain ⟨x, k, rfl, hk, hn, z⟩ := h
  obtain ⟨v, rfl, rv⟩ := repA_1 r1
  have q' := q _ _ G H z (Grow.refl _ _) gh (rep_bl.mpr rfl)
  have refs : ∀ p, v = .ref p → wpAny (model X.prog X.w) X.A (call (.type "bool") us) (EP X pins σ Q) X.xe s := fun p e => by
    subst e
    obtain rfl := Vals.ref1 r
    have t := truV_of gh hk rv
    refine DzB.call_bool_via (tru_any (k := k) I ?_ fun tk => ⟨.bl k, H, I.tok _, rfl, q'⟩)
    rcases t with t | t | ⟨kvs, hkv, _⟩
    · exact .inl t
    · exact .inr t
    · cases x with
      | tup l =>
        obtain ⟨p', xs, e, sq, ra⟩ := rep_tup.mp rv
        cases e
        exact .inr ⟨xs, sqt_mono gh sq, by cases hk; rw [empty_of ra]⟩
      | lst l =>
        obtain ⟨p', xs, e, sq, ra⟩ := rep_lst.mp rv
        cases e
        exact .inl ⟨xs, .inl (.inl (gh _ _ sq)), by cases hk; rw [empty_of ra]⟩
      | fro l =>
        obtain ⟨p', xs, e, sq, ra⟩ := rep_fro.mp rv
        cases e
        exact .inl ⟨xs, gh.seq sq, by cases hk; rw [empty_of ra]⟩
      | non => exact absurd rfl hn
      | bl b => cases rep_bl.mp rv
      | int b => cases rep_int.mp rv
      | _ => cases hk
  cases x with
  | non => exact absurd rfl hn
  | bl b =>
    cases rep_bl.mp rv
    cases hk
    exact call_bool1 pins s σ H _ us Q I r (.inr ⟨_, rfl, q'⟩)
  | int i =>
    cases rep_int.mp rv
    cases hk
    exact call_bool1 pins s σ H _ us Q I r (.inl ⟨_, rfl, q'⟩)
  | tup l =>
    obtain ⟨p, _, e, _⟩ := rep_tup.mp rv
    exact refs p e
  | lst l =>
    obtain ⟨p, _, e, _⟩ := rep_lst.mp rv
    exact refs p e
  | fro l =>
    obtain ⟨p, _, e, _⟩ := rep_fro.mp rv
    exact refs p e
  | _ => cases hk
/-- the truth of an object of an own class, wherever it is asked -/
theorem truO {C f : Addr} {fd : FuncData} {k : Nat} {ps : List Str} {sp : Sp} {Ar : Around} {pins : List (Addr × Obj)} {s : Shared} {σ : L2.St} {H : Hp} {p dx : Addr} {fs : List (Str × V)} {Q : Bool → Hp → Prop} (F : FnOk X.prog X.w X.K X.mg X.base CX0 k f fd ps sp)
    (hr : Room k Ar) (hfr : Ar.frames = X.A.frames) (hb : Binds X.K fd ps []) (hm : Meth X.K C "__bool__" f) (I : Inv X pins σ H s) (hp : H p = some (.ins C dx fs)) (h : sp [.ref p] H (fun z H' => ∃ b, z = .bl b ∧ Q b H') E0) :
    wpAny (model X.prog X.w) Ar (truthy (.ref p)) (TP X pins σ Q) X.xe s := by
  obtain ⟨mA, J, _⟩ := ins_get I.hok hp
  obtain ⟨od, J, _⟩ := J.look
  obtain ⟨m, hF⟩ := I.fr
  refine PySem.W.truthy_K hF I.ok.mod.kin J hm.at_ hm.fn ?_
  have e0 : Env0 X.prog X.w X.K X.mg X.base Ar X.stack s H := by
    have e := I.env0
    exact ⟨by rw [hfr]; exact e.frames, e.mod, e.bs, e.bsz, e.funs, e.frf, e.hok, e.bare⟩
  have b := hb s [.ref p] I.kIn (by rw [List.append_nil]; exact (F.len _ _ _ _ h))
  rw [List.append_nil] at b
  refine wpAny_call (codeAny_mono (F.run Ar X.stack s H ⟨[.ref p], []⟩ [.ref p] [.ref p] _ E0 hr e0 b (.cons rfl .nil) h) fun r s' hq => ?_)
  cases r with
  | error e => exact hq.elim
  | ok fl =>
    cases fl with
    | ret u =>
      obtain ⟨z, H', I', rz, bb, rfl, q⟩ := I.after hq
      cases rz
      exact ⟨H', I', q⟩
    | next => exact False.elim hq
    | brk => exact False.elim hq
    | cont => exact False.elim hq
end
/-- bool(x), x of an own class with __bool__ -/
def rBoolO (C : Addr) (pd : PD) : RAD := fun xs Φ => ∃ ns l, xs = [.ins C ns l] ∧ pd [] [.ins C ns l] fun d => ∃ b, d = .bl b ∧ Φ (.bl b)
theorem callD_boolO {X : Cx} {C : Addr} {k : Nat} {ps : List Str} {pd : PD} (O : MthD X.prog X.w X.K X.mg X.base C "__bool__" k ps pd) (hr : Room (k + 2) X.A) : CallR X (.type "bool") (LRA X.K (rBoolO C pd)) := fun pins s σ H xs us Q I r ⟨G, ds, Ψ, gh, r1, h, q⟩ => by
  obtain ⟨f, fd, h1, h2, h3⟩ := O.ex
  obtain ⟨ns, l, rfl, h⟩ := h
  obtain ⟨v, rfl, rv⟩ := repA_1 r1
  obtain ⟨p, dx, ys, rfl, hp, _, _⟩ := rep_ins.mp rv
  obtain rfl := Vals.ref1 r
  refine DzB.call_bool_via (wpAny_mono (truO (Q := fun b H' => Q (.bl b) H') h1 hr.in1.in1 rfl h3 h2 I (gh _ _ hp) ⟨[], G, [_], _, StQ.bare gh, .cons rv .nil, h, fun d v G' H' hd k' s' r' => ?_⟩) (fun b s' z => ?_) fun _ _ z => z)
  · obtain ⟨b, rfl, hd⟩ := hd
    exact ⟨b, rep_bl.mp r', q _ _ G' H' hd (grow_of k' s') k'.gh (rep_bl.mpr rfl)⟩
  · obtain ⟨H', I', z⟩ := z
    exact ⟨.bl b, H', I', rfl, z⟩
/-- .. as a test -/
def fTruO (C : Addr) (pd : PD) (fa : FE) : FT := fun en Φ => fa en fun x e => (∃ ns l, x = .ins C ns l) ∧ pd [] [x] fun d => ∃ b, d = .bl b ∧ Φ b e
theorem dt_truO {X : Cx} {A : Am} {C : Addr} {k : Nat} {ps : List Str} {pd : PD} {a : Expr} {fa : FE} (O : MthD X.prog X.w X.K X.mg X.base C "__bool__" k ps pd) (hr : Room k X.A) (ha : DE X A a fa)
    (he : ∀ whole, isTrue a X.env whole = (do let v ← whole; standAt a.pos; holding [v] (truthy v)) := by intro _; rfl) : DT X A a (fTruO C pd fa) := ⟨fun pins s σ H Q I h => by
  obtain ⟨f, fd, h1, h2, h3⟩ := O.ex
  obtain ⟨F, G, en, Ψ, k, h, q⟩ := h
  refine isTrue_plain (thn (ha.run pins s σ H (fun v H1 => ∃ p dx fs, v = .ref p ∧ H1 p = some (.ins C dx fs) ∧ spD X.K pd [.ref p] H1 (fun z H' => ∃ b, z = .bl b ∧ Q b H') E0) I ⟨F, G, en, _, k, h, fun x e1 v G1 H1 z k1 s1 r1 => ?_⟩) fun v s1 ⟨x, H1, I1, r1, p, dx, fs, ex, hp, hs⟩ => ?_) (he _)
  · obtain ⟨⟨ns, l, rfl⟩, z⟩ := z
    obtain ⟨p, dx, ys, rfl, hp, _, _⟩ := rep_ins.mp r1
    refine ⟨p, dx, _, rfl, k1.ok.gh _ _ hp, [], G1, [_], _, StQ.bare k1.ok.gh, .cons r1 .nil, z, fun d v G' H' hd k' s' r' => ?_⟩
    obtain ⟨b, rfl, hd⟩ := hd
    have g := grow_of k' s'
    exact ⟨b, rep_bl.mp r', q b e1 G' H' hd (k1.grow g k'.gh) (s1.trans (g.step k1.ok.fh))⟩
  · subst ex
    cases r1
    exact truO h1 hr rfl h3 h2 I1 hp hs⟩
end Dz

namespace Dz
open PySem PySem.Spec PyProof.Rows L2
/-! ### x in a list or tuple of whole numbers, or of truth values -/
def rInF : R2D := fun x y Φ => (∃ (i : Int) (ns : List Int), x = .int i ∧ (y = .tup (ns.map D.int) ∨ y = .lst (ns.map D.int)) ∧ Φ (.bl (decide (i ∈ ns)))) ∨ ∃ (b : Bool) (bs : List Bool), x = .bl b ∧ y = .lst (bs.map D.bl) ∧ Φ (.bl (decide (b ∈ bs)))
theorem inV_ints {i : Int} : ∀ ns : List Int, inV (.int i) (ns.map V.int) = decide (i ∈ ns)
  | [] => by unfold inV; simp
  | a :: r => by
    have ih := inV_ints (i := i) r
    unfold inV at ih ⊢
    rw [List.map_cons, List.any_cons, ih]
    by_cases h : i = a
    · subst h; simp [eqV]
    · have h2 : ¬ a = i := fun z => h z.symm
      simp [eqV, h, h2]
theorem inV_bls {i : Bool} : ∀ ns : List Bool, inV (.bl i) (ns.map V.bl) = decide (i ∈ ns)
  | [] => by unfold inV; simp
  | a :: r => by
    have ih := inV_bls (i := i) r
    unfold inV at ih ⊢
    rw [List.map_cons, List.any_cons, ih]
    cases i <;> cases a <;> simp [eqV]
theorem flat_ints (ns : List Int) : (ns.map V.int).all flatV = true := by
  rw [List.all_map, List.all_eq_true]
  intro x _
  rfl
theorem flat_bls (ns : List Bool) : (ns.map V.bl).all flatV = true := by
  rw [List.all_map, List.all_eq_true]
  intro x _
  rfl
theorem opd_in {X : Cx} : OpR X (compareOp .In) (LR2 X.K rInF) := opr_weak op_in_seq fun x y H Q ⟨G, dx, dy, Ψ, s, rx, ry, h, q⟩ => by
  rcases h with ⟨i, ns, rfl, hy, z⟩ | ⟨b, bs, rfl, rfl, z⟩
  · cases rep_int.mp rx
    have fin : (if false then !inV (.int i) (ns.map V.int) else inV (.int i) (ns.map V.int)) = decide (i ∈ ns) := inV_ints ns
    rcases hy with rfl | rfl
    · obtain ⟨p, xs, rfl, sq, ra⟩ := rep_tup.mp ry
      cases repA_ints_inv ra
      exact ⟨p, _, rfl, .inr (sqt_mono s sq), rfl, flat_ints ns, by rw [inV_ints]; exact q _ _ G H z (Grow.refl _ _) s (rep_bl.mpr rfl)⟩
    · obtain ⟨p, xs, rfl, sq, ra⟩ := rep_lst.mp ry
      cases repA_ints_inv ra
      exact ⟨p, _, rfl, .inl (.inl (.inl (s _ _ sq))), rfl, flat_ints ns, by rw [inV_ints]; exact q _ _ G H z (Grow.refl _ _) s (rep_bl.mpr rfl)⟩
  · cases rep_bl.mp rx
    obtain ⟨p, xs, rfl, sq, ra⟩ := rep_lst.mp ry
    cases repA_bls_inv ra
    exact ⟨p, _, rfl, .inl (.inl (.inl (s _ _ sq))), rfl, flat_bls bs, by rw [inV_bls]; exact q _ _ G H z (Grow.refl _ _) s (rep_bl.mpr rfl)⟩
end Dz

namespace Dz
open PySem PySem.Spec PyProof.Rows L2
/-! ### range objects as values -/
def iRngO (tl : TE) : TI := fun σ H R => tl σ H fun x H1 => ∃ (a : Addr) (lo hi : Int), x = .ref a ∧ H1 a = some (.rng lo hi) ∧ (-(2 ^ 62) ≤ lo ∧ lo < 2 ^ 62 ∧ -(2 ^ 62) ≤ hi ∧ hi < 2 ^ 62) ∧ R (Itr lo (hi - lo).toNat) H1
theorem pi_rngO {X : Cx} {tg l : Expr} {tl : TE} (hl : PE X l tl) : PI X tg l (iRngO tl) := by
  refine ⟨fun pins s σ H R I h => thn (hl.run pins s σ H _ I h) fun v s1 ⟨x, H1, I1, r1, q1⟩ => ?_⟩
  obtain ⟨a, lo, hi, e, ha, ⟨h1, h2, h3, h4⟩, q⟩ := q1
  subst e
  cases r1
  obtain ⟨t, u, w, hg⟩ := I1.hok a _ ha
  refine wpAny_pyIter_range (a := lo) (b := hi) (c := 1) (t := t) (u := u) (v := w) hg (small_one h1 h2 h3 h4) ?_
  refine ⟨s1.heap.objs.size, [s1.heap.objs.size], _, _, H1, rfl, I1.kept (t' := s1.toks) fun b o e => Heap.get?_push_of_some _ e, turn_range _ lo (hi - lo).toNat, ?_, fun b hb => ?_, q⟩
  · have e1 : lo + ((0 : Nat) : Int) * 1 = lo := by simp
    have e2 : (((hi - lo).toNat : Nat) : Int) - ((0 : Nat) : Int) = Builtin.Range.rangeSize lo hi 1 := by rw [rangeSize_one]; split <;> omega
    show IsRangeIter _ _ (lo + ((0 : Nat) : Int) * 1) ((((hi - lo).toNat : Nat) : Int) - ((0 : Nat) : Int)) 1
    rw [e1, e2]
    exact Heap.get?_push_size _ rfl
  · have e : b = s1.heap.objs.size := by simpa using hb
    subst e
    exact I1.fpOk (Nat.le_refl _) (I1.hok.fresh (Nat.le_refl _))
def fIRngO (fa : FE) : FI := fun en Φ => fa en fun d e => ∃ lo hi : Int, d = .rng lo hi ∧ (-(2 ^ 62) ≤ lo ∧ lo < 2 ^ 62 ∧ -(2 ^ 62) ≤ hi ∧ hi < 2 ^ 62) ∧ Φ (rngD lo (hi - lo).toNat) e
theorem di_rngO {X : Cx} {A : Am} {tg e : Expr} {fa : FE} (ha : DE X A e fa) : DI X A tg e (fIRngO fa) := pi_weak (pi_rngO ha) fun σ H R ⟨F, G, en, Ψ, k, h, q⟩ =>
  ⟨F, G, en, _, k, h, fun d e1 v G1 H1 z k1 s1 r1 => by
    obtain ⟨lo, hi, rfl, hb, z⟩ := z
    obtain ⟨p, rfl, hp⟩ := rep_rng.mp r1
    exact ⟨p, lo, hi, rfl, k1.ok.gh _ _ hp, hb, q _ e1 G1 H1 _ z k1 s1 yl_rng⟩⟩
theorem cr_range1 {X : Cx} : CallR X (.type "range") (fun vs H Q => ∃ j : Int, vs = [V.int j] ∧ ∀ p, H p = none → Q (.ref p) (upd H p (.rng 0 j))) := by
  intro pins s σ H vs us Q I r h
  obtain ⟨j, rfl, q⟩ := h
  cases r with
  | cons r rr =>
    cases rr
    obtain ⟨t, rfl⟩ := r
    refine call_range_1 ⟨.ref s.heap.objs.size, upd H s.heap.objs.size (.rng 0 j), I.laid (t' := s.toks + 1 + 1) (fun b o e => Heap.get?_push_of_some _ e) (Nat.le_refl _) ?_, rfl, q _ (I.hok.fresh (Nat.le_refl _))⟩
    exact ⟨s.toks, t, s.toks + 1, Heap.get?_push_size _ rfl⟩
def rRng1D : RAD := fun xs Φ => ∃ j : Int, xs = [.int j] ∧ Φ (.rng 0 j)
theorem callD_rng1 {X : Cx} : CallR X (.type "range") (LRA X.K rRng1D) := fun pins s σ H xs us Q I r ⟨G, ds, Ψ, gh, r1, h, q⟩ => by
  obtain ⟨j, rfl, z⟩ := h
  obtain ⟨v, rfl, rv⟩ := repA_1 r1
  cases rep_int.mp rv
  refine cr_range1 pins s σ H _ us Q I r ⟨j, rfl, fun p hp => ?_⟩
  have g : Grow G H (upd G p (.rng 0 j)) (upd H p (.rng 0 j)) := Grow.new gh hp
  exact q _ _ _ _ z g (same_upd2 gh) (rep_rng.mpr ⟨p, rfl, upd_same⟩)
end Dz
namespace Dz
open PySem PySem.Spec PyProof.Rows L2
/-! ### is None, is not None -/
def isNonD : D → Bool
  | .non => true
  | _ => false
def rIsN2 : R2D := fun x y Φ => y = .non ∧ Φ (.bl (isNonD x))
def rIsNotN2 : R2D := fun x y Φ => y = .non ∧ Φ (.bl (!isNonD x))
theorem isNonD_rep {K : PySem.W.Frag} {G : Hp} : ∀ {d : D} {v : V}, Rep K G d v → decide (v = .non) = isNonD d
  | .non, v, r => by rw [rep_non.mp r]; rfl
  | .bl _, v, r => by rw [rep_bl.mp r]; rfl
  | .int _, v, r => by rw [rep_int.mp r]; rfl
  | .str _, v, r => by rw [rep_str.mp r]; rfl
  | .tup _, v, r => by obtain ⟨a, xs, rfl, _⟩ := rep_tup.mp r; rfl
  | .lst _, v, r => by obtain ⟨a, xs, rfl, _⟩ := rep_lst.mp r; rfl
  | .fro _, v, r => by obtain ⟨a, xs, rfl, _⟩ := rep_fro.mp r; rfl
  | .dct _ _, v, r => by obtain ⟨a, xs, rfl, _⟩ := rep_dct.mp r; rfl
  | .ins _ _ _, v, r => by obtain ⟨a, dx, xs, rfl, _⟩ := rep_ins.mp r; rfl
  | .tok _, v, r => by rw [rep_tok.mp r]; rfl
  | .ty _, v, r => by rw [rep_ty.mp r]; rfl
  | .rng _ _, v, r => by obtain ⟨a, rfl, _⟩ := rep_rng.mp r; rfl
  | .obj _ _, v, r => by obtain ⟨a, xs, o, rfl, _⟩ := rep_obj.mp r; rfl
theorem opd_is {X : Cx} : OpR X (compareOp .Is) (LR2 X.K rIsN2) := opr_weak op_isN fun x y H Q ⟨G, dx, dy, Ψ, s, rx, ry, ⟨e, z⟩, q⟩ => by
  subst e
  refine ⟨rep_non.mp ry, ?_⟩
  rw [isNonD_rep rx]
  exact q _ _ G H z (Grow.refl _ _) s (rep_bl.mpr rfl)
theorem opd_isnot {X : Cx} : OpR X (compareOp .IsNot) (LR2 X.K rIsNotN2) := opr_weak op_notN fun x y H Q ⟨G, dx, dy, Ψ, s, rx, ry, ⟨e, z⟩, q⟩ => by
  subst e
  refine ⟨rep_non.mp ry, ?_⟩
  rw [isNonD_rep rx]
  exact q _ _ G H z (Grow.refl _ _) s (rep_bl.mpr rfl)
end Dz
namespace Dz
open PySem PySem.Spec PyProof.Rows L2
theorem unr_weak {X : Cx} {f : Value → Sem Value} {r r' : V → Hp → VK → Prop} (h : UnR X f r) (k : ∀ x H Q, r' x H Q → r x H Q) : UnR X f r' := fun pins s σ H x v Q I rx q => h pins s σ H x v Q I rx (k x H Q q)
theorem und_neg {X : Cx} : UnR X (unaryOp .USub) (LR1 X.K rNegD) := unr_weak un_neg fun x H Q ⟨G, dx, Ψ, s, rx, h, q⟩ => by
  unfold rNegD at h
  split at h
  · cases rep_int.mp rx
    exact ⟨_, rfl, q _ _ G H h (Grow.refl _ _) s (rep_int.mpr rfl)⟩
  · exact h.elim
end Dz

namespace Dz
open PySem PySem.Spec PyProof.Rows L2
/-! ### isinstance with the exception that a suite holds -/
def rIsED (K : PySem.W.Frag) (a : Addr) (cls : Value) (d : Option Addr) : RAD := fun xs Φ => ∃ D C b, cls = .ref D ∧ d = none ∧ ExcC K D ∧ xs = [.tok a, .tok C] ∧ PySem.W.kitOne K (.ref D) (.ref C) = some b ∧ Φ (.bl b)
theorem callD_isE {X : Cx} {a : Addr} {oe : Obj} {cls : Value} {d : Option Addr} {pn : List (Addr × Obj)} (hz : Zc cls d oe) (hf : ∃ vs, oe.data = .fields vs) : CallR (X.suite a ((a, oe) :: pn)) (.builtin "isinstance") (LRA X.K (rIsED X.K a cls d)) := fun pins s σ H xs us Q I r ⟨G, ds, Ψ, gh, r1, h, q⟩ => by
  obtain ⟨D, C, b, rfl, rfl, hc, rfl, hk, z⟩ := h
  obtain ⟨v, w, rfl, rv, rw'⟩ := repA_2 r1
  cases rep_tok.mp rv
  cases rep_tok.mp rw'
  exact call_isE hc hz hf pins s σ H _ us Q I r ⟨.ref C, .ref C, b, rfl, (fun u hu => by cases hu; rfl), hk, q _ _ G H z (Grow.refl _ _) gh (rep_bl.mpr rfl)⟩
theorem callD_isE' {X : Cx} {K : PySem.W.Frag} {a : Addr} {oe : Obj} {cls : Value} {d : Option Addr} {pn : List (Addr × Obj)} (hK : X.K = K) (hz : Zc cls d oe) (hf : ∃ vs, oe.data = .fields vs) : CallR (X.suite a ((a, oe) :: pn)) (.builtin "isinstance") (LRA (X.suite a ((a, oe) :: pn)).K (rIsED K a cls d)) := by
  subst hK
  exact callD_isE hz hf
section
variable {X : Cx} {A : Am} {Ξ : XW} {x n : Str} {c : Value} {i : Nat} {body suite : List Stmt} {b₀ : Stmt} {np pos pos' : Pos} {fb : Hp → Hp → XW → FS} {fh : Hp → Hp → Addr → Value → Option Addr → FS} {K : PySem.W.Frag}
theorem ds_try_only' (hK : X.K = K) (hs : X.stack = X.env :: X.outer) (hf : X.env.frame = some X.env.locals) (hc : Names X x c) (tk : Takes X (WD X.K A Ξ))
    (hb : ∀ (F G : Hp) (Ξ' : XW) (pn : List (Addr × Obj)) (xe : Value → Shared → Prop), Takes (X.tr pn xe) (WD X.K ⟨A.q, F, G⟩ Ξ') → PassesOwn (model X.prog X.w) X.A X.env xe → DSs (X.tr pn xe) ⟨A.q, F, G⟩ body (fb F G Ξ'))
    (hsu : ∀ (F G : Hp) (a : Addr) (oe : Obj) (cls : Value) (d : Option Addr) (pn : List (Addr × Obj)), Zc cls d oe → (∃ vs, oe.data = .fields vs) → DSs (X.suite a ((a, oe) :: pn)) ⟨A.q, F, G⟩ (b₀ :: suite) (fh F G a cls d)) :
    DS X A (.Try body [.ExceptHandler (some (.Name x np)) none (b₀ :: suite) pos'] [] [] pos) (fTryOnly K c fb fh Ξ) := by
  subst hK
  exact ds_try_only hs hf hc tk hb hsu
theorem ds_try_as' (hK : X.K = K) (hs : X.stack = X.env :: X.outer) (hf : X.env.frame = some X.env.locals) (hN : X.N.Nodup) (hi : X.N[i]? = some n) (hln : X.env.kindOf n = some .local) (hc : Names X x c) (tk : Takes X (WD X.K A Ξ))
    (hb : ∀ (F G : Hp) (Ξ' : XW) (pn : List (Addr × Obj)) (xe : Value → Shared → Prop), Takes (X.tr pn xe) (WD X.K ⟨A.q, F, G⟩ Ξ') → PassesOwn (model X.prog X.w) X.A X.env xe → DSs (X.tr pn xe) ⟨A.q, F, G⟩ body (fb F G Ξ'))
    (hsu : ∀ (F G : Hp) (a : Addr) (oe : Obj) (cls : Value) (d : Option Addr) (pn : List (Addr × Obj)), Zc cls d oe → (∃ vs, oe.data = .fields vs) → DSs (X.suite a ((a, oe) :: pn)) ⟨A.q, F, G⟩ (b₀ :: suite) (fh F G a cls d)) :
    DS X A (.Try body [.ExceptHandler (some (.Name x np)) (some n) (b₀ :: suite) pos'] [] [] pos) (fTryAs K c i fb fh Ξ) := by
  subst hK
  exact ds_try_as hs hf hN hi hln hc tk hb hsu
end
/-- nothing is let out -/
theorem takes_no {X : Cx} {A : Am} : Takes X (WD X.K A fun _ _ _ => False) := fun u s' ⟨a, B, sI, pins, σ, H, cls, d, e, I, nb, up, sky, na, os, ag, w⟩ => by
  obtain ⟨_, _, _, _, _, _, z⟩ := w
  exact z.elim
/-! ### a tuple no times -/
theorem tuple_mul0 (l : Addr) (items : Array Value) (n : Nat) (dd : Option Addr) (sl : Array (Option Value)) (u : Tok) (hne : items.isEmpty = false) :
    Meets (Builtin.«tuple.__mul__» ⟨[.ref l, .int 0 u], []⟩) (fun _ R s => s.heap.get? l = some { cls := .type "tuple", dict := dd, data := .seq items n, slots := sl } ∧
      R (.ok (.ret (Value.ref s.heap.objs.size))) { s with heap := s.heap.push { cls := Value.type "tuple", data := Data.seq #[] }, toks := s.toks }) :=
  .of_wp fun prog w A R s h => by
    obtain ⟨hp, g, d, tk, os⟩ := s
    obtain ⟨hl, h⟩ := h
    have f1 := AutoSeq1.idx_int
    have c0 : (decide ((0 : Int) < -(2 ^ 63)) || decide ((0 : Int) ≥ 2 ^ 63)) = false := by decide
    have c1 : (items.isEmpty || (0 : Int) == 1) = false := by rw [hne]; rfl
    have c2 : (decide ((0 : Int) ≤ 0) || items.isEmpty) = true := by rw [hne]; rfl
    wp_walk using wpAny_loadPart' hl
    repeat (first
      | (refine wpAny_ite_false (decide_eq_false (by rw [c0]; exact Bool.false_ne_true)) ?_; wp_walk using wpAny_loadPart' hl)
      | (refine wpAny_ite_false (decide_eq_false (by rw [c1]; exact Bool.false_ne_true)) ?_; wp_walk using wpAny_loadPart' hl)
      | (refine wpAny_ite_true (decide_eq_true c2) ?_; wp_walk using wpAny_loadPart' hl))
    exact ⟨_, rfl, h⟩
def rRep0T (K : PySem.W.Frag) : R2 := fun x y H Q => ∃ l xs, x = .ref l ∧ y = .int 0 ∧ SqT K H l xs ∧ xs ≠ [] ∧ ∀ p, H p = none → Q (.ref p) (upd H p (.tup []))
theorem op_rep0T {X : Cx} : OpR X (binaryOp .Mult) (rRep0T X.K) := by
  intro pins s σ H x y v u Q I rx ry h
  obtain ⟨l, xs, rfl, rfl, hT, hne, q⟩ := h
  cases rx
  obtain ⟨t, rfl⟩ := ry
  obtain ⟨its, r, ⟨⟨cls, dd, data, sl⟩, ho, hc, n, hd⟩, hs⟩ := I.tuple hT
  simp only at hc hd
  subst hc hd
  have hle : its.length = xs.length := r.length.symm
  have hi : its.toArray.isEmpty = false := by
    cases its with
    | nil => exact absurd (List.eq_nil_of_length_eq_zero hle.symm) hne
    | cons a b => rfl
  refine wpAny_binaryOp_repeat_ref (T := "tuple") (U := "int") (by decide) ⟨_, ho, rfl⟩ (fun s' => typeIs_int s' 0 t) noFill_tuple_mul PySem.F.fills_int_mul PySem.F.slot_int_rmul repeat_tuple PySem.F.slot_int_index.lookup
    (call_meets PySem.F.slot_int_rmul (typeIs_int s 0 t) PySem.F.entry_int_rmul (PySem.F.args_int_rmul_2 _ _) (int_rmul_tuple 0 t l its.toArray n dd sl)
      ⟨ho, rfl, ⟨_, ho, rfl⟩, call_meets PySem.F.slot_tuple_mul ⟨_, ho, rfl⟩ PySem.F.entry_tuple_mul (PySem.F.args_tuple_mul_2 _ _) (tuple_mul0 l its.toArray n dd sl t hi) ⟨ho, ?_⟩⟩)
  refine ⟨.ref s.heap.objs.size, _, I.laid (t' := s.toks) (o := .tup []) (fun b ob q => Heap.get?_push_of_some _ q) (Nat.le_refl _) ?_, rfl, q _ (I.hok.fresh (Nat.le_refl _))⟩
  exact ⟨by decide, [], .nil, IsTup.new _ _⟩
def rMulT : R2D := fun x y Φ => (∃ a, x = .tup a ∧ y = .int 0 ∧ a ≠ [] ∧ Φ (.tup [])) ∨ rMulD x y Φ
theorem opd_mulT {X : Cx} : OpR X (binaryOp .Mult) (LR2 X.K rMulT) := by
  intro pins s σ H x y v u Q I rx ry ⟨G, dx, dy, Ψ, gh, r1, r2, h, q⟩
  rcases h with ⟨a, rfl, rfl, hne, h⟩ | h
  · obtain ⟨p1, xs, rfl, s1, a1⟩ := rep_tup.mp r1
    cases rep_int.mp r2
    have hxs : xs ≠ [] := fun e => by
      subst e
      exact hne (List.eq_nil_of_length_eq_zero (by have := a1.len; simpa using this.symm))
    refine op_rep0T pins s σ H _ _ v u Q I rx ry ⟨p1, xs, rfl, rfl, sqt_mono gh s1, hxs, fun p hp => ?_⟩
    have g : Grow G H (upd G p (.tup [])) (upd H p (.tup [])) := Grow.new gh hp
    exact q _ _ _ _ h g (same_upd2 gh) (rep_tup.mpr ⟨p, _, rfl, .inl (.inl upd_same), .nil⟩)
  · exact opd_mul pins s σ H x y v u Q I rx ry ⟨G, dx, dy, Ψ, gh, r1, r2, h, q⟩
end Dz

namespace Dz
open PySem PySem.Spec PyProof.Rows L2 LamX
/-! ### a lambda handed to a def that tells whether it is refused -/
def tabOk (q : Str) : HD → Prop := fun o => o = .tab q
def noCel : En → Bool
  | [] => true
  | .cel _ :: _ => false
  | _ :: r => noCel r
theorem noCel_gt : ∀ {en : En} {i : Nat} {o : HD}, noCel en = true → gt en i ≠ .cel o
  | [], _, _, _ => fun z => by unfold gt at z; cases z
  | .cel _ :: _, _, _, h => by cases h
  | .un :: _, 0, _, _ => fun z => by cases z
  | .dat _ :: _, 0, _, _ => fun z => by cases z
  | .un :: r, i + 1, _, h => noCel_gt (en := r) (i := i) h
  | .dat _ :: r, i + 1, _, h => noCel_gt (en := r) (i := i) h
section
variable {K : PySem.W.Frag} {A : Am} {F G H H1 : Hp} {σ : L2.St} {en : En} {P p : Addr} {q : Str} {ns : List Int}
open Classical in
/-- behind the making of a lambda: its code object stands still -/
theorem EnvOk.lam (k : EnvOk K A F G H σ en) (hA : A.q = [(p, drawOk ns), (P, tabOk q)]) (hF : NE A.F0) (hG : NT A.G0) (hc : noCel en = true) (eN : ExtN H H1) (T1 : TabS H1 P q) : ∃ G1, EnvOk K A F G1 H1 σ en ∧ Step F G G1 := by
  obtain ⟨ps, t1, t2, t3⟩ := T1
  have nF : NE F := k.ok.bz.n hF
  have nG : NT G := k.ok.bg.n hG
  have up : Same G H1 := fun b u e => eN b u (k.ok.gh _ _ e) fun ps z => nG b ps (by rw [← z]; exact e)
  have upF : Same F H1 := fun b u e => eN b u (k.ok.fh _ _ e) (nF b u e).1
  obtain ⟨G1, hG1⟩ : ∃ G1 : Hp, G1 = fun b => if H1 b = some (CodeO b q) then some (CodeO b q) else G b := ⟨_, rfl⟩
  have pos : ∀ b, H1 b = some (CodeO b q) → G1 b = some (CodeO b q) := fun b e => by rw [hG1]; exact if_pos e
  have neg : ∀ b, H1 b ≠ some (CodeO b q) → G1 b = G b := fun b e => by rw [hG1]; exact if_neg e
  have sG : Same G G1 := fun b u e => by
    by_cases h : H1 b = some (CodeO b q)
    · rw [pos b h, ← h]; exact up b u e
    · rw [neg b h]; exact e
  have gH : Same G1 H1 := fun b u e => by
    by_cases h : H1 b = some (CodeO b q)
    · rw [pos b h] at e; rw [h]; exact e
    · rw [neg b h] at e; exact up b u e
  have st1 : Step F G G1 := ⟨fun _ b ps e => by
      by_cases h : H1 b = some (CodeO b q)
      · rw [pos b h] at e
        exact codeO_ne (c := b) (q := q) ps (Option.some.inj e)
      · rw [neg b h] at e
        exact nG b ps e, sG, fun b u e => neg b fun z => by
      have := upF b u e
      rw [this] at z
      exact (nF b u e).2 _ (Option.some.inj z)⟩
  obtain ⟨c, x⟩ := k.ex
  have tP : G1 P = none := by
    rw [neg P fun z => by
      rw [t1] at z
      exact codeO_ne (c := P) (q := q) ps (Option.some.inj z).symm]
    exact (k.ok.am (P, tabOk q) (by rw [hA]; simp)).1
  have tp : G1 p = none ∧ ∃ o u, H1 p = some u ∧ RepO K G1 o u ∧ drawOk ns o := by
    obtain ⟨a1, o, u, a2, a3, n, a4⟩ := k.ok.am (p, drawOk ns) (by rw [hA]; simp)
    subst a4
    obtain ⟨xs, rfl, ra⟩ := a3
    have hp : H1 p = some (.lst xs) := eN p _ a2 fun ps z => by cases z
    refine ⟨?_, .lst [.fro (ns.map D.int), .int n], _, hp, ⟨xs, rfl, ra.mono sG⟩, n, rfl⟩
    rw [neg p fun z => by
      rw [hp] at z
      unfold CodeO at z
      cases z]
    exact a1
  refine ⟨G1, ⟨⟨⟨gH, upF, k.ok.fa, fun z hz => ?_⟩, k.ok.bz, k.ok.bg.trans (st1.less k.ok.bs)⟩, k.len, c, fun i d e => ?_, fun i o e => absurd e (noCel_gt hc), fun i j o u e => absurd e (noCel_gt hc), fun i o e => absurd e (noCel_gt hc)⟩, st1⟩
  · rw [hA] at hz
    rcases List.mem_cons.mp hz with rfl | hz
    · exact tp
    · rw [List.mem_singleton.mp hz]
      refine ⟨tP, .tab q, _, t1, ⟨ps, rfl, t2, fun pos' cv h => ?_⟩, rfl⟩
      obtain ⟨c', e1, e2⟩ := t3 pos' cv h
      exact ⟨c', e1, pos c' e2⟩
  · obtain ⟨v, e1, e2⟩ := x.dat i d e
    exact ⟨v, e1, e2.mono sG⟩
/-- the law's names behind the lambda's work -/
theorem EnvOk.slots (k : EnvOk K A F G H σ en) (hc : noCel en = true) {A' : Am} {G' H' : Hp} {σ' : L2.St} {e' : En} (hq : A'.q = A.q) (k' : StOk K A' F G' H') (s : Step F G G') : EnvOk K A F G' H' σ en := by
  obtain ⟨c, x⟩ := k.ex
  have st' := k'.st
  rw [hq] at st'
  refine ⟨⟨st', k.ok.bz, k.ok.bg.trans (s.less k.ok.bs)⟩, k.len, c, fun i d e => ?_, fun i o e => absurd e (noCel_gt hc), fun i j o u e => absurd e (noCel_gt hc), fun i o e => absurd e (noCel_gt hc)⟩
  obtain ⟨v, e1, e2⟩ := x.dat i d e
  exact ⟨v, e1, e2.mono s.g⟩
end
def TRef (K : PySem.W.Frag) (CS : Addr) : (XK → Hp → VK → Prop) → Hp → VK → Prop := fun tl H Q =>
  tl (fun cls _ H' => ∃ b, PySem.W.exmOne K cls (.ref CS) = some b ∧ (b = true → Q (.bl true) H') ∧ (b = false → False)) H fun _ H' => Q (.bl false) H'
theorem ref_gives {X : Cx} {Ng : List Str} {x a e q : Str} {sg : Scope} {g CS : Addr} {cdg : Value} {j1 j2 : Nat} {b1 b2 b3 b4 b5 b6 b7 b8 b9 b10 : Pos} (hge : sg.names.lookup e = some .globalImplicit) (hme : X.mg e = some (.ref CS)) (hde : (e == ("__debug__" : Str)) = false) (h0 : ∀ f : Addr, (L2.start Ng [V.ref f])[0]? = some (some (V.ref f))) :
    GivesTo X Ng x sg g cdg [.Try [.Expr (.Call (.Name a b1) [] [] b2) b3] [.ExceptHandler (some (.Name e b4)) none [.Return (some (.Constant (.bool true) j1 b5)) b6] b7] [] [] b8, .Return (some (.Constant (.bool false) j2 b9)) b10] a q (TRef X.K CS) := by
  intro fa ca s0 H0 Q0 tl act hco ht
  have gl : Gl (cxOf C8.CX0 X.prog X.w X.K X.mg X.base Ng x sg g cdg X.A X.stack s0 H0 C8.E0).nox e := hge
  refine ⟨_, pss_cons (ps_try_only (X := (cxOf C8.CX0 X.prog X.w X.K X.mg X.base Ng x sg g cdg X.A X.stack s0 H0 C8.E0).nox) (c := .ref CS)
    (tb := fun W Dd σ H => ∃ E1 : XK, (∀ cls d σ' H', E1 cls d H' → W cls d σ' H') ∧ σ[0]? = some (some (.ref fa)) ∧ H ca = some (CodeO ca q) ∧ tl E1 H fun _ H' => Dd.nx σ H')
    rfl rfl ⟨gl, hde, .inl hme⟩ LamX.takes0
    (fun W pn xe tk _ => ⟨fun pins s1 σ H1 Dd I ⟨E1, w1, w2, w3, w4⟩ => (pss_one (ps_expr (act W pn xe E1 b1 b2 tk w1))).run pins s1 σ H1 Dd I ⟨w2, w3, w4⟩⟩)
    (fun _ _ _ _ _ _ _ => pss_one (ps_ret pe_bl))) (pss_one (ps_ret pe_bl)), ?_⟩
  exact ⟨fun cls _ H' => ∃ b, PySem.W.exmOne X.K cls (.ref CS) = some b ∧ (b = true → Q0 (.bl true) H') ∧ (b = false → False), fun cls d σ' H' ⟨b, z1, z2, z3⟩ => ⟨b, z1, fun hb _ _ => z2 hb, fun hb => z3 hb⟩, h0 fa, hco, ht⟩
/-- the reading of x(lambda: body): True if the body lets out what CS catches, else False -/
def fLamRef (A : Am) (K : PySem.W.Frag) (CS P : Addr) (q : Str) (fb : Am → XW → FE) : FE := fun en Φ => (∃ p ns, A.q = [(p, drawOk ns), (P, tabOk q)]) ∧ NE A.F0 ∧ NT A.G0 ∧ noCel en = true ∧
  ∀ F G, fb ⟨A.q, F, G⟩ (fun cls _ _ => ∃ b, PySem.W.exmOne K cls (.ref CS) = some b ∧ (b = true → Φ (.bl true) en) ∧ (b = false → False)) en fun _ _ => Φ (.bl false) en
theorem de_lamref {X : Cx} {A : Am} {K : PySem.W.Frag} {q x a e : Str} {s0 : Stmt} {g c P CS : Addr} {fd : FuncData} {k : Nat} {Ng : List Str} {params : Arguments} {body : Expr} {scope : Scope} {fb : Am → XW → FE} {p lpos pos : Pos} {j1 j2 : Nat} {b1 b2 b3 b4 b5 b6 b7 b8 b9 b10 : Pos}
    (hK : X.K = K) (hq : X.env.qual ++ "<lambda>" = q) (hg : Gl X x) (hm : X.mg x = some (.ref g)) (Fk : Fun X.K x x s0 g fd) (bn : L2.Binds X.K fd [a] []) (Sg : FnScope Ng [a] (defScope s0)) (hNg : Ng[0]? = some a) (hva : Vis (defScope s0) a)
    (hb0 : defBody s0 = [.Try [.Expr (.Call (.Name a b1) [] [] b2) b3] [.ExceptHandler (some (.Name e b4)) none [.Return (some (.Constant (.bool true) j1 b5)) b6] b7] [] [] b8, .Return (some (.Constant (.bool false) j2 b9)) b10])
    (hge : (defScope s0).names.lookup e = some .globalImplicit) (hme : X.mg e = some (.ref CS)) (hde : (e == ("__debug__" : Str)) = false) (h0 : ∀ f : Addr, (L2.start Ng [V.ref f])[0]? = some (some (V.ref f)))
    (TB : TabB X.base X.mg c P) (hcode : X.env.code = .ref c) (hr : Room (k + 2) X.A) (L : LamS X.env.scope scope) (hdef : defaultsOf params X.env = ([], []))
    (hbind : ∀ (q : Str) (cl : List (Str × Addr)) (pm cv ctv : Value), bindArgs (PySem.W.kla_fn "<lambda>" q params body scope cl pm cv ctv) ⟨[], []⟩ = pure [])
    (hbody : ∀ (A' : Am) (Ξ : XW) (Ar : Around) (outer : List PySem.Env) (s : Shared) (H : Hp) (E : XK) (f c' : Addr), Room k (Ar.deeper (lamEnv X scope s.heap.objs.size f c')) → Passes (L2.CX X.prog X.w) (lamCx X Ar outer s H E scope f c') E → (∀ cls d σ' H', WD X.K A' Ξ cls d σ' H' → E cls d H') → Takes (lamCx X Ar outer s H E scope f c') (WD X.K A' Ξ) → DE (lamCx X Ar outer s H E scope f c') A' body (fb A' Ξ))
    (hdb : (x == ("__debug__" : Str)) = false := by decide) (hd : (a == ("__debug__" : Str)) = false := by decide) (hcd : (a == ("__classdict__" : Str)) = false := by decide) :
    DE X A (.Call (.Name x p) [.Lambda params body scope lpos] [] pos) (fLamRef A K CS P q fb) := by
  subst hK hq
  obtain ⟨oc, od, kV, doc, pm, an, cdv, ct, osl, rfl, lk, hcv⟩ := Fk.ex
  refine pe_weak (pe_lamcall (T := [(P, X.env.qual ++ "<lambda>")]) (TT := TRef X.K CS) (t := fun E σ H Q => ∃ A' Ξ, (∀ cls d σ' H', WD X.K A' Ξ cls d σ' H' → E cls d H') ∧ LE X.K A' (fb A' Ξ) σ H Q)
    hg hm Fk.kp lk hcv bn Sg hNg hva (by rw [hb0]; exact ref_gives hge hme hde h0) TB hcode List.mem_cons_self (fun z hz _ => by rw [List.mem_singleton.mp hz]) hr L hdef hbind
    (fun Ar outer s H E f c' hr' => ⟨fun pins s' σ H' Q I ⟨A', Ξ, hE, h⟩ => (hbody A' Ξ Ar outer s H E f c' hr' (passes_call (takes_of rfl rfl rfl rfl) fun _ _ _ _ z => z) hE ((takes_of rfl rfl rfl rfl).imp hE)).run pins s' σ H' Q I h⟩) hdb hd hcd) fun σ H Q ⟨F, G, en, Ψ, k, ⟨⟨p, ns, hA⟩, hF, hG, hc, h⟩, qq⟩ => ?_
  refine ⟨fun z hz => ?_, fun H1 eN T1 => ?_⟩
  · rw [List.mem_singleton.mp hz]
    obtain ⟨_, o, u, a2, a3, a4⟩ := k.ok.am (P, tabOk (X.env.qual ++ "<lambda>")) (by rw [hA]; simp)
    subst a4
    obtain ⟨ps, rfl, t2, t3⟩ := a3
    refine ⟨ps, a2, t2, fun pos' cv hcv => ?_⟩
    obtain ⟨c', e1, e2⟩ := t3 pos' cv hcv
    exact ⟨c', e1, k.ok.gh _ _ e2⟩
  · obtain ⟨G1, k1, s1⟩ := k.lam hA hF hG hc eN (T1 _ List.mem_cons_self)
    refine ⟨⟨A.q, F, G1⟩, (fun cls _ _ => ∃ b, PySem.W.exmOne X.K cls (.ref CS) = some b ∧ (b = true → Ψ (.bl true) en) ∧ (b = false → False)), fun cls d σ' H' ⟨F1, G2, e1, xf, k2, r2, b, hb1, hy, hn⟩ => ⟨b, hb1, fun hb => ?_, hn⟩, F, G1, en, _, k1.rebase, h F G1, fun d e' v G' H' hΨ k' s' _ => ?_⟩
    · have k3 := k2.shrink
      have kk := k1.slots (A' := ⟨A.q, F, G1⟩) (e' := e1) (σ' := σ') hc rfl k3.ok k2.ok.bg
      exact qq _ en (.bl true) G2 H' (hy hb) kk (s1.trans k2.ok.bg) (rep_bl.mpr rfl)
    · have kk := k1.slots (A' := ⟨A.q, F, G1⟩) (e' := e') (σ' := σ) hc rfl k'.ok s'
      exact qq _ en (.bl false) G' H' hΨ kk (s1.trans s') (rep_bl.mpr rfl)
end Dz

namespace Dz
open PySem PySem.Spec PyProof.Rows L2 LamX
/-! ### the law's own def, where it makes lambdas -/
def spLawT (K : PySem.W.Frag) (P : Addr) : Sp := fun vs H Q _ => ∃ (a : Addr) (ns : List Int), vs = [.ref a] ∧ SqL K H a (ns.map V.int) ∧ ns.length ≤ 63 ∧ H P = some (.tbl #[]) ∧ ∀ H', Q (.bl true) H'
def noT (H : Hp) : Hp := fun b => match H b with
  | some (.tbl _) => none
  | x => x
theorem noT_same {H : Hp} : Same (noT H) H := fun b u e => by
  unfold noT at e
  split at e
  · cases e
  · exact e
theorem noT_nt {H : Hp} : NT (noT H) := fun b ps e => by
  unfold noT at e
  split at e
  · cases e
  · rename_i h
    exact h _ e
theorem noT_at {H : Hp} {b : Addr} {u : HO} (e : H b = some u) (h : ∀ ps, u ≠ .tbl ps) : noT H b = some u := by
  unfold noT
  rw [e]
  split
  · rename_i z
    exact absurd (Option.some.inj z) (h _)
  · rfl
theorem noT_seq {K : PySem.W.Frag} {H : Hp} {a : Addr} {xs : List V} (h : SqL K H a xs) : SqL K (noT H) a xs := by
  rcases h with (h | ⟨o, h⟩) | h
  · exact .inl (.inl (noT_at h fun _ z => by cases z))
  · exact .inl (.inr ⟨o, noT_at h fun _ z => by cases z⟩)
  · exact .inr h
section
variable {P : Program} {w : World} {K : PySem.W.Frag} {mg : Str → Option Value} {base : Heap}
theorem law_dzT {s0 : Stmt} {f c T : Addr} {N : List Str} {k : Nat} {fb : Am → FS} {q : Str} {p1 p2 p3 p4 p5 : Pos} {rest : List Stmt} {oc kV doc pm ct : Value} {od an : Option Addr} {osl : Array (Option Value)}
    (lk : K.lookup f = some ⟨oc, od, .func (PySem.W.fnOf "law" "law" (defArgs s0) (defBody s0) (defScope s0) .none kV doc pm an (.ref c) ct), osl⟩) (hcd : PySem.W.codeIn K (.ref c) "law" = true) (S : FnScope N ["script"] (defScope s0))
    (hb0 : defBody s0 = .Assign [.Name "draw" p1] (.List [.Name "script" p2, .Constant (.int 0) 0 p3] p4) p5 :: rest)
    (h1 : ∀ (Ar : Around) (outer : List PySem.Env) (s : Shared) (H : Hp) (E : XK), PS (cxOf CX0 P w K mg base N "law" (defScope s0) f (.ref c) Ar outer s H E).nox (.Assign [.Name "draw" p1] (.List [.Name "script" p2, .Constant (.int 0) 0 p3] p4) p5) (tAsg (tLst (tCons (tVar 0) (tCons (tC (.int 0)) tNil))) (gName 1)))
    (hn : 2 ≤ N.length)
    (hb : ∀ (A : Am) (Ar : Around) (outer : List PySem.Env) (s : Shared) (H : Hp) (E : XK), Room k (Ar.deeper (envOfC "law" (defScope s0) s.heap.objs.size f (.ref c))) → DSs (cxOf CX0 P w K mg base N "law" (defScope s0) f (.ref c) Ar outer s H E).nox A rest (fb A))
    (hm : ∀ (A : Am) p ns, DrawIn A.q p ns → A.q = [(p, drawOk ns), (T, tabOk q)] → NE A.F0 → NT A.G0 → fb A ([EV.dat (.fro (ns.map D.int)), EV.dat (.tok p)] ++ List.replicate (N.length - 2) EV.un) { nx := fun _ => False, rt := fun d => d = .bl true }) :
    FnOk P w K mg base CX0 (k + 1) f (PySem.W.fnOf "law" "law" (defArgs s0) (defBody s0) (defScope s0) .none kV doc pm an (.ref c) ct) ["script"] (spLawT K T) := by
  refine fn_of lk hcd S (fun vs H Q E h => ?_) fun Ar outer s H vs Q E hr h => ?_
  · obtain ⟨a, ns, rfl, _⟩ := h
    rfl
  obtain ⟨a, ns, rfl, hS, hlen, hT, fin⟩ := h
  rw [hb0]
  have hbody := pss_cons (h1 Ar outer s H E) (pss_ex fun A' => hb A' Ar outer s H E hr)
  refine ⟨_, hbody.nox, ?_⟩
  refine ⟨.ref a, by unfold L2.start; rfl, (by show 2 ≤ sizeLine; decide), fun p hp => ?_⟩
  have npT : p ≠ T := fun z => by rw [z, hT] at hp; cases hp
  have gp : noT H p = none := by unfold noT; rw [hp]
  have gT : noT H T = none := by unfold noT; rw [hT]
  have hro : Rep K (noT H) (.fro (ns.map D.int)) (.ref a) := rep_fro.mpr ⟨a, _, rfl, noT_seq hS, RepA.ints ns⟩
  have hd : DrawIn [(p, drawOk ns), (T, tabOk q)] p ns := ⟨List.mem_cons_self, fun z hz e => by
    rcases List.mem_cons.mp hz with rfl | hz
    · rfl
    · rw [List.mem_singleton.mp hz] at e
      exact absurd e.symm npT, hlen⟩
  have k0 : StQ K [(p, drawOk ns), (T, tabOk q)] (fun _ => none) (noT H) (upd H p (.lst [.ref a, .int 0])) := ⟨fun b u e => by
      rw [upd_ne (fun z => by rw [z, gp] at e; cases e)]
      exact noT_same _ _ e, fun b u e => (by cases e), fun z _ => rfl, fun z hz => by
    rcases List.mem_cons.mp hz with rfl | hz
    · exact ⟨gp, .lst [.fro (ns.map D.int), .int 0], _, upd_same, ⟨_, rfl, .cons hro (.cons (rep_int.mpr rfl) .nil)⟩, 0, rfl⟩
    · rw [List.mem_singleton.mp hz]
      refine ⟨gT, .tab q, .tbl #[], by rw [upd_ne (fun z => npT z.symm)]; exact hT, ⟨#[], rfl, trivial, fun pos cv z => ?_⟩, rfl⟩
      have z : codeAmong pos [] = some cv := z
      simp [codeAmong] at z⟩
  have k1 : EnvOk K ⟨[(p, drawOk ns), (T, tabOk q)], fun _ => none, noT H⟩ (fun _ => none) (noT H) (upd H p (.lst [.ref a, .int 0])) (start N [.ref a]) ([EV.dat (.fro (ns.map D.int))] ++ List.replicate (N.length - 1) EV.un) := EnvOk.start (ds := [.fro (ns.map D.int)]) ⟨k0, Fro.refl _, Step.refl _ _⟩ (.cons hro .nil)
  have k2 := k1.put (i := 1) (d := .tok p) (v := .ref p) (rep_tok.mpr rfl)
  have ee : st ([EV.dat (.fro (ns.map D.int))] ++ List.replicate (N.length - 1) EV.un) 1 (.dat (.tok p)) = [EV.dat (.fro (ns.map D.int)), EV.dat (.tok p)] ++ List.replicate (N.length - 2) EV.un := by
    obtain ⟨m, hm2⟩ : ∃ m, N.length = m + 2 := ⟨N.length - 2, by omega⟩
    rw [hm2]
    rfl
  rw [ee] at k2
  exact ⟨_, _, noT H, _, _, k2, hm _ p ns hd rfl (fun _ _ z => by cases z) noT_nt, fun _ _ _ _ z => z.elim, fun d v G' H' z _ _ r => by
    have z : d = .bl true := z
    subst z
    cases rep_bl.mp r
    exact fin H', fun _ _ _ _ z => z.elim, fun _ _ _ _ z => z.elim⟩
end
end Dz

namespace Dz
open PySem PySem.Spec PyProof.Rows L2
/-! ### x != y, both of one own class with __eq__ and without __ne__ -/
structure NeC (K : PySem.W.Frag) (C f : Addr) : Prop where
  ex : ∃ (nm q : Str) (N : Addr) (bs : List Value) (hdct : Bool) (sn : List Str) (sub : List Value) (ab : Bool) (col : Option Bool) (dd : Option Addr) (k0 k1 k2 k3 k5 : Option Value) (newId : String),
    K.lookup C = some (excClassObj nm q C N bs [.type "object"] hdct sn sub ab col dd k0 k1 k2 k3 k5 newId) ∧ PySem.W.nsOkIn K N = true ∧ PySem.W.nsIn K N "__eq__" = some (some (.ref f)) ∧ PySem.W.nsIn K N "__ne__" = some none
  fn : PySem.W.isFn K (.ref f) = true
theorem ns_some {K : PySem.W.Frag} {h : Heap} {N : Addr} {m : Str → Option Value} {n : Str} {v : Value} (X : K.In h) (G : h.Ns N m) (e : PySem.W.nsIn K N n = some (some v)) : m n = some v := by
  obtain ⟨ob, ents, np, at1, at2, _, at3⟩ := G
  unfold PySem.W.nsIn at e
  split at e
  · rename_i look
    have z := (X _ _ look).symm.trans at1
    cases z
    cases at2
    split at e
    · rename_i found
      cases e
      rw [← at3]
      simp only [nsFind, findBy, ← Array.find?_toList, found]
      rfl
    · split at e <;> cases e
  · cases e
theorem fn_obj {K : PySem.W.Frag} {h : Heap} {f : Addr} (X : K.In h) (e : PySem.W.isFn K (.ref f) = true) : ∃ o : Obj, h.get? f = some o ∧ o.cls = .type "function" := by
  have t := beq_iff_eq.mp e
  unfold PySem.W.typeIn at t
  simp only at t
  cases q : K.lookup f with
  | none => rw [q] at t; cases t
  | some o => rw [q] at t; exact ⟨o, X _ _ q, Option.some.inj t⟩
section
variable {X : Cx} {C f : Addr} {fd : FuncData} {k : Nat} {ps : List Str} {sp : Sp}
theorem op_neO (Fk : FnOk X.prog X.w X.K X.mg X.base CX0 k f fd ps sp) (hr : Room (k + 1) X.A) (hb : Binds X.K fd ps []) (hm : NeC X.K C f) :
    OpR X (compareOp .NotEq) (fun x y H Q => ∃ p q dx dy fs gs, x = .ref p ∧ y = .ref q ∧ H p = some (.ins C dx fs) ∧ H q = some (.ins C dy gs) ∧ sp [x, y] H (fun z H' => ∃ b, z = .bl b ∧ Q (.bl (!b)) H') E0) := by
  intro pins s σ H x y v u Q I rx ry h
  obtain ⟨p, q', dx, dy, fs, gs, rfl, rfl, h1, h2, hs⟩ := h
  cases rx
  cases ry
  obtain ⟨mA, J, _⟩ := ins_get I.hok h1
  obtain ⟨mB, J', _⟩ := ins_get I.hok h2
  obtain ⟨od, J, _⟩ := J.look
  obtain ⟨od', J', _⟩ := J'.look
  obtain ⟨nm, q, N, bs, hdct, sn, sub, ab, col, dd, k0, k1, k2, k3, k5, newId, c1, c2, c3, c4⟩ := hm.ex
  have kin := I.kIn
  have nsN : s.heap.Ns N (s.heap.nsMap N) := .of_isNs (PySem.W.isNs_of_in kin c2)
  obtain ⟨ofn, of1, of2⟩ : ∃ o : Obj, s.heap.get? f = some o ∧ o.cls = .type "function" := fn_obj kin hm.fn
  have own : s.heap.OwnEqNoNe p C f "object" [.type "object"] := ⟨_, ofn, nm, q, N, bs, hdct, sn, sub, ab, col, dd, k0, k1, k2, k3, k5, newId, s.heap.nsMap N, _, J.at_, J.cls, kin _ _ c1, nsN, ns_some kin nsN c3, of1, of2, F.cmp_object.mro, F.cmp_object.eq.lookup, PySem.W.ns_none_of kin nsN c4⟩
  have hr1 : Room k X.A.in1 := ⟨hr.hd, by have := hr.dp; show X.A.depth + 3 * k + 5 < recursionLimit; omega, by have := hr.un; show X.A.units + 1 + 16 * k + 200 < cLine; omega⟩
  have hfr : X.A.in1.frames = X.A.frames := rfl
  have e0 : Env0 X.prog X.w X.K X.mg X.base X.A.in1 X.stack s H := by
    have e := I.env0
    exact ⟨e.frames, e.mod, e.bs, e.bsz, e.funs, e.frf, e.hok, e.bare⟩
  have bnd := hb s [.ref p, .ref q'] I.kIn (by rw [List.append_nil]; exact (Fk.len _ _ _ _ hs))
  rw [List.append_nil] at bnd
  have call1 : wpAny (model X.prog X.w) X.A.in1 (call (.ref f) [.ref p, .ref q']) (fun v s' => ∃ b, v = .bool b ∧ EP X pins σ Q (.bool (!b)) s') X.xe s := by
    refine wpAny_call (codeAny_mono (Fk.run X.A.in1 X.stack s H ⟨[.ref p, .ref q'], []⟩ [.ref p, .ref q'] [.ref p, .ref q'] _ E0 hr1 e0 bnd (.cons rfl (.cons rfl .nil)) hs) fun r s' hq => ?_)
    cases r with
    | error e => exact hq.elim
    | ok fl =>
      cases fl with
      | ret u =>
        obtain ⟨z, H', I', rz, bb, rfl, q⟩ := I.after hq
        cases rz
        exact ⟨bb, rfl, .bl (!bb), H', I', rfl, q⟩
      | next => exact False.elim hq
      | brk => exact False.elim hq
      | cont => exact False.elim hq
  have hun : X.A.units + 1 < cLine := by have := hr.un; omega
  obtain ⟨hp, g, d, t, os⟩ := s
  exact compareOp_ne_ownEq F.cmp_object own J'.at_ J'.cls hun call1
end
section
variable {X : Cx} {C : Addr} {k : Nat} {ps : List Str} {pd : PD}
def rNeO (C : Addr) (pd : PD) : R2D := fun x y Φ => (∃ ns l, x = .ins C ns l) ∧ (∃ ns l, y = .ins C ns l) ∧ pd [] [x, y] fun d => ∃ b, d = .bl b ∧ Φ (.bl (!b))
/-- the facts of == and of what stands in the class -/
structure MthE (P : Program) (w : World) (K : PySem.W.Frag) (mg : Str → Option Value) (base : Heap) (C : Addr) (k : Nat) (ps : List Str) (pd : PD) : Prop where
  ex : ∃ (f : Addr) (fd : FuncData), FnOk P w K mg base CX0 k f fd ps (spD K pd) ∧ NeC K C f ∧ Binds K fd ps []
theorem op_neOD (O : MthE X.prog X.w X.K X.mg X.base C k ps pd) (hr : Room (k + 1) X.A) : OpR X (compareOp .NotEq) (LR2 X.K (rNeO C pd)) := by
  obtain ⟨f, fd, h1, h2, h3⟩ := O.ex
  refine opr_weak (op_neO h1 hr h3 h2) fun x y H Q ⟨G, dx, dy, Ψ, s, rx, ry, h, q⟩ => ?_
  obtain ⟨⟨ns, l, rfl⟩, ⟨ns', l', rfl⟩, h⟩ := h
  obtain ⟨p, dd, xs, rfl, hp, _, _⟩ := rep_ins.mp rx
  obtain ⟨p', dd', xs', rfl, hp', _, _⟩ := rep_ins.mp ry
  refine ⟨p, p', dd, dd', _, _, rfl, rfl, s _ _ hp, s _ _ hp', [], G, [_, _], _, StQ.bare s, .cons rx (.cons ry .nil), h, fun d v G' H' hd k' s' r' => ?_⟩
  obtain ⟨b, rfl, hd⟩ := hd
  exact ⟨b, rep_bl.mp r', q _ _ G' H' hd (grow_of k' s') k'.gh (rep_bl.mpr rfl)⟩
end
end Dz

namespace Dz
open PySem PySem.Spec PyProof.Rows L2
/-! ### x += a list, x a changing list of one's own -/
def fExtL (i : Nat) (fa : FE) : FS := fun en Ψ => ∃ l, gt en i = .cel (.lst l) ∧ fa en fun d e => ∃ l' l2, gt e i = .cel (.lst l') ∧ d = .lst l2 ∧ l'.length + l2.length ≤ 100000 ∧ Ψ.nx (st e i (.cel (.lst (l' ++ l2))))
section
variable {X : Cx} {A : Am} {e : Expr} {fa : FE} {pos : Pos}
theorem set_self {α : Type} {l : List α} {i : Nat} {a : α} (h : l[i]? = some a) : l.set i a = l := by
  apply List.ext_getElem?
  intro j
  rw [List.getElem?_set]
  by_cases hj : i = j
  · subst hj
    rw [if_pos rfl, h, if_pos (List.getElem?_eq_some_iff.mp h).1]
  · rw [if_neg hj]
theorem ds_extL {i : Nat} {x : Str} {pos' : Pos} (hN : X.N.Nodup) (hi : X.N[i]? = some x) (hx : Loc X.env.scope x) (he : DE X A e fa)
    (hf : X.fn x = true ∨ X.env.scope.names.lookup x = some .local := by first | exact .inl rfl | exact .inr rfl | assumption) : DS X A (.AugAssign (.Name x pos') .Add e pos) (fExtL i fa) := ps_weak (ps_aug hN hi hx he iop_ext hf) fun Dd σ H ⟨F, G, en, Ψ, k, h, q1, _⟩ => by
  obtain ⟨l, eg, h⟩ := h
  obtain ⟨p, u, e1, e2, e3⟩ := k.slot eg
  refine ⟨.ref p, e1, F, G, en, _, k, h, fun d ee v G1 H1 z k1 s1 r1 => ?_⟩
  obtain ⟨l', l2, eg', rfl, hl, z⟩ := z
  obtain ⟨p', u', f1, f2, f3⟩ := k1.slot eg'
  rw [e1] at f1
  have ep : p = p' := by injection f1 with f1; injection f1 with f1; injection f1
  subst ep
  obtain ⟨ys, eu, rb⟩ := f3
  subst eu
  obtain ⟨b, zs, rfl, hb, rz⟩ := rep_lst.mp r1
  refine ⟨p, b, ys, zs, rfl, rfl, f2, k1.ok.gh _ _ hb, by rw [rb.len, rz.len]; exact Nat.le_trans hl (by decide), ?_⟩
  show Dd.nx (σ.set i (some (.ref p))) (upd H1 p (.lst (ys ++ zs)))
  rw [set_self e1]
  exact q1 _ _ G1 _ z (k1.alter (u' := .lst (ys ++ zs)) eg' e1 ⟨_, rfl, rb.app rz⟩) s1
/-! ### len(set(ints)), sorted(ints) -/
def fLenSet (fa : FE) : FE := fun en Φ => fa en fun x e1 => ∃ ns : List Int, x = .lst (ns.map D.int) ∧ ns.Nodup ∧ ns.length ≤ 4000 ∧ Φ (.int (ns.length : Nat)) e1
theorem de_lenSet {p p2 q : Pos} (hg : Gl X "len") (hm : X.mg "len" = none) (hg2 : Gl X "set") (hm2 : X.mg "set" = none) (ha : DE X A e fa) (hc : X.calm = true := by rfl) (na : starEach [e] X.env = (false, eval e X.env) :: starEach [] X.env := by rfl) :
    DE X A (.Call (.Name "len" p) [.Call (.Name "set" p2) [e] [] q] [] pos) (fLenSet fa) := pe_weak (RZ.pe_lenSetI hg hm hg2 hm2 ha hc na) fun σ H Q ⟨F, G, en, Ψ, k, h, qq⟩ =>
  ⟨F, G, en, _, k, h, fun x e1 v G1 H1 z k1 s1 r1 => by
    obtain ⟨ns, rfl, hnd, hl, z⟩ := z
    obtain ⟨b, zs, rfl, hb, rz⟩ := rep_lst.mp r1
    have ez := repA_ints_inv rz
    subst ez
    exact ⟨b, ns, rfl, .inl (.inl (k1.ok.gh _ _ hb)), hnd, hl, qq _ e1 _ G1 H1 z k1 s1 (rep_int.mpr rfl)⟩⟩
def rSortedID : RAD := fun xs Φ => ∃ zs : List Int, xs = [.lst (zs.map D.int)] ∧ ∀ ys : List Int, ys.Perm zs → ys.Pairwise (· ≤ ·) → Φ (.lst (ys.map D.int))
theorem callD_sortedI : CallR X (.builtin "sorted") (LRA X.K rSortedID) := fun pins s σ H xs us Q I r ⟨G, ds, Ψ, gh, r1, ⟨zs, e, h⟩, q⟩ => by
  subst e
  obtain ⟨v, rfl, rv⟩ := repA_1 r1
  obtain ⟨b, ws, rfl, hb, rz⟩ := rep_lst.mp rv
  have ez := repA_ints_inv rz
  subst ez
  refine cr_sortedI pins s σ H _ us Q I r ⟨b, zs, rfl, .inl (.inl (gh _ _ hb)), fun ys l hp hs hl => ?_⟩
  have g : Grow G H (upd G l (.lst (ys.map V.int))) (upd H l (.lst (ys.map V.int))) := Grow.new gh hl
  exact q _ _ _ _ (h ys hp hs) g (same_upd2 gh) (rep_lst.mpr ⟨l, _, rfl, upd_same, RepA.ints ys⟩)
end
end Dz

namespace Dz
open PySem PySem.Spec PyProof.Rows L2
/-! ### o.m(..) that may be refused, in a lambda's body -/
def fMethX (C : Addr) (m : Str) (pd : PDX) (A : Am) (Ξ : XW) (fa : FE) (fr : FA) : FE := fun en Φ => fa en fun x e1 => ∃ ns l, x = .ins C ns l ∧ m ∉ ns ∧ fr e1 fun ds e2 => pd A.q (x :: ds) (fun d => Φ d e2) fun c y => Ξ c y e2
section
variable {X : Cx} {A : Am} {C : Addr} {m : Str} {k : Nat} {ps : List Str} {pdx : PDX} {e o : Expr} {es : List Expr} {pos apos : Pos} {fa : FE} {fr : FA} {Ξ : XW} {E : XK}
theorem de_methE {pl : Sem Bool} (O : MthX X.prog X.w X.K X.mg X.base C m k ps pdx) (px : Passes (L2.CX X.prog X.w) X E) (hE : ∀ cls d σ' H', WD X.K A Ξ cls d σ' H' → E cls d H') (c : Cls X.K C) (hr : Room k X.A) (he : DE X A o fa) (ha : DA X A (e :: es) fr)
    (hst : starEach (e :: es) X.env = (false, eval e X.env) :: starEach es X.env := by rfl) (hpl : (backTo pos (starEach es X.env)).any (·.1) = false := by rfl)
    (ht : eval (.Call (.Attribute o m apos) (e :: es) [] pos) X.env = (do
      let ov ← eval o X.env
      standAt apos.atName
      let (f, first) ← holding [ov] (getMethod ov m pl)
      callWith pos f first (backTo pos (starEach (e :: es) X.env)) (backToKw pos (keywordEach [] X.env))) := by rfl) : DE X A (.Call (.Attribute o m apos) (e :: es) [] pos) (fMethX C m pdx A Ξ fa fr) := by
  obtain ⟨f, fd, h1, h2, h3⟩ := O.ex
  refine pe_weak (pe_meth he c h2 h1 hr h3 .nil px ha hst hpl ht) fun σ H Q ⟨F, G, en, Ψ, k, h, q⟩ => ?_
  refine ⟨F, G, en, _, k, h, fun x e1 v G1 H1 z k1 s1 r1 => ?_⟩
  obtain ⟨ns, l, rfl, hm, z⟩ := z
  obtain ⟨a, dx, xs, rfl, ha, ra, hl⟩ := rep_ins.mp r1
  refine ⟨a, dx, _, rfl, k1.ok.gh _ _ ha, lookup_zip_no hm, F, G1, e1, _, k1, z, fun ds e2 vs G2 H2 hp k2 s2 r2 => ?_⟩
  show spX X.K pdx (V.ref a :: (vs ++ [])) H2 Q E
  rw [List.append_nil]
  refine ⟨A.q, G2, _, _, _, k2.ok.call, .cons (r1.mono s2.g) r2, hp, fun d v G3 H3 hd k3 s3 r3 => ?_, fun c y d G3 H3 hx k3 s3 r3 => ?_⟩
  · obtain ⟨k4, s4⟩ := k2.called k3 s3
    exact q d e2 v G3 H3 hd k4 ((s1.trans s2).trans s4) r3
  · obtain ⟨k4, s4⟩ := k2.called k3 s3
    exact hE c d σ H3 ⟨F, G3, e2, y, k4, r3, hx⟩
end
end Dz

namespace Dz
open PySem PySem.Spec PyProof.Rows L2
/-! ### x.extend(e), x a changing list of one's own -/
section
variable {X : Cx} {A : Am} {e : Expr} {fa : FE} {pos : Pos}
theorem ds_extend {i : Nat} {x : Str} {px apos cpos : Pos} (hN : X.N[i]? = some x) (hv : Vis X.env.scope x) (he : DE X A e fa)
    (hd : (x == ("__debug__" : Str)) = false := by decide) (hcd : (x == ("__classdict__" : Str)) = false := by decide)
    (hbase : attributeBase (.Name x px) "extend" X.env (eval (.Name x px) X.env) = eval (.Name x px) X.env := by rfl)
    (hfew : ((backTo cpos (starEach [e] X.env)).all (fun x => !x.1) && (backToKw cpos (keywordEach [] X.env)).all (fun x => x.1.isSome)
      && decide (([e] : List Expr).length + ([] : List Keyword).length + (if ([] : List Keyword).isEmpty then 0 else 1) < 30)) = true := by rfl)
    (hline : (apos.endLine == cpos.line) = true := by rfl) (hs : starEach [e] X.env = (false, eval e X.env) :: starEach [] X.env := by rfl) (hplain : (backTo cpos (starEach [] X.env)).any (·.1) = false := by rfl)
    (hsw : swapsWith (.Call (.Attribute (.Name x px) "extend" apos) [e] [] cpos) none pos.line X.env = pure false := by rfl) :
    DS X A (.Expr (.Call (.Attribute (.Name x px) "extend" apos) [e] [] cpos) pos) (fExtL i fa) :=
  ps_weak (ps_expr (pe_bm PySem.F.plainAttrs_list PySem.F.slot_list_extend PySem.F.type_list_extend mt_extend (pv i hN hv hd hcd) (pa_cons he pa_nil hs) hbase hfew hline hs hplain) hsw) fun Dd σ H ⟨F, G, en, Ψ, k, h, q1, _⟩ => by
    obtain ⟨l, eg, h⟩ := h
    obtain ⟨p, u, e1, e2, e3⟩ := k.slot eg
    obtain ⟨xs, eu, ra⟩ := e3
    subst eu
    refine ⟨.ref p, e1, .inl ⟨rfl, xs, .inl (.inl e2)⟩, F, G, en, _, k, h, fun d ee v G1 H1 z k1 s1 r1 => ?_⟩
    obtain ⟨l', l2, eg', rfl, hl, z⟩ := z
    obtain ⟨p', u', f1, f2, f3⟩ := k1.slot eg'
    rw [e1] at f1
    have ep : p = p' := by injection f1 with f1; injection f1 with f1; injection f1
    subst ep
    obtain ⟨ys, eu, rb⟩ := f3
    subst eu
    obtain ⟨b, zs, rfl, hb, rz⟩ := rep_lst.mp r1
    refine ⟨p, b, ys, zs, rfl, rfl, f2, k1.ok.gh _ _ hb, by rw [rb.len, rz.len]; exact Nat.le_trans hl (by decide), ?_⟩
    exact q1 _ _ G1 _ z (k1.alter (u' := .lst (ys ++ zs)) eg' e1 ⟨_, rfl, rb.app rz⟩) s1
end
end Dz

namespace Dz
open PySem PySem.Spec PyProof.Rows L2 PySem.Calls
/-! ### gcd(a, b, c) -/
theorem args_gcd3 (a b c : Value) : argsOk "math.gcd" ⟨[a, b, c], []⟩ := by
  unfold argsOk
  kernel_rfl
theorem run_gcd3 (a b c : Int) (t u v : Tok) : Gives (Builtin.«math.gcd» ⟨[.int a t, .int b u, .int c v], []⟩) (.int ((((Nat.gcd 0 a.natAbs).gcd b.natAbs).gcd c.natAbs : Nat) : Int)) := by
  refine .of_wp fun M B E s Q hq => ?_
  obtain ⟨h1, h2, h3, h4, h5⟩ := s
  wp_walk
  exact ⟨_, rfl, hq⟩
def rGcd3 : List V → Hp → VK → Prop := fun vs H Q => ∃ a b c : Int, vs = [.int a, .int b, .int c] ∧ Q (.int (((a.natAbs.gcd b.natAbs).gcd c.natAbs : Nat) : Int)) H
def rGcd3D : RAD := fun xs Φ => ∃ a b c : Int, xs = [.int a, .int b, .int c] ∧ Φ (.int (((a.natAbs.gcd b.natAbs).gcd c.natAbs : Nat) : Int))
section
variable {X : Cx}
theorem cr_gcd3 : CallR X (.builtin "math.gcd") rGcd3 := by
  intro pins s σ H vs us Q I r h
  obtain ⟨a, b, c, rfl, q⟩ := h
  obtain ⟨t, u, v, rfl⟩ : ∃ t u v, us = [.int a t, .int b u, .int c v] := by
    cases r with
    | cons r1 r =>
      cases r with
      | cons r2 r =>
        cases r with
        | cons r3 r =>
          cases r
          obtain ⟨t, rfl⟩ := r1
          obtain ⟨u, rfl⟩ := r2
          obtain ⟨v, rfl⟩ := r3
          exact ⟨t, u, v, rfl⟩
  have g := run_gcd3 a b c t u v
  rw [Nat.gcd_zero_left] at g
  exact call_function_meets PySem.W.MGF.kind_gcd PySem.W.MGF.plain_gcd PySem.W.MGF.entry_gcd (args_gcd3 _ _ _) g.meets ⟨.int _, H, I.tok _, ⟨_, rfl⟩, q⟩
theorem callD_gcd3 : CallR X (.builtin "math.gcd") (LRA X.K rGcd3D) := fun pins s σ H xs us Q I r ⟨G, ds, Ψ, gh, r1, h, q⟩ => by
  obtain ⟨a, b, c, rfl, z⟩ := h
  unfold RepA at r1
  obtain ⟨x, y, rfl, r1, r2⟩ := r1
  obtain ⟨v, w, rfl, rv, rw'⟩ := repA_2 r2
  cases rep_int.mp r1
  cases rep_int.mp rv
  cases rep_int.mp rw'
  exact cr_gcd3 pins s σ H _ us Q I r ⟨a, b, c, rfl, q _ _ G H z (Grow.refl _ _) gh (rep_int.mpr rfl)⟩
end
end Dz

namespace Dz
open PySem PySem.Spec PyProof.Rows L2
/-! ### min(ints, default=d), max(ints, default=d) -/
theorem min_is : ∀ (x : Int) (xs : List Int), PySem.W.minOf x xs ∈ x :: xs ∧ ∀ y ∈ x :: xs, PySem.W.minOf x xs ≤ y := by
  intro x xs
  unfold PySem.W.minOf
  induction xs generalizing x with
  | nil => exact ⟨List.mem_cons_self .., fun y hy => by rw [List.mem_singleton.mp hy]; exact Int.le_refl _⟩
  | cons a r ih =>
    rw [List.foldl_cons]
    obtain ⟨h1, h2⟩ := ih (if PySem.W.DatumOrd.lt a x = true then a else x)
    by_cases hc : a < x
    · have e : PySem.W.DatumOrd.lt a x = true := decide_eq_true hc
      rw [if_pos e] at h1 h2 ⊢
      refine ⟨List.mem_cons_of_mem _ h1, fun y hy => ?_⟩
      rcases List.mem_cons.mp hy with rfl | hy
      · exact Int.le_trans (h2 a (List.mem_cons_self ..)) (Int.le_of_lt hc)
      · exact h2 y hy
    · have e : ¬ PySem.W.DatumOrd.lt a x = true := fun z => hc (of_decide_eq_true z)
      rw [if_neg e] at h1 h2 ⊢
      refine ⟨?_, fun y hy => ?_⟩
      · rcases List.mem_cons.mp h1 with h1 | h1
        · rw [h1]; exact List.mem_cons_self ..
        · exact List.mem_cons_of_mem _ (List.mem_cons_of_mem _ h1)
      · rcases List.mem_cons.mp hy with rfl | hy
        · exact h2 _ (List.mem_cons_self ..)
        · rcases List.mem_cons.mp hy with rfl | hy
          · exact Int.le_trans (h2 x (List.mem_cons_self ..)) (Int.not_lt.mp hc)
          · exact h2 y (List.mem_cons_of_mem _ hy)
theorem max_is : ∀ (x : Int) (xs : List Int), PySem.W.maxOf x xs ∈ x :: xs ∧ ∀ y ∈ x :: xs, y ≤ PySem.W.maxOf x xs := by
  intro x xs
  unfold PySem.W.maxOf
  induction xs generalizing x with
  | nil => exact ⟨List.mem_cons_self .., fun y hy => by rw [List.mem_singleton.mp hy]; exact Int.le_refl _⟩
  | cons a r ih =>
    rw [List.foldl_cons]
    obtain ⟨h1, h2⟩ := ih (if PySem.W.DatumOrd.lt x a = true then a else x)
    by_cases hc : x < a
    · have e : PySem.W.DatumOrd.lt x a = true := decide_eq_true hc
      rw [if_pos e] at h1 h2 ⊢
      refine ⟨List.mem_cons_of_mem _ h1, fun y hy => ?_⟩
      rcases List.mem_cons.mp hy with rfl | hy
      · exact Int.le_trans (Int.le_of_lt hc) (h2 a (List.mem_cons_self ..))
      · exact h2 y hy
    · have e : ¬ PySem.W.DatumOrd.lt x a = true := fun z => hc (of_decide_eq_true z)
      rw [if_neg e] at h1 h2 ⊢
      refine ⟨?_, fun y hy => ?_⟩
      · rcases List.mem_cons.mp h1 with h1 | h1
        · rw [h1]; exact List.mem_cons_self ..
        · exact List.mem_cons_of_mem _ (List.mem_cons_of_mem _ h1)
      · rcases List.mem_cons.mp hy with rfl | hy
        · exact h2 _ (List.mem_cons_self ..)
        · rcases List.mem_cons.mp hy with rfl | hy
          · exact Int.le_trans (Int.not_lt.mp hc) (h2 x (List.mem_cons_self ..))
          · exact h2 y (List.mem_cons_of_mem _ hy)
theorem hold_ints {h : Heap} : ∀ {vs : List Value} {ns : List Int}, IntsAre vs ns → PySem.W.HoldAll h vs ns
  | _, _, .nil => ⟨_, .nil⟩
  | _, _, .cons n t r => by
    obtain ⟨as, ra⟩ := hold_ints (h := h) r
    exact ⟨_, .cons (.int n t) ra⟩
theorem holds_int {h : Heap} {v : Value} {n : Int} (r : PySem.W.Holds h v n) : ∃ t, v = .int n t := by
  obtain ⟨as, r⟩ := r
  cases r
  exact ⟨_, rfl⟩
section
variable {X : Cx}
def rMinDef (K : PySem.W.Frag) : List V → List V → Hp → VK → Prop := fun vs zs H Q => ∃ a ns z, vs = [.ref a] ∧ zs = [z] ∧ SqL K H a (ns.map V.int) ∧ (ns = [] → Q z H) ∧ ∀ m ∈ ns, (∀ y ∈ ns, m ≤ y) → Q (.int m) H
def rMaxDef (K : PySem.W.Frag) : List V → List V → Hp → VK → Prop := fun vs zs H Q => ∃ a ns z, vs = [.ref a] ∧ zs = [z] ∧ SqL K H a (ns.map V.int) ∧ (ns = [] → Q z H) ∧ ∀ m ∈ ns, (∀ y ∈ ns, y ≤ m) → Q (.int m) H
theorem crk_min (hc : X.calm = true) (hu : X.A.units + 64 < cLine) : CallRK X (.builtin "min") ["default"] (rMinDef X.K) := by
  intro pins s σ H xs zs us ws Q I r1 r2 h
  obtain ⟨a, ns, z, rfl, rfl, hs, h0, h1⟩ := h
  obtain ⟨its, rv, hl, _⟩ := I.list hs
  rw [Vals.ref1 r1]
  cases r2 with
  | cons rz r2 =>
    cases r2
    refine PySem.W.min_list_datum_default (α := Int) (I.ok.hd hc) hl.isList (hold_ints rv.ints) (by show _ + 1 + 0 < _; omega) (fun e h' tk hk => ⟨z, H, I.kept hk, rz, h0 e⟩) fun y ys i v h' tk e _ hv hk => ?_
    obtain ⟨t, rfl⟩ := holds_int hv
    obtain ⟨m1, m2⟩ := min_is y ys
    subst e
    exact ⟨.int _, H, I.kept hk, ⟨_, rfl⟩, h1 _ m1 m2⟩
theorem crk_max (hc : X.calm = true) (hu : X.A.units + 64 < cLine) : CallRK X (.builtin "max") ["default"] (rMaxDef X.K) := by
  intro pins s σ H xs zs us ws Q I r1 r2 h
  obtain ⟨a, ns, z, rfl, rfl, hs, h0, h1⟩ := h
  obtain ⟨its, rv, hl, _⟩ := I.list hs
  rw [Vals.ref1 r1]
  cases r2 with
  | cons rz r2 =>
    cases r2
    refine PySem.W.max_list_datum_default (α := Int) (I.ok.hd hc) hl.isList (hold_ints rv.ints) (by show _ + 1 + 0 < _; omega) (fun e h' tk hk => ⟨z, H, I.kept hk, rz, h0 e⟩) fun y ys i v h' tk e _ hv hk => ?_
    obtain ⟨t, rfl⟩ := holds_int hv
    obtain ⟨m1, m2⟩ := max_is y ys
    subst e
    exact ⟨.int _, H, I.kept hk, ⟨_, rfl⟩, h1 _ m1 m2⟩
def fMinDef (fa fd : FE) : FE := fun en Φ => fa en fun x e1 => fd e1 fun y e2 => ∃ ns : List Int, x = .lst (ns.map D.int) ∧ (ns = [] → Φ y e2) ∧ ∀ m ∈ ns, (∀ z ∈ ns, m ≤ z) → Φ (.int m) e2
theorem de_minDef {A : Am} {e d : Expr} {fa fd : FE} {p kp pos : Pos} (hu : X.A.units + 64 < cLine) (hg : Gl X "min") (hm : X.mg "min" = none) (he : DE X A e fa) (hd : DE X A d fd) (hc : X.calm = true := by rfl)
    (h1 : backTo pos (starEach [e] X.env) = (false, eval e X.env) :: backTo pos (starEach [] X.env) := by rfl) (h2 : (backTo pos (starEach [e] X.env)).any (·.1) = false := by rfl)
    (h3 : (backToKw pos (keywordEach [⟨some "default", d, kp⟩] X.env)).all (·.1.isSome) = true := by rfl) (h4 : (backToKw pos (keywordEach [⟨some "default", d, kp⟩] X.env)).any (·.1.isNone) = false := by rfl) (h5 : (backToKw pos (keywordEach [⟨some "default", d, kp⟩] X.env)).filterMap (·.1) = [("default" : Str)] := by rfl) (h6 : starEach [e] X.env = (false, eval e X.env) :: starEach [] X.env := by rfl) :
    DE X A (.Call (.Name "min" p) [e] [⟨some "default", d, kp⟩] pos) (fMinDef fa fd) :=
  pe_weak (pe_callBK (crk_min hc hu) hg hm (by decide +kernel) (pa_cons he pa_nil h6) (pk_cons hd pk_nil) (by decide) (by decide) h1 h2 h3 h4 h5) fun σ H Q ⟨F, G, en, Ψ, k, h, q⟩ => ⟨F, G, en, _, k, h, fun x e1 v G1 H1 z k1 s1 r1 => ⟨F, G1, e1, _, k1, z, fun y e2 v2 G2 H2 z2 k2 s2 r2 => by
    obtain ⟨ns, rfl, h0, hmin⟩ := z2
    obtain ⟨b, zs, rfl, hb, rz⟩ := rep_lst.mp (r1.mono s2.g)
    have ez := repA_ints_inv rz
    subst ez
    exact ⟨b, ns, v2, rfl, rfl, .inl (.inl (k2.ok.gh _ _ hb)), fun ee => q _ e2 _ G2 H2 (h0 ee) k2 (s1.trans s2) r2, fun m hm hle => q _ e2 _ G2 H2 (hmin m hm hle) k2 (s1.trans s2) (rep_int.mpr rfl)⟩⟩⟩
def fMaxDef (fa fd : FE) : FE := fun en Φ => fa en fun x e1 => fd e1 fun y e2 => ∃ ns : List Int, x = .lst (ns.map D.int) ∧ (ns = [] → Φ y e2) ∧ ∀ m ∈ ns, (∀ z ∈ ns, z ≤ m) → Φ (.int m) e2
theorem de_maxDef {A : Am} {e d : Expr} {fa fd : FE} {p kp pos : Pos} (hu : X.A.units + 64 < cLine) (hg : Gl X "max") (hm : X.mg "max" = none) (he : DE X A e fa) (hd : DE X A d fd) (hc : X.calm = true := by rfl)
    (h1 : backTo pos (starEach [e] X.env) = (false, eval e X.env) :: backTo pos (starEach [] X.env) := by rfl) (h2 : (backTo pos (starEach [e] X.env)).any (·.1) = false := by rfl)
    (h3 : (backToKw pos (keywordEach [⟨some "default", d, kp⟩] X.env)).all (·.1.isSome) = true := by rfl) (h4 : (backToKw pos (keywordEach [⟨some "default", d, kp⟩] X.env)).any (·.1.isNone) = false := by rfl) (h5 : (backToKw pos (keywordEach [⟨some "default", d, kp⟩] X.env)).filterMap (·.1) = [("default" : Str)] := by rfl) (h6 : starEach [e] X.env = (false, eval e X.env) :: starEach [] X.env := by rfl) :
    DE X A (.Call (.Name "max" p) [e] [⟨some "default", d, kp⟩] pos) (fMaxDef fa fd) :=
  pe_weak (pe_callBK (crk_max hc hu) hg hm (by decide +kernel) (pa_cons he pa_nil h6) (pk_cons hd pk_nil) (by decide) (by decide) h1 h2 h3 h4 h5) fun σ H Q ⟨F, G, en, Ψ, k, h, q⟩ => ⟨F, G, en, _, k, h, fun x e1 v G1 H1 z k1 s1 r1 => ⟨F, G1, e1, _, k1, z, fun y e2 v2 G2 H2 z2 k2 s2 r2 => by
    obtain ⟨ns, rfl, h0, hmin⟩ := z2
    obtain ⟨b, zs, rfl, hb, rz⟩ := rep_lst.mp (r1.mono s2.g)
    have ez := repA_ints_inv rz
    subst ez
    exact ⟨b, ns, v2, rfl, rfl, .inl (.inl (k2.ok.gh _ _ hb)), fun ee => q _ e2 _ G2 H2 (h0 ee) k2 (s1.trans s2) r2, fun m hm hle => q _ e2 _ G2 H2 (hmin m hm hle) k2 (s1.trans s2) (rep_int.mpr rfl)⟩⟩⟩
end
end Dz

namespace Dz
open PySem PySem.Spec PyProof.Rows L2
/-! ### [e for t in a if c for t1 in a1 if c1] -/
/-- what the inner for asks behind its source -/
def LcIn (g1 : FG) (ft1 : FT) (fe : FE) (vs1 : List Nat) (e4 : En) (items1 : List D) (acc : List D) (R : List D → Prop) : Prop := ∃ I1 : Nat → List D → Prop, I1 0 acc ∧
  (∀ j y acc1, items1[j]? = some y → I1 j acc1 → acc1.length < 100000 ∧ g1 y (wipeE e4 vs1) fun e5 => ft1 e5 fun b e6 =>
    if b = true then fe e6 fun d e7 => wipeE e7 vs1 = wipeE e4 vs1 ∧ I1 (j + 1) (acc1 ++ [d]) else wipeE e6 vs1 = wipeE e4 vs1 ∧ I1 (j + 1) acc1) ∧ ∀ acc1, I1 items1.length acc1 → R acc1
def LcGoal2 (g : FG) (ft : FT) (fi1 : FI) (g1 : FG) (ft1 : FT) (fe : FE) (vs vs1 : List Nat) (e1 : En) (items : List D) (Φ : D → En → Prop) : Prop := ∃ I : Nat → List D → Prop, I 0 [] ∧
  (∀ k x acc, items[k]? = some x → I k acc → g x (wipeE e1 vs) fun e2 => ft e2 fun b e3 =>
    if b = true then fi1 e3 fun items1 e4 => LcIn g1 ft1 fe vs1 e4 items1 acc fun acc1 => wipeE (wipeE e4 vs1) vs = wipeE e1 vs ∧ I (k + 1) acc1
    else wipeE e3 vs = wipeE e1 vs ∧ I (k + 1) acc) ∧ ∀ acc, I items.length acc → Φ (.lst acc) (wipeE e1 vs)
def fLc2 (fi : FI) (g : FG) (ft : FT) (fi1 : FI) (g1 : FG) (ft1 : FT) (fe : FE) (vs vs1 : List Nat) : FE := fun en Φ => fi en fun items e1 => LcGoal2 g ft fi1 g1 ft1 fe vs vs1 e1 items Φ
theorem le_lc2 {K : PySem.W.Frag} {A : Am} {fi fi1 : FI} {g g1 : FG} {ft ft1 : FT} {fe : FE} {vs vs1 : List Nat} {σ : L2.St} {H : Hp} {Q : VK} (h : LE K A (fLc2 fi g ft fi1 g1 ft1 fe vs vs1) σ H Q) :
    tLc2 (LI K A fi) (LG K A vs g) (LT K A ft) (LI K A fi1) (LG K A vs1 g1) (LT K A ft1) (LE K A fe) vs vs1 σ H Q := by
  obtain ⟨F, G, en, Ψ, k, h, q⟩ := h
  refine ⟨F, G, en, _, k, h, fun items e1 G1 H1 J hI k1 s1 Y Dd hD => ?_⟩
  obtain ⟨I, i0, it, id⟩ := hI
  obtain ⟨k2, gD, fD⟩ := k1.tmpAdd (u := .lst []) hD
  -- a step over the frame that holds the new list is a step over the frame behind it
  have thin : ∀ {xs : List V} {Ga Gb Gc : Hp}, Step F Ga Gb → Step (upd F Dd (.lst xs)) Gb Gc → Step F Ga Gc := fun {xs Ga Gb Gc} sa sb => ⟨fun z => sb.n (sa.n z), sa.g.trans sb.g, fun a u hu => by
    rw [← sa.f a u hu]
    refine sb.f a u ?_
    rw [upd_ne (fun z => by subst z; rw [fD] at hu; cases hu)]
    exact hu⟩
  refine ⟨fun i m H' => ∃ G' acc xs, I i acc ∧ EnvOk K A (upd F Dd (.lst xs)) G' H' σ (wipeE e1 vs) ∧ Step F G1 G' ∧ G' Dd = none ∧ RepA K G' acc xs ∧ i + m = items.length,
    ⟨items.length, G1, [], [], i0, (k2.wiped vs).unwipe, Step.refl _ _, gD, .nil, by omega⟩, fun i m H2 w => ?_⟩
  obtain ⟨G2, acc, xs, ia, k3, s3, g3, ra, hm⟩ := w
  by_cases hi : i < items.length
  · refine .inr ⟨Y.go G2 H2 i s3.g k3.ok.gh hi, fun H' => ∃ G' acc xs, I (i + 1) acc ∧ EnvOk K A (upd F Dd (.lst xs)) G' H' σ (wipeE e1 vs) ∧ Step F G1 G' ∧ G' Dd = none ∧ RepA K G' acc xs,
      fun H' ⟨G', acc, xs, a, b, c, d, e⟩ => ⟨m - 1, by omega, G', acc, xs, a, b, c, d, e, by omega⟩, fun x H' hy => ?_⟩
    obtain ⟨G4, g4, s4, r4⟩ := Y.yl G2 H2 i x H' _ s3.g k3.ok.gh (List.getElem?_eq_getElem hi) hy
    have k4 := k3.grow g4 s4
    have hturn := it i _ acc (List.getElem?_eq_getElem hi) ia
    have k4' : EnvOk K A (upd F Dd (.lst xs)) G4 H' (wipe σ vs) (wipeE e1 vs) := by
      have kk := k4.wiped vs
      rw [wipeE_wipeE] at kk
      exact kk
    have st4 := g4.step k3.ok.fh
    refine ⟨_, G4, _, _, _, k4', r4, hturn, fun e5 σ5 G5 H5 h5 k5 s5 w5 => ?_⟩
    have w5' : wipe σ5 vs = wipe σ vs := by rw [w5, wipe_wipe]
    refine ⟨w5', _, G5, e5, _, k5, h5, fun b e6 G6 H6 h6 k6 s6 => ?_⟩
    cases b with
    | true =>
      rw [if_pos rfl]
      refine ⟨_, G6, e6, _, k6, h6, fun items1 e7 G7 H7 J1 hI1 k7 s7 Y1 => ?_⟩
      obtain ⟨I1, j0, jt, jd⟩ := hI1
      have s27 : Step (upd F Dd (.lst xs)) G2 G7 := ((st4.trans s5).trans s6).trans s7
      have g7 : G7 Dd = none := by rw [s27.f Dd _ upd_same]; exact g3
      have sF : Step F G1 G7 := thin s3 s27
      refine ⟨fun j m H' => ∃ G' acc xs, I1 j acc ∧ EnvOk K A (upd F Dd (.lst xs)) G' H' σ5 (wipeE e7 vs1) ∧ Step F G7 G' ∧ G' Dd = none ∧ RepA K G' acc xs ∧ j + m = items1.length,
        ⟨items1.length, G7, acc, xs, j0, (k7.wiped vs1).unwipe, Step.refl _ _, g7, ra.mono s27.g, by omega⟩, fun j m H8 w8 => ?_⟩
      obtain ⟨G8, acc8, xs8, ja, k8, s8, g8, rb, hm8⟩ := w8
      by_cases hj : j < items1.length
      · refine .inr ⟨Y1.go G8 H8 j s8.g k8.ok.gh hj, fun H' => ∃ G' acc xs, I1 (j + 1) acc ∧ EnvOk K A (upd F Dd (.lst xs)) G' H' σ5 (wipeE e7 vs1) ∧ Step F G7 G' ∧ G' Dd = none ∧ RepA K G' acc xs,
          fun H' ⟨G', acc, xs, a, b, c, d, e⟩ => ⟨m - 1, by omega, G', acc, xs, a, b, c, d, e, by omega⟩, fun x H' hy => ?_⟩
        obtain ⟨G9, g9, s9, r9⟩ := Y1.yl G8 H8 j x H' _ s8.g k8.ok.gh (List.getElem?_eq_getElem hj) hy
        have k9 := k8.grow g9 s9
        obtain ⟨hlen, ht1⟩ := jt j _ acc8 (List.getElem?_eq_getElem hj) ja
        have k9' : EnvOk K A (upd F Dd (.lst xs8)) G9 H' (wipe σ5 vs1) (wipeE e7 vs1) := by
          have kk := k9.wiped vs1
          rw [wipeE_wipeE] at kk
          exact kk
        have st9 := g9.step k8.ok.fh
        refine ⟨_, G9, _, _, _, k9', r9, ht1, fun ea σa Ga Ha ha ka sa wa => ?_⟩
        have wa' : wipe σa vs1 = wipe σ5 vs1 := by rw [wa, wipe_wipe]
        refine ⟨wa', _, Ga, ea, _, ka, ha, fun b eb Gb Hb hb kb sb => ?_⟩
        cases b with
        | true =>
          rw [if_pos rfl]
          refine ⟨_, Gb, eb, _, kb, hb, fun d ec v Gc Hc hc kc sc rc => ?_⟩
          obtain ⟨we, ic⟩ := hc
          have hstep : Step (upd F Dd (.lst xs8)) G8 Gc := ((st9.trans sa).trans sb).trans sc
          have hDD : Hc Dd = some (.lst xs8) := kc.ok.fh _ _ upd_same
          have hGD : Gc Dd = none := by rw [hstep.f Dd _ upd_same]; exact g8
          refine ⟨xs8, hDD, by rw [rb.len]; exact Nat.lt_of_lt_of_le hlen (by decide), Gc, acc8 ++ [d], xs8 ++ [v], ic, ?_, thin s8 hstep, hGD, (rb.mono hstep.g).app (.cons rc .nil)⟩
          have kk := kc.wiped vs1
          rw [we, wa'] at kk
          exact (kk.unwipe).tmpSet hGD (k1.ok.bs.free fD) ⟨fun _ z => (by cases z), fun _ z => (by cases z)⟩
        | false =>
          rw [if_neg Bool.false_ne_true]
          obtain ⟨we, ic⟩ := hb
          have hstep : Step (upd F Dd (.lst xs8)) G8 Gb := (st9.trans sa).trans sb
          refine ⟨Gb, acc8, xs8, ic, ?_, thin s8 hstep, by rw [hstep.f Dd _ upd_same]; exact g8, rb.mono hstep.g⟩
          have kk := kb.wiped vs1
          rw [we, wa'] at kk
          exact kk.unwipe
      · have hjl : j = items1.length := by omega
        subst hjl
        refine .inl ⟨Y1.sp G8 H8 _ s8.g k8.ok.gh (Nat.le_refl _), ?_⟩
        obtain ⟨we, i9⟩ := jd acc8 ja
        refine ⟨G8, acc8, xs8, i9, ?_, ⟨fun z => s8.n (sF.n z), sF.g.trans s8.g, fun a u hu => by rw [← sF.f a u hu]; exact s8.f a u hu⟩, g8, rb⟩
        have kk := k8.wiped vs
        rw [we, w5'] at kk
        exact kk.unwipe
    | false =>
      rw [if_neg Bool.false_ne_true]
      obtain ⟨we, i7⟩ := h6
      have hstep : Step (upd F Dd (.lst xs)) G2 G6 := (st4.trans s5).trans s6
      refine ⟨G6, acc, xs, i7, ?_, thin s3 hstep, by rw [hstep.f Dd _ upd_same]; exact g3, ra.mono hstep.g⟩
      have kk := k6.wiped vs
      rw [we, w5'] at kk
      exact kk.unwipe
  · have hil : i = items.length := by omega
    subst hil
    refine .inl ⟨Y.sp G2 H2 _ s3.g k3.ok.gh (Nat.le_refl _), ?_⟩
    have kf := k3.tmpFrz g3 fD (k1.ok.bs.free fD) (fun _ z => by cases z)
    have sg : Same G2 (upd G2 Dd (.lst xs)) := same_new g3
    exact q _ _ (.ref Dd) (upd G2 Dd (.lst xs)) H2 (id acc ia) kf ((s1.trans s3).trans ⟨fun z => z.new (fun _ z => by cases z), sg, fun a u hu => upd_ne (fun z => by subst z; rw [fD] at hu; cases hu)⟩)
      (rep_lst.mpr ⟨Dd, xs, rfl, upd_same, ra.mono sg⟩)
section
variable {X : Cx} {A : Am}
theorem de_lc2 {elt tg iter tg1 iter1 : Expr} {ifs ifs1 : List Expr} {scope : Scope} {own : List (Str × Nat)} {vs1 : List Nat} {pos : Pos} {fi fi1 : FI} {g g1 : FG} {ft ft1 : FT} {fe : FE} (hc : X.calm = true) (hN : X.N.Nodup) (hi : DI X A tg iter fi) (ok : BlkOk X.N X.env.scope scope own) (hv : ∀ i ∈ vs1, i ∈ own.map (·.2))
    (hg : ∀ (s : Shared) (H : Hp) (C : Addr) (cl : List (Str × Addr)) (fp : List Addr), DG (X.blk s H scope (compEnvC scope cl C X.env) fp) A (own.map (·.2)) tg g) (ht : ∀ (s : Shared) (H : Hp) (C : Addr) (cl : List (Str × Addr)) (fp : List Addr), DTs (X.blk s H scope (compEnvC scope cl C X.env) fp) A ifs ft)
    (hi1 : ∀ (s : Shared) (H : Hp) (C : Addr) (cl : List (Str × Addr)) (fp : List Addr), DI (X.blk s H scope (compEnvC scope cl C X.env) fp) A tg1 iter1 fi1)
    (hg1 : ∀ (s : Shared) (H : Hp) (C : Addr) (cl : List (Str × Addr)) (fp : List Addr), DG (X.blk s H scope (compEnvC scope cl C X.env) fp) A vs1 tg1 g1) (ht1 : ∀ (s : Shared) (H : Hp) (C : Addr) (cl : List (Str × Addr)) (fp : List Addr), DTs (X.blk s H scope (compEnvC scope cl C X.env) fp) A ifs1 ft1)
    (he : ∀ (s : Shared) (H : Hp) (C : Addr) (cl : List (Str × Addr)) (fp : List Addr), DE (X.blk s H scope (compEnvC scope cl C X.env) fp) A elt fe) (hs : ∀ x, foldedSetIterable iter X.env x = pure x := by intro _; rfl) (hs1 : ∀ env x, foldedSetIterable iter1 env x = pure x := by intro _ _; rfl) :
    DE X A (.ListComp elt [⟨tg, iter, ifs, 0⟩, ⟨tg1, iter1, ifs1, 0⟩] scope pos) (fLc2 fi g ft fi1 g1 ft1 fe (own.map (·.2)) vs1) := pe_weak (pe_lc2 hc hN hi ok hv hg ht hi1 hg1 ht1 he hs hs1) fun _ _ _ h => le_lc2 h
theorem ds_setLc2 {i : Nat} {y : Str} {py : Pos} {elt tg iter tg1 iter1 : Expr} {ifs ifs1 : List Expr} {scope : Scope} {own : List (Str × Nat)} {vs1 : List Nat} {pos spos : Pos} {fi fi1 : FI} {g g1 : FG} {ft ft1 : FT} {fe : FE} (hc : X.calm = true) (hN : X.N.Nodup) (hy : X.N[i]? = some y) (hyl : X.env.scope.names.lookup y = some .local)
    (hsw : swapsWith (.ListComp elt [⟨tg, iter, ifs, 0⟩, ⟨tg1, iter1, ifs1, 0⟩] scope pos) (some (.Name y py)) spos.line X.env = pure true) (hi : DI X A tg iter fi) (ok : BlkOk X.N X.env.scope scope own) (hv : ∀ i ∈ vs1, i ∈ own.map (·.2))
    (hg : ∀ (s : Shared) (H : Hp) (C : Addr) (cl : List (Str × Addr)) (fp : List Addr), DG (X.blk s H scope (compEnvC scope cl C X.env) fp) A (own.map (·.2)) tg g) (ht : ∀ (s : Shared) (H : Hp) (C : Addr) (cl : List (Str × Addr)) (fp : List Addr), DTs (X.blk s H scope (compEnvC scope cl C X.env) fp) A ifs ft)
    (hi1 : ∀ (s : Shared) (H : Hp) (C : Addr) (cl : List (Str × Addr)) (fp : List Addr), DI (X.blk s H scope (compEnvC scope cl C X.env) fp) A tg1 iter1 fi1)
    (hg1 : ∀ (s : Shared) (H : Hp) (C : Addr) (cl : List (Str × Addr)) (fp : List Addr), DG (X.blk s H scope (compEnvC scope cl C X.env) fp) A vs1 tg1 g1) (ht1 : ∀ (s : Shared) (H : Hp) (C : Addr) (cl : List (Str × Addr)) (fp : List Addr), DTs (X.blk s H scope (compEnvC scope cl C X.env) fp) A ifs1 ft1)
    (he : ∀ (s : Shared) (H : Hp) (C : Addr) (cl : List (Str × Addr)) (fp : List Addr), DE (X.blk s H scope (compEnvC scope cl C X.env) fp) A elt fe) (hs : ∀ x, foldedSetIterable iter X.env x = pure x := by intro _; rfl) (hs1 : ∀ env x, foldedSetIterable iter1 env x = pure x := by intro _ _; rfl) :
    DS X A (.Assign [.Name y py] (.ListComp elt [⟨tg, iter, ifs, 0⟩, ⟨tg1, iter1, ifs1, 0⟩] scope pos) spos) (fAsg (fLc2 fi g ft fi1 g1 ft1 fe (own.map (·.2)) vs1) (gN i)) :=
  ps_weak (ps_setLc2 hc hN hy hyl hsw hi ok hv hg ht hi1 hg1 ht1 he hs hs1) fun Dd σ H ⟨F, G, en, Ψ, k, h, q1, _⟩ => by
    show tLc2 _ _ _ _ _ _ _ _ _ σ H fun x H1 => gName i x σ H1 Dd.nx
    refine le_lc2 ⟨F, G, en, _, k, h, fun d e1 v G1 H1 z k1 s1 r1 => ?_⟩
    exact q1 _ _ G1 H1 z (k1.put r1) s1
end
end Dz

namespace Dz
open PySem PySem.Spec PyProof.Rows L2
/-! ### a text (not) in a tuple of texts -/
theorem inV_strs {s : Str} : ∀ ss : List Str, inV (.str s) (ss.map V.str) = decide (s ∈ ss)
  | [] => rfl
  | a :: r => by
    have ih := inV_strs (s := s) r
    unfold inV at ih ⊢
    rw [List.map_cons, List.any_cons, ih]
    by_cases h : s = a
    · subst h; simp [eqV]
    · have h2 : ¬ a = s := fun z => h z.symm
      simp [eqV, h, h2]
theorem flat_strs (ss : List Str) : (ss.map V.str).all flatV = true := by
  rw [List.all_map, List.all_eq_true]
  intro x _
  rfl
def rNotInS : R2D := fun x y Φ => ∃ (s : Str) (ss : List Str), x = .str s ∧ y = .tup (ss.map D.str) ∧ Φ (.bl (!decide (s ∈ ss)))
def rInS : R2D := fun x y Φ => ∃ (s : Str) (ss : List Str), x = .str s ∧ y = .tup (ss.map D.str) ∧ Φ (.bl (decide (s ∈ ss)))
theorem opd_notinS {X : Cx} : OpR X (compareOp .NotIn) (LR2 X.K rNotInS) := opr_weak op_notIn_seq fun x y H Q ⟨G, dx, dy, Ψ, s, rx, ry, h, q⟩ => by
  obtain ⟨i, ns, rfl, rfl, z⟩ := h
  cases rep_str.mp rx
  obtain ⟨p, xs, rfl, sq, ra⟩ := rep_tup.mp ry
  cases repA_strs_inv ra
  exact ⟨p, _, rfl, .inr (sqt_mono s sq), rfl, flat_strs ns, by rw [inV_strs]; exact q _ _ G H z (Grow.refl _ _) s (rep_bl.mpr rfl)⟩
theorem opd_inS {X : Cx} : OpR X (compareOp .In) (LR2 X.K rInS) := opr_weak op_in_seq fun x y H Q ⟨G, dx, dy, Ψ, s, rx, ry, h, q⟩ => by
  obtain ⟨i, ns, rfl, rfl, z⟩ := h
  cases rep_str.mp rx
  obtain ⟨p, xs, rfl, sq, ra⟩ := rep_tup.mp ry
  cases repA_strs_inv ra
  exact ⟨p, _, rfl, .inr (sqt_mono s sq), rfl, flat_strs ns, by rw [inV_strs]; exact q _ _ G H z (Grow.refl _ _) s (rep_bl.mpr rfl)⟩
end Dz

namespace Dz
open PySem PySem.Spec PyProof.Rows L2
/-! ### a statement that is never met -/
def fFalseS : FS := fun _ _ => False
theorem ds_false {X : Cx} {A : Am} {s : Stmt} : DS X A s fFalseS := ⟨fun _ _ _ _ _ _ ⟨_, _, _, _, _, h, _⟩ => h.elim⟩
/-! ### list(range(..)) -/
section
variable {X : Cx} {A : Am} {a b e : Expr} {fa fb : FE}
abbrev FR := En → (Int → Int → En → Prop) → Prop
def LRg (K : PySem.W.Frag) (A : Am) (f : FR) : L2.St → Hp → (Int → Int → Hp → Prop) → Prop := fun σ H Q => ∃ (F G : Hp) (en : En) (Ψ : Int → Int → En → Prop), EnvOk K A F G H σ en ∧ f en Ψ ∧
  ∀ i j en' G' H', Ψ i j en' → EnvOk K A F G' H' σ en' → Step F G G' → Q i j H'
abbrev DR (X : Cx) (A : Am) (e : Expr) (f : FR) : Prop := PRg X e (LRg X.K A f)
def fRg1 (fa : FE) : FR := fun en Φ => fa en fun x e1 => ∃ n : Int, x = .int n ∧ Φ 0 n e1
def fRg2 (fa fb : FE) : FR := fun en Φ => fa en fun x e1 => fb e1 fun y e2 => ∃ i j : Int, x = .int i ∧ y = .int j ∧ Φ i j e2
theorem dr_1 {p pos : Pos} (hg : Gl X "range") (hm : X.mg "range" = none) (ha : DE X A a fa) (na : starEach [a] X.env = (false, eval a X.env) :: starEach [] X.env := by rfl) : DR X A (.Call (.Name "range" p) [a] [] pos) (fRg1 fa) :=
  fun pins s σ H Q I h => prg_1 (p := p) (pos := pos) hg hm ha na pins s σ H Q I (by
    obtain ⟨F, G, en, Ψ, k, h, q⟩ := h
    exact ⟨F, G, en, _, k, h, fun d e1 v G1 H1 z k1 s1 r1 => by
      obtain ⟨n, rfl, z⟩ := z
      exact ⟨n, rep_int.mp r1, q _ _ e1 G1 H1 z k1 s1⟩⟩)
theorem dr_2 {p pos : Pos} (hg : Gl X "range") (hm : X.mg "range" = none) (ha : DE X A a fa) (hb : DE X A b fb) (na : starEach [a, b] X.env = (false, eval a X.env) :: starEach [b] X.env := by rfl)
    (nb : starEach [b] X.env = (false, eval b X.env) :: starEach [] X.env := by rfl) (hp : (backTo pos (starEach [b] X.env)).any (·.1) = false := by rfl) : DR X A (.Call (.Name "range" p) [a, b] [] pos) (fRg2 fa fb) :=
  fun pins s σ H Q I h => prg_2 (p := p) (pos := pos) hg hm ha hb na nb hp pins s σ H Q I (by
    obtain ⟨F, G, en, Ψ, k, h, q⟩ := h
    exact ⟨F, G, en, _, k, h, fun d e1 v G1 H1 z k1 s1 r1 => ⟨F, G1, e1, _, k1, z, fun y e2 v2 G2 H2 z2 k2 s2 r2 => by
      obtain ⟨i, j, rfl, rfl, z2⟩ := z2
      exact ⟨i, j, rep_int.mp r1, rep_int.mp r2, q _ _ e2 G2 H2 z2 k2 (s1.trans s2)⟩⟩⟩)
def rgD (i j : Int) : List D := (List.range (j - i).toNat).map fun k : Nat => D.int (i + (k : Int))
theorem repA_rg {K : PySem.W.Frag} {G : Hp} (i j : Int) : RepA K G (rgD i j) (rgV i j) := by
  unfold rgD rgV
  have := RepA.ints (K := K) (G := G) ((List.range (j - i).toNat).map fun k : Nat => i + (k : Int))
  rw [List.map_map, List.map_map] at this
  exact this
def fLstRg (f : FR) : FE := fun en Φ => f en fun i j e1 => (-100000 ≤ i ∧ i ≤ 100000 ∧ -100000 ≤ j ∧ j ≤ 100000) ∧ Φ (.lst (rgD i j)) e1
theorem de_listRg {p pos : Pos} {f : FR} (hc : X.calm = true) (hg : Gl X "list") (hm : X.mg "list" = none) (he : DR X A e f) (na : starEach [e] X.env = (false, eval e X.env) :: starEach [] X.env := by rfl) : DE X A (.Call (.Name "list" p) [e] [] pos) (fLstRg f) :=
  pe_weak (pe_listRg hc hg hm he na) fun σ H Q ⟨F, G, en, Ψ, k, h, q⟩ => ⟨F, G, en, _, k, h, fun i j e1 G1 H1 z k1 s1 => by
    obtain ⟨⟨b1, b2, b3, b4⟩, z⟩ := z
    refine ⟨⟨by omega, by omega, by omega, by omega, by omega⟩, fun p hp => ?_⟩
    have g : Grow G1 H1 (upd G1 p (.lst (rgV i j))) (upd H1 p (.lst (rgV i j))) := Grow.new k1.ok.gh hp
    exact q _ e1 _ _ _ z (k1.grow g (same_upd2 k1.ok.gh)) (s1.trans (g.step k1.ok.fh)) (rep_lst.mpr ⟨p, _, rfl, upd_same, (repA_rg i j).mono g.g⟩)⟩
end
/-! ### {text: text, ..} -/
section
variable {X : Cx} {A : Am}
def strPs (kvs : List (Str × Str)) : List (TE × TE) := kvs.map fun kv => (tC (.str kv.1), tC (.str kv.2))
theorem cps_nil {pos : Pos} : PPs X pos [] [] (strPs []) := pps_nil
theorem cps_cons {pos p1 p2 : Pos} {x y : Str} {j1 j2} {ks : List (Option Expr)} {vs : List Expr} {kvs : List (Str × Str)} (h : PPs X pos ks vs (strPs kvs)) :
    PPs X pos (some (.Constant (.str x) j1 p1) :: ks) (.Constant (.str y) j2 p2 :: vs) (strPs ((x, y) :: kvs)) := pps_cons pe_str pe_str h
theorem pairs_str (σ : L2.St) (Q : List (V × V) → Hp → Prop) : ∀ (kvs : List (Str × Str)) (H : Hp) (acc : List (V × V) → List (V × V)), Q (acc (kvs.map fun kv => (V.str kv.1, V.str kv.2))) H → tPairs (strPs kvs) σ H (fun ps H2 => Q (acc ps) H2)
  | [], H, acc, h => h
  | kv :: r, H, acc, h => pairs_str σ Q r H (fun ps => acc ((V.str kv.1, V.str kv.2) :: ps)) h
def fDispS (kvs : List (Str × Str)) : FE := fun en Φ => Φ (.dct (kvs.map fun kv => Sum.inr kv.1) (kvs.map fun kv => .str kv.2)) en
theorem zip_of (kvs : List (Str × Str)) : (kvs.map fun kv => (Sum.inr kv.1 : Key)).zip (kvs.map fun kv => V.str kv.2) = kvs.map fun kv => (Sum.inr kv.1, V.str kv.2) := by
  induction kvs with
  | nil => rfl
  | cons a r ih => rw [List.map_cons, List.map_cons, List.zip_cons_cons, ih, List.map_cons]
theorem repA_str2 {K : PySem.W.Frag} {G : Hp} (kvs : List (Str × Str)) : RepA K G (kvs.map fun kv => D.str kv.2) (kvs.map fun kv => V.str kv.2) := by
  have := repA_strs (K := K) (G := G) (kvs.map (·.2))
  rw [List.map_map, List.map_map] at this
  exact this
theorem de_dispS {pos : Pos} {keys : List (Option Expr)} {values : List Expr} (kvs : List (Str × Str)) (h : PPs X pos keys values (strPs kvs)) (hl2 : keys.length = kvs.length) (hm : mergeK [] (kvs.map fun kv => (Sum.inr kv.1, V.str kv.2)) = kvs.map fun kv => (Sum.inr kv.1, V.str kv.2))
    (hall : keys.all (·.isSome) = true := by rfl) (hl : keys.length = values.length := by rfl) (h0 : keys ≠ [] := by exact fun z => nomatch z) (h15 : keys.length ≤ 15 := by decide) : DE X A (.Dict keys values pos) (fDispS kvs) :=
  pe_weak (pe_disp h hall hl h0 h15) fun σ H Q ⟨F, G, en, Ψ, k, h, q⟩ => fun p hp => pairs_str σ (fun ps H2 => H2 p = some (.dK []) ∧ ∃ kvs : List (Key × V), ps = kvs.map (fun kv => (kV kv.1, kv.2)) ∧ kvs.length ≤ 15 ∧ Q (.ref p) (upd H2 p (.dK (mergeK [] kvs)))) kvs _ id ⟨upd_same, kvs.map fun kv => (Sum.inr kv.1, V.str kv.2), by rw [List.map_map]; rfl, by rw [List.length_map, ← hl2]; exact h15, by
    rw [hm, upd_upd]
    have g : Grow G H (upd G p (.dK (kvs.map fun kv => (Sum.inr kv.1, V.str kv.2)))) (upd H p (.dK (kvs.map fun kv => (Sum.inr kv.1, V.str kv.2)))) := Grow.new k.ok.gh hp
    refine q _ en _ _ _ h (k.grow g (same_upd2 k.ok.gh)) (g.step k.ok.fh) (rep_dct.mpr ⟨p, kvs.map fun kv => V.str kv.2, rfl, ?_, (repA_str2 kvs).mono g.g, by rw [List.length_map, List.length_map]⟩)
    rw [zip_of]
    exact upd_same⟩
end
/-! ### x[lo:hi:step] of a list -/
def pickL {α : Type} (xs : List α) (lo hi st : Option Int) : List α := (sliceRange (sliceBounds lo hi st xs.length).1 (sliceBounds lo hi st xs.length).2.1 (sliceBounds lo hi st xs.length).2.2).filterMap (xs[·]?)
theorem mem_pickL {α : Type} {xs : List α} {lo hi st : Option Int} {x : α} (h : x ∈ pickL xs lo hi st) : x ∈ xs := by
  unfold pickL at h
  obtain ⟨i, _, e⟩ := List.mem_filterMap.mp h
  exact List.mem_of_getElem? e
theorem repA_fm {K : PySem.W.Frag} {G : Hp} {l : List D} {xs : List V} (r : RepA K G l xs) : ∀ idx : List Nat, RepA K G (idx.filterMap (l[·]?)) (idx.filterMap (xs[·]?))
  | [] => .nil
  | i :: t => by
    rw [List.filterMap_cons, List.filterMap_cons]
    cases e : l[i]? with
    | none =>
      have : xs[i]? = none := by
        rw [List.getElem?_eq_none_iff, r.len]
        exact List.getElem?_eq_none_iff.mp e
      simp only [this]
      exact repA_fm r t
    | some d =>
      obtain ⟨x, e2, rx⟩ := r.get e
      simp only [e2]
      exact .cons rx (repA_fm r t)
theorem vals_fm {xs : List V} {us : List Value} (r : Vals xs us) : ∀ idx : List Nat, Vals (idx.filterMap (xs[·]?)) (idx.filterMap (us[·]?))
  | [] => .nil
  | i :: t => by
    rw [List.filterMap_cons, List.filterMap_cons]
    cases e : xs[i]? with
    | none =>
      simp only [r.none_of e]
      exact vals_fm r t
    | some d =>
      obtain ⟨x, e2, rx⟩ := r.get e
      simp only [e2]
      exact .cons rx (vals_fm r t)
theorem pickL_len {α : Type} (xs : List α) (lo hi st : Option Int) : (pickL xs lo hi st).length ≤ xs.length := by
  have hl : (pickL xs lo hi st).length ≤ (sliceRange (sliceBounds lo hi st xs.length).1 (sliceBounds lo hi st xs.length).2.1 (sliceBounds lo hi st xs.length).2.2).length := List.length_filterMap_le _ _
  refine Nat.le_trans hl (sliceRange_length_le _ _ _ _ ?_ ?_)
  all_goals intro hc
  all_goals simp only [sliceBounds] at hc ⊢
  all_goals simp only [hc, if_true, if_false]
  all_goals constructor
  · cases lo <;> simp only [] <;> omega
  · cases hi <;> simp only [] <;> omega
  · cases lo <;> simp only [] <;> omega
  · cases hi <;> simp only [] <;> omega
section
variable {X : Cx} {A : Am}
def tSl3 (K : PySem.W.Frag) (te : TE) (tl th ts : TO) : TE := fun σ H Q => te σ H fun x H1 => tl σ H1 fun l H2 => th σ H2 fun u H3 => ts σ H3 fun st H4 => ∃ a xs, x = .ref a ∧ SqL K H4 a xs ∧ st ≠ some 0 ∧ ∀ p, H4 p = none → Q (.ref p) (upd H4 p (.lst (pickL xs l u st)))
theorem pe_slice3 {e st : Expr} {lo hi : Option Expr} {te : TE} {tl th ts : TO} {p2 pos : Pos} (he : PE X e te) (hl : PO X lo tl) (hu : PO X hi th) (hs : PO X (some st) ts) : PE X (.Subscript e (.Slice lo hi (some st) p2) pos) (tSl3 X.K te tl th ts) := by
  refine ⟨fun pins s σ H Q I h => Subscript_ (thn (he.run pins s σ H _ I h) fun v s1 ⟨x, H1, I1, r1, q1⟩ => ?_)⟩
  refine wpAny_Slice (thn (hl.run pins s1 σ H1 _ I1 q1) fun vl s2 ⟨l, H2, I2, pl, q2⟩ => thn (hu.run pins s2 σ H2 _ I2 q2) fun vu s3 ⟨u, H3, I3, pu, q3⟩ => thn (hs.run pins s3 σ H3 _ I3 q3) fun vs s4 ⟨o, H4, I4, ps, q4⟩ => ?_)
  obtain ⟨a, xs, ex, hx, h0, q⟩ := q4
  subst ex
  cases r1
  have I5 : Inv X pins σ H4 { s4 with heap := s4.heap.push { cls := .type "slice", data := .fields #[vl, vu, vs] } } := I4.kept (t' := s4.toks) fun b ob z => Heap.get?_push_of_some _ z
  obtain ⟨its, r, ht, hz⟩ := I5.list hx
  have hlen := r.length
  show wpAny (model X.prog X.w) X.A (subscriptTail e (.Slice lo hi (some st) p2) (.ref a) (.ref s4.heap.objs.size)) (EP X pins σ Q) X.xe { s4 with heap := s4.heap.push { cls := .type "slice", data := .fields #[vl, vu, vs] } }
  refine tail_any (ops := [.ref a, .ref s4.heap.objs.size]) ht.isList.typeIs (PySem.slot_list_getitem.lookup) ?_ (by with_unfolding_all rfl)
  have hsz : its.toArray.size ≤ sizeLine := by rw [List.size_toArray]; omega
  refine wpAny_getItem_list_slice ht.isList (Heap.IsSliceOf.new _ vl vu vs) pl pu ps h0 ?_ hsz
  have ep : slicePick its.toArray l u o = (pickL its l u o).toArray := by
    unfold slicePick pickL
    rw [List.size_toArray]
    simp only [List.getElem?_toArray]
  rw [ep]
  refine ⟨.ref _, _, I5.laid (t' := s4.toks) (o := .lst (pickL xs l u o)) (fun b ob z => Heap.get?_push_of_some _ z) (Nat.le_refl _) ?_, rfl, q _ (I5.hok.fresh (Nat.le_refl _))⟩
  refine ⟨Nat.le_trans (pickL_len _ _ _ _) hz, pickL its l u o, 0, ?_, Heap.get?_push_size _ rfl⟩
  unfold pickL
  rw [hlen]
  exact vals_fm r _
def fSlice3 (fa : FE) (fl fu fs : FO) : FE := fun en Φ => fa en fun x e1 => fl e1 fun l e2 => fu e2 fun u e3 => fs e3 fun st e4 => ∃ w, x = .lst w ∧ st ≠ some 0 ∧ Φ (.lst (pickL w l u st)) e4
theorem de_slice3 {e st : Expr} {lo hi : Option Expr} {p2 pos : Pos} {fa : FE} {fl fu fs : FO} (he : DE X A e fa) (hl : DO X A lo fl) (hu : DO X A hi fu) (hs : DO X A (some st) fs) : DE X A (.Subscript e (.Slice lo hi (some st) p2) pos) (fSlice3 fa fl fu fs) :=
  pe_weak (pe_slice3 he hl hu hs) fun σ H Q ⟨F, G, en, Ψ, k, h, q⟩ => ⟨F, G, en, _, k, h, fun x e1 v G1 H1 z k1 s1 r1 => ⟨F, G1, e1, _, k1, z, fun l e2 G2 H2 z k2 s2 => ⟨F, G2, e2, _, k2, z, fun u e3 G3 H3 z k3 s3 => ⟨F, G3, e3, _, k3, z, fun st e4 G4 H4 z k4 s4 => by
    obtain ⟨w, rfl, h0, z⟩ := z
    have s14 := s2.trans (s3.trans s4)
    obtain ⟨p, xs, rfl, sq, ra⟩ := rep_lst.mp (r1.mono s14.g)
    refine ⟨p, xs, rfl, .inl (.inl (k4.ok.gh _ _ sq)), h0, fun p' hp => ?_⟩
    have g : Grow G4 H4 (upd G4 p' (.lst (pickL xs l u st))) (upd H4 p' (.lst (pickL xs l u st))) := Grow.new k4.ok.gh hp
    refine q _ e4 _ _ _ z (k4.grow g (same_upd2 k4.ok.gh)) ((s1.trans s14).trans (g.step k4.ok.fh)) (rep_lst.mpr ⟨p', _, rfl, upd_same, RepA.mono g.g _ _ ?_⟩)
    unfold pickL
    rw [ra.len]
    exact repA_fm ra _⟩⟩⟩⟩
end
end Dz

/-! enumerate(tuple) -/
namespace Dz
open PySem PySem.Spec PyProof.Rows L2
section
open AutoSeq1 (wpAny_loadPart')
abbrev itCell (p : Addr) : Obj := { cls := .type "tuple_iterator", data := .fields #[.ref p, .int 0 0] }
abbrev enCell (i : Addr) : Obj := { cls := .type "enumerate", data := .fields #[.none, .bool false, .ref i, rawInt 0, .none, .none] }
theorem meets_enumT (p : Addr) (its : Array Value) : Meets (Builtin.«enumerate.__new__» ⟨[.type "enumerate", .ref p], []⟩) (fun _ R u => u.heap.IsTuple p its ∧
    R (.ok (.ret (.ref (u.heap.push (itCell p)).objs.size))) { u with heap := (u.heap.push (itCell p)).push (enCell u.heap.objs.size) }) :=
  .of_wp fun prg wd Ar R u hu => by
    obtain ⟨hp, gg, dd, kk, oo⟩ := u
    obtain ⟨hl, hr⟩ := hu
    have hsub := sub_enumerate
    have hT : Heap.IsTuple (Shared.heap ⟨hp, gg, dd, kk, oo⟩) p its := hl
    have q1 : ∀ {B : Around} {E : Value → Shared → Prop} {Q : Value → Shared → Prop}, Q (.ref hp.objs.size) ⟨hp.push (itCell p), gg, dd, kk, oo⟩ → wpAny (model prg wd) B (pyIter (.ref p)) Q E ⟨hp, gg, dd, kk, oo⟩ :=
      fun q => wpAny_pyIter_tuple hT q
    wp_walk using q1
    refine wpAny_stack_any fun sk => wpAny_pure ?_
    split
    · rename_i cc _ _ _ _ _
      cases (cc == Value.type "enumerate") <;> (wp_walk using q1; exact ⟨_, rfl, hr⟩)
    · wp_walk using q1
      exact ⟨_, rfl, hr⟩
theorem call_enumT {prg : Program} {wd : World} {Ar : Around} {E : Value → Shared → Prop} {u : Shared} {p : Addr} {its : Array Value} {Q : Value → Shared → Prop} (hl : u.heap.IsTuple p its)
    (k : ∀ h', IsEnum h' (u.heap.objs.size + 1) u.heap.objs.size 0 .none → h'.IsTupleIter u.heap.objs.size p 0 → (∀ b o, u.heap.get? b = some o → h'.get? b = some o) → Q (.ref (u.heap.objs.size + 1)) { u with heap := h' }) :
    wpAny (model prg wd) Ar (call (.type "enumerate") [.ref p]) Q E u := by
  have hz : (u.heap.push (itCell p)).objs.size = u.heap.objs.size + 1 := Heap.size_push ..
  have he : IsEnum ((u.heap.push (itCell p)).push (enCell u.heap.objs.size)) (u.heap.objs.size + 1) u.heap.objs.size 0 .none := by
    rw [← hz]
    exact Heap.get?_push_size _ rfl
  refine callType_new F.called_enumerate (by decide) (F.typeCall_enumerate_1 _) (F.newCall_enumerate_1 _) (fun ob => F.args_object_init_2 ob _) F.entry_enumerate_new (meets_enumT p its) ⟨hl, ?_⟩
  show _ ∧ _
  rw [hz]
  exact ⟨⟨_, he, rfl⟩, k _ he ⟨_, Heap.get?_push_of_some _ (Heap.get?_push_size _ rfl), rfl, rfl⟩ fun b o z => Heap.get?_push_of_some _ (Heap.get?_push_of_some _ z)⟩
end
/-- the tuple at a, each item in a new pair -/
def IteT (K : PySem.W.Frag) (a : Addr) : It :=
  ⟨fun i H => ∃ (xs : List V) (x : V), SqT K H a xs ∧ xs[i]? = some x, fun i H v H' => ∃ T x, v = .ref T ∧ H T = none ∧ H' = upd H T (.tup [.int (i : Nat), x]) ∧ ∀ xs, SqT K H a xs → xs[i]? = some x, fun i H => ∃ xs : List V, SqT K H a xs ∧ xs.length ≤ i⟩
theorem turn_enumT {P : Program} {w : World} {K : PySem.W.Frag} {elts : List Expr} {kk : Nat} {tpos : Pos} (a e it : Addr) :
    Turn P w K (.Tuple elts kk tpos) (IteT K a) [e, it] e (fun i h => (∃ old, IsEnum h e it ((i : Nat) : Int) old) ∧ h.IsTupleIter it a i ∧ e ≠ it) where
  mem := List.mem_cons_self
  obj := fun i h st b hb => by
    obtain ⟨⟨old, he⟩, ⟨o, ho, hc, hd⟩, _⟩ := st
    rcases List.mem_cons.mp hb with z | z
    · exact ⟨_, z ▸ he, fun v q => by cases q⟩
    · exact ⟨o, (List.mem_singleton.mp z) ▸ ho, fun v q => by rw [hd] at q; cases q⟩
  keep := fun i h h' st k => by
    obtain ⟨⟨old, he⟩, hi, hne⟩ := st
    exact ⟨⟨old, k e List.mem_cons_self _ he⟩, hi.at fun o q => k it (List.mem_cons_of_mem _ List.mem_cons_self) o q, hne⟩
  item := by
    intro X hP hw hK hc i pins s σ H E I hf st hg
    cases hP; cases hw; cases hK
    obtain ⟨⟨old, he⟩, hit, hne⟩ := st
    obtain ⟨xs, x, hq, hx⟩ := hg
    obtain ⟨its, rv, tp, hz⟩ := I.tuple hq
    obtain ⟨u, hu, ru⟩ := rv.get hx
    have hel : e < s.heap.objs.size := Heap.lt_size he
    have hil : it < s.heap.objs.size := by obtain ⟨_, q, _⟩ := hit; exact Heap.lt_size q
    have hai : a ≠ it := by
      rintro rfl
      obtain ⟨o, ho, hcl, _⟩ := hit
      obtain ⟨o', ho', hcl', _⟩ := tp
      rw [ho] at ho'
      cases ho'
      rw [hcl] at hcl'
      exact absurd hcl' (by decide)
    have hae : e ≠ a := by
      rintro rfl
      obtain ⟨o', ho', hcl', _⟩ := tp
      rw [he] at ho'
      cases ho'
      have hcl' : Value.type "enumerate" = Value.type "tuple" := hcl'
      exact absurd hcl' (by decide)
    have hef : e ∉ [it, a] := by
      intro z
      rcases List.mem_cons.mp z with z | z
      · exact hne z
      · exact hae (List.mem_singleton.mp z)
    have hlt : i < its.toArray.size := by
      rw [List.size_toArray]
      exact (List.getElem?_eq_some_iff.mp hu).1
    refine wpAny_pyNext_enum_itemD (Draws.tuple (A := X.A.in1) (show X.A.in1.handled = none from I.ok.hd hc) it a hai its.toArray) he ⟨hit, tp⟩ hlt hne hef fun y h' tk hy ho hst hT hsz hk => ?_
    have hyu : y = u := by
      have : its.toArray[i]? = some u := by simpa using hu
      rw [this] at hy
      exact (Option.some.inj hy).symm
    subst hyu
    refine ⟨_, rfl, wpAny_letOwnedTupleGo_enum (s := { s with heap := h', toks := tk + 1 }) ho fun h'' he' sb => ?_⟩
    have hT2 : h''.get? s.heap.objs.size = some { cls := .type "tuple", data := .seq #[.int i tk, y] } := (sb.2 _ (Nat.ne_of_gt hel)).trans hT
    have new : ObjOk X.prog X.w (upd H s.heap.objs.size (.tup [.int (i : Nat), x])) h'' s.heap.objs.size (.tup [.int (i : Nat), x]) := ⟨by show 2 ≤ sizeLine; decide, [.int i tk, y], .cons ⟨_, rfl⟩ (.cons ru .nil), _, hT2, rfl, _, rfl⟩
    have I1 : L2.Inv X pins σ (upd H s.heap.objs.size (.tup [.int (i : Nat), x])) { s with heap := h'', toks := tk + 1 } := by
      refine I.turnedNew (ch := [e, it]) (fun b ob hb q => ?_) hf (Nat.le_refl _) new
      have hbe : b ≠ e := fun z => hb (z ▸ List.mem_cons_self)
      have hbi : b ≠ it := fun z => hb (z ▸ List.mem_cons_of_mem _ List.mem_cons_self)
      exact (sb.2 b hbe).trans (hk b ob hbe hbi q)
    refine ⟨.ref s.heap.objs.size, _, I1, rfl, ⟨_, x, rfl, I.hok.fresh (Nat.le_refl _), rfl, fun ys hy2 => ?_⟩, ⟨⟨y, ?_⟩, hst.1.at fun o q => (sb.2 it (Ne.symm hne)).trans q, hne⟩, fun b hb => ?_⟩
    · rw [I.tuple_inj hy2 hq]; exact hx
    · have e1 : ((i + 1 : Nat) : Int) = (i : Int) + 1 := by omega
      rw [e1]
      exact he'
    · have hb' : b < s.heap.objs.size := by
        rcases List.mem_cons.mp hb with z | z
        · exact z ▸ hel
        · exact (List.mem_singleton.mp z) ▸ hil
      rw [upd_ne (Nat.ne_of_lt hb')]
      exact (hf b hb).1
  done := by
    intro X hP hw hK hc i pins s σ H E I hf st hg
    cases hP; cases hw; cases hK
    obtain ⟨⟨old, he⟩, hit, hne⟩ := st
    obtain ⟨xs, hq, hx⟩ := hg
    obtain ⟨its, rv, tp, hz⟩ := I.tuple hq
    obtain ⟨f0, f1, f2, f3, f4, f5⟩ := hf it (List.mem_cons_of_mem _ List.mem_cons_self)
    have hl := rv.length
    have hnone : its.toArray[i]? = none := by
      simp only [List.getElem?_toArray]
      exact List.getElem?_eq_none (by omega)
    have D : Draws X.prog X.w X.A.in1 it [it, a] i (fun _ _ => True) (fun j h => j = i ∧ h.IsTupleIter it a j ∧ h.IsTuple a its.toArray) :=
      { live := fun j h st => by obtain ⟨_, ⟨o, ho, _⟩, _⟩ := st; exact ⟨o, ho⟩
        frame := fun j h h' st k => ⟨st.1, st.2.1.at fun o q => k it List.mem_cons_self o q, st.2.2.at fun o q => k a (List.mem_cons_of_mem _ List.mem_cons_self) o q⟩
        item := fun j u Q E' hj st _ => absurd st.1 (Nat.ne_of_lt hj)
        done := fun u Q E' st hE => wpAny_nextOf_tuple_end (show X.A.in1.handled = none from I.ok.hd hc) st.2.1 st.2.2 hnone hE }
    exact wpAny_pyNext_enum_endD D he ⟨rfl, hit, tp⟩ fun h' eb => ⟨rfl, I.turned (t' := s.toks) (fun b o hb q => eb b o hb q) f0 f1 f3 f4 f5⟩
  self := fun A i s Q E st h => let ⟨⟨_, he⟩, _⟩ := st; wpAny_pyIter_enum he h
def iEnumT (K : PySem.W.Frag) (ta : TA) : TI := fun σ H R => ta σ H fun vs H1 => ∃ a xs, vs = [.ref a] ∧ SqT K H1 a xs ∧ R (IteT K a) H1
theorem pi_enumT {X : Cx} {e : Expr} {ta : TA} {p pos tpos : Pos} {elts : List Expr} {kk : Nat} (hg : Gl X "enumerate") (hm : X.mg "enumerate" = none) (ha : PA X [e] ta) (hs : starEach [e] X.env = [(false, eval e X.env)] := by rfl) :
    PI X (.Tuple elts kk tpos) (.Call (.Name "enumerate" p) [e] [] pos) (iEnumT X.K ta) := by
  refine ⟨fun pins s σ H R I h => Call_ (ld_blt I hg hm boot_enumerate (PyProof.Rows.callWith_type1 (thn (ha.run pos pins s σ H _ I h) fun us s1 ⟨vs, H1, I1, r1, q1⟩ => ?_) hs rfl))⟩
  obtain ⟨a, xs, ex, hq, q⟩ := q1
  subst ex
  cases r1 with
  | cons r rr =>
    cases rr
    cases r
    obtain ⟨its, rv, tp, hz⟩ := I1.tuple hq
    refine call_enumT (its := its.toArray) tp fun h' he hit hk => wpAny_pyIter_enum he ?_
    have I2 : L2.Inv X pins σ H1 { s1 with heap := h' } := I1.kept (t' := s1.toks) hk
    refine ⟨s1.heap.objs.size + 1, [s1.heap.objs.size + 1, s1.heap.objs.size], _, _, H1, rfl, I2, turn_enumT a (s1.heap.objs.size + 1) s1.heap.objs.size, ⟨⟨.none, he⟩, hit, Nat.succ_ne_self _⟩, fun b hb => ?_, q⟩
    have hle : s1.heap.objs.size ≤ b := by
      rcases List.mem_cons.mp hb with z | z
      · rw [z]; exact Nat.le_add_right _ _
      · rw [List.mem_singleton.mp z]; exact Nat.le_refl _
    exact I1.fpOk hle (I1.hok.fresh hle)
section
variable {K : PySem.W.Frag} {G : Hp} {a : Addr} {xs : List V} {la : List D}
theorem yl_enuT (sa : SqT K G a xs) (ra : RepA K G la xs) : Yl K (IteT K a) G (enuD la) where
  go := fun G1 H1 k g h hk => by
    rw [enuD_len] at hk
    exact ⟨xs, _, sqt_mono h (sqt_mono g sa), List.getElem?_eq_getElem (by rw [ra.len]; omega)⟩
  yl := fun G1 H1 k x H2 d g h hd hy => by
    obtain ⟨T, v, rfl, hT, rfl, h1⟩ := hy
    obtain ⟨dx, e1, rfl⟩ := enuD_get hd
    obtain ⟨v', f1, f2⟩ := ra.get e1
    rw [h1 xs (sqt_mono h (sqt_mono g sa))] at f1
    cases f1
    exact pairT h hT (rep_int.mpr rfl) (f2.mono g)
  sp := fun G1 H1 k g h hk => by
    rw [enuD_len] at hk
    exact ⟨xs, sqt_mono h (sqt_mono g sa), by rw [ra.len]; omega⟩
end
def fIEnuT (fr : FA) : FI := fun en Φ => fr en fun ds e => ∃ la, ds = [.tup la] ∧ Φ (enuD la) e
theorem di_enuT {X : Cx} {A : Am} {e : Expr} {elts : List Expr} {kk : Nat} {p pos tpos : Pos} {fr : FA} (hg : Gl X "enumerate") (hm : X.mg "enumerate" = none) (ha : DA X A [e] fr) (hs : starEach [e] X.env = [(false, eval e X.env)] := by rfl) :
    DI X A (.Tuple elts kk tpos) (.Call (.Name "enumerate" p) [e] [] pos) (fIEnuT fr) := pi_weak (pi_enumT hg hm ha hs) fun σ H R ⟨F, G, en, Ψ, k, h, q⟩ =>
  ⟨F, G, en, _, k, h, fun ds e1 vs G1 H1 z k1 s1 r1 => by
    obtain ⟨la, rfl, z⟩ := z
    obtain ⟨v, rfl, rx⟩ := repA_1 r1
    obtain ⟨pa, xs, rfl, sa, ra⟩ := rep_tup.mp rx
    exact ⟨pa, xs, rfl, sqt_mono k1.ok.gh sa, q _ e1 G1 H1 _ z k1 s1 (yl_enuT sa ra)⟩⟩
end Dz

namespace Dz
open PySem PySem.Spec PyProof.Rows L2
/-! ### a changing list that is read and goes on changing -/
section
variable {X : Cx} {A : Am} {pos : Pos}
def fLenC (i : Nat) : FE := fun en Φ => ∃ l, gt en i = .cel (.lst l) ∧ Φ (.int (l.length : Nat)) en
theorem de_lenC (i : Nat) {x : Str} {p px : Pos} (hg : Gl X "len") (hm : X.mg "len" = none) (hN : X.N[i]? = some x := by rfl) (hv : Vis X.env.scope x := by first | exact Or.inl rfl | exact Or.inr (Or.inl rfl) | exact Or.inr (Or.inr rfl)) (hd : (x == ("__debug__" : Str)) = false := by decide)
    (hcd : (x == ("__classdict__" : Str)) = false := by decide) (he : starEach [.Name x px] X.env = (false, eval (.Name x px) X.env) :: starEach [] X.env := by rfl) (hpl : (backTo pos (starEach [] X.env)).any (·.1) = false := by rfl) : DE X A (.Call (.Name "len" p) [.Name x px] [] pos) (fLenC i) :=
  pe_weak (pe_callB call_len_seq hg hm (by decide +kernel) (pa_cons (pv i hN hv hd hcd) pa_nil he) (by decide) (by decide) he hpl) fun σ H Q ⟨F, G, en, Ψ, k, h, q⟩ => by
    obtain ⟨l, eg, h⟩ := h
    obtain ⟨a, u, e1, e2, e3⟩ := k.slot eg
    obtain ⟨xs, eu, ra⟩ := e3
    subst eu
    exact ⟨.ref a, e1, a, xs, rfl, .inl (.inl (.inl e2)), by rw [ra.len]; exact q _ en _ G H h k (Step.refl _ _) (rep_int.mpr rfl)⟩
def fIxC (i : Nat) (fk : FE) : FE := fun en Φ => ∃ l0, gt en i = .cel (.lst l0) ∧ fk en fun d e => ∃ l j y, gt e i = .cel (.lst l) ∧ d = .int j ∧ atI l j = some y ∧ Φ y e
theorem de_ixC (i : Nat) {x : Str} {px : Pos} {b : Expr} {fk : FE} (hk : DE X A b fk) (hN : X.N[i]? = some x := by rfl) (hv : Vis X.env.scope x := by first | exact Or.inl rfl | exact Or.inr (Or.inl rfl) | exact Or.inr (Or.inr rfl)) (hd : (x == ("__debug__" : Str)) = false := by decide)
    (hcd : (x == ("__classdict__" : Str)) = false := by decide) (hs : PlainIx b := by exact fun _ _ => rfl) : DE X A (.Subscript (.Name x px) b pos) (fIxC i fk) :=
  pe_weak (pe_ix ix_list (pv i hN hv hd hcd) hk hs) fun σ H Q ⟨F, G, en, Ψ, k, h, q⟩ => by
    obtain ⟨l0, eg0, h⟩ := h
    obtain ⟨a0, u0, e10, _, _⟩ := k.slot eg0
    refine ⟨.ref a0, e10, F, G, en, _, k, h, fun d e1 v G1 H1 z k1 s1 r1 => ?_⟩
    obtain ⟨l, j, y, eg, rfl, hy, z⟩ := z
    obtain ⟨a, u, e1', e2, e3⟩ := k1.slot eg
    have ea : a0 = a := by
      rw [e10] at e1'
      injection e1' with e1'; injection e1' with e1'; injection e1'
    subst ea
    obtain ⟨xs, eu, ra⟩ := e3
    subst eu
    obtain ⟨jj, f1, f2⟩ := atI_len (xs := xs) ra.len hy
    obtain ⟨w, f3, f4⟩ := ra.get f2
    refine ⟨a0, xs, j, w, rfl, rep_int.mp r1, .inl (.inl e2), ?_, q y e1 w G1 H1 z k1 s1 f4⟩
    unfold atI
    rw [f1]
    exact f3
end
/-! ### lcm of greater numbers -/
theorem cr_lcm64 {X : Cx} : CallR X (.builtin "math.lcm") (fun vs H Q => ∃ i j : Nat, vs = [.int (i : Int), .int (j : Int)] ∧ i < 2 ^ 60 ∧ j < 2 ^ 60 ∧ Q (.int ((Nat.lcm i j : Nat) : Int)) H) := by
  intro pins s σ H vs us Q I r h
  obtain ⟨a, b, rfl, ha, hb, q⟩ := h
  obtain ⟨t, u, rfl⟩ := Vals.int2 r
  have e : ((((Nat.lcm 1 (a : Int).natAbs).lcm (b : Int).natAbs : Nat) : Int)) = ((Nat.lcm a b : Nat) : Int) := by
    rw [Nat.lcm_one_left, Int.natAbs_natCast, Int.natAbs_natCast]
  have hm : Nat.lcm a b ≤ a * b := Nat.div_le_self _ _
  have hab : a * b ≤ 2 ^ 60 * 2 ^ 60 := Nat.mul_le_mul (by omega) (by omega)
  refine PySem.W.mg_lcm_v (by omega) (by omega) e ?_ ⟨.int _, H, I.tok _, ⟨_, rfl⟩, q⟩
  rw [Int.natAbs_natCast]
  have hlt : Nat.lcm a b < 2 ^ 128 := by omega
  have : (Nat.lcm a b).log2 < 128 := by
    by_cases h0 : Nat.lcm a b = 0
    · rw [h0]; decide
    · exact (Nat.log2_lt h0).mpr hlt
  exact Nat.lt_of_lt_of_le this (by decide)
def rLcm64 : RAD := fun xs Φ => ∃ i j : Nat, xs = [.int (i : Int), .int (j : Int)] ∧ i < 2 ^ 60 ∧ j < 2 ^ 60 ∧ Φ (.int ((Nat.lcm i j : Nat) : Int))
theorem callD_lcm64 {X : Cx} : CallR X (.builtin "math.lcm") (LRA X.K rLcm64) := fun pins s σ H xs us Q I r ⟨G, ds, Ψ, gh, r1, h, q⟩ => by
  obtain ⟨i, j, rfl, hi, hj, z⟩ := h
  obtain ⟨v, w, rfl, rv, rw'⟩ := repA_2 r1
  cases rep_int.mp rv
  cases rep_int.mp rw'
  exact cr_lcm64 pins s σ H _ us Q I r ⟨i, j, rfl, hi, hj, q _ _ G H z (Grow.refl _ _) gh (rep_int.mpr rfl)⟩
/-! ### a text in a dict -/
def rInDct : R2D := fun x y Φ => ∃ z ks l, x = .str z ∧ y = .dct ks l ∧ Φ (.bl (getK ks l (Sum.inr z)).isSome)
theorem opd_inDct {X : Cx} (hu : X.A.units + 64 < cLine) : OpR X (compareOp .In) (LR2 X.K rInDct) := fun pins s σ H x y v u Q I rx ry ⟨G, dx, dy, Ψ, gh, r1, r2, ⟨z, ks, l, e1, e2, h⟩, q⟩ => by
  subst e1 e2
  cases rep_str.mp r1
  obtain ⟨p, xs, rfl, hp, ra, hl⟩ := rep_dct.mp r2
  obtain rfl : u = Value.ref p := ry
  refine d_in (o := valV (ks.zip xs) (Sum.inr z)) (by omega) I (DGet.k (k := .inr z) (gh _ _ hp)) rx fun s' I' => ⟨.bl _, H, I', rfl, ?_⟩
  rw [repA_valN ra]
  exact q _ _ G H h (Grow.refl _ _) gh (rep_bl.mpr rfl)
theorem yesT {X Y : En → Prop} {e : En} (h : X e) : fYes e (fun b e3 => if b = true then X e3 else Y e3) := (show if true = true then X e else Y e from by rw [if_pos rfl]; exact h)
end Dz

/-! DzDf: defs with defaults that are always called with all arguments. -/
namespace Dz
open PySem PySem.Spec PyProof.Rows L2
section
variable {P : Program} {w : World} {K : PySem.W.Frag} {mg : Str → Option Value} {base : Heap}
theorem fn_dzd {x qual : Str} {s0 : Stmt} {dvs : List V} {f : Addr} {fd : FuncData} {N ps : List Str} {k : Nat} {pd : PD} {fb : Am → FS} (Fk : FunD K x qual (defArgs s0) (defBody s0) (defScope s0) dvs [] f fd) (S : FnScope N ps (defScope s0)) (hlen : ∀ A ds Ψ, pd A ds Ψ → ds.length = ps.length)
    (hb : ∀ (A : Am) (cdv : Value) (Ar : Around) (outer : List PySem.Env) (s : Shared) (H : Hp) (E : XK), Room k (Ar.deeper (envOfC qual (defScope s0) s.heap.objs.size f cdv)) → DSs (cxOf CX0 P w K mg base N qual (defScope s0) f cdv Ar outer s H E).nox A (defBody s0) (fb A))
    (hm : ∀ (A : Am) ds Ψ, pd A.q ds Ψ → fb A (ds.map EV.dat ++ List.replicate (N.length - ds.length) EV.un) { nx := fun _ => Ψ .non, rt := Ψ }) : FnOk P w K mg base CX0 (k + 1) f fd ps (spD K pd) := by
  refine Fk.ok S (fun vs H Q E h => ?_) (fun cdv A outer s H vs Q E hr h => ?_)
  · obtain ⟨A, G, ds, Ψ, _, r, hp, _⟩ := h
    rw [r.len]
    exact hlen A ds Ψ hp
  · obtain ⟨Am', G, ds, Ψ, k0, r, hp, q⟩ := h
    refine ⟨_, PSs.nox (hb ⟨Am', minus Am' H, G⟩ cdv A outer s H E hr), minus Am' H, G, _, _, EnvOk.start ⟨k0, Fro.refl _, Step.refl _ _⟩ r, hm ⟨Am', minus Am' H, G⟩ ds Ψ hp, fun e σ' G' H' hn k1 s1 => ?_, fun d v G' H' hd k1 s1 r1 => ?_, fun _ _ _ _ z => z.elim, fun _ _ _ _ z => z.elim⟩
    · exact q .non .non G' H' hn k1.ok.st s1 (rep_non.mpr rfl)
    · exact q d v G' H' hd k1.st s1 r1
theorem fund_mk {x qual : Str} {st : Stmt} {f T : Addr} {oc : Value} {od an : Option Addr} {osl : Array (Option Value)} {kV doc pm cdv ct : Value} {d0 : V} {o : Obj} {its : Array Value} {n : Nat}
    (l : K.lookup f = some ⟨oc, od, .func (PySem.W.fnOf x qual (defArgs st) (defBody st) (defScope st) (.ref T) kV doc pm an cdv ct), osl⟩)
    (c : PySem.W.codeIn K cdv qual = true) (k : PySem.W.keepIn K (.ref f) = true) (lT : K.lookup T = some o) (oT : o.data = .seq its n) (rT : Vals [d0] its.toList) :
    FunD K x qual (defArgs st) (defBody st) (defScope st) [d0] [] f (PySem.W.fnOf x qual (defArgs st) (defBody st) (defScope st) (.ref T) kV doc pm an cdv ct) :=
  ⟨⟨oc, od, _, kV, doc, pm, an, cdv, ct, osl, rfl, l, c, .inr ⟨by simp, T, o, its.toList, n, rfl, lT, by rw [oT], rT⟩, .inl rfl⟩, k⟩
theorem FunD.all1 {x qual : Str} {params : Arguments} {body : List Stmt} {scope : Scope} {d0 : V} {f : Addr} {fd : FuncData} {ps : List Str} (F : FunD K x qual params body scope [d0] [] f fd)
    (h : ∀ (T : Addr) (kV doc pm : Value) (an : Option Addr) (cdv ct : Value) (us its : List Value), us.length = ps.length → its.length = 1 →
      ∃ k, bindArgs (PySem.W.fnOf x qual params body scope (.ref T) kV doc pm an cdv ct) ⟨us, []⟩ = seqItems? (.ref T) >>= k ∧ k (some its.toArray) = pure (ps.zip us)) : Binds K fd ps [] := by
  obtain ⟨ds, v, b⟩ := F.binds1 (ps := ps) ps.length 1 (by simp) (by simp) (fun T kV doc pm an cdv ct us its h1 h2 => by
    obtain ⟨k, e1, e2⟩ := h T kV doc pm an cdv ct us its h1 h2
    refine ⟨k, e1, ?_⟩
    have h3 : its.drop 1 = [] := List.drop_eq_nil_of_le (Nat.le_of_eq h2)
    rw [e2, h3, List.append_nil])
  have v : Vals [] ds := v
  cases v
  exact b
end
end Dz

/-! DzDx: a def with a default that may raise, called with all arguments. -/
namespace Dz
open PySem PySem.Spec PyProof.Rows L2
section
variable {P : Program} {w : World} {K : PySem.W.Frag} {mg : Str → Option Value} {base : Heap}
theorem fn_dzdx {x qual : Str} {s0 : Stmt} {dvs : List V} {f : Addr} {fd : FuncData} {N ps : List Str} {k : Nat} {pd : PDX} {fb : Am → XW → FS} (Fk : FunD K x qual (defArgs s0) (defBody s0) (defScope s0) dvs [] f fd) (S : FnScope N ps (defScope s0)) (hlen : ∀ A ds Ψ Ξ, pd A ds Ψ Ξ → ds.length = ps.length)
    (hb : ∀ (A : Am) (Ξ : XW) (cdv : Value) (Ar : Around) (outer : List PySem.Env) (s : Shared) (H : Hp) (E : XK), Room k (Ar.deeper (envOfC qual (defScope s0) s.heap.objs.size f cdv)) →
      Takes (cxOf (L2.CX P w) P w K mg base N qual (defScope s0) f cdv Ar outer s H E) (WD K A Ξ) → DSs (cxOf (L2.CX P w) P w K mg base N qual (defScope s0) f cdv Ar outer s H E) A (defBody s0) (fb A Ξ))
    (hm : ∀ (A : Am) ds Ψ (Ξ : XQ), pd A.q ds Ψ Ξ → fb A Ξ.w (ds.map EV.dat ++ List.replicate (N.length - ds.length) EV.un) { nx := fun _ => Ψ .non, rt := Ψ }) : FnOk P w K mg base (L2.CX P w) (k + 1) f fd ps (spX K pd) := by
  refine Fk.ok S (fun vs H Q E h => ?_) (fun cdv A outer s H vs Q E hr h => ?_)
  · obtain ⟨A, G, ds, Ψ, Ξ, _, r, hp, _⟩ := h
    rw [r.len]
    exact hlen A ds Ψ Ξ hp
  · obtain ⟨Am', G, ds, Ψ, Ξ, k0, r, hp, q, qx⟩ := h
    have tk : Takes (cxOf (L2.CX P w) P w K mg base N qual (defScope s0) f cdv A outer s H E) (WD K ⟨Am', minus Am' H, G⟩ Ξ.w) := (takes_of rfl rfl rfl rfl).imp fun c d σ H' z => by
      obtain ⟨G', x, z1, z2, z3, z4⟩ := z.out
      exact qx c x d G' H' z1 z2 z3 z4
    refine ⟨_, hb ⟨Am', minus Am' H, G⟩ Ξ.w cdv A outer s H E hr tk, minus Am' H, G, _, _, EnvOk.start ⟨k0, Fro.refl _, Step.refl _ _⟩ r, hm ⟨Am', minus Am' H, G⟩ ds Ψ Ξ hp, fun e σ' G' H' hn k1 s1 => ?_, fun d v G' H' hd k1 s1 r1 => ?_, fun _ _ _ _ z => z.elim, fun _ _ _ _ z => z.elim⟩
    · exact q .non .non G' H' hn k1.ok.st s1 (rep_non.mpr rfl)
    · exact q d v G' H' hd k1.st s1 r1
end
end Dz

/-! DzXi: raising an own exception whose __init__ calls its own base's __init__ and sets two fields. -/
namespace Dz
open PySem PySem.Spec PyProof.Rows L2
/-- an own class whose __init__ is that of ValueError, looked up through it -/
structure OwnInit (K : PySem.W.Frag) (S : Addr) : Prop where
  rd : PySem.W.readsIn K S (.type "type") = true
  ga : PySem.W.specialIn K (.ref S) "__getattribute__" = some (some (.builtin "type.__getattribute__"))
  fc : PySem.W.findCls K (.ref S) (.type "type") "__init__" = some (.val (.builtin "ValueError.__init__"))
section
variable {X : Cx} {e : Expr} {es : List Expr} {ta : TA} {x : Str} {S : Addr} {p1 p2 pos : Pos}
theorem pe_ownveinit {pl : Sem Bool} (hg : Gl X x) (hm : X.mg x = some (.ref S)) (T : OwnInit X.K S) (ha : PA X (e :: es) ta) (hdb : (x == ("__debug__" : Str)) = false := by decide)
    (hc : eval (.Call (.Attribute (.Name x p1) "__init__" p2) (e :: es) [] pos) X.env = (eval (.Name x p1) X.env >>= fun ov => standAt p2.atName >>= fun _ => holding [ov] (getMethod ov "__init__" pl) >>= fun r => callWith pos r.1 r.2 (backTo pos (starEach (e :: es) X.env)) (backToKw pos (keywordEach [] X.env))) := by rfl)
    (hst : starEach (e :: es) X.env = (false, eval e X.env) :: starEach es X.env := by rfl) (hno : (backTo pos (starEach es X.env)).any (·.1) = false := by rfl) : PE X (.Call (.Attribute (.Name x p1) "__init__" p2) (e :: es) [] pos) (tVeI X.K ta) := by
  constructor
  intro pins s σ H Q I h
  refine PySem.W.methodCall_KW (ld_glob I hg hm ?_ hdb) hc
  refine PySem.W.method_cls I.kIn T.ga (PySem.W.cls_value I.kIn T.rd T.fc (by decide +kernel) ?_)
  have run := (ha.run pos pins { s with toks := s.toks + 1 } σ H _ (I.tok _) h)
  refine PyProof.Rows.callWith_method1 (thn run fun us s1 hh => ?_) hst hno
  obtain ⟨vs, H1, J, r, a, C, ws, ev, hl, O, ea, q⟩ := hh
  subst ev
  cases r with
  | @cons _ u0 _ ur r0 rs =>
    obtain rfl : u0 = Value.ref a := r0
    have hz : ur.length ≤ sizeLine := by rw [← Paired.length rs, sizeLine_eq]; omega
    exact oinit_ok O J ea hz fun s2 J2 => ⟨.non, H1, J2, rfl, q⟩
end
/-! ### __init__(self, row, why): S.__init__(self, f'..{why}'); self.row = row; self.why = why -/
def spNI (K : PySem.W.Frag) (f g : Str) : Sp := fun vs H Q _ => ∃ (a C : Addr) (x : V) (w : Str), vs = [.ref a, x, .str w] ∧ w.length ≤ 1000 ∧ H a = some (exo a C none) ∧ OexC K C ∧ PySem.W.findIn K (.ref C) f = some none ∧ PySem.W.findIn K (.ref C) g = some none ∧
  ∀ dx, H dx = none → dx ≠ a → Q .non (upd (upd (upd H dx (exd dx [(f, x)])) a (exo a C (some dx))) dx (exd dx [(g, .str w), (f, x)]))
/-! ### raise C(place, why) -/
def fRaiseO (Ξ : XW) (c : Value) (f g : Str) (fr : FA) : FS := fun en _ => fr en fun xs e1 => ∃ (d : D) (w : Str), xs = [d, .str w] ∧ w.length ≤ 1000 ∧ Ξ c (some ([g, f], [.str w, d])) e1
theorem upd_chain {H : Hp} {a d : Addr} {o1 o2 o3 o4 o5 : HO} (ha : H a = none) (hd : d ≠ a) : upd (del (upd (upd (upd (upd H a o1) d o2) a o3) d o4) a) d o5 = upd H d o5 := by
  funext b
  by_cases h1 : b = d
  · subst h1; rw [upd_same, upd_same]
  · rw [upd_ne h1, upd_ne h1]
    by_cases h2 : b = a
    · subst h2; rw [del_same, ha]
    · rw [del_ne h2, upd_ne h1, upd_ne h2, upd_ne h1, upd_ne h2]
section
variable {X : Cx} {A : Am} {Ξ : XW} {C fI : Addr} {x f g : Str} {k : Nat} {fd : FuncData} {e1 e2 : Expr} {fr : FA} {p pos pos' : Pos}
/-- what is known of the class and of its __init__ -/
structure MkO (P : Program) (w : World) (K : PySem.W.Frag) (mg : Str → Option Value) (base : Heap) (x : Str) (C : Addr) (k : Nat) (f g : Str) : Prop where
  ox : OexC K C
  gC : mg x = some (.ref C)
  nf : PySem.W.findIn K (.ref C) f = some none
  ng : PySem.W.findIn K (.ref C) g = some none
  ex : ∃ (fI : Addr) (fd : FuncData) (ps : List Str), PySem.W.findIn K (.ref C) "__init__" = some (some (.ref fI)) ∧ PySem.W.typeIn K (.ref fI) = some (.type "function") ∧ FnOk P w K mg base CX0 k fI fd ps (spNI K f g) ∧ Binds K fd ps []
theorem ds_raiseO (M : MkO X.prog X.w X.K X.mg X.base x C k f g) (hc : X.calm = true) (tk : Takes X (WD X.K A Ξ)) (hr : Room (k + 1) X.A) (hg : Gl X x) (ha : DA X A [e1, e2] fr) (hdb : (x == ("__debug__" : Str)) = false := by decide)
    (he : starEach [e1, e2] X.env = (false, eval e1 X.env) :: starEach [e2] X.env := by rfl) (hpl : (backTo pos (starEach [e2] X.env)).any (·.1) = false := by rfl) :
    DS X A (.Raise (some (.Call (.Name x p) [e1, e2] [] pos)) none pos') (fRaiseO Ξ (.ref C) f g fr) := by
  obtain ⟨fI, fd, ps, i1, i2, i3, i4⟩ := M.ex
  refine ps_weak (ps_raise hc tk (pmk_oex M.ox i1 i2 i3 hr i4 .nil (fun _ _ _ _ _ _ _ z => z.elim) hg M.gC ha hdb he hpl)) fun Dd σ H ⟨F, G, en, Ψ, kk, h, _⟩ => ?_
  refine ⟨F, G, en, _, kk, h, fun ds e vs G1 H1 hh k1 s1 r1 => ?_⟩
  obtain ⟨d, w, rfl, hw, hx⟩ := hh
  unfold RepA at r1
  obtain ⟨v1, rr, rfl, p1, r1⟩ := r1
  unfold RepA at r1
  obtain ⟨v2, rr, rfl, p2, r1⟩ := r1
  unfold RepA at r1
  subst r1
  cases rep_str.mp p2
  refine ⟨(show 2 ≤ 1000 by decide), fun a hna => ?_⟩
  refine ⟨a, C, v1, w, rfl, hw, upd_same, M.ox, M.nf, M.ng, fun dx hdx hne => ⟨rfl, dx, [(g, .str w), (f, v1)], by rw [upd_ne (Ne.symm hne), upd_same], upd_same, by rw [upd_ne hne] at hdx; exact hdx, ?_⟩⟩
  have hd1 : H1 dx = none := by rw [upd_ne hne] at hdx; exact hdx
  rw [upd_chain hna hne]
  have gr : Grow G1 H1 G1 (upd H1 dx (.xd [(g, .str w), (f, v1)])) := Grow.tmp hd1
  exact ⟨F, G1, e, some ([g, f], [.str w, d]), k1.grow gr (k1.ok.gh.trans (same_new hd1)), ⟨dx, [.str w, v1], rfl, upd_same, .cons (rep_str.mpr rfl) (.cons p1 .nil), rfl⟩, hx⟩
end
end Dz

/-! DzTm: a try with several except clauses, each with or without a name. -/
namespace Dz
open PySem PySem.Spec PyProof.Rows L2
/-- a clause: the class, where its name stands, its suite -/
abbrev Cla := Value × Option Nat × (Addr → Value → Option Addr → TS)
def freed (D : Ends) (i : Nat) : Ends := { nx := fun σ' H' => D.nx (σ'.set i none) H', rt := D.rt, bk := fun σ' H' => D.bk (σ'.set i none) H', ct := fun σ' H' => D.ct (σ'.set i none) H' }
def sayC (D : Ends) (oi : Option Nat) (ts : Addr → Value → Option Addr → TS) (a : Addr) (cls : Value) (d : Option Addr) (σ : L2.St) (H : Hp) : Prop := match oi with
  | none => ts a cls d D σ H
  | some i => ts a cls d (freed D i) (σ.set i (some (.ref a))) H
def wClas (K : PySem.W.Frag) (n : Nat) (W0 : WX) (D : Ends) : List Cla → WX
  | [] => W0
  | (c, oi, ts) :: r => fun cls d σ H => ∃ b, PySem.W.exmOne K cls c = some b ∧ (b = true → ∀ a, H a = none → σ.length = n → sayC D oi ts a cls d σ H) ∧ (b = false → wClas K n W0 D r cls d σ H)
/-- a clause's name -/
inductive NmOk (X : Cx) : Option Str → Option Nat → Prop
  | no : NmOk X none none
  | yes {n : Str} {i : Nat} (hi : X.N[i]? = some n) (hl : X.env.kindOf n = some .local) : NmOk X (some n) (some i)
inductive ClasOk (X : Cx) : List ExceptHandler → List Cla → Prop
  | nil : ClasOk X [] []
  | cons {x : Str} {c : Value} {oi : Option Nat} {on : Option Str} {ts : Addr → Value → Option Addr → TS} {b0 : Stmt} {sui : List Stmt} {np pq : Pos} {hds : List ExceptHandler} {l : List Cla} (hc : Names X x c) (hn : NmOk X on oi)
      (hsu : ∀ (a : Addr) (oe : Obj) (cls : Value) (d : Option Addr) (pn : List (Addr × Obj)), Zc cls d oe → (∃ vs, oe.data = .fields vs) → PSs (X.suite a ((a, oe) :: pn)) (b0 :: sui) (ts a cls d)) (r : ClasOk X hds l) :
      ClasOk X (.ExceptHandler (some (.Name x np)) on (b0 :: sui) pq :: hds) ((c, oi, ts) :: l)
section
variable {X : Cx} {body : List Stmt} {hd0 : ExceptHandler} {hds : List ExceptHandler} {l : List Cla} {pos : Pos} {tb : WX → TS} {W0 : WX}
theorem ps_try_clas (hst : X.stack = X.env :: X.outer) (hfr0 : X.env.frame = some X.env.locals) (hN : X.N.Nodup) (tk : Takes X W0)
    (hb : ∀ (W : WX) (pn : List (Addr × Obj)) (xe : Value → Shared → Prop), Takes (X.tr pn xe) W → PassesOwn (model X.prog X.w) X.A X.env xe → PSs (X.tr pn xe) body (tb W)) (hh : ClasOk X (hd0 :: hds) l) :
    PS X (.Try body (hd0 :: hds) [] [] pos) (fun D σ H => tb (wClas X.K X.N.length W0 D l) D σ H) := by
  constructor
  intro pins s σ H D I h
  have okX := I.ok
  have frX : X.A.frames = some (X.env :: X.outer) := by rw [okX.frames, hst]
  have inTry := I.toTry (fun e s₁ => wpAny (model X.prog X.w) X.A (noteFrame e X.env) (fun _ s₂ => wpAny (model X.prog X.w) X.A (setFlight e none) (fun _ s₃ => wpAny (model X.prog X.w) X.A (handleBy e X.env (hd0 :: hds)) (SP X pins D) X.xe s₃) X.xe s₂) X.xe s₁)
  refine wpAny_Try_except ?_
  refine wpAny_mono ((hb (wClas X.K X.N.length W0 D l) (X.pn ++ pins) _ (fun u s' caught => ?_) PassesOwn.looking).run [] s σ H D inTry h) (fun fl s1 hsp => ?_) (fun e s1 he => he)
  · -- it is caught, or goes on
    obtain ⟨a, B, sI, pins', σ1, H1, cls, d, rfl, J', nb, up, sky, na, os, ag, wish⟩ := caught
    have J : Inv X pins σ1 H1 sI := J'.ofTry okX
    rw [hst] at sky
    show wpAny (model X.prog X.w) X.A (noteFrame (.ref a) X.env) _ _ _
    refine Sky.land Zc.steady frX hfr0 sky fun h3 fl3 up3 => ?_
    have J3 : Inv X pins σ1 H1 { s' with heap := h3 } := J.landed nb fl3.1 (up.trans up3) os ag
    obtain ⟨oe3, vs3, he3, hz3, hd3⟩ := fl3.there
    have aNo : a ∉ frs (X.env :: X.outer) := fun hm => by
      obtain ⟨_, o', e', hnf⟩ := fl3.2.2.1.mem hm
      rw [he3] at e'
      cases e'
      exact hnf _ hd3
    have aL : a ≠ X.env.locals := fun z => aNo (List.mem_filterMap.mpr ⟨X.env, List.mem_cons_self, by rw [hfr0, z]⟩)
    have aF : a ∉ X.fs := fun hm => by
      obtain ⟨e, he, q⟩ := List.mem_filterMap.mp hm
      exact aNo (List.mem_filterMap.mpr ⟨e, List.mem_cons_of_mem _ he, q⟩)
    have S3 := J3.suite he3 hd3 na aL aF
    have go : ∀ {hs : List ExceptHandler} {cl : List Cla}, ClasOk X hs cl → wClas X.K X.N.length W0 D cl cls d σ1 H1 → wpAny (model X.prog X.w) X.A (handleBy (.ref a) X.env hs) (SP X pins D) X.xe { s' with heap := h3 } := by
      intro hs cl hk
      induction hk with
      | nil =>
        intro wi
        refine wpAny_handleBy_nil ?_
        obtain ⟨f1, f2, f3, oe, vs, T, oT, ts', he, hz, hdd, h1, hr⟩ := id fl3
        have last : wpAny (model X.prog X.w) X.A (setFlight (.ref a) X.env.frame) (fun _ s4 => wpAny (model X.prog X.w) X.A (throw (.ref a) : Sem Flow) (SP X pins D) X.xe s4) X.xe { s' with heap := h3 } := by
          rw [hfr0]
          exact HandSPX.setFlight_upZ fl3 fun h4 hh4 up4 => wpAny_throw (tk _ _ ⟨a, B, sI, pins, σ1, H1, cls, d, rfl, J, nb, (up.trans up3).trans up4, .inr (.inr (by rw [hst]; exact hh4)), na, os, ag, wi⟩)
        unfold PySem.passOn
        refine wpAny_bind (wpAny_field he hdd h1 ?_)
        rw [if_neg (show ¬ ((Value.ref T == Value.none) = true) from by simp)]
        first | exact wpAny_bind (wpAny_pure (wpAny_bind last)) | exact wpAny_bind last
      | @cons x c oi on ts b0 sui np pq hds2 l2 hc hn hsu r ih =>
        intro wi
        obtain ⟨b, hb1, hyes, hno⟩ := wi
        refine wpAny_handleBy_cons (codeAny_handlers_test ?_) (by intro q; cases q)
        have lookT : PySem.W.Looks (model X.prog X.w) h3 (typeOf (.ref a)) cls := fun A' Q' E' s'' k q => wpAny_typeOf_ref (k _ _ he3) (by rw [hz3.1]; exact q)
        have meets := PySem.W.exm_one (M := model X.prog X.w) (J3.kIn) lookT hb1
        have named : ∀ {Q E : Value → Shared → Prop}, Q c { s' with heap := h3 } → wpAny (model X.prog X.w) (X.A.mark (some (.ref a))) (eval (.Name x np) X.env) Q E { s' with heap := h3 } := fun {Q E} q => by
          obtain ⟨g1, g2, g3 | ⟨g3, g4, g5⟩⟩ := hc
          · exact ld_glob (X := X.suite a ((a, oe3) :: (X.pn ++ pins))) S3 g1 g3 q g2
          · exact ld_blt (X := X.suite a ((a, oe3) :: (X.pn ++ pins))) S3 g1 g3 g4 q g5 g2
        refine named (meets.here ?_)
        cases b with
        | false =>
          show wpAny _ X.A (handleBy (.ref a) X.env hds2) _ _ _
          exact ih (hno rfl)
        | true =>
          have yes := hyes rfl a na J.len
          cases hn with
          | no =>
            refine codeAny_handlers_suite (HandSPX.lands_againZ fl3 fun h4 fl4 up4 => ?_)
            have J4 : Inv X pins σ1 H1 { s' with heap := h4 } := J.landed nb fl4.1 ((up.trans up3).trans up4) os ag
            obtain ⟨oe4, vs4, he4, hz4, hd4⟩ := fl4.there
            have S4 := J4.suite he4 hd4 na aL aF
            have yes : ts a cls d D σ1 H1 := yes
            refine wpAny_mono ((hsu a oe4 cls d (X.pn ++ pins) hz4 ⟨_, hd4⟩).run [] _ _ H1 _ S4 yes) (fun f s6 hsp => ?_) (fun _ _ z => False.elim z)
            cases f with
            | ret u => obtain ⟨v6, σ6, H6, S6, r6, q6⟩ := hsp; exact ⟨_, _, _, S6.unsuite okX, r6, q6⟩
            | next => obtain ⟨σ6, H6, S6, q6⟩ := hsp; exact ⟨_, _, S6.unsuite okX, q6⟩
            | brk => obtain ⟨σ6, H6, S6, q6⟩ := hsp; exact ⟨_, _, S6.unsuite okX, q6⟩
            | cont => obtain ⟨σ6, H6, S6, q6⟩ := hsp; exact ⟨_, _, S6.unsuite okX, q6⟩
          | @yes n i hi hl =>
            refine codeAny_handlers_suite_as (HandSPX.lands_againZ fl3 fun h4 fl4 up4 => ?_)
            have J4 : Inv X pins σ1 H1 { s' with heap := h4 } := J.landed nb fl4.1 ((up.trans up3).trans up4) os ag
            obtain ⟨oe4, vs4, he4, hz4, hd4⟩ := fl4.there
            have S4 := J4.suite he4 hd4 na aL aF
            have yes : ts a cls d (freed D i) (σ1.set i (some (.ref a))) H1 := yes
            refine store_ok (X := X.suite a ((a, oe4) :: (X.pn ++ pins))) (v := .ref a) S4 hN hi (.inl hl) rfl (fun s5 S5 => ?_) (.inr hl)
            refine wpAny_mono ((hsu a oe4 cls d (X.pn ++ pins) hz4 ⟨_, hd4⟩).run [] s5 _ H1 _ S5 yes) (fun f s6 hsp => ?_) (fun _ _ z => False.elim z)
            have away : ∀ {σ6 : L2.St} {H6 : Hp} {Q : Shared → Prop}, Inv (X.suite a ((a, oe4) :: (X.pn ++ pins))) [] σ6 H6 s6 → (∀ s7, Inv X pins (σ6.set i none) H6 s7 → Q s7) →
                wpAny (model X.prog X.w) X.A (do bindName X.env n .none; unbindBehindTheSuite X.env n pq) (fun _ s7 => Q s7) X.xe s6 := fun {σ6 H6 Q} S6 hq => gone_ok (S6.unsuite okX) hN hi hl hq
            cases f with
            | ret u => obtain ⟨v6, σ6, H6, S6, r6, q6⟩ := hsp; exact away S6 fun s7 J7 => ⟨_, _, _, J7, r6, q6⟩
            | next => obtain ⟨σ6, H6, S6, q6⟩ := hsp; exact away S6 fun s7 J7 => ⟨_, _, J7, q6⟩
            | brk => obtain ⟨σ6, H6, S6, q6⟩ := hsp; exact away S6 fun s7 J7 => ⟨_, _, J7, q6⟩
            | cont => obtain ⟨σ6, H6, S6, q6⟩ := hsp; exact away S6 fun s7 J7 => ⟨_, _, J7, q6⟩
    exact go hh wish
  · cases fl with
    | ret u => obtain ⟨v, σ1, H1, J', r, q⟩ := hsp; exact ⟨v, σ1, H1, J'.ofTry okX, r, q⟩
    | next => obtain ⟨σ1, H1, J', q⟩ := hsp; exact wpAny_execs_nil ⟨σ1, H1, J'.ofTry okX, q⟩
    | brk => obtain ⟨σ1, H1, J', q⟩ := hsp; exact ⟨σ1, H1, J'.ofTry okX, q⟩
    | cont => obtain ⟨σ1, H1, J', q⟩ := hsp; exact ⟨σ1, H1, J'.ofTry okX, q⟩
end
end Dz

/-! DzLt: a def that makes lambdas (its own table of code objects is followed), called by the law. -/
namespace Dz
open PySem PySem.Spec PyProof.Rows L2 LamX
/-- the changing objects that all know: what is drawn from, and the table -/
def TabQ (q : Str) (T : Addr) (A : AQ) : Prop := ∃ p ns, A = [(p, drawOk ns), (T, tabOk q)]
def spTb (K : PySem.W.Frag) (q : Str) (T : Addr) (pd : PD) : Sp := fun vs H Q _ => ∃ (A : AQ) (F G : Hp) (ds : List D) (Ψ : D → Prop), TabQ q T A ∧ StQ K A F G H ∧ NE F ∧ NT G ∧ RepA K G ds vs ∧ pd A ds Ψ ∧
  ∀ d v G' H', Ψ d → StQ K A F G' H' → Step F G G' → Rep K G' d v → Q v H'
section
variable {P : Program} {w : World} {K : PySem.W.Frag} {mg : Str → Option Value} {base : Heap}
theorem fn_dzt {x q : Str} {s0 : Stmt} {f c T : Addr} {N ps : List Str} {k : Nat} {pd : PD} {fb : Am → FS} {oc kV doc pm ct : Value} {od an : Option Addr} {osl : Array (Option Value)}
    (lk : K.lookup f = some ⟨oc, od, .func (PySem.W.fnOf x x (defArgs s0) (defBody s0) (defScope s0) .none kV doc pm an (.ref c) ct), osl⟩) (hcd : PySem.W.codeIn K (.ref c) x = true) (S : FnScope N ps (defScope s0)) (hlen : ∀ A ds Ψ, pd A ds Ψ → ds.length = ps.length)
    (hb : ∀ (A : Am) (Ar : Around) (outer : List PySem.Env) (s : Shared) (H : Hp) (E : XK), Room k (Ar.deeper (envOfC x (defScope s0) s.heap.objs.size f (.ref c))) → DSs (cxOf CX0 P w K mg base N x (defScope s0) f (.ref c) Ar outer s H E).nox A (defBody s0) (fb A))
    (hm : ∀ (A : Am) ds Ψ, TabQ q T A.q → NE A.F0 → NT A.G0 → pd A.q ds Ψ → fb A (ds.map EV.dat ++ List.replicate (N.length - ds.length) EV.un) { nx := fun _ => Ψ .non, rt := Ψ }) :
    FnOk P w K mg base CX0 (k + 1) f (PySem.W.fnOf x x (defArgs s0) (defBody s0) (defScope s0) .none kV doc pm an (.ref c) ct) ps (spTb K q T pd) := by
  refine fn_of lk hcd S (fun vs H Q E h => ?_) fun Ar outer s H vs Q E hr h => ?_
  · obtain ⟨A, F, G, ds, Ψ, _, _, _, _, r, hp, _⟩ := h
    rw [r.len]
    exact hlen A ds Ψ hp
  · obtain ⟨A, F, G, ds, Ψ, hq, k0, nF, nG, r, hp, qq⟩ := h
    refine ⟨_, (hb ⟨A, F, G⟩ Ar outer s H E hr).nox, F, G, _, _, EnvOk.start ⟨k0, Fro.refl _, Step.refl _ _⟩ r, hm ⟨A, F, G⟩ ds Ψ hq nF nG hp, fun e σ' G' H' hn k1 s1 => ?_, fun d v G' H' hd k1 s1 r1 => ?_, fun _ _ _ _ z => z.elim, fun _ _ _ _ z => z.elim⟩
    · have k2 := k1.shrink
      exact qq .non .non G' H' hn k2.ok.st s1 (rep_non.mpr rfl)
    · exact qq d v G' H' hd ⟨k1.st.gh, k1.bs.trans k1.st.fh, fun q hq => k1.bs.free (k1.st.fa q hq), k1.st.am⟩ s1 r1
end
def fCallT (q : Str) (T : Addr) (pd : PD) (A : Am) (fr : FA) : FE := fun en Φ => TabQ q T A.q ∧ NE A.F0 ∧ NT A.G0 ∧ fr en fun ds e => noCel e = true ∧ pd A.q ds fun d => Φ d e
structure OwnTb (P : Program) (w : World) (K : PySem.W.Frag) (mg : Str → Option Value) (base : Heap) (x : Str) (k : Nat) (ps : List Str) (q : Str) (T : Addr) (pd : PD) : Prop where
  ex : ∃ (f : Addr) (fd : FuncData), FnOk P w K mg base CX0 k f fd ps (spTb K q T pd) ∧ mg x = some (.ref f) ∧ PySem.W.keepIn K (.ref f) = true ∧ Binds K fd ps []
section
variable {X : Cx} {A : Am} {k : Nat} {ps : List Str} {pd : PD} {x q : Str} {T : Addr} {p pos : Pos} {e : Expr} {es : List Expr} {fr : FA}
theorem de_ownTb (O : OwnTb X.prog X.w X.K X.mg X.base x k ps q T pd) (hr : Room k X.A) (hg : Gl X x) (ha : DA X A (e :: es) fr) (hdb : (x == ("__debug__" : Str)) = false := by decide)
    (he : starEach (e :: es) X.env = (false, eval e X.env) :: starEach es X.env := by rfl) (hpl : (backTo pos (starEach es X.env)).any (·.1) = false := by rfl) : DE X A (.Call (.Name x p) (e :: es) [] pos) (fCallT q T pd A fr) := by
  obtain ⟨f, fd, h1, h2, h3, h4⟩ := O.ex
  refine pe_weak (pe_call h1 hr hg h2 h3 h4 .nil pass0 ha hdb he hpl) fun σ H Q h => ?_
  obtain ⟨F, G, en, Ψ, k0, ⟨hq, nF, nG, h⟩, qq⟩ := h
  refine ⟨F, G, en, _, k0, h, fun ds e1 vs G1 H1 hp k1 s1 r1 => ?_⟩
  show spTb X.K q T pd (vs ++ []) H1 Q _
  rw [List.append_nil]
  refine ⟨A.q, F, G1, ds, _, hq, k1.ok.st, k1.ok.bz.n nF, k1.ok.bg.n nG, r1, hp.2, fun d v G2 H2 hd k2 s2 r2 => ?_⟩
  have kk := k1.slots (A' := ⟨A.q, F, G1⟩) (e' := e1) (σ' := σ) hp.1 rfl ⟨k2, Fro.refl _, s2⟩ s2
  exact qq d e1 v G2 H2 hd kk (s1.trans s2) r2
end
end Dz

/-! DzDo: a def called with its last arguments left out. -/
namespace Dz
open PySem PySem.Spec PyProof.Rows L2
def fCallXd (pd : PDX) (A : Am) (Ξ : XW) (dls : List D) (fr : FA) : FE := fun en Φ => fr en fun ds e => pd A.q (ds ++ dls) (fun d => Φ d e) (fun c x => Ξ c x e)
def fCallDd (pd : PD) (A : Am) (dls : List D) (fr : FA) : FE := fun en Φ => fr en fun ds e => pd A.q (ds ++ dls) (fun d => Φ d e)
structure OwnXd (P : Program) (w : World) (K : PySem.W.Frag) (mg : Str → Option Value) (base : Heap) (x : Str) (k : Nat) (ps : List Str) (dls : List D) (pd : PDX) : Prop where
  ex : ∃ (f : Addr) (fd : FuncData) (us : List Value) (dvs : List V), FnOk P w K mg base (L2.CX P w) k f fd ps (spX K pd) ∧ mg x = some (.ref f) ∧ PySem.W.keepIn K (.ref f) = true ∧ Binds K fd ps us ∧ Vals dvs us ∧ ∀ G, RepA K G dls dvs
structure OwnDd (P : Program) (w : World) (K : PySem.W.Frag) (mg : Str → Option Value) (base : Heap) (x : Str) (k : Nat) (ps : List Str) (dls : List D) (pd : PD) : Prop where
  ex : ∃ (f : Addr) (fd : FuncData) (us : List Value) (dvs : List V), FnOk P w K mg base CX0 k f fd ps (spD K pd) ∧ mg x = some (.ref f) ∧ PySem.W.keepIn K (.ref f) = true ∧ Binds K fd ps us ∧ Vals dvs us ∧ ∀ G, RepA K G dls dvs
section
variable {X : Cx} {A : Am} {k : Nat} {ps : List Str} {pd : PD} {px : PDX} {x : Str} {p pos : Pos} {e : Expr} {es : List Expr} {fr : FA} {Ξ : XW} {dls : List D}
theorem de_ownXd (O : OwnXd X.prog X.w X.K X.mg X.base x k ps dls px) (tk : Takes X (WD X.K A Ξ)) (hr : Room k X.A) (hg : Gl X x) (ha : DA X A (e :: es) fr) (hdb : (x == ("__debug__" : Str)) = false := by decide)
    (he : starEach (e :: es) X.env = (false, eval e X.env) :: starEach es X.env := by rfl) (hpl : (backTo pos (starEach es X.env)).any (·.1) = false := by rfl) : DE X A (.Call (.Name x p) (e :: es) [] pos) (fCallXd px A Ξ dls fr) := by
  obtain ⟨f, fd, us, dvs, h1, h2, h3, h4, h5, h6⟩ := O.ex
  refine pe_weak (pe_callSD (E := WE (WD X.K A Ξ)) h1 hr hg h2 h3 h4 h5 (fun σ => passAt tk σ) ha hdb he hpl) fun σ H Q ⟨F, G, en, Ψ, k0, h, q⟩ => ?_
  refine ⟨F, G, en, _, k0, h, fun ds e1 vs G1 H1 hp k1 s1 r1 => ?_⟩
  refine ⟨A.q, G1, ds ++ dls, _, _, k1.ok.call, r1.app (h6 G1), hp, fun d v G2 H2 hd k2 s2 r2 => ?_, fun c y d G2 H2 hx k2 s2 r2 => ?_⟩
  · obtain ⟨k3, s3⟩ := k1.called k2 s2
    exact q d e1 v G2 H2 hd k3 (s1.trans s3) r2
  · obtain ⟨k3, s3⟩ := k1.called k2 s2
    exact ⟨F, G2, e1, y, k3, r2, hx⟩
theorem de_ownDd (O : OwnDd X.prog X.w X.K X.mg X.base x k ps dls pd) (hr : Room k X.A) (hg : Gl X x) (ha : DA X A (e :: es) fr) (hdb : (x == ("__debug__" : Str)) = false := by decide)
    (he : starEach (e :: es) X.env = (false, eval e X.env) :: starEach es X.env := by rfl) (hpl : (backTo pos (starEach es X.env)).any (·.1) = false := by rfl) : DE X A (.Call (.Name x p) (e :: es) [] pos) (fCallDd pd A dls fr) := by
  obtain ⟨f, fd, us, dvs, h1, h2, h3, h4, h5, h6⟩ := O.ex
  refine pe_weak (pe_call h1 hr hg h2 h3 h4 h5 pass0 ha hdb he hpl) fun σ H Q ⟨F, G, en, Ψ, k0, h, q⟩ => ?_
  refine ⟨F, G, en, _, k0, h, fun ds e1 vs G1 H1 hp k1 s1 r1 => ?_⟩
  refine ⟨A.q, G1, ds ++ dls, _, k1.ok.call, r1.app (h6 G1), hp, fun d v G2 H2 hd k2 s2 r2 => ?_⟩
  obtain ⟨k3, s3⟩ := k1.called k2 s2
  exact q d e1 v G2 H2 hd k3 (s1.trans s3) r2
end
end Dz

/-! DzHp: small helps for readings. -/
namespace Dz
open PySem PySem.Spec PyProof.Rows L2
theorem iteEqX {b c : Bool} {A B : Prop} (e : b = c) (h : if c = true then A else B) : if b = true then A else B := by subst e; exact h
theorem iteB {b : Bool} {A B : Prop} (h1 : b = true → A) (h2 : b = false → B) : if b = true then A else B := by
  cases b with
  | true => exact h1 rfl
  | false => exact h2 rfl
theorem gN_env {i : Nat} {d : D} {e e' : En} {Φ : En → Prop} (h : Dz.st e i (.dat d) = e') (k : Φ e') : gN i d e Φ := by subst h; exact k
theorem gCs_go {g : FG} {gs : FGs} {d : D} {r : List D} {en : En} {Φ : En → Prop} (k : g d en fun e => gs r e Φ) : gCs g gs (d :: r) en Φ := k
theorem envEq {fs : FS} {e e' : En} {Ψ : Ed} (h : e = e') (k : fs e' Ψ) : fs e Ψ := by subst h; exact k
theorem chain_le {a b c : Int} {Φ : D → Prop} (h : Φ (.bl (decide (a ≤ b) && decide (b ≤ c)))) : rLeD (.int a) (.int b) fun z => ∃ k, z = .bl k ∧ if k = true then rLeD (.int b) (.int c) Φ else Φ z := by
  refine ⟨_, rfl, iteB (fun h1 => ?_) (fun h1 => ?_)⟩
  · rw [h1, Bool.true_and] at h; exact h
  · rw [h1, Bool.false_and] at h; rw [h1]; exact h
theorem and_go {p : Bool} {B F : Prop} (h1 : p = true → B) (h2 : p = false → F) : ∃ k, truD (.bl p) = some k ∧ if k = true then B else F := ⟨p, rfl, iteB h1 h2⟩
/-- a and b, both tests -/
theorem and_bl {p q : Bool} {B : (D → Prop) → Prop} {Φ : D → Prop} (h : Φ (.bl (p && q))) (hb : p = true → (Φ (.bl q) → B Φ)) : ∃ k, truD (.bl p) = some k ∧ if k = true then B Φ else Φ (.bl p) := and_go (fun e => hb e (by rw [e, Bool.true_and] at h; exact h)) (fun e => by rw [e, Bool.false_and] at h; rw [e]; exact h)
end Dz

/-! DzSs0: set(set(list of ints)). -/
namespace Dz
open PySem PySem.Spec PyProof.Rows L2
abbrev noneSet (w : World) : Obj := { cls := .type "set", dict := none, data := .set #[] 0 (.fresh 0 0 (!w.params.followText "set-order")) }
section
variable {P : Program} {w : World} {A : Around} {E : Value → Shared → Prop} {s : Shared}
set_option maxHeartbeats 3200000 in
theorem set_of_list {l : Addr} {items : Array Value} (ns : List Int) {Q : Value → Shared → Prop} (hh : A.handled = none) (hl : s.heap.IsList l items) (hit : IntsAre items.toList ns) (hb : ns.length + 1 < scanBound)
    (hQ : ∀ (h' : Heap) (tk c : Nat), SetR w h' s.heap.objs.size (fun j => decide (j ∈ ns)) c → c ≤ ns.length → (∀ b o, s.heap.get? b = some o → h'.get? b = some o) → Q (.ref s.heap.objs.size) { s with heap := h', toks := tk }) : wpAny (model P w) A (call (.type "set") [.ref l]) Q E s := by
  have many : items.size = ns.length := by
    have z := IntsAre.length hit
    rw [Array.length_toList] at z
    exact z
  obtain ⟨c0, tl0, hmro⟩ := PySem.F.called_set.mro
  have hmade := PySem.F.called_set.made
  have hsub := PySem.F.called_set.sub
  refine wpAny_call (codeAny_of_tree ?_)
  show wpAny _ _ (callAny (.type "set") _) _ _ _
  refine wpAny_pure ⟨Code.quiet_builtin _ (by decide +kernel), codeAny_builtin PySem.F.entry_type_call ?_⟩
  rw [Around.under_plain (weight_type_call_type "set" [.ref l] []) rfl]
  have n1 := PySem.F.called_set.notType
  have n2 := PySem.F.called_set.canCreate
  have n3 := PySem.F.typeCall_set_1 (.ref l)
  repeat (any_goals (first | assumption | wp_step))
  refine codeAny_mono (code_set_led1 (.ref l) (E := E) (Q₁ := fun obj s₁ => obj = .ref s.heap.objs.size ∧ s₁ = { s with heap := s.heap.push (noneSet w) }) ⟨rfl, rfl⟩) fun r s₁ hr => ?_
  cases r with
  | error e => exact hr
  | ok fl =>
    cases fl with
    | next => exact hr
    | brk => exact hr
    | cont => exact hr
    | ret obj =>
      obtain ⟨rfl, rfl⟩ := hr
      obtain ⟨h1, eh1⟩ : ∃ h1, h1 = s.heap.push (noneSet w) := ⟨_, rfl⟩
      have z1 : h1.objs.size = s.heap.objs.size + 1 := by rw [eh1]; exact Heap.size_push ..
      have at1 : h1.get? s.heap.objs.size = some (noneSet w) := by rw [eh1]; exact Heap.get?_push_size _ rfl
      have up1 : ∀ b o, s.heap.get? b = some o → h1.get? b = some o := fun b o e => by rw [eh1]; exact Heap.get?_push_of_some _ e
      rw [← eh1]
      have hT : Shared.TypeIs { s with heap := h1 } (.ref s.heap.objs.size) "set" := ⟨_, at1, rfl⟩
      have hli := PySem.F.called_set.init.lookup
      have hbi := PySem.F.called_set.init.bind (.ref s.heap.objs.size)
      repeat (any_goals (first | assumption | wp_step))
      refine codeAny_mono (codeAny_call_builtin (R := wants (fun r s₂ => r = .none ∧ ∃ h' tk c, s₂ = { s with heap := h', toks := tk } ∧ SetR w h' s.heap.objs.size (fun j => decide (j ∈ ns)) c ∧ c ≤ ns.length ∧ (∀ b o, s.heap.get? b = some o → h'.get? b = some o)) E)
        PySem.F.called_set.init.plain PySem.F.entry_set_init (check_set_init_1 hT ?_)) fun r₂ s₂ hr₂ => ?_
      · obtain ⟨⟨ocls, odict, odata, oslots⟩, hol, hcl, nl, hdl⟩ := hl
        simp only at hcl hdl
        subst hcl hdl
        have hol' := up1 _ _ hol
        have sb1 := PySem.F.sub_list_set
        have sb2 := PySem.F.sub_list_frozenset
        have sb3 : (Value.type "list" == Value.type "dict") = false := by decide
        have hl1 : h1.IsList l items := ⟨_, hol', rfl, nl, rfl⟩
        unfold Builtin.«set.__init__» noKeywords Builtin.Frozenset.updateFrom
        generalize hPI : pyIter = PI
        wp_walk
        subst hPI
        refine wpAny_pyIter_list hl1 (wpAny_bind (wpAny_runValue ?_))
        have hlS : l < s.heap.objs.size := Heap.lt_size hol
        have nh : A.in1.in1.in1.handled = none := by simp [hh]
        have nI : l ≠ h1.objs.size := Nat.ne_of_lt (by rw [z1]; exact Nat.lt_succ_of_lt hlS)
        have nS : s.heap.objs.size ∉ [h1.objs.size, l] := by
          simp only [List.mem_cons, List.mem_singleton, List.not_mem_nil, or_false, not_or]
          exact ⟨Nat.ne_of_lt (by rw [z1]; exact Nat.lt_succ_self _), Nat.ne_of_gt hlS⟩
        have vals : ∀ (i : Nat) (v : Value), items[i]? = some v → ∃ k t, ns[i]? = some k ∧ v = .int k t := fun i v hv => by
          have hi : i < ns.length := by rw [← many]; exact (Array.getElem?_eq_some_iff.mp hv).1
          obtain ⟨t, e⟩ := PyProof.Rows.IntsAre.int_at hit i v (by rw [Array.getElem?_toList]; exact hv)
          exact ⟨ns[i], t, List.getElem?_eq_getElem hi, by rw [e, List.getD_eq_getElem?_getD, List.getElem?_eq_getElem hi] <;> rfl⟩
        refine set_update_ints ((Walks.list nh _ l nI items).toS) s.heap.objs.size nS ns many hb vals (items.size - 0) 0 _ (by omega) (Nat.zero_le _) ⟨⟨_, Heap.get?_push_size _ rfl, rfl, rfl⟩, hl1.at (fun o e => Heap.get?_push_of_some _ e)⟩ ⟨0, Nat.le_refl 0, setR_new_at (Heap.get?_push_of_some _ at1)⟩ fun s' c' hm hc' hS' => ?_
        obtain ⟨h', g2, d', tk', os'⟩ := s'
        have e1 : g2 = s.gens := hm.gens
        have e2 : d' = s.drawn := hm.drawn
        have e3 : os' = s.os := hm.os
        subst e1 e2 e3
        show wpAny _ _ _ _ _ _
        refine wpAny_pure ?_
        show wpAny _ _ (ret Value.none) _ _ _
        rw [many] at hc'
        refine wpAny_pure ⟨rfl, h', tk', c', rfl, hS', hc', fun b o e => ?_⟩
        have b0 : b < s.heap.objs.size := Heap.lt_size e
        exact hm.heap b o (by simp only [List.mem_cons, List.mem_singleton, List.not_mem_nil, or_false, not_or]; exact ⟨Nat.ne_of_lt b0, Nat.ne_of_lt (by rw [z1]; exact Nat.lt_succ_of_lt b0)⟩) (Heap.get?_push_of_some _ (up1 b o e))
      · cases r₂ with
        | error e => exact hr₂
        | ok fl₂ =>
          cases fl₂ with
          | next => exact hr₂.elim
          | brk => exact hr₂.elim
          | cont => exact hr₂.elim
          | ret r =>
            obtain ⟨rfl, h', tk, c', rfl, y1, y2, y3⟩ := hr₂
            repeat (any_goals (first | assumption | wp_step))
            exact hQ _ _ _ y1 y2 y3
end
end Dz

namespace Dz
open PySem PySem.Spec PyProof.Rows L2
/-! ### sorted(set(e)), e a list of few ints -/
def tSortedSet (K : PySem.W.Frag) (ta : TE) : TE := fun σ H Q => ta σ H fun x H1 => ∃ (l : Addr) (ns : List Int), x = .ref l ∧ SqL K H1 l (ns.map V.int) ∧ ns.length < 64 ∧
  ∀ (ms : List Int) (p : Addr), ms.Pairwise (· < ·) → (∀ k : Int, k ∈ ms ↔ k ∈ ns) → H1 p = none → Q (.ref p) (upd H1 p (.lst (ms.map V.int)))
section
variable {X : Cx} {a : Expr} {ta : TE} {p p2 q pos : Pos}
theorem pe_sortedSet (hc : X.calm = true) (hg : Gl X "sorted") (hm : X.mg "sorted" = none) (hg2 : Gl X "set") (hm2 : X.mg "set" = none) (ha : PE X a ta) (na : starEach [a] X.env = (false, eval a X.env) :: starEach [] X.env := by rfl) :
    PE X (.Call (.Name "sorted" p) [.Call (.Name "set" p2) [a] [] q] [] pos) (tSortedSet X.K ta) := by
  constructor
  intro pins s σ H Q I h
  refine Call_ (ld_blt (u := .builtin "sorted") I hg hm (by decide +kernel) ?_)
  refine PyProof.Rows.callWith_builtin1 (PyProof.Rows.args_cons ?_ rfl) rfl rfl
  refine Call_ (ld_blt I hg2 hm2 PyProof.Rows.boot_set ?_)
  refine PyProof.Rows.callWith_type1 (PyProof.Rows.args_cons (thn (ha.run pins s σ H _ I h) fun v s1 ⟨x, H1, I1, r1, q1⟩ => PyProof.Rows.args_nil ?_) na) na rfl
  obtain ⟨l, ns, rfl, hq, hl, q1⟩ := q1
  cases r1
  obtain ⟨its, rv, pl, hz⟩ := I1.list hq
  have hi : IntsAre its.toArray.toList ns := ints_of_vals rv
  refine set_of_list ns (I1.ok.hd hc) pl.isList hi (by unfold scanBound; omega) fun h' tk c R cl k => ?_
  refine PyProof.Rows.args_nil ?_
  refine sorted_set R (I1.ok.hd hc) (by omega) fun s' p out c2 ms k2 g2 o2 hp hget hms hpw hmem hlen => ?_
  have hlm : (ms.map V.int).length ≤ sizeLine := by rw [List.length_map, hlen, sizeLine_eq]; omega
  have hle : s1.heap.objs.size ≤ p := Nat.le_trans (by
    obtain ⟨o, _, _, _, ho, _⟩ := R
    exact Nat.le_of_lt (Heap.lt_size ho)) hp
  have hn : H1 p = none := I1.hok.fresh hle
  have kk : ∀ b o, s1.heap.get? b = some o → s'.heap.get? b = some o := fun b o e => k2 b o (k b o e)
  have J : Inv X pins σ (upd H1 p (.lst (ms.map V.int))) { s1 with heap := s'.heap, gens := s'.gens, drawn := s'.drawn, toks := s'.toks } :=
    I1.call (ch := []) (Un.laid kk hle hn) (I1.hok.laid kk hle ⟨hlm, out.toList, c2, vals_of_ints hms, hget⟩) (by rw [g2]; exact I1.bare) (fun _ z => nomatch z)
  have e : s' = { s1 with heap := s'.heap, gens := s'.gens, drawn := s'.drawn, toks := s'.toks } := by
    obtain ⟨x1, x2, x3, x4, x5⟩ := s'
    have o2 : x5 = s1.os := o2
    subst o2
    rfl
  rw [e]
  exact ⟨.ref p, _, J, rfl, q1 ms p hpw (fun j => by rw [hmem j, decide_eq_true_eq]) hn⟩
end
def fSortedSet (fa : FE) : FE := fun en Φ => fa en fun x e1 => ∃ ns : List Int, x = .lst (ns.map D.int) ∧ ns.length < 64 ∧ ∀ ms : List Int, ms.Pairwise (· < ·) → (∀ k : Int, k ∈ ms ↔ k ∈ ns) → Φ (.lst (ms.map D.int)) e1
section
variable {X : Cx} {A : Am} {e : Expr} {fa : FE} {p p2 q pos : Pos}
theorem de_sortedSet (hc : X.calm = true) (hg : Gl X "sorted") (hm : X.mg "sorted" = none) (hg2 : Gl X "set") (hm2 : X.mg "set" = none) (ha : DE X A e fa) (na : starEach [e] X.env = (false, eval e X.env) :: starEach [] X.env := by rfl) :
    DE X A (.Call (.Name "sorted" p) [.Call (.Name "set" p2) [e] [] q] [] pos) (fSortedSet fa) := pe_weak (pe_sortedSet hc hg hm hg2 hm2 ha na) fun σ H Q ⟨F, G, en, Ψ, k, h, qq⟩ =>
  ⟨F, G, en, _, k, h, fun x e1 v G1 H1 z k1 s1 r1 => by
    obtain ⟨ns, rfl, hl, z⟩ := z
    obtain ⟨b, zs, rfl, hb, rz⟩ := rep_lst.mp r1
    have ez := repA_ints_inv rz
    subst ez
    refine ⟨b, ns, rfl, .inl (.inl (k1.ok.gh _ _ hb)), hl, fun ms p hp hm hn => ?_⟩
    have g : Grow G1 H1 (upd G1 p (.lst (ms.map V.int))) (upd H1 p (.lst (ms.map V.int))) := Grow.new k1.ok.gh hn
    exact qq _ e1 _ _ _ (z ms hp hm) (k1.grow g (same_upd2 k1.ok.gh)) (s1.trans (g.step k1.ok.fh)) (rep_lst.mpr ⟨p, _, rfl, upd_same, RepA.ints ms⟩)⟩
end
end Dz

namespace Dz
open PySem PySem.Spec PyProof.Rows L2

/-! ### a dict as data: it is locked for good -/
def zR (ks : List Key) : Addr → List V → HO → Prop := fun _ xs o => (∃ ob, o = .frz ob (.dK (ks.zip xs))) ∧ ks.length = xs.length
def zD (ks : List Key) (l : List D) : D := .obj (zR ks) l
section
variable {K : PySem.W.Frag} {G H : Hp} {ks : List Key} {l : List D} {v : V}
theorem rep_z : Rep K G (zD ks l) v ↔ ∃ a xs ob, v = .ref a ∧ G a = some (.frz ob (.dK (ks.zip xs))) ∧ RepA K G l xs ∧ ks.length = l.length := by
  unfold zD
  rw [rep_obj]
  constructor
  · rintro ⟨a, xs, o, e1, e2, ⟨⟨ob, e3⟩, e4⟩, e5⟩
    exact ⟨a, xs, ob, e1, by rw [e2, e3], e5, by rw [e4, e5.len]⟩
  · rintro ⟨a, xs, ob, e1, e2, e5, e4⟩
    exact ⟨a, xs, _, e1, e2, ⟨⟨ob, rfl⟩, by rw [e4, e5.len]⟩, e5⟩
end
/-- .. may be laid at its making -/
def tLockV (t : TE) : TE := fun σ H Q => t σ H fun v H' => ∃ a u, v = .ref a ∧ H' a = some u ∧ Mut (some u) ∧ ∀ od, Q v (upd H' a (.frz od u))
theorem pe_lockV {X : Cx} {e : Expr} {t : TE} (h : PE X e t) : PE X e (tLockV t) := by
  refine ⟨fun pins s σ H Q I hw => ?_⟩
  refine thn (h.run pins s σ H _ I hw) fun v s1 ⟨x, H1, I1, r, a, u, e1, e2, mu, q⟩ => ?_
  obtain ⟨od, I2⟩ := I1.lock e2 mu
  exact ⟨x, _, I2, r, q od⟩
theorem upd_frz {H : Hp} {p : Addr} {a b : HO} : upd (upd H p a) p b = upd H p b := upd_upd
theorem EnvOk.freezeZ {K : PySem.W.Frag} {A : Am} {F G H : Hp} {σ : L2.St} {en : En} {i : Nat} {ks : List Key} {l : List D} (k : EnvOk K A F G H σ en) (e : gt en i = .cel (.dct ks l)) :
    ∃ a xs, σ[i]? = some (some (.ref a)) ∧ H a = some (.dK (ks.zip xs)) ∧ ∀ od, ∃ G', EnvOk K A F G' (upd H a (.frz od (.dK (ks.zip xs)))) σ (st en i (.dat (zD ks l))) ∧ Step F G G' ∧ Rep K G' (zD ks l) (.ref a) := by
  obtain ⟨c, x⟩ := k.ex
  obtain ⟨e1, ⟨u, e2, xs, eu, e3, e3l⟩, e4, e5, e6⟩ := x.cel i _ e
  subst eu
  refine ⟨c i, xs, e1, e2, fun od => ?_⟩
  generalize hu : HO.frz od (.dK (ks.zip xs)) = u
  have sg : Same G (upd G (c i) u) := same_new e4
  have hr : Rep K (upd G (c i) u) (zD ks l) (.ref (c i)) := rep_z.mpr ⟨_, xs, od, rfl, by rw [upd_same, hu], e3.mono sg, e3l⟩
  have hnt : NT G → NT (upd G (c i) u) := fun z => z.new (by subst hu; intro _ z; cases z)
  refine ⟨upd G (c i) u, ⟨⟨⟨?_, ?_, k.ok.fa, ?_⟩, k.ok.bz, k.ok.bg.trans ⟨hnt, sg, fun a w ha => upd_ne (fun z => by subst z; have ha := k.ok.bs _ _ ha; rw [e5] at ha; cases ha)⟩⟩, ?_, c, ?_, ?_, ?_, ?_⟩, ⟨hnt, sg, ?_⟩, hr⟩
  · exact same_upd2 k.ok.gh
  · intro b w hb
    rw [upd_ne (fun z => by subst z; rw [e5] at hb; cases hb)]
    exact k.ok.fh _ _ hb
  · intro q hq
    obtain ⟨a1, o1, u1, a2, a3, a4⟩ := k.ok.am q hq
    exact ⟨by rw [upd_ne (e6 q hq)]; exact a1, o1, u1, by rw [upd_ne (e6 q hq)]; exact a2, a3.mono sg, a4⟩
  · rw [st_len]; exact k.len
  · intro j d hj
    rw [gt_st] at hj
    split at hj
    · rename_i h
      cases hj
      exact ⟨_, by rw [h.1]; exact e1, hr⟩
    · obtain ⟨v, h1, h2⟩ := x.dat j d hj
      exact ⟨v, h1, h2.mono sg⟩
  · intro j d hj
    rw [gt_st] at hj
    split at hj
    · cases hj
    · rename_i h
      obtain ⟨f1, ⟨u', f2, f3⟩, f4, f5, f6⟩ := x.cel j d hj
      have nj : c j ≠ c i := fun z => by
        have := x.inj j i d _ hj e z
        subst this
        have hl : j < en.length := by
          rcases Nat.lt_or_ge j en.length with h' | h'
          · exact h'
          · exact absurd e1 (by rw [List.getElem?_eq_none (by rw [k.len]; exact h')]; intro z; cases z)
        exact h ⟨rfl, hl⟩
      exact ⟨f1, ⟨u', by rw [upd_ne nj]; exact f2, f3.mono sg⟩, by rw [upd_ne nj]; exact f4, f5, f6⟩
  · intro a b p q ha hb hc
    rw [gt_st] at ha hb
    split at ha
    · cases ha
    · split at hb
      · cases hb
      · exact x.inj a b p q ha hb hc
  · intro j q h
    rw [gt_st] at h
    split at h
    · cases h
    · exact x.pl j q h
  · intro a w ha
    exact upd_ne (fun z => by subst z; rw [e5] at ha; cases ha)
/-- a name that holds a changing dict: from here on it is data -/
def fVarZ (i : Nat) : FE := fun en Φ => ∃ ks l, gt en i = .cel (.dct ks l) ∧ Φ (zD ks l) (st en i (.dat (zD ks l)))
section
variable {X : Cx} {A : Am} {e : Expr} {pos : Pos} {fa fb : FE} {fr : FA}
theorem de_varZ (i : Nat) {x : Str} (hN : X.N[i]? = some x := by rfl) (hv : Vis X.env.scope x := by first | exact Or.inl rfl | exact Or.inr (Or.inl rfl) | exact Or.inr (Or.inr rfl)) (hd : (x == ("__debug__" : Str)) = false := by decide)
    (hcd : (x == ("__classdict__" : Str)) = false := by decide) : DE X A (.Name x pos) (fVarZ i) := pe_weak (pe_lockV (pv i hN hv hd hcd)) fun σ H Q h => by
  obtain ⟨F, G, en, Ψ, k, ⟨ks, l, eg, h⟩, q⟩ := h
  obtain ⟨a, xs, e1, e2, e3⟩ := k.freezeZ eg
  exact ⟨.ref a, e1, a, _, rfl, e2, trivial, fun od => let ⟨G', k', s', r'⟩ := e3 od; q _ _ _ G' _ h k' s' r'⟩
/-- .. whichever it is -/
def fVarY (i : Nat) : FE := fun en Φ => match gt en i with
  | .dat d => Φ d en
  | .cel (.dct ks l) => Φ (zD ks l) (st en i (.dat (zD ks l)))
  | _ => False

/-! ### walks -/
def kvD (ks : List Key) (l : List D) : List D := (ks.zip l).map fun q => .tup [kD q.1, q.2]
theorem kD_rep {K : PySem.W.Frag} {G : Hp} (k : Key) : Rep K G (kD k) (kV k) := by
  cases k with
  | inl i => exact rep_int.mpr rfl
  | inr x => exact rep_str.mpr rfl
theorem zip_get {ks : List Key} {xs : List V} (h : ks.length = xs.length) {i : Nat} {k : Key} (e : ks[i]? = some k) : ∃ x, (ks.zip xs)[i]? = some (k, x) ∧ xs[i]? = some x := by
  have hi := (List.getElem?_eq_some_iff.mp e).1
  have hx : xs[i]? = some xs[i] := List.getElem?_eq_getElem (by omega)
  exact ⟨xs[i], List.getElem?_zip_eq_some.mpr ⟨e, hx⟩, hx⟩
theorem yl_keys {K : PySem.W.Frag} {G : Hp} {a : Addr} {ob : Obj} {ks : List Key} {xs : List V} (s : G a = some (.frz ob (.dK (ks.zip xs)))) (hl : ks.length = xs.length) : Yl K (Itk a ob (ks.zip xs)) G (ks.map kD) where
  go := fun G1 H1 k g h hk => ⟨h _ _ (g _ _ s), by rw [List.length_map] at hk; rw [List.length_zip]; omega⟩
  yl := fun G1 H1 k x H2 d g h hd hy => by
    obtain ⟨rfl, k', v, e1, rfl⟩ := hy
    have e2 := (List.getElem?_zip_eq_some.mp e1).1
    rw [List.getElem?_map, e2] at hd
    cases hd
    exact ⟨G1, Grow.refl _ _, h, kD_rep _⟩
  sp := fun G1 H1 k g h hk => ⟨h _ _ (g _ _ s), by rw [List.length_map] at hk; rw [List.length_zip]; omega⟩
theorem yl_items {K : PySem.W.Frag} {G : Hp} {a : Addr} {ob : Obj} {ks : List Key} {xs : List V} {l : List D} (s : G a = some (.frz ob (.dK (ks.zip xs)))) (ra : RepA K G l xs) (hl : ks.length = l.length) : Yl K (Iti a ob (ks.zip xs)) G (kvD ks l) where
  go := fun G1 H1 k g h hk => ⟨h _ _ (g _ _ s), by unfold kvD at hk; rw [List.length_map, List.length_zip] at hk; rw [List.length_zip, ra.len]; exact hk⟩
  yl := fun G1 H1 k x H2 d g h hd hy => by
    obtain ⟨T, k', v, e1, rfl, hT, rfl⟩ := hy
    obtain ⟨e2, e3⟩ := List.getElem?_zip_eq_some.mp e1
    obtain ⟨dv, e4, rv⟩ := ra.get' e3
    unfold kvD at hd
    rw [List.getElem?_map, show (ks.zip l)[k]? = some (k', dv) from List.getElem?_zip_eq_some.mpr ⟨e2, e4⟩] at hd
    cases hd
    exact pairT h hT (kD_rep _) (rv.mono g)
  sp := fun G1 H1 k g h hk => ⟨h _ _ (g _ _ s), by unfold kvD at hk; rw [List.length_map, List.length_zip] at hk; rw [List.length_zip, ra.len]; exact hk⟩
def fIKeys (fa : FE) : FI := fun en Φ => fa en fun d e => ∃ ks l, d = zD ks l ∧ Φ (ks.map kD) e
def fIItems (fa : FE) : FI := fun en Φ => fa en fun d e => ∃ ks l, d = zD ks l ∧ Φ (kvD ks l) e
theorem di_keys {tg : Expr} (ha : DE X A e fa) : DI X A tg e (fIKeys fa) := pi_weak (pi_keys ha) fun σ H R ⟨F, G, en, Ψ, k, h, q⟩ =>
  ⟨F, G, en, _, k, h, fun d e1 v G1 H1 z k1 s1 r1 => by
    obtain ⟨ks, l, rfl, z⟩ := z
    obtain ⟨p, xs, ob, rfl, sq, ra, hl⟩ := rep_z.mp r1
    exact ⟨p, ob, rfl, .inl ⟨_, k1.ok.gh _ _ sq, q _ _ G1 H1 _ z k1 s1 (yl_keys sq (by rw [hl, ra.len]))⟩⟩⟩
theorem di_items {elts : List Expr} {kk : Nat} {tpos apos cpos : Pos} (ha : DE X A e fa) (hbase : attributeBase e "items" X.env (eval e X.env) = eval e X.env := by rfl) (hline : (apos.endLine == cpos.line) = true := by rfl) :
    DI X A (.Tuple elts kk tpos) (.Call (.Attribute e "items" apos) [] [] cpos) (fIItems fa) := pi_weak (pi_items ha hbase hline) fun σ H R ⟨F, G, en, Ψ, k, h, q⟩ =>
  ⟨F, G, en, _, k, h, fun d e1 v G1 H1 z k1 s1 r1 => by
    obtain ⟨ks, l, rfl, z⟩ := z
    obtain ⟨p, xs, ob, rfl, sq, ra, hl⟩ := rep_z.mp r1
    exact ⟨p, ob, _, rfl, k1.ok.gh _ _ sq, q _ _ G1 H1 _ z k1 s1 (yl_items sq ra hl)⟩⟩
/-! ### d[k], k in d, len(d), list(d) -/
def rIxZ : R2D := fun x y Φ => ∃ ks l k d, x = zD ks l ∧ keyD y = some k ∧ getK ks l k = some d ∧ Φ d
theorem ixz (hu : X.A.units + 64 < cLine) : IxR X (LR2 X.K rIxZ) := by
  intro value slice pins s σ H x y v u Q I rx ry ⟨G, dx, dy, Ψ, gh, r1, r2, ⟨ks, l, k, d, ez, hk, e, h⟩, q⟩ hs
  subst ez
  obtain ⟨p, xs, ob, rfl, s1, a1, _⟩ := rep_z.mp r1
  cases keyD_rep hk r2
  obtain ⟨z, e1, e2⟩ := repA_val a1 e
  exact ix_dK (by omega) value slice pins s σ H _ _ v u Q I rx ry ⟨p, z, rfl, .inl ⟨_, k, .inr ⟨ob, gh _ _ s1⟩, rfl, e1.symm⟩, q _ _ G H h (Grow.refl _ _) gh e2⟩ hs
def rInZ : R2D := fun x y Φ => ∃ ks l k, y = zD ks l ∧ keyD x = some k ∧ Φ (.bl (getK ks l k).isSome)
theorem op_inZ {X : Cx} (hu : X.A.units + 64 < cLine) : OpR X (compareOp .In) (LR2 X.K rInZ) := by
  intro pins s σ H x y v u Q I rx ry ⟨G, dx, dy, Ψ, gh, r1, r2, ⟨ks, l, k, ez, hk, h⟩, q⟩
  subst ez
  obtain ⟨p, xs, ob, rfl, s1, a1, _⟩ := rep_z.mp r2
  cases keyD_rep hk r1
  cases ry
  have e := repA_valN (k := k) (ks := ks) a1
  have g : DGet H p (kV k) (valV (ks.zip xs) k) := .inl ⟨_, k, .inr ⟨ob, gh _ _ s1⟩, rfl, rfl⟩
  refine d_in (by omega) I g rx fun s' I' => ⟨.bl _, H, I', rfl, ?_⟩
  rw [e]
  exact q _ _ G H h (Grow.refl _ _) gh (rep_bl.mpr rfl)
def rLenZ : RAD := fun xs Φ => ∃ ks l, xs = [zD ks l] ∧ Φ (.int ks.length)
theorem callD_lenZ : CallR X (.builtin "len") (LRA X.K rLenZ) := by
  intro pins s σ H xs us Q I r ⟨G, ds, Ψ, gh, r1, ⟨ks, l, ez, h⟩, q⟩
  subst ez
  obtain ⟨x, rfl, p1⟩ := repA_1 r1
  obtain ⟨p, xs, ob, rfl, s1, a1, hl⟩ := rep_z.mp p1
  obtain ⟨u, eu, rx⟩ := vals1 r
  subst eu
  cases rx
  refine d_len I (.inr ⟨ob, gh _ _ s1⟩) fun t s' I' => ⟨.int ks.length, H, I', ⟨t, ?_⟩, q _ _ G H h (Grow.refl _ _) gh (rep_int.mpr rfl)⟩
  rw [List.length_zip, a1.len, hl, Nat.min_self]
end
end Dz

namespace Dz
open PySem PySem.Spec PyProof.Rows L2

/-! ### list(d), isinstance, truth -/
theorem call_list_dR {X : Cx} (hc : X.calm = true) : CallR X (.type "list") (fun xs H Q => ∃ p kvs, xs = [.ref p] ∧ Rd H p (.dK kvs) ∧ ∀ q, H q = none → Q (.ref q) (upd H q (.lst (kvs.map fun kv => kV kv.1)))) := by
  rintro pins s σ H xs us Q I r ⟨p, kvs, rfl, rd, q⟩
  obtain ⟨u, rfl, rx⟩ := vals1 r
  cases rx
  obtain ⟨few, lo, vs, rel, dd⟩ := dk_rd I.hok rd
  obtain ⟨ep, at_⟩ := dd.dictAt
  have same : kvs.length = vs.length := Paired.length rel
  refine PySem.W.kdl_call (PySem.W.kdl_dict (knd := mixKind X.prog X.w) (kvs := vs) (ep := ep) lo) (I.ok.hd hc) at_ (same ▸ few) fun h' tk acc c keep lay got => ?_
  have vals : Vals (kvs.map fun kv => kV kv.1) acc.toList := vals_of_at (by rw [List.length_map, show acc.toList.length = acc.size by simp, got.1, same]) fun j x w h1 h2 => by
    obtain ⟨k, y, hk, is⟩ := got.2 j w (by rw [← Array.getElem?_toList]; exact h2)
    have ek : (kvs.map (·.1))[j]? = some k := by rw [KV.keys rel, List.getElem?_map, hk]; rfl
    rw [show (kvs.map fun kv => kV kv.1) = (kvs.map (·.1)).map kV by rw [List.map_map]; rfl, List.getElem?_map, ek] at h1
    cases h1
    exact keyIs_rel is
  have new : ObjOk X.prog X.w (upd H s.heap.objs.size (.lst (kvs.map fun kv => kV kv.1))) h' s.heap.objs.size (.lst (kvs.map fun kv => kV kv.1)) := ⟨by rw [List.length_map]; exact few, acc.toList, c, vals, by rw [Array.toArray_toList]; exact lay⟩
  exact ⟨.ref s.heap.objs.size, _, I.laid keep (Nat.le_refl _) new, rfl, q _ (I.hok.fresh (Nat.le_refl _))⟩
def rListZ : RAD := fun xs Φ => ∃ ks l, xs = [zD ks l] ∧ Φ (.lst (ks.map kD))
def rIsiZ : RAD := fun xs Φ => ∃ ks l T, xs = [zD ks l, .ty T] ∧ T ∈ ["str", "tuple", "int", "bool", "list", "dict"] ∧ Φ (.bl (T == "dict"))
/-- by either of two rules for a call -/
def rEithA (r r' : RAD) : RAD := fun xs Φ => r xs Φ ∨ r' xs Φ
section
variable {X : Cx} {A : Am} {e a : Expr} {pos : Pos} {fa fb : FE} {fr : FA}
theorem callD_eith {f : Value} {r r' : RAD} (h : CallR X f (LRA X.K r)) (h' : CallR X f (LRA X.K r')) : CallR X f (LRA X.K (rEithA r r')) := by
  intro pins s σ H xs us Q I rv ⟨G, ds, Ψ, gh, r1, hh, q⟩
  rcases hh with z | z
  · exact h pins s σ H xs us Q I rv ⟨G, ds, Ψ, gh, r1, z, q⟩
  · exact h' pins s σ H xs us Q I rv ⟨G, ds, Ψ, gh, r1, z, q⟩
theorem callD_listZ (hc : X.calm = true) : CallR X (.type "list") (LRA X.K rListZ) := by
  intro pins s σ H xs us Q I r ⟨G, ds, Ψ, gh, r1, ⟨ks, l, ez, h⟩, q⟩
  subst ez
  obtain ⟨x, rfl, p1⟩ := repA_1 r1
  obtain ⟨p, xs, ob, rfl, s1, a1, hl⟩ := rep_z.mp p1
  have ek : (ks.zip xs).map (·.1) = ks := by
    rw [List.map_fst_zip]
    rw [a1.len, hl]; exact Nat.le_refl _
  refine call_list_dR hc pins s σ H _ us Q I r ⟨p, ks.zip xs, rfl, .inr ⟨ob, gh _ _ s1⟩, fun l hl => ?_⟩
  have e2 : (ks.zip xs).map (fun kv => kV kv.1) = ks.map kV := by
    rw [show (fun kv : Key × V => kV kv.1) = kV ∘ (·.1) from rfl, ← List.map_map, ek]
  rw [e2]
  have g : Grow G H (upd G l (.lst (ks.map kV))) (upd H l (.lst (ks.map kV))) := Grow.new gh hl
  exact q _ _ _ _ h g (same_upd2 gh) (rep_lst.mpr ⟨l, _, rfl, upd_same, repA_keys ks⟩)
theorem isT_dict : ∀ T ∈ ["str", "tuple", "int", "bool", "list", "dict"], isT "dict" T = (T == "dict") := by decide +kernel
theorem callD_isiZ : CallR X (.builtin "isinstance") (LRA X.K rIsiZ) := by
  intro pins s σ H xs us Q I r ⟨G, ds, Ψ, gh, r1, ⟨ks, l, T, ez, hT, h⟩, q⟩
  subst ez
  obtain ⟨x, y, rfl, p1, p2⟩ := repA_2 r1
  cases rep_ty.mp p2
  obtain ⟨p, xs, ob, rfl, s1, a1, hl⟩ := rep_z.mp p1
  refine call_isi pins s σ H _ us Q I r ⟨_, .ty _, .type "dict", .type _, isT "dict" T, rfl, .ty _, .fDict (gh _ _ s1), kit_ty (kit_all _ (by decide) _ hT), q _ _ G H h (Grow.refl _ _) gh (rep_bl.mpr ?_)⟩
  rw [isT_dict T hT]
/-- a dict's truth -/
def fTruZ (fa : FE) : FT := fun en Φ => fa en fun x e => ∃ ks l, x = zD ks l ∧ Φ (!ks.isEmpty) e
theorem pt_truthZ {a : Expr} {ta : TE} (ha : PE X a ta) (he : ∀ whole, isTrue a X.env whole = (do let v ← whole; standAt a.pos; holding [v] (truthy v))) :
    PT X a (fun σ H Q => ta σ H fun x H' => ∃ p kvs, x = .ref p ∧ Rd H' p (.dK kvs) ∧ Q (!kvs.isEmpty) H') := by
  refine ⟨fun pins s σ H Q I h => ?_⟩
  refine isTrue_plain (thn (ha.run pins s σ H _ I h) fun v s1 ⟨x, H1, I1, r1, p, kvs, ex, hr, q1⟩ => ?_) (he _)
  subst ex
  cases r1
  exact d_truth I1 hr fun s' I' => ⟨H1, I', q1⟩
theorem dt_truthZ (ha : DE X A a fa) (he : ∀ whole, isTrue a X.env whole = (do let v ← whole; standAt a.pos; holding [v] (truthy v)) := by intro _; rfl) : DT X A a (fTruZ fa) := pt_weak (pt_truthZ ha he) fun σ H Q ⟨F, G, en, Ψ, k, h, q⟩ =>
  ⟨F, G, en, _, k, h, fun d e1 v G1 H1 z k1 s1 r1 => by
    obtain ⟨ks, l, rfl, z⟩ := z
    obtain ⟨p, xs, ob, rfl, sq, a1, hl⟩ := rep_z.mp r1
    refine ⟨p, _, rfl, .inr ⟨ob, k1.ok.gh _ _ sq⟩, ?_⟩
    have e : (ks.zip xs).isEmpty = ks.isEmpty := by
      have h2 : ks.length = xs.length := by rw [a1.len, hl]
      cases ks with
      | nil => rfl
      | cons c r => cases xs with
        | nil => cases h2
        | cons x y => rfl
    rw [e]
    exact q _ e1 G1 H1 z k1 s1⟩
/-- by either of two rules for a test -/
def fEithT (f g : FT) : FT := fun en Φ => f en Φ ∨ g en Φ
theorem dt_eith {f g : FT} (h : DT X A a f) (h' : DT X A a g) : DT X A a (fEithT f g) := ⟨fun pins s σ H Q I ⟨F, G, en, Ψ, k, hh, q⟩ => by
  rcases hh with z | z
  · exact h.run pins s σ H Q I ⟨F, G, en, Ψ, k, z, q⟩
  · exact h'.run pins s σ H Q I ⟨F, G, en, Ψ, k, z, q⟩⟩
end

/-! ### {k: v for ..} -/
/-- what it asks behind its source -/
def DcGoal (g : FG) (ft : FT) (fk fv : FE) (vs : List Nat) (e1 : En) (items : List D) (Φ : D → En → Prop) : Prop := ∃ I : Nat → List Key → List D → Prop, I 0 [] [] ∧
  (∀ k x ks l, items[k]? = some x → I k ks l → ks.length < 100000 ∧ g x (wipeE e1 vs) fun e2 => ft e2 fun b e3 =>
    if b = true then fk e3 fun dk e4 => fv e4 fun d e5 => ∃ key, keyD dk = some key ∧ wipeE e5 vs = wipeE e1 vs ∧ I (k + 1) (putKs ks key) (putKd ks l key d) else wipeE e3 vs = wipeE e1 vs ∧ I (k + 1) ks l) ∧ ∀ ks l, I items.length ks l → Φ (zD ks l) (wipeE e1 vs)
def fDc (fi : FI) (g : FG) (ft : FT) (fk fv : FE) (vs : List Nat) : FE := fun en Φ => fi en fun items e1 => DcGoal g ft fk fv vs e1 items Φ
theorem plain_dk {kvs : List (Key × V)} : plainO (.dK kvs) := ⟨fun _ z => (by cases z), fun _ z => (by cases z)⟩
theorem le_dc {K : PySem.W.Frag} {A : Am} {fi : FI} {g : FG} {ft : FT} {fk fv : FE} {vs : List Nat} {σ : L2.St} {H : Hp} {Q : VK} (h : LE K A (fDc fi g ft fk fv vs) σ H Q) :
    tDc (LI K A fi) (LG K A vs g) (LT K A ft) (LE K A fk) (LE K A fv) vs σ H (fun v H' => ∃ a u, v = .ref a ∧ H' a = some u ∧ Mut (some u) ∧ ∀ od, Q v (upd H' a (.frz od u))) := by
  obtain ⟨F, G, en, Ψ, k, h, q⟩ := h
  refine ⟨F, G, en, _, k, h, fun items e1 G1 H1 J hI k1 s1 Y Dd hD => ?_⟩
  obtain ⟨I, i0, it, id⟩ := hI
  obtain ⟨k2, gD, fD⟩ := k1.tmpAdd (u := .dK []) hD plain_dk
  refine ⟨fun i m H' => ∃ G' ks l xs, I i ks l ∧ EnvOk K A (upd F Dd (.dK (ks.zip xs))) G' H' σ (wipeE e1 vs) ∧ Step F G1 G' ∧ G' Dd = none ∧ RepA K G' l xs ∧ ks.length = l.length ∧ i + m = items.length,
    ⟨items.length, G1, [], [], [], i0, (k2.wiped vs).unwipe, Step.refl _ _, gD, .nil, rfl, by omega⟩, fun i m H2 w => ?_⟩
  obtain ⟨G2, ks, l, xs, ia, k3, s3, g3, ra, hkl, hm⟩ := w
  by_cases hi : i < items.length
  · refine .inr ⟨Y.go G2 H2 i s3.g k3.ok.gh hi, fun H' => ∃ G' ks l xs, I (i + 1) ks l ∧ EnvOk K A (upd F Dd (.dK (ks.zip xs))) G' H' σ (wipeE e1 vs) ∧ Step F G1 G' ∧ G' Dd = none ∧ RepA K G' l xs ∧ ks.length = l.length,
      fun H' ⟨G', ks, l, xs, a, b, c, d, e, f⟩ => ⟨m - 1, by omega, G', ks, l, xs, a, b, c, d, e, f, by omega⟩, fun x H' hy => ?_⟩
    obtain ⟨G4, g4, s4, r4⟩ := Y.yl G2 H2 i x H' _ s3.g k3.ok.gh (List.getElem?_eq_getElem hi) hy
    have k4 := k3.grow g4 s4
    obtain ⟨hlen, hturn⟩ := it i _ ks l (List.getElem?_eq_getElem hi) ia
    have k4' : EnvOk K A (upd F Dd (.dK (ks.zip xs))) G4 H' (wipe σ vs) (wipeE e1 vs) := by
      have := k4.wiped vs
      have ee : wipeE (wipeE e1 vs) vs = wipeE e1 vs := wipeE_wipeE e1 vs
      rw [ee] at this
      exact this
    have st4 := g4.step k3.ok.fh
    refine ⟨_, G4, _, _, _, k4', r4, hturn, fun e5 σ5 G5 H5 h5 k5 s5 w5 => ?_⟩
    have w5' : wipe σ5 vs = wipe σ vs := by rw [w5, wipe_wipe]
    refine ⟨w5', _, G5, e5, _, k5, h5, fun b e6 G6 H6 h6 k6 s6 => ?_⟩
    cases b with
    | true =>
      rw [if_pos rfl]
      refine ⟨_, G6, e6, _, k6, h6, fun dk e7 kv G7 H7 h7 k7 s7 r7 => ⟨_, G7, e7, _, k7, h7, fun d e8 v G8 H8 h8 k8 s8 r8 => ?_⟩⟩
      obtain ⟨key, hk, we, i8⟩ := h8
      have hstep : Step (upd F Dd (.dK (ks.zip xs))) G2 G8 := (((st4.trans s5).trans s6).trans s7).trans s8
      have hDD : H8 Dd = some (.dK (ks.zip xs)) := k8.ok.fh _ _ upd_same
      have hGD : G8 Dd = none := by rw [hstep.f Dd _ upd_same]; exact g3
      obtain ⟨ys, ey, ra', hkl'⟩ := putK_zip (k := key) r8 hkl (ra.mono hstep.g)
      have hzl : (ks.zip xs).length < sizeLine := by
        rw [List.length_zip]
        exact Nat.lt_of_le_of_lt (Nat.min_le_left _ _) (Nat.lt_of_lt_of_le hlen (by decide))
      refine ⟨ks.zip xs, key, keyD_rep hk r7, hDD, hzl, G8, putKs ks key, putKd ks l key d, ys, i8, ?_, ⟨fun z => hstep.n (s3.n z), s3.g.trans hstep.g, fun a u hu => ?_⟩, hGD, ra', hkl'⟩
      · have kk := (k8.wiped vs)
        rw [we, w5'] at kk
        rw [← ey]
        exact (kk.unwipe).tmpSet hGD (k1.ok.bs.free fD) plain_dk
      · rw [← s3.f a u hu]
        refine hstep.f a u ?_
        rw [upd_ne (fun z => by subst z; rw [fD] at hu; cases hu)]
        exact hu
    | false =>
      rw [if_neg Bool.false_ne_true]
      obtain ⟨we, i7⟩ := h6
      have hstep : Step (upd F Dd (.dK (ks.zip xs))) G2 G6 := (st4.trans s5).trans s6
      refine ⟨G6, ks, l, xs, i7, ?_, ⟨fun z => hstep.n (s3.n z), s3.g.trans hstep.g, fun a u hu => ?_⟩, by rw [hstep.f Dd _ upd_same]; exact g3, ra.mono hstep.g, hkl⟩
      · have kk := (k6.wiped vs)
        rw [we, w5'] at kk
        exact kk.unwipe
      · rw [← s3.f a u hu]
        refine hstep.f a u ?_
        rw [upd_ne (fun z => by subst z; rw [fD] at hu; cases hu)]
        exact hu
  · have hil : i = items.length := by omega
    subst hil
    refine .inl ⟨Y.sp G2 H2 _ s3.g k3.ok.gh (Nat.le_refl _), Dd, _, rfl, k3.ok.fh _ _ upd_same, trivial, fun od => ?_⟩
    have h0 := k1.ok.bs.free fD
    have kf := (k3.tmpSet g3 h0 (u' := .frz od (.dK (ks.zip xs))) ⟨fun _ z => (by cases z), fun _ z => (by cases z)⟩).tmpFrz g3 fD h0 (fun _ z => by cases z)
    have sg : Same G2 (upd G2 Dd (.frz od (.dK (ks.zip xs)))) := same_new g3
    exact q _ _ (.ref Dd) (upd G2 Dd (.frz od (.dK (ks.zip xs)))) _ (id ks l ia) kf ((s1.trans s3).trans ⟨fun z => z.new (fun _ z => by cases z), sg, fun a u hu => upd_ne (fun z => by subst z; rw [fD] at hu; cases hu)⟩)
      (rep_z.mpr ⟨Dd, xs, od, rfl, upd_same, ra.mono sg, hkl⟩)
section
variable {X : Cx} {A : Am}
theorem de_dc {kx vx tg iter : Expr} {ifs : List Expr} {scope : Scope} {own : List (Str × Nat)} {pos : Pos} {fi : FI} {g : FG} {ft : FT} {fk fv : FE} (hc : X.calm = true) (hN : X.N.Nodup) (hi : DI X A tg iter fi) (ok : BlkOk X.N X.env.scope scope own)
    (hg : ∀ (s : Shared) (H : Hp) (C : Addr) (cl : List (Str × Addr)) (fp : List Addr), DG (X.blk s H scope (compEnvC scope cl C X.env) fp) A (own.map (·.2)) tg g) (ht : ∀ (s : Shared) (H : Hp) (C : Addr) (cl : List (Str × Addr)) (fp : List Addr), DTs (X.blk s H scope (compEnvC scope cl C X.env) fp) A ifs ft)
    (hk : ∀ (s : Shared) (H : Hp) (C : Addr) (cl : List (Str × Addr)) (fp : List Addr), DE (X.blk s H scope (compEnvC scope cl C X.env) fp) A kx fk)
    (he : ∀ (s : Shared) (H : Hp) (C : Addr) (cl : List (Str × Addr)) (fp : List Addr), DE (X.blk s H scope (compEnvC scope cl C X.env) fp) A vx fv) (hs : ∀ x, foldedSetIterable iter X.env x = pure x := by intro _; rfl) :
    DE X A (.DictComp kx vx [⟨tg, iter, ifs, 0⟩] scope pos) (fDc fi g ft fk fv (own.map (·.2))) := pe_weak (pe_lockV (pe_dc hc hN hi ok hg ht hk he hs)) fun _ _ _ h => le_dc h
end
end Dz

namespace Dz
open PySem PySem.Spec PyProof.Rows L2

/-! ### {}, {k: v} as data -/
def fDisp0 : FE := fun en Φ => Φ (zD [] []) en
def fDisp1 (fk fv : FE) : FE := fun en Φ => fk en fun dk e1 => fv e1 fun dv e2 => ∃ key, keyD dk = some key ∧ Φ (zD [key] [dv]) e2
/-- a dict that was laid for a while is data from here on -/
theorem EnvOk.tmpZ {K : PySem.W.Frag} {A : Am} {F G H : Hp} {σ : L2.St} {en : En} {Dd : Addr} {u : HO} {ks : List Key} {xs : List V} {l : List D} {od : Obj} (k : EnvOk K A (upd F Dd u) G H σ en) (hG : G Dd = none) (hF : F Dd = none) (h0 : A.F0 Dd = none) (ra : RepA K G l xs) (hl : ks.length = l.length) :
    EnvOk K A F (upd G Dd (.frz od (.dK (ks.zip xs)))) (upd H Dd (.frz od (.dK (ks.zip xs)))) σ en ∧ Step F G (upd G Dd (.frz od (.dK (ks.zip xs)))) ∧ Rep K (upd G Dd (.frz od (.dK (ks.zip xs)))) (zD ks l) (.ref Dd) := by
  have sg : Same G (upd G Dd (.frz od (.dK (ks.zip xs)))) := same_new hG
  exact ⟨(k.tmpSet hG h0 (u' := .frz od (.dK (ks.zip xs))) ⟨fun _ z => (by cases z), fun _ z => (by cases z)⟩).tmpFrz hG hF h0 (fun _ z => by cases z), ⟨fun z => z.new (fun _ z => by cases z), sg, fun a u hu => upd_ne (fun z => by subst z; rw [hF] at hu; cases hu)⟩, rep_z.mpr ⟨Dd, xs, od, rfl, upd_same, ra.mono sg, hl⟩⟩
theorem upd_twice {H : Hp} {p : Addr} {a b : HO} : upd (upd H p a) p b = upd H p b := upd_upd
section
variable {X : Cx} {A : Am} {kx vx : Expr} {pos : Pos} {fk fv : FE}
theorem de_disp0 : DE X A (.Dict [] [] pos) fDisp0 := pe_weak (pe_lockV pe_dnewK) fun σ H Q ⟨F, G, en, Ψ, k, h, q⟩ p hp => by
  refine ⟨p, _, rfl, upd_same, trivial, fun od => ?_⟩
  obtain ⟨k2, gD, fD⟩ := k.tmpAdd (u := .dK []) hp plain_dk
  obtain ⟨k3, s3, r3⟩ := k2.tmpZ (ks := []) (xs := []) (l := []) (od := od) gD fD (k.ok.bs.free fD) .nil rfl
  exact q _ en _ _ _ h k3 s3 r3
theorem de_disp1 (hk : DE X A kx fk) (hv : DE X A vx fv) : DE X A (.Dict [some kx] [vx] pos) (fDisp1 fk fv) :=
  pe_weak (pe_lockV (pe_disp (pps_cons hk hv pps_nil) rfl rfl (by simp) (by simp))) fun σ H Q ⟨F, G, en, Ψ, k, h, q⟩ p hp => by
    obtain ⟨k2, gD, fD⟩ := k.tmpAdd (u := .dK []) hp plain_dk
    refine ⟨_, G, en, _, k2, h, fun dk e1 x G1 H1 h1 k1 s1 r1 => ⟨_, G1, e1, _, k1, h1, fun dv e2 y G2 H2 h2 k2 s2 r2 => ?_⟩⟩
    obtain ⟨key, hkey, z⟩ := h2
    have st := s1.trans s2
    have g2 : G2 p = none := by rw [st.f p _ upd_same]; exact gD
    refine ⟨k2.ok.fh _ _ upd_same, [(key, y)], by rw [keyD_rep hkey r1]; rfl, Nat.le_of_ble_eq_true rfl, p, _, rfl, upd_same, trivial, fun od => ?_⟩
    rw [upd_twice]
    obtain ⟨k3, s3, r3⟩ := k2.tmpZ (ks := [key]) (xs := [y]) (l := [dv]) (od := od) g2 fD (k.ok.bs.free fD) (.cons r2 .nil) rfl
    have st' : Step F G G2 := st.less fun a u e => by rw [upd_ne (fun z => by subst z; rw [fD] at e; cases e)]; exact e
    exact q _ e2 _ _ _ z k3 (st'.trans s3) r3
end

/-! ### dict(a list of pairs) -/
theorem callR_lock {X : Cx} {f : Value} {r : List V → Hp → VK → Prop} (h : CallR X f r) : CallR X f (fun xs H Q => r xs H fun v H' => ∃ a u, v = .ref a ∧ H' a = some u ∧ Mut (some u) ∧ ∀ od, Q v (upd H' a (.frz od u))) := by
  intro pins s σ H xs us Q I rv hh
  refine thn (h pins s σ H xs us _ I rv hh) fun v s1 ⟨x, H1, I1, r1, a, u, e1, e2, mu, q⟩ => ?_
  obtain ⟨od, I2⟩ := I1.lock e2 mu
  exact ⟨x, _, I2, r1, q od⟩
def mergeD : List Key → List D → List (Key × D) → List Key × List D
  | ks, l, [] => (ks, l)
  | ks, l, p :: r => mergeD (putKs ks p.1) (putKd ks l p.1 p.2) r
theorem merge_zip {K : PySem.W.Frag} {G : Hp} : ∀ {ps : List (Key × D)} {kvs : List (Key × V)} {ks : List Key} {l : List D} {xs : List V}, kvs.map (·.1) = ps.map (·.1) → RepA K G (ps.map (·.2)) (kvs.map (·.2)) → ks.length = l.length → RepA K G l xs →
    ∃ ys, mergeK (ks.zip xs) kvs = (mergeD ks l ps).1.zip ys ∧ RepA K G (mergeD ks l ps).2 ys ∧ (mergeD ks l ps).1.length = (mergeD ks l ps).2.length
  | [], [], ks, l, xs, _, _, hl, r => ⟨xs, rfl, r, hl⟩
  | [], _ :: _, _, _, _, e, _, _, _ => by cases e
  | _ :: _, [], _, _, _, e, _, _, _ => by cases e
  | p :: ps, q :: kvs, ks, l, xs, e, rr, hl, r => by
    simp only [List.map_cons, List.cons.injEq] at e
    simp only [List.map_cons] at rr
    unfold RepA at rr
    obtain ⟨x, t, e2, r1, r2⟩ := rr
    injection e2 with e2 e3
    subst e2 e3
    obtain ⟨ys, f1, f2, f3⟩ := putK_zip (k := q.1) r1 hl r
    obtain ⟨zs, g1, g2, g3⟩ := merge_zip (ps := ps) (kvs := kvs) e.2 r2 f3 f2
    refine ⟨zs, ?_, ?_, ?_⟩
    · show mergeK (putK (ks.zip xs) q.1 q.2) kvs = (mergeD (putKs ks p.1) (putKd ks l p.1 p.2) ps).1.zip zs
      rw [f1, ← e.1]
      exact g1
    · show RepA K G (mergeD (putKs ks p.1) (putKd ks l p.1 p.2) ps).2 zs
      rw [← e.1]; exact g2
    · show (mergeD (putKs ks p.1) (putKd ks l p.1 p.2) ps).1.length = (mergeD (putKs ks p.1) (putKd ks l p.1 p.2) ps).2.length
      rw [← e.1]; exact g3
def rDictP : RAD := fun xs Φ => ∃ ps : List (Key × D), xs = [.lst (ps.map fun p => .tup [kD p.1, p.2])] ∧ Φ (zD (mergeD [] [] ps).1 (mergeD [] [] ps).2)
theorem pairs_rep {K : PySem.W.Frag} {G : Hp} : ∀ {ps : List (Key × D)} {xs : List V}, RepA K G (ps.map fun p => .tup [kD p.1, p.2]) xs →
    ∃ (as : List Addr) (kvs : List (Key × V)), xs = as.map V.ref ∧ Paired (fun p kv => SqT K G p [kV kv.1, kv.2]) as kvs ∧ kvs.map (·.1) = ps.map (·.1) ∧ RepA K G (ps.map (·.2)) (kvs.map (·.2))
  | [], xs, r => by
    rw [List.map_nil] at r
    unfold RepA at r
    subst r
    exact ⟨[], [], rfl, .nil, rfl, .nil⟩
  | p :: ps, xs, r => by
    rw [List.map_cons] at r
    unfold RepA at r
    obtain ⟨x, t, rfl, r1, r2⟩ := r
    obtain ⟨as, kvs, rfl, h1, h2, h3⟩ := pairs_rep r2
    obtain ⟨a, ys, rfl, sq, ra⟩ := rep_tup.mp r1
    obtain ⟨y, z, rfl, q1, q2⟩ := repA_2 ra
    have ey : y = kV p.1 := by
      cases hp : p.1 with
      | inl i => rw [hp] at q1; exact rep_int.mp q1
      | inr i => rw [hp] at q1; exact rep_str.mp q1
    subst ey
    exact ⟨a :: as, (p.1, z) :: kvs, rfl, .cons sq h1, by simp [h2], .cons q2 h3⟩
theorem paired_mono {K : PySem.W.Frag} {G H : Hp} (gh : Same G H) {as : List Addr} {kvs : List (Key × V)} (h : Paired (fun p kv => SqT K G p [kV kv.1, kv.2]) as kvs) : Paired (fun p kv => SqT K H p [kV kv.1, kv.2]) as kvs := Paired.mapP h fun _ _ z => sqt_mono gh z
theorem callD_dictP {X : Cx} (hc : X.calm = true) : CallR X (.type "dict") (LRA X.K rDictP) := by
  intro pins s σ H xs us Q I r ⟨G, ds, Ψ, gh, r1, ⟨ps, ez, h⟩, q⟩
  subst ez
  obtain ⟨x, rfl, p1⟩ := repA_1 r1
  obtain ⟨p, zs, rfl, s1, a1⟩ := rep_lst.mp p1
  obtain ⟨as, kvs, rfl, h1, h2, h3⟩ := pairs_rep a1
  obtain ⟨ys, e1, e2, e3⟩ := merge_zip (ks := []) (l := []) (xs := []) h2 h3 rfl .nil
  refine callR_lock (call_dictP hc) pins s σ H _ us Q I r ⟨p, as, kvs, rfl, .inl (.inl (gh _ _ s1)), paired_mono gh h1, fun d hd => ⟨d, _, rfl, upd_same, trivial, fun od => ?_⟩⟩
  rw [upd_twice, show mergeK [] kvs = (mergeD [] [] ps).1.zip ys from e1]
  have g : Grow G H (upd G d (.frz od (.dK ((mergeD [] [] ps).1.zip ys)))) (upd H d (.frz od (.dK ((mergeD [] [] ps).1.zip ys)))) := Grow.new gh hd
  exact q _ _ _ _ h g (same_upd2 gh) (rep_z.mpr ⟨d, ys, od, rfl, upd_same, e2.mono g.g, e3⟩)
end Dz

namespace Dz
open PySem PySem.Spec PyProof.Rows L2 PySem.W

/-! ### d.items() to one name: each pair is kept -/
section
variable {prog : Program} {w : World} {A : Around} {E : Value → Shared → Prop} {s : Shared}
abbrev pairO (x y : Value) : Obj := { cls := .type "tuple", data := .seq #[x, y] }
theorem dead_load {a : Addr} {Q : Option Obj → Shared → Prop} (ho : s.heap.get? a = none) (h : Q none s) : wpAny (model prog w) A (loadIfAlive a) Q E s := fun _ _ _ => show Q (s.heap.get? a) s by rw [ho]; exact h
theorem items_more {it d a : Addr} {f : Bool} {i ep : Nat} {es : Array DictEntry} {ok ov : Value} {Q : Option Value → Shared → Prop} (hit : KdxIt s.heap it d i es.size ep ok ov a f)
    (hm : s.heap.DictRaw d es ep) (lt : i < es.size)
    (hQ : ∀ h' ok' ov' a' f', KdxIt h' it d (i + 1) es.size ep ok' ov' a' f' → h'.get? s.heap.objs.size = some (pairO es[i].key es[i].val) → h'.objs.size = s.heap.objs.size + 1 → (∀ b o, b ≠ it → s.heap.get? b = some o → h'.get? b = some o) → Q (some (.ref s.heap.objs.size)) { s with heap := h' }) :
    wpAny (model prog w) A (pyNext (.ref it)) Q E s := by
  obtain ⟨hp, gg, dr, tk, os⟩ := s
  obtain ⟨od, o1, o2, o3⟩ := id hm
  have ty : Shared.TypeIs ⟨hp, gg, dr, tk, os⟩ (.ref it) "dict_itemiterator" := ⟨_, hit, rfl⟩
  unfold pyNext
  refine wpAny_bind (wpAny_attempt (wpAny_callSpecial?_slot (name := Str.ofString "__next__") ty PySem.F.slot_dict_itemiterator_next (wpAny_call_entry PySem.F.slot_dict_itemiterator_next ty PySem.F.entry_dict_itemiterator_next ?_ (PySem.F.args_dict_itemiterator_next_1 _))))
  refine wpAny_bind (wpAny_pure ?_); refine wpAny_bind ?_; refine wpAny_bind ?_
  first | refine wpAny_bind (wpAny_typeNameOfWhole_itemiter ty (wpAny_pure ?_)) | refine wpAny_bind (wpAny_typeNameOf_itemiter ty (wpAny_pure ?_))
  refine wpAny_bind (wpAny_fieldsOf hit rfl ?_)
  simp only [show Builtin.Dict_items.ownsTuple "dict_itemiterator" = true by decide, if_true]
  show wpAny _ _ (if (Value.ref d == Value.none) = true then _ else _) _ _ _; rw [if_neg (show ¬ ((Value.ref d == Value.none) = true) from Bool.false_ne_true)]
  refine wpAny_bind (wpAny_pure ?_); refine wpAny_bind (wpAny_dictEntries o1 o3 ?_); rw [if_neg (by simp)]
  refine wpAny_bind (wpAny_pure ?_); refine wpAny_bind (wpAny_dictEpoch o1 o3 ?_); rw [if_neg (by simp)]; refine wpAny_pure ?_
  simp only [show ¬ ((i : Int) < 0) from by omega, if_false, Int.toNat_natCast, Array.getElem?_eq_getElem lt]
  refine wpAny_bind ?_
  first | refine wpAny_bind (wpAny_typeNameOfWhole_itemiter ty (wpAny_pure ?_)) | refine wpAny_bind (wpAny_typeNameOf_itemiter ty (wpAny_pure ?_))
  refine wpAny_bind (wpAny_isOneOf_itemiter ty ?_)
  show wpAny _ _ (setField (.ref it) 3 (rawInt ((i : Int) + 1)) >>= _) _ _ ⟨hp, gg, dr, tk, os⟩; refine wpAny_bind (wpAny_setField_rec hit (by simp) fun k1 e1 b1 => ?_)
  replace b1 : Heap.SameBut it hp k1 := b1
  replace e1 : KdxIt k1 it d (i + 1) es.size ep ok ov a f := by
    have e : ((i + 1 : Nat) : Int) = (i : Int) + 1 := by omega
    unfold KdxIt; rw [e]; simpa [rawInt] using e1
  have ty1 : Shared.TypeIs ⟨k1, gg, dr, tk, os⟩ (.ref it) "dict_itemiterator" := ⟨_, e1, rfl⟩
  refine wpAny_bind (wpAny_holding ?_); refine wpAny_bind (wpAny_isOneOf_itemiter ty1 ?_); refine wpAny_bind (wpAny_isOneOf_itemiter ty1 ?_)
  show wpAny _ _ (Builtin.Dict_items.pairFromOwner (.ref it) 6 es[i].key es[i].val) _ _ ⟨k1, gg, dr, tk, os⟩; unfold Builtin.Dict_items.pairFromOwner
  refine wpAny_bind (wpAny_newTuple ?_)
  have e2 : KdxIt (k1.push (pairO es[i].key es[i].val)) it d (i + 1) es.size ep ok ov a f := Heap.get?_push_of_some _ e1
  generalize hh : k1.push (pairO es[i].key es[i].val) = k2 at e2
  have z1 : k1.objs.size = hp.objs.size := b1.1
  have hil : it < hp.objs.size := Heap.lt_size hit
  have t2 : k2.get? hp.objs.size = some (pairO es[i].key es[i].val) := by rw [← hh, ← z1]; exact Heap.get?_push_size _ rfl
  have z2 : k2.objs.size = hp.objs.size + 1 := by rw [← hh, Heap.size_push, z1]
  have p2 : ∀ b o, b ≠ it → hp.get? b = some o → k2.get? b = some o := fun b o hb e => by rw [← hh]; exact Heap.get?_push_of_some _ (b1.extBut b o hb e)
  have hh' : k1.push { cls := .type "tuple", data := .seq #[es[i].key, es[i].val] } = k2 := hh
  simp only [hh']
  show wpAny _ _ (Builtin.Dict_items.ownedTupleIsFree (.ref it) >>= _) _ _ ⟨k2, gg, dr, tk, os⟩; rw [z1]
  clear hh hh' e1 b1 ty1 z1 k1
  refine wpAny_bind ?_; unfold Builtin.Dict_items.ownedTupleIsFree
  refine wpAny_bind (wpAny_field e2 rfl (x := rawInt a) rfl ?_)
  show wpAny _ _ (loadIfAlive ((a : Int).toNat) >>= _) _ _ _; rw [Int.toNat_natCast]
  cases al : k2.get? a with
  | some oa =>
    refine wpAny_bind (kdx_alive al ?_)
    simp only [Option.isNone_some, Bool.false_eq_true, if_false]
    refine wpAny_bind (wpAny_field e2 rfl (x := .bool f) rfl ?_)
    have fin : ∀ k3 : Heap, KdxIt k3 it d (i + 1) es.size ep ok ov a true → Heap.SameBut it k2 k3 → Q (some (.ref hp.objs.size)) ⟨k3, gg, dr, tk, os⟩ := fun k3 e3 b3 =>
      hQ k3 _ _ _ _ e3 (b3.extBut _ _ (Nat.ne_of_gt hil) t2) (show k3.objs.size = hp.objs.size + 1 by rw [b3.1, z2]) fun b o hb e => b3.extBut b o hb (p2 b o hb e)
    cases f with
    | true =>
      rw [if_neg (show ¬ ((Value.bool true != Value.bool true) = true) from Bool.false_ne_true)]; refine wpAny_pure ?_
      simp only [Bool.false_eq_true, if_false]; exact wpAny_pure (wpAny_pure ⟨_, rfl, wpAny_pure (fin k2 e2 (Heap.SameBut.refl _ _))⟩)
    | false =>
      rw [if_pos (show (Value.bool false != Value.bool true) = true from rfl)]
      refine wpAny_bind (wpAny_setField_rec e2 (by simp) fun k3 e3 b3 => ?_)
      replace b3 : Heap.SameBut it k2 k3 := b3
      replace e3 : KdxIt k3 it d (i + 1) es.size ep ok ov a true := e3
      refine wpAny_pure ?_; simp only [Bool.false_eq_true, if_false]; exact wpAny_pure (wpAny_pure ⟨_, rfl, wpAny_pure (fin k3 e3 b3)⟩)
  | none =>
    refine wpAny_bind (dead_load al ?_)
    simp only [Option.isNone_none, if_true]
    refine wpAny_pure ?_
    simp only [if_true]
    refine wpAny_bind (wpAny_field e2 rfl (x := ok) rfl ?_); refine wpAny_bind (wpAny_field e2 rfl (x := ov) rfl ?_)
    refine wpAny_bind (wpAny_setField_rec e2 (by simp) fun k3 e3 b3 => ?_)
    replace b3 : Heap.SameBut it k2 k3 := b3
    replace e3 : KdxIt k3 it d (i + 1) es.size ep es[i].key ov a f := e3
    refine wpAny_bind (wpAny_setField_rec e3 (by simp) fun k4 e4 b4 => ?_)
    replace b4 : Heap.SameBut it k3 k4 := b4
    replace e4 : KdxIt k4 it d (i + 1) es.size ep es[i].key es[i].val a f := e4
    refine wpAny_bind (wpAny_setField_rec e4 (by simp) fun k5 e5 b5 => ?_)
    replace b5 : Heap.SameBut it k4 k5 := b5
    replace e5 : KdxIt k5 it d (i + 1) es.size ep es[i].key es[i].val hp.objs.size f := e5
    refine wpAny_bind (wpAny_setField_rec e5 (by simp) fun k6 e6 b6 => ?_)
    replace b6 : Heap.SameBut it k5 k6 := b6
    replace e6 : KdxIt k6 it d (i + 1) es.size ep es[i].key es[i].val hp.objs.size false := e6
    refine wpAny_bind (wpAny_letGo (wpAny_pure (wpAny_pure ⟨_, rfl, wpAny_pure (hQ k6 _ _ _ _ e6 ?_ ?_ ?_)⟩)))
    · exact b6.extBut _ _ (Nat.ne_of_gt hil) (b5.extBut _ _ (Nat.ne_of_gt hil) (b4.extBut _ _ (Nat.ne_of_gt hil) (b3.extBut _ _ (Nat.ne_of_gt hil) t2)))
    · show k6.objs.size = hp.objs.size + 1
      rw [b6.1, b5.1, b4.1, b3.1, z2]
    · exact fun b o hb e => b6.extBut b o hb (b5.extBut b o hb (b4.extBut b o hb (b3.extBut b o hb (p2 b o hb e))))
end
def tnI (it d : Addr) (n ep : Nat) (i : Nat) (h : Heap) : Prop := (∃ ok ov, IsItemIter h it d i n ep ok ov) ∨ ∃ ok ov a f, KdxIt h it d i n ep ok ov a f
theorem dictRaw_of {X : Cx} {pins : List (Addr × Obj)} {σ : L2.St} {H : Hp} {s : Shared} {d : Addr} {o : Obj} {kvs : List (Key × V)} (I : Inv X pins σ H s) (hd : H d = some (.frz o (.dK kvs))) {es : Array DictEntry} {ep : Nat} (hdt : o.data = .dict es ep) :
    (d == sysModules) = false ∧ s.heap.DictRaw d es ep ∧ es.size = kvs.length ∧ ∀ (i : Nat) (k : Key) (v : V), kvs[i]? = some (k, v) → ∃ lt : i < es.size, RelV (kV k) es[i].key ∧ RelV v es[i].val := by
  obtain ⟨hs, hgd, hx, es', ep', vs, e1, hsz, kv, hm⟩ := I.frzK hd
  obtain ⟨q1, q2⟩ := dict_ep hdt e1
  subst q1 q2
  refine ⟨hs, ⟨o, hgd, hx, hdt⟩, hsz, fun i k v hk => ?_⟩
  have hi := (List.getElem?_eq_some_iff.mp hk).1
  obtain ⟨u, hu, ru⟩ := kv_get kv hk
  obtain ⟨o2, es2, f1, f2, f3, f4, f5, f6⟩ := id hm
  rw [hgd] at f1
  cases f1
  obtain ⟨q3, _⟩ := dict_ep hdt f3
  subst q3
  have lt : i < es2.size := by omega
  refine ⟨lt, ?_⟩
  obtain ⟨g1, g2⟩ := f5.get? (e := es2[i]) (by simp [lt]) hu
  exact ⟨relV_key (show keyIs k es2[i].key = true from g1), by rw [g2]; exact ru⟩
theorem turn_itemsN {P : Program} {w : World} {K : PySem.W.Frag} {x : Str} {tpos : Pos} {d : Addr} {o : Obj} {es : Array DictEntry} {ep : Nat} {kvs : List (Key × V)} (it : Addr) (hod : o.data = .dict es ep) :
    Turn P w K (.Name x tpos) (Iti d o kvs) [it] it (tnI it d kvs.length ep) where
  mem := by simp
  obj := fun i h st b hb => by
    obtain rfl : b = it := by simpa using hb
    rcases st with ⟨ok, ov, e⟩ | ⟨ok, ov, a, f, e⟩
    · exact ⟨_, e, fun v z => nomatch z⟩
    · exact ⟨_, e, fun v z => nomatch z⟩
  keep := fun i h h' st k => by
    rcases st with ⟨ok, ov, e⟩ | ⟨ok, ov, a, f, e⟩
    · exact .inl ⟨ok, ov, k it (by simp) _ e⟩
    · exact .inr ⟨ok, ov, a, f, k it (by simp) _ e⟩
  item := by
    intro X hP hw hK hc i pins s σ H E I hf st ⟨hd, hi⟩
    subst hP hw hK
    obtain ⟨hs, raw, hsz, ent⟩ := dictRaw_of I hd hod
    obtain ⟨⟨k, v⟩, hkv⟩ : ∃ p, kvs[i]? = some p := ⟨kvs[i], List.getElem?_eq_getElem hi⟩
    obtain ⟨lt, rk, rv⟩ := ent i k v hkv
    have big : it < s.heap.objs.size := by
      rcases st with ⟨ok, ov, e⟩ | ⟨ok, ov, a, f, e⟩ <;> exact Heap.lt_size e
    have fin : ∀ h' : Heap, tnI it d kvs.length ep (i + 1) h' → h'.get? s.heap.objs.size = some (pairO es[i].key es[i].val) → (∀ b o, b ≠ it → s.heap.get? b = some o → h'.get? b = some o) →
        ∃ u, some (Value.ref s.heap.objs.size) = some u ∧ wpAny (model X.prog X.w) X.A (letOwnedTupleGo (.Name x tpos) (.ref it) u) (fun _ s2 => ∃ x H', Inv X pins σ H' s2 ∧ RelV x u ∧ (Iti d o kvs).yld i H x H' ∧ tnI it d kvs.length ep (i + 1) s2.heap ∧ ∀ b ∈ [it], H' b = none) E { s with heap := h' } := fun h' tn hT keep => by
      refine ⟨_, rfl, wpAny_pure ?_⟩
      have new : ObjOk X.prog X.w (upd H s.heap.objs.size (.tup [kV k, v])) h' s.heap.objs.size (.tup [kV k, v]) := ⟨by show 2 ≤ sizeLine; decide, [es[i].key, es[i].val], .cons rk (.cons rv .nil), ⟨_, hT, rfl, _, rfl⟩⟩
      have I1 : Inv X pins σ (upd H s.heap.objs.size (.tup [kV k, v])) { s with heap := h' } := I.turnedNew (t' := s.toks) (ch := [it]) (fun b ob hb e => keep b ob (by simpa using hb) e) hf (Nat.le_refl _) new
      refine ⟨.ref s.heap.objs.size, _, I1, rfl, ⟨_, k, v, hkv, rfl, I.hok.fresh (Nat.le_refl _), rfl⟩, tn, fun b hb => ?_⟩
      obtain rfl : b = it := by simpa using hb
      rw [upd_ne (Nat.ne_of_lt big)]
      exact (hf b (by simp)).1
    rcases st with ⟨ok, ov, e⟩ | ⟨ok, ov, a, f, e⟩
    · rw [← hsz] at e
      refine wpAny_pyNext_items_item_raw e raw lt fun h' ho hT hz keep => fin h' (.inr ⟨es[i].key, es[i].val, s.heap.objs.size, false, by rw [← hsz]; exact ho⟩) hT keep
    · rw [← hsz] at e
      refine items_more e raw lt fun h' ok' ov' a' f' ho hT hz keep => fin h' (.inr ⟨ok', ov', a', f', by rw [← hsz]; exact ho⟩) hT keep
  done := by
    intro X hP hw hK hc i pins s σ H E I hf st ⟨hd, hi⟩
    subst hP hw hK
    obtain ⟨hs, raw, hsz, ent⟩ := dictRaw_of I hd hod
    obtain ⟨f0, f1, f2, f3, f4, f5⟩ := hf it (by simp)
    rcases st with ⟨ok, ov, e⟩ | ⟨ok, ov, a, f, e⟩
    · rw [← hsz] at e
      exact wpAny_pyNext_items_end_raw (I.ok.hd hc) e raw (by omega) fun h' eb => ⟨rfl, I.turned (t' := s.toks) (fun b ob hb e => eb b ob hb e) f0 f1 f3 f4 f5⟩
    · rw [← hsz] at e
      exact wpAny_pyNext_items_end_out_raw (I.ok.hd hc) e raw (by omega) fun h' eb => ⟨rfl, I.turned (t' := s.toks) (fun b ob hb e => eb b ob hb e) f0 f1 f3 f4 f5⟩
  self := fun A i s Q E st h => by
    rcases st with ⟨_, _, e⟩ | ⟨ok, ov, a, f, e⟩
    · exact PySem.W.kcp_self e h
    · have ty : s.TypeIs (.ref it) "dict_itemiterator" := ⟨_, e, rfl⟩
      refine wpAny_pyIter_slot ty PySem.F.slot_dict_itemiterator_iter (wpAny_call_entry PySem.F.slot_dict_itemiterator_iter ty kcp_entry ?_ (PySem.F.args_dict_itemiterator_iter_1 _))
      show wpAny _ _ (ret (.ref it)) _ _ s
      exact wpAny_pure ⟨_, rfl, "dict_itemiterator", _, ty, PySem.F.slot_dict_itemiterator_next.lookup, h⟩
theorem pi_itemsN {X : Cx} {e : Expr} {td : TE} {apos cpos tpos : Pos} {x : Str} (he : PE X e td) (hbase : attributeBase e "items" X.env (eval e X.env) = eval e X.env := by rfl) (hline : (apos.endLine == cpos.line) = true := by rfl) :
    PI X (.Name x tpos) (.Call (.Attribute e "items" apos) [] [] cpos) (iItems td) := by
  refine ⟨fun pins s σ H R I h => ?_⟩
  refine wpAny_Call_method (T := "dict") (id := "dict.items") hbase rfl hline PySem.F.plainAttrs_dict PySem.F.slot_dict_items PySem.F.type_dict_items (thn (he.run pins s σ H _ I h) fun u s1 ⟨xv, H1, I1, rx, d, o, kvs, ex, hd, q⟩ => ?_)
  subst ex
  cases rx
  obtain ⟨hs, hgd, hx, es, ep, vs, hdt, hsz, kv, hm⟩ := I1.frzK hd
  have raw : s1.heap.DictRaw d es ep := ⟨o, hgd, hx, hdt⟩
  refine ⟨hm.dictOf.typeIs, hm.dictOf.mapOf.noDict, ?_⟩
  have I2 : Inv X pins σ H1 { s1 with heap := s1.heap.push { cls := .type "dict_items", data := .fields #[.ref d] } } := I1.kept (t' := s1.toks) fun b ob q => Heap.get?_push_of_some _ q
  have fin : wpAny (model X.prog X.w) X.A (pyIter (.ref s1.heap.objs.size)) (PIE X pins σ (.Name x tpos) R) X.xe { s1 with heap := s1.heap.push { cls := .type "dict_items", data := .fields #[.ref d] } } :=
    wpAny_pyIter_items_raw (d := d) ⟨_, Heap.get?_push_size _ rfl, rfl, rfl⟩ (raw.at fun o e => Heap.get?_push_of_some _ e) (pi_one (tk := s1.toks) I2 _ (turn_itemsN _ hdt) (.inl ⟨.none, .none, by rw [← hsz]; exact Heap.get?_push_size _ rfl⟩) q)
  show wpAny _ _ (callWith cpos (.builtin "dict.items") [.ref d] [] []) _ X.xe s1
  exact method_meetsIn PySem.F.slot_dict_items PySem.F.entry_dict_items rfl (PySem.evalArgs_none ⟨rfl, hm.dictOf.typeIs, PySem.F.args_dict_items_1 _, _, meets_dict_items (mixKind X.prog X.w) d hs, ⟨vs, hm.dictOf⟩, fin⟩)
theorem di_itemsN {X : Cx} {A : Am} {e : Expr} {fa : FE} {apos cpos tpos : Pos} {x : Str} (ha : DE X A e fa) (hbase : attributeBase e "items" X.env (eval e X.env) = eval e X.env := by rfl) (hline : (apos.endLine == cpos.line) = true := by rfl) :
    DI X A (.Name x tpos) (.Call (.Attribute e "items" apos) [] [] cpos) (fIItems fa) := pi_weak (pi_itemsN ha hbase hline) fun σ H R ⟨F, G, en, Ψ, k, h, q⟩ =>
  ⟨F, G, en, _, k, h, fun d e1 v G1 H1 z k1 s1 r1 => by
    obtain ⟨ks, l, rfl, z⟩ := z
    obtain ⟨p, xs, ob, rfl, sq, ra, hl⟩ := rep_z.mp r1
    exact ⟨p, ob, _, rfl, k1.ok.gh _ _ sq, q _ _ G1 H1 _ z k1 s1 (yl_items sq ra hl)⟩⟩
end Dz

namespace Dz
open PySem PySem.Spec PyProof.Rows L2 PySem.W

/-! ### a dict of one key that is a bool -/
def isBl (b : Bool) : Value → Bool
  | .bool c => c == b
  | _ => false
theorem isBl_eq {b : Bool} {v : Value} (h : isBl b v = true) : v = .bool b := by
  cases v <;> first | (exact absurd h Bool.false_ne_true) | skip
  rename_i c
  have h : (c == b) = true := h
  rw [beq_iff_eq] at h
  rw [h]
def numB (b : Bool) : Leaf := .num (if b = true then 1 else 0)
theorem numB_inj {a b : Bool} : decide (numB a = numB b) = decide (a = b) := by cases a <;> cases b <;> decide
theorem numB_is (b : Bool) : Leaf.isOf (numB b) (.bool b) = true := by cases b <;> decide
def blKind (P : Program) (w : World) : KeyKind P w Bool where
  is := isBl
  hash := fun k => (leafKind P w).hash (numB k)
  inj := fun v a b ha hb => by
    have := isBl_eq ha
    subst this
    have := isBl_eq hb
    injection this
  byValue := fun k v h => by rw [isBl_eq h]; exact (leafKind P w).byValue (numB k) _ (numB_is k)
  pyHash := fun {A E s k v Q} h q => by
    rw [isBl_eq h]
    exact (leafKind P w).pyHash (k := numB k) (show (leafKind P w).is (numB k) (.bool k) = true from numB_is k) q
  eqBool := fun {A E s a b u v Q} ha hb q => by
    rw [isBl_eq ha, isBl_eq hb]
    refine (leafKind P w).eqBool (a := numB a) (b := numB b) (show (leafKind P w).is (numB a) (.bool a) = true from numB_is a) (show (leafKind P w).is (numB b) (.bool b) = true from numB_is b) ?_
    rw [numB_inj]
    exact q
  «strs» := fun k x t v h => absurd h Bool.false_ne_true
def oddR (P : Program) (w : World) (b : Bool) : Addr → List V → HO → Prop := fun a xs o => ∃ x u ob, xs = [x] ∧ RelV x u ∧ o = .frz ob (.ext fun h => (a == sysModules) = false ∧ h.DictOf (blKind P w) a [(b, u)])
def oddD (P : Program) (w : World) (b : Bool) (d : D) : D := .obj (oddR P w b) [d]
theorem rep_odd {K : PySem.W.Frag} {G : Hp} {P : Program} {w : World} {b : Bool} {d : D} {v : V} : Rep K G (oddD P w b d) v ↔ ∃ a x u ob, v = .ref a ∧ G a = some (.frz ob (.ext fun h => (a == sysModules) = false ∧ h.DictOf (blKind P w) a [(b, u)])) ∧ RelV x u ∧ Rep K G d x := by
  unfold oddD
  rw [rep_obj]
  constructor
  · rintro ⟨a, xs, o, e1, e2, ⟨x, u, ob, rfl, r, e3⟩, ra⟩
    obtain ⟨x', e, r'⟩ := repA_1 ra
    cases e
    exact ⟨a, x, u, ob, e1, by rw [e2, e3], r, r'⟩
  · rintro ⟨a, x, u, ob, e1, e2, r, r'⟩
    exact ⟨a, [x], _, e1, e2, ⟨x, u, ob, rfl, r, rfl⟩, .cons r' .nil⟩
theorem pe_dispB {X : Cx} {vx : Expr} {tv : TE} {b : Bool} {j} {kp pos : Pos} (hv : PE X vx tv) : PE X (.Dict [some (.Constant (.bool b) j kp)] [vx] pos) (fun σ H Q => ∀ p, H p = none → tv σ (upd H p (.dK [])) fun y H2 => H2 p = some (.dK []) ∧
    ∀ ob u, RelV y u → Q (.ref p) (upd H2 p (.frz ob (.ext fun h => (p == sysModules) = false ∧ h.DictOf (blKind X.prog X.w) p [(b, u)])))) := by
  refine ⟨fun pins s σ H Q I q => ?_⟩
  have hn := I.hok.fresh (Nat.le_refl s.heap.objs.size)
  have I1 := I.laid (a := s.heap.objs.size) (o := .dK []) (h' := s.heap.push { cls := .type "dict", data := .dict #[] }) (t' := s.toks) (fun _ _ q => Heap.get?_push_of_some _ q) (Nat.le_refl _) (dk_empty s.heap I.big)
  refine wpAny_Dict_walk (knd := blKind X.prog X.w) rfl rfl (by simp) (by simp) (pairTrees_cons_walk (thn ((pe_bl (X := X)).run pins _ σ _ (fun v H' => v = .bl b ∧ H' = upd H s.heap.objs.size (.dK [])) I1 ⟨rfl, rfl⟩) fun ku s1 ⟨kv, H1, I2, rk, e1, e2⟩ => ?_))
  subst e1 e2
  cases rk
  refine thn (hv.run pins _ σ _ _ I2 (q _ hn)) fun u s2 ⟨y, H2, I3, ry, e, q2⟩ => pairTrees_nil_walk ⟨[(b, u)], ⟨by show isBl b (.bool b) = true; simp [isBl], rfl, trivial⟩, ?_, ?_⟩
  · obtain ⟨z, hd, vs0, r0, dd⟩ := dk_of I3.hok e
    cases r0
    obtain ⟨o, es, ep, h1, h2, h3, h4, h5, h6⟩ := dd
    have e0 : es.toList = [] := by
      have := h5.length
      exact List.eq_nil_of_length_eq_zero this
    have e1 : es = #[] := by
      cases es with
      | mk l => cases e0; rfl
    subst e1
    exact ⟨o, #[], ep, h1, h2, h3, fun x hx => by simp at hx, (by first | exact .nil | exact trivial), List.nodup_nil⟩
  · intro h' dd' hs
    obtain ⟨z, hd, _⟩ := dk_of I3.hok e
    have dd2 : h'.DictOf (blKind X.prog X.w) s.heap.objs.size [(b, u)] := dd'
    have he : ∃ ob, h'.get? s.heap.objs.size = some ob := let ⟨ob, _, _, hq, _⟩ := dd2; ⟨ob, hq⟩
    obtain ⟨ob, hob⟩ := he
    have new : ObjOk X.prog X.w (upd H2 s.heap.objs.size (.frz ob (.ext fun h => (s.heap.objs.size == sysModules) = false ∧ h.DictOf (blKind X.prog X.w) s.heap.objs.size [(b, u)]))) h' s.heap.objs.size (.frz ob (.ext fun h => (s.heap.objs.size == sysModules) = false ∧ h.DictOf (blKind X.prog X.w) s.heap.objs.size [(b, u)])) :=
      ⟨hob, ⟨hd, dd2⟩, ⟨ob, hob⟩, fun h1 h2 ⟨z1, o, es, ep, z2, z3⟩ k => ⟨z1, o, es, ep, k o z2, z3⟩⟩
    exact ⟨.ref s.heap.objs.size, _, d_write I3 (by rw [e]; exact True.intro) hs ⟨ob, hob⟩ new, rfl, q2 ob u ry⟩
section
variable {X : Cx} {A : Am} {e a vx : Expr} {pos : Pos} {fa fv : FE}
def fDispB (P : Program) (w : World) (b : Bool) (fv : FE) : FE := fun en Φ => fv en fun d e => Φ (oddD P w b d) e
theorem de_dispB0 {b : Bool} {j} {kp : Pos} (hv : DE X A vx fv) : DE X A (.Dict [some (.Constant (.bool b) j kp)] [vx] pos) (fDispB X.prog X.w b fv) :=
  pe_weak (pe_dispB hv) fun σ H Q ⟨F, G, en, Ψ, k, h, q⟩ p hp => by
    obtain ⟨k2, gD, fD⟩ := k.tmpAdd (u := .dK []) hp plain_dk
    refine ⟨_, G, en, _, k2, h, fun dv e2 y G2 H2 h2 k2' s2 r2 => ⟨k2'.ok.fh _ _ upd_same, fun ob u ru => ?_⟩⟩
    have g2 : G2 p = none := by rw [s2.f p _ upd_same]; exact gD
    have h0 := k.ok.bs.free fD
    have sg := same_new (o := HO.frz ob (.ext fun h => (p == sysModules) = false ∧ h.DictOf (blKind X.prog X.w) p [(b, u)])) g2
    have st' : Step F G G2 := s2.less fun a u e => by rw [upd_ne (fun z => by subst z; rw [fD] at e; cases e)]; exact e
    exact q _ e2 _ _ _ h2 ((k2'.tmpSet g2 h0 (u' := .frz ob (.ext fun h => (p == sysModules) = false ∧ h.DictOf (blKind X.prog X.w) p [(b, u)])) ⟨fun _ z => (by cases z), fun _ z => (by cases z)⟩).tmpFrz g2 fD h0 (fun _ z => by cases z))
      (st'.trans ⟨fun z => z.new (fun _ z => by cases z), sg, fun a u hu => upd_ne (fun z => by subst z; rw [fD] at hu; cases hu)⟩) (rep_odd.mpr ⟨p, y, u, ob, rfl, upd_same, ru, r2.mono sg⟩)
theorem odd_at {pins : List (Addr × Obj)} {σ : L2.St} {G H : Hp} {s : Shared} {b : Bool} {d : D} {v : V} (I : Inv X pins σ H s) (gh : Same G H) (r : Rep X.K G (oddD X.prog X.w b d) v) :
    ∃ p x u ob, v = .ref p ∧ G p = some (.frz ob (.ext fun h => (p == sysModules) = false ∧ h.DictOf (blKind X.prog X.w) p [(b, u)])) ∧ RelV x u ∧ Rep X.K G d x ∧ (p == sysModules) = false ∧ s.heap.get? p = some ob ∧ s.heap.DictOf (blKind X.prog X.w) p [(b, u)] := by
  obtain ⟨p, x, u, ob, rfl, e, ru, rx⟩ := rep_odd.mp r
  have z : ObjOk X.prog X.w H s.heap p _ := I.hok p _ (gh _ _ e)
  obtain ⟨h1, ⟨h2, h3⟩, _⟩ := z
  exact ⟨p, x, u, ob, rfl, e, ru, rx, h2, h1, h3⟩
def rIsiOdd (P : Program) (w : World) : RAD := fun xs Φ => ∃ b d T, xs = [oddD P w b d, .ty T] ∧ T ∈ ["str", "tuple", "int", "bool", "list", "dict"] ∧ Φ (.bl (T == "dict"))
theorem callD_isiOdd0 : CallR X (.builtin "isinstance") (LRA X.K (rIsiOdd X.prog X.w)) := by
  intro pins s σ H xs us Q I r ⟨G, ds, Ψ, gh, r1, ⟨b, d, T, ez, hT, h⟩, q⟩
  subst ez
  obtain ⟨x, y, rfl, p1, p2⟩ := repA_2 r1
  cases rep_ty.mp p2
  obtain ⟨u1, u2, rfl, rx, ry⟩ := vals2 r
  obtain ⟨p, x, u, ob, rfl, e, ru, rd, hs, hg, dd⟩ := odd_at I gh p1
  cases rx
  have e2 : u2 = Value.type T := ry
  subst e2
  obtain ⟨o, es, ep, h1, h2, _⟩ := id dd
  refine PySem.W.kia_one kitx_dict I.kIn ⟨o, h1, h2.1⟩ (kit_ty (kit_all "dict" (by decide) T hT)) (fun z => nomatch z) fun tk => ⟨.bl _, H, I.tok tk, rfl, q _ _ G H h (Grow.refl _ _) gh (rep_bl.mpr ?_)⟩
  rw [isT_dict T hT]
def fTruOdd (P : Program) (w : World) (fa : FE) : FT := fun en Φ => fa en fun x e => ∃ b d, x = oddD P w b d ∧ Φ true e
theorem dt_truthOdd0 (ha : DE X A a fa) (he : ∀ whole, isTrue a X.env whole = (do let v ← whole; standAt a.pos; holding [v] (truthy v)) := by intro _; rfl) : DT X A a (fTruOdd X.prog X.w fa) := by
  refine ⟨fun pins s σ H Q I ⟨F, G, en, Ψ, k, h, q⟩ => ?_⟩
  refine isTrue_plain (thn (ha.run pins s σ H (fun v H1 => ∃ d e1 G1, (∃ b d', d = oddD X.prog X.w b d' ∧ Ψ true e1) ∧ EnvOk X.K A F G1 H1 σ e1 ∧ Step F G G1 ∧ Rep X.K G1 d v) I ⟨F, G, en, _, k, h, fun d e1 v G1 H1 z k1 s1 r1 => ⟨d, e1, G1, z, k1, s1, r1⟩⟩) fun v s1 ⟨x, H1, I1, rx, d, e1, G1, ⟨b, d', ed, z⟩, k1, s1', r1⟩ => ?_) (he _)
  subst ed
  obtain ⟨p, x, u, ob, rfl, e, ru, rd, hs, hg, dd⟩ := odd_at I1 k1.ok.gh r1
  cases rx
  exact wpAny_truthy_dict hs dd (by show ((1 : Nat) : Int) < 2 ^ 63; decide) ⟨H1, I1.tok _, q true e1 G1 H1 z k1 s1'⟩
end
/-- the pairs of a locked thing at p whose entries are ps -/
def Itw (p : Addr) (o : HO) (ps : List (V × V)) : It :=
  ⟨fun i H => H p = some o ∧ i < ps.length, fun i H x H' => ∃ T k v, ps[i]? = some (k, v) ∧ x = .ref T ∧ H T = none ∧ H' = upd H T (.tup [k, v]), fun i H => H p = some o ∧ ps.length ≤ i⟩
theorem turn_raw {P : Program} {w : World} {K : PySem.W.Frag} {elts : List Expr} {kk : Nat} {tpos : Pos} {p : Addr} {o : HO} {es : Array DictEntry} {ep : Nat} {ps : List (V × V)} (it : Addr)
    (tell : ∀ (X : Cx) (pins : List (Addr × Obj)) (σ : L2.St) (H : Hp) (s : Shared), X.prog = P → X.w = w → Inv X pins σ H s → H p = some o → s.heap.DictRaw p es ep) (hsz : es.size = ps.length)
    (ent : ∀ (i : Nat) (k v : V), ps[i]? = some (k, v) → ∃ lt : i < es.size, RelV k es[i].key ∧ RelV v es[i].val) :
    Turn P w K (.Tuple elts kk tpos) (Itw p o ps) [it] it (fun i h => ∃ ok ov, IsItemIter h it p i ps.length ep ok ov) where
  mem := by simp
  obj := fun i h st b hb => by
    obtain rfl : b = it := by simpa using hb
    obtain ⟨ok, ov, e⟩ := st
    exact ⟨_, e, fun v z => nomatch z⟩
  keep := fun i h h' st k => let ⟨ok, ov, e⟩ := st; ⟨ok, ov, k it (by simp) _ e⟩
  item := by
    intro X hP hw hK hc i pins s σ H E I hf st ⟨hd, hi⟩
    have raw := tell X pins σ H s hP hw I hd
    subst hP hw hK
    obtain ⟨⟨k, v⟩, hkv⟩ : ∃ q, ps[i]? = some q := ⟨ps[i], List.getElem?_eq_getElem hi⟩
    obtain ⟨lt, rk, rv⟩ := ent i k v hkv
    obtain ⟨ok, ov, e⟩ := st
    have big : it < s.heap.objs.size := Heap.lt_size e
    rw [← hsz] at e
    refine wpAny_pyNext_items_item_raw e raw lt fun h' ho hT hz keep => ⟨_, rfl, wpAny_letOwnedTupleGo_items (s := { s with heap := h' }) ho fun h2 e2 sb => ?_⟩
    have hT2 : h2.get? s.heap.objs.size = some (pairO es[i].key es[i].val) := (sb.2 _ (Nat.ne_of_gt big)).trans hT
    have new : ObjOk X.prog X.w (upd H s.heap.objs.size (.tup [k, v])) h2 s.heap.objs.size (.tup [k, v]) := ⟨by show 2 ≤ sizeLine; decide, [es[i].key, es[i].val], .cons rk (.cons rv .nil), ⟨_, hT2, rfl, _, rfl⟩⟩
    have I1 : Inv X pins σ (upd H s.heap.objs.size (.tup [k, v])) { s with heap := h2 } := I.turnedNew (t' := s.toks) (ch := [it]) (fun b ob hb e => (sb.2 b (by simpa using hb)).trans (keep b ob (by simpa using hb) e)) hf (Nat.le_refl _) new
    refine ⟨.ref s.heap.objs.size, _, I1, rfl, ⟨_, k, v, hkv, rfl, I.hok.fresh (Nat.le_refl _), rfl⟩, ⟨es[i].key, es[i].val, by rw [← hsz]; exact e2⟩, fun b hb => ?_⟩
    obtain rfl : b = it := by simpa using hb
    rw [upd_ne (Nat.ne_of_lt big)]
    exact (hf b (by simp)).1
  done := by
    intro X hP hw hK hc i pins s σ H E I hf st ⟨hd, hi⟩
    have raw := tell X pins σ H s hP hw I hd
    subst hP hw hK
    obtain ⟨f0, f1, f2, f3, f4, f5⟩ := hf it (by simp)
    obtain ⟨ok, ov, e⟩ := st
    rw [← hsz] at e
    exact wpAny_pyNext_items_end_raw (I.ok.hd hc) e raw (by omega) fun h' eb => ⟨rfl, I.turned (t' := s.toks) (fun b ob hb e => eb b ob hb e) f0 f1 f3 f4 f5⟩
  self := fun A i s Q E st h => let ⟨_, _, e⟩ := st; PySem.W.kcp_self e h
def fIItemsOdd (P : Program) (w : World) (fa : FE) : FI := fun en Φ => fa en fun d e => ∃ b d', d = oddD P w b d' ∧ Φ [.tup [.bl b, d']] e
theorem di_itemsOdd0 {X : Cx} {A : Am} {e : Expr} {fa : FE} {elts : List Expr} {kk : Nat} {apos cpos tpos : Pos} (ha : DE X A e fa) (hbase : attributeBase e "items" X.env (eval e X.env) = eval e X.env := by rfl) (hline : (apos.endLine == cpos.line) = true := by rfl) :
    DI X A (.Tuple elts kk tpos) (.Call (.Attribute e "items" apos) [] [] cpos) (fIItemsOdd X.prog X.w fa) := by
  refine ⟨fun pins s σ H R I ⟨F, G, en, Ψ, k, h, q⟩ => ?_⟩
  refine wpAny_Call_method (T := "dict") (id := "dict.items") hbase rfl hline PySem.F.plainAttrs_dict PySem.F.slot_dict_items PySem.F.type_dict_items (thn (ha.run pins s σ H (fun v H1 => ∃ d e1 G1, (∃ b d', d = oddD X.prog X.w b d' ∧ Ψ [.tup [.bl b, d']] e1) ∧ EnvOk X.K A F G1 H1 σ e1 ∧ Step F G G1 ∧ Rep X.K G1 d v) I ⟨F, G, en, _, k, h, fun d e1 v G1 H1 z k1 s1 r1 => ⟨d, e1, G1, z, k1, s1, r1⟩⟩) fun v s1 ⟨x, H1, I1, rx, d, e1, G1, ⟨b, d', ed, z⟩, k1, st1, r1⟩ => ?_)
  subst ed
  obtain ⟨p, y, u, ob, rfl, hp, ru, rd, hs, hg, dd⟩ := odd_at I1 k1.ok.gh r1
  cases rx
  obtain ⟨es, ep, raw, hsz, hent⟩ := dd.raw
  have I2 : Inv X pins σ H1 { s1 with heap := s1.heap.push { cls := .type "dict_items", data := .fields #[.ref p] } } := I1.kept (t' := s1.toks) fun b ob q => Heap.get?_push_of_some _ q
  have T := fun it => turn_raw (P := X.prog) (w := X.w) (K := X.K) (elts := elts) (kk := kk) (tpos := tpos) (ps := [(.bl b, y)]) (o := .frz ob (.ext fun h => (p == sysModules) = false ∧ h.DictOf (blKind X.prog X.w) p [(b, u)])) (es := es) (ep := ep) it (fun X' pins' σ' H' s' e1 e2 I' hh => by
    obtain ⟨o, ho, hx, hdt⟩ := id raw
    have z : ObjOk X'.prog X'.w H' s'.heap p _ := I'.hok p _ hh
    have z1 : s'.heap.get? p = some ob := z.1
    rw [hg] at ho
    cases ho
    exact ⟨ob, z1, hx, hdt⟩) hsz fun i k v hk => by
      cases i with
      | zero =>
        cases hk
        have lt : 0 < es.size := by rw [hsz]; exact Nat.one_pos
        obtain ⟨g1, g2⟩ := hent 0 lt b u rfl
        refine ⟨lt, ?_, by rw [g2]; exact ru⟩
        rw [isBl_eq (show isBl b es[0].key = true from g1)]
        rfl
      | succ i => cases hk
  have yl : Yl X.K (Itw p (.frz ob (.ext fun h => (p == sysModules) = false ∧ h.DictOf (blKind X.prog X.w) p [(b, u)])) [(.bl b, y)]) G1 [.tup [.bl b, d']] := {
    go := fun G2 H2 i g h hk => ⟨h _ _ (g _ _ hp), hk⟩
    yl := fun G2 H2 i x H3 d2 g h hd hy => by
      obtain ⟨T, k', v', e1, rfl, hT, rfl⟩ := hy
      cases i with
      | zero =>
        cases e1
        cases hd
        exact pairT h hT (rep_bl.mpr rfl) (rd.mono g)
      | succ i => cases hd
    sp := fun G2 H2 i g h hk => ⟨h _ _ (g _ _ hp), hk⟩ }
  refine ⟨dd.typeIs, dd.mapOf.noDict, ?_⟩
  have fin : wpAny (model X.prog X.w) X.A (pyIter (.ref s1.heap.objs.size)) (PIE X pins σ (.Tuple elts kk tpos) R) X.xe { s1 with heap := s1.heap.push { cls := .type "dict_items", data := .fields #[.ref p] } } := by
    refine wpAny_pyIter_items_raw (d := p) ⟨_, Heap.get?_push_size _ rfl, rfl, rfl⟩ (raw.at fun o e => Heap.get?_push_of_some _ e) ?_
    refine pi_one (tk := s1.toks) I2 _ (T _) ⟨.none, .none, ?_⟩ (q _ e1 G1 H1 _ z k1 st1 yl)
    rw [show ([(V.bl b, y)] : List (V × V)).length = es.size from hsz.symm]
    exact Heap.get?_push_size _ rfl
  show wpAny _ _ (callWith cpos (.builtin "dict.items") [.ref p] [] []) _ X.xe s1
  exact method_meetsIn PySem.F.slot_dict_items PySem.F.entry_dict_items rfl (PySem.evalArgs_none ⟨rfl, dd.typeIs, PySem.F.args_dict_items_1 _, _, meets_dict_items_raw p hs, ⟨es, ep, raw⟩, fin⟩)
/-! .. for the program and the world at hand -/
theorem de_dispB {X : Cx} {A : Am} {vx : Expr} {pos : Pos} {fv : FE} (P : Program) (w : World) {b : Bool} {j} {kp : Pos} (hv : DE X A vx fv) (hP : X.prog = P := by rfl) (hw : X.w = w := by rfl) : DE X A (.Dict [some (.Constant (.bool b) j kp)] [vx] pos) (fDispB P w b fv) := by
  subst hP hw
  exact de_dispB0 hv
theorem callD_isiOdd {X : Cx} (P : Program) (w : World) (hP : X.prog = P := by rfl) (hw : X.w = w := by rfl) : CallR X (.builtin "isinstance") (LRA X.K (rIsiOdd P w)) := by
  subst hP hw
  exact callD_isiOdd0
theorem dt_truthOdd {X : Cx} {A : Am} {a : Expr} {fa : FE} (P : Program) (w : World) (ha : DE X A a fa) (he : ∀ whole, isTrue a X.env whole = (do let v ← whole; standAt a.pos; holding [v] (truthy v)) := by intro _; rfl) (hP : X.prog = P := by rfl) (hw : X.w = w := by rfl) : DT X A a (fTruOdd P w fa) := by
  subst hP hw
  exact dt_truthOdd0 ha he
theorem di_itemsOdd {X : Cx} {A : Am} {e : Expr} {fa : FE} {elts : List Expr} {kk : Nat} {apos cpos tpos : Pos} (P : Program) (w : World) (ha : DE X A e fa) (hbase : attributeBase e "items" X.env (eval e X.env) = eval e X.env := by rfl) (hline : (apos.endLine == cpos.line) = true := by rfl) (hP : X.prog = P := by rfl) (hw : X.w = w := by rfl) :
    DI X A (.Tuple elts kk tpos) (.Call (.Attribute e "items" apos) [] [] cpos) (fIItemsOdd P w fa) := by
  subst hP hw
  exact di_itemsOdd0 ha hbase hline
/-- by either of two rules for a walk -/
def fEithI (f g : FI) : FI := fun en Φ => f en Φ ∨ g en Φ
theorem di_eith {X : Cx} {A : Am} {tg e : Expr} {f g : FI} (h : DI X A tg e f) (h' : DI X A tg e g) : DI X A tg e (fEithI f g) := ⟨fun pins s σ H R I ⟨F, G, en, Ψ, k, hh, q⟩ => by
  rcases hh with z | z
  · exact h.run pins s σ H R I ⟨F, G, en, Ψ, k, z, q⟩
  · exact h'.run pins s σ H R I ⟨F, G, en, Ψ, k, z, q⟩⟩
end Dz
namespace Dz
open PySem PySem.Spec PyProof.Rows L2
/-- a, b, .. = a list -/
def gTL (n : Nat) (gs : FGs) : FG := fun d en Φ => match d with
  | .lst l => l.length = n ∧ gs l en Φ
  | _ => False
theorem dg_tupL {X : Cx} {A : Am} {es : List Expr} {pos : Pos} {vs : List Nat} {k : Nat} {gs : FGs} {n : Nat} (hc : X.calm = true) (h : DGs X A vs es gs) (hn : (assignEach es X.env).length = n := by rfl) (hst : (assignEach es X.env).findIdx? (·.1) = none := by rfl) : DG X A vs (.Tuple es k pos) (gTL n gs) :=
  pg_weak (pg_lst hc h hn hst) fun v σ H Q ⟨F, G, en, d, Ψ, kk, r, h, q⟩ => by
    cases d with
    | lst l =>
      obtain ⟨hl, h⟩ := h
      obtain ⟨a, xs, rfl, sq, ra⟩ := rep_lst.mp r
      exact ⟨a, xs, rfl, .inl (.inl (kk.ok.gh _ _ sq)), by rw [ra.len]; exact hl, F, G, en, l, Ψ, kk, ra, h, q⟩
    | _ => exact h.elim
end Dz

/-! DzIx: list.index of ints, divmod, x[i], x[j] = a, b. -/
namespace Dz
open PySem PySem.Spec PyProof.Rows L2
def fIndexI (fa fb : FE) : FE := fun en Φ => fa en fun x e1 => ∃ ns : List Int, x = .lst (ns.map D.int) ∧ fb e1 fun y e2 => ∃ (k : Int) (j : Nat), y = .int k ∧ ns[j]? = some k ∧ (∀ m, m < j → ns[m]? ≠ some k) ∧ Φ (.int (j : Nat)) e2
theorem ty_index : typeOf (.builtin "list.index") = pure (.type "method_descriptor") := by show builtinType _ = _; rw [builtinType_eq_fast]; kernel_rfl
section
variable {X : Cx} {A : Am} {o e : Expr} {fa fb : FE} {apos cpos : Pos}
theorem de_index (ho : DE X A o fa) (he : DE X A e fb)
    (hbase : attributeBase o "index" X.env (eval o X.env) = eval o X.env := by rfl)
    (hfew : ((backTo cpos (starEach [e] X.env)).all (fun x => !x.1) && (backToKw cpos (keywordEach [] X.env)).all (fun x => x.1.isSome) && decide ([e].length + ([] : List Keyword).length + (if ([] : List Keyword).isEmpty then 0 else 1) < 30)) = true := by rfl)
    (hline : (apos.endLine == cpos.line) = true := by rfl) (hs : starEach [e] X.env = (false, eval e X.env) :: starEach [] X.env := by rfl) (hpl : (backTo cpos (starEach [] X.env)).any (·.1) = false := by rfl) :
    DE X A (.Call (.Attribute o "index" apos) [e] [] cpos) (fIndexI fa fb) := by
  refine pe_weak (pe_bm PySem.F.plainAttrs_list PySem.F.slot_list_index ty_index mt_index ho (pa_cons he pa_nil hs) hbase hfew hline hs hpl) fun σ H Q ⟨F, G, en, Ψ, k, h, q⟩ => ?_
  refine ⟨F, G, en, _, k, h, fun x e1 v G1 H1 z k1 s1 r1 => ?_⟩
  obtain ⟨ns, rfl, z⟩ := z
  obtain ⟨b, zs, rfl, hb, rz⟩ := rep_lst.mp r1
  have ez := repA_ints_inv rz
  subst ez
  refine ⟨.inl ⟨rfl, _, .inl (.inl (k1.ok.gh _ _ hb))⟩, F, G1, e1, _, k1, z, fun y e2 v2 G2 H2 z2 k2 s2 r2 => ?_⟩
  obtain ⟨i, j, rfl, hj, hno, z2⟩ := z2
  cases rep_int.mp r2
  refine ⟨b, ns.map V.int, .int i, j, .int i, rfl, rfl, .inl (.inl (k2.ok.gh _ _ (s2.g _ _ hb))), rfl, ?_, by rw [List.getElem?_map, hj]; rfl, by unfold eqV; exact beq_self_eq_true _, fun m z' hm hz => ?_, q _ e2 _ G2 H2 z2 k2 (s1.trans s2) (rep_int.mpr rfl)⟩
  · rw [List.all_map, List.all_eq_true]
    intro x _
    rfl
  · rw [List.getElem?_map] at hz
    cases hq : ns[m]? with
    | none => rw [hq] at hz; cases hz
    | some w =>
      rw [hq] at hz
      cases hz
      unfold eqV
      exact beq_eq_false_iff_ne.mpr fun e => hno m hm (by rw [hq, e])
end
def rDivmodD : RAD := fun xs Φ => ∃ i j : Int, xs = [.int i, .int j] ∧ CDiv i j ∧ Φ (.tup [.int (i / j), .int (i % j)])
theorem callD_divmod {X : Cx} : CallR X (.builtin "divmod") (LRA X.K rDivmodD) := fun pins s σ H xs us Q I r ⟨G, ds, Ψ, gh, r1, ⟨i, j, e, hc, h⟩, q⟩ => by
  subst e
  obtain ⟨v1, v2, rfl, p1, p2⟩ := repA_2 r1
  cases rep_int.mp p1
  cases rep_int.mp p2
  refine call_divmod pins s σ H _ us Q I r ⟨i, j, rfl, hc, fun p hp => ?_⟩
  have g : Grow G H (upd G p (.tup [.int (i / j), .int (i % j)])) (upd H p (.tup [.int (i / j), .int (i % j)])) := Grow.new gh hp
  exact q _ _ _ _ h g (same_upd2 gh) (rep_tup.mpr ⟨p, _, rfl, .inl (.inl upd_same), .cons (rep_int.mpr rfl) (.cons (rep_int.mpr rfl) .nil)⟩)
/-- x[k] = .., as a target -/
def gSetI (i : Nat) (fk : FE) : FG := fun d en Φ => (∃ o, gt en i = .cel o) ∧ fk en fun kd e2 => ∃ k j l, kd = .int k ∧ gt e2 i = .cel (.lst l) ∧ ixN l.length k = some j ∧ Φ (st e2 i (.cel (.lst (l.set j d))))
theorem dg_setI {X : Cx} {A : Am} {vs : List Nat} {kx : Expr} {fk : FE} {i : Nat} {x : Str} {px pos' : Pos} (hN : X.N[i]? = some x) (hv : Vis X.env.scope x) (hk : DE X A kx fk)
    (hd : (x == ("__debug__" : Str)) = false := by decide) (hcd : (x == ("__classdict__" : Str)) = false := by decide)
    (ha : ∀ v, assign (.Subscript (.Name x px) kx pos') X.env v = (holding [v] (eval (.Name x px) X.env) >>= fun ov => holding [v, ov] (eval kx X.env) >>= fun iv => standAt pos' >>= fun _ => holding [v, ov, iv] (setItem ov iv v) >>= fun _ => release [v, ov, iv] []) := by intro _; rfl) :
    DG X A vs (.Subscript (.Name x px) kx pos') (gSetI i fk) := pg_weak (pg_sub (pv i hN hv hd hcd) hk set_list ha) fun v σ H Q ⟨F, G, en, d, Ψ, k, r, ⟨⟨o, eg⟩, h⟩, q⟩ => by
  obtain ⟨p, u, f1, f2, f3⟩ := k.slot eg
  refine ⟨.ref p, f1, F, G, en, _, k, h, fun dk e2 kv G2 H2 z k2 s2 r2 => ?_⟩
  obtain ⟨ki, j, l, rfl, eg', hj, z⟩ := z
  obtain ⟨p', u', g1, g2, g3⟩ := k2.slot eg'
  rw [f1] at g1
  have ep : p = p' := by injection g1 with g1; injection g1 with g1; injection g1
  subst ep
  obtain ⟨xs, eu, ra⟩ := g3
  subst eu
  cases rep_int.mp r2
  refine ⟨p, xs, ki, j, rfl, rfl, g2, by rw [ra.len]; exact hj, ?_⟩
  exact q _ σ G2 _ z (k2.alter (u' := .lst (xs.set j v)) eg' f1 ⟨_, rfl, RepA.set (r.mono s2.g) j ra⟩) s2 rfl
end Dz

/-! DzIs: an object of one of two own classes. -/
namespace Dz
open PySem PySem.Spec PyProof.Rows L2
/-- an object of C2 is none of C -/
structure IsN (K : PySem.W.Frag) (C2 C : Addr) : Prop where
  me : C8.InsC K C2
  no : PySem.W.kitOne K (.ref C2) (.ref C) = some false
def rIsO2 (C C2 : Addr) : RAD := fun xs Φ => ∃ x, xs = [x, .tok C] ∧ (((∃ ns l, x = .ins C ns l) ∧ Φ (.bl true)) ∨ ((∃ ns l, x = .ins C2 ns l) ∧ Φ (.bl false)))
theorem callD_isO2 {X : Cx} {C C2 : Addr} (c : C8.InsC X.K C) (n : IsN X.K C2 C) : CallR X (.builtin "isinstance") (LRA X.K (rIsO2 C C2)) := fun pins s σ H xs us Q I r ⟨G, ds, Ψ, gh, r1, h, q⟩ => by
  obtain ⟨x, rfl, h⟩ := h
  obtain ⟨v, w, rfl, rv, rw'⟩ := repA_2 r1
  cases rep_tok.mp rw'
  rcases h with ⟨⟨ns, l, rfl⟩, z⟩ | ⟨⟨ns, l, rfl⟩, z⟩
  · obtain ⟨a, dx, ys, rfl, ha, _, _⟩ := rep_ins.mp rv
    exact C8.call_isC c pins s σ H _ us Q I r ⟨a, dx, _, rfl, gh _ _ ha, q _ _ G H z (Grow.refl _ _) gh (rep_bl.mpr rfl)⟩
  · obtain ⟨a, dx, ys, rfl, ha, _, _⟩ := rep_ins.mp rv
    obtain ⟨u, w', rfl, ru, rw'⟩ := vals2 r
    cases rw'
    exact isinst_ok I ru (TyOf.ins (gh _ _ ha) n.me.cl n.me.ha n.me.hn n.me.htk n.me.hm) n.no fun tk => ⟨.bl false, H, I.tok _, rfl, q _ _ G H z (Grow.refl _ _) gh (rep_bl.mpr rfl)⟩
/-- either reading -/
def fOr (f g : FE) : FE := fun en Φ => f en Φ ∨ g en Φ
theorem de_eith {X : Cx} {A : Am} {e : Expr} {f g : FE} (h1 : DE X A e f) (h2 : DE X A e g) : DE X A e (fOr f g) := by
  refine ⟨fun pins s σ H Q I h => ?_⟩
  obtain ⟨F, G, en, Ψ, k, h, q⟩ := h
  rcases h with h | h
  · exact h1.run pins s σ H Q I ⟨F, G, en, Ψ, k, h, q⟩
  · exact h2.run pins s σ H Q I ⟨F, G, en, Ψ, k, h, q⟩
end Dz
namespace Dz
open PySem PySem.Spec PyProof.Rows L2
/-! ### list(e), as a changing list of one's own -/
def nListOf (fa : FE) : FN := fun en Φ => fa en fun x e1 => ∃ l, x = .lst l ∧ Φ (.lst l) e1
theorem dn_listOf {X : Cx} {A : Am} {e : Expr} {fa : FE} {p pos : Pos} (hg : Gl X "list") (hm : X.mg "list" = none) (ha : DE X A e fa) (na : starEach [e] X.env = (false, eval e X.env) :: starEach [] X.env := by rfl) :
    DN X A (.Call (.Name "list" p) [e] [] pos) (nListOf fa) := pe_weak (pe_callTy call_list_of hg hm (by decide +kernel) (pa_cons ha pa_nil na) (he := na)) fun σ H Q ⟨F, G, en, Ψ, k, h, q⟩ =>
  ⟨F, G, en, _, k, h, fun x e1 v G1 H1 z k1 s1 r1 => by
    obtain ⟨l, rfl, z⟩ := z
    obtain ⟨b, xs, rfl, hb, rz⟩ := rep_lst.mp r1
    exact ⟨b, xs, rfl, .inl (.inl (.inl (k1.ok.gh _ _ hb))), fun l' hl => q _ _ l' G1 _ z (k1.newcell hl ⟨xs, rfl, rz⟩) s1⟩⟩
end Dz
namespace Dz
theorem addI {i j k : Int} {Φ : D → Prop} (h : i + j = k) (z : Φ (.int k)) : rAddD (.int i) (.int j) Φ := by subst h; exact z
theorem subI {i j k : Int} {Φ : D → Prop} (h : i - j = k) (z : Φ (.int k)) : rSubD (.int i) (.int j) Φ := by subst h; exact z
end Dz
namespace Dz
/-- one statement, then the rest: where it leads to -/
theorem seqTo {fs ft : FS} {en e' : En} {Ψ : Ed} (h : ∀ Ψ : Ed, Ψ.nx e' → fs en Ψ) (k : ft e' Ψ) : fSeq fs ft en Ψ := h { Ψ with nx := fun e => ft e Ψ } k
end Dz
namespace Dz
theorem tupTo {l : List D} {Φ : D → Prop} (h : Φ (.tup l)) : rTupleD [.lst l] Φ := h
theorem addTo {i j : Int} {Φ : D → Prop} (h : Φ (.int (i + j))) : rAddD (.int i) (.int j) Φ := h
end Dz
namespace Dz
theorem fNil_to {en : En} {Φ : List D → En → Prop} (h : Φ [] en) : fNil en Φ := h
end Dz
namespace Dz
/-- one statement, then the rest: all the places where it may lead to -/
theorem seqAny {fs ft : FS} {en : En} {Ψ : Ed} (P : En → Prop) (h : ∀ Ψ : Ed, (∀ e, P e → Ψ.nx e) → fs en Ψ) (k : ∀ e, P e → ft e Ψ) : fSeq fs ft en Ψ := h { Ψ with nx := fun e => ft e Ψ } k
theorem plL_map {α : Type} {n : Nat} {f : α → D} : ∀ l : List α, (∀ x ∈ l, plD n (f x) = true) → plL n (l.map f) = true
  | [], _ => by unfold plL; rfl
  | x :: l, h => by
    have ih := plL_map (f := f) l fun y hy => h y (List.mem_cons_of_mem _ hy)
    rw [List.map_cons]
    unfold plL
    rw [h x List.mem_cons_self, ih]
    rfl
end Dz
namespace Dz
theorem fNo_to {en : En} {Φ : Option Int → En → Prop} (h : Φ none en) : fNo en Φ := h
end Dz
namespace Dz
theorem fSlice_at {i : Nat} {x : D} {en : En} {fl fu : FO} {Φ : D → En → Prop} (h : gt en i = .dat x) (k : fl en fun l e2 => fu e2 fun u e3 => rSliceD l u x fun z => Φ z e3) : fSlice (fVar i) fl fu en Φ := by
  unfold fSlice fVar
  rw [h]
  exact k
end Dz
namespace Dz
/-- the same, where the statement may return -/
theorem seqAnyR {fs ft : FS} {en : En} {Ψ : Ed} (P : En → Prop) (h : ∀ Ψ' : Ed, Ψ'.rt = Ψ.rt → (∀ e, P e → Ψ'.nx e) → fs en Ψ') (k : ∀ e, P e → ft e Ψ) : fSeq fs ft en Ψ := h { Ψ with nx := fun e => ft e Ψ } rfl k
end Dz

/-! W73: the mathematics of lines near to measures. -/
namespace X73
/-- a size and its measure a / q -/
structure Wt where
  s : Int
  a : Int
  q : Int
def ab (x : Int) : Int := if x < 0 then -x else x
theorem ab_nn (x : Int) : 0 ≤ ab x := by unfold ab; split <;> omega
theorem ab_mul {x k : Int} (hk : 0 ≤ k) : ab x * k = ab (x * k) := by
  unfold ab
  by_cases h : x < 0
  · rw [if_pos h]
    by_cases h2 : x * k < 0
    · rw [if_pos h2, Int.neg_mul]
    · rw [if_neg h2]
      have : x * k ≤ 0 := Int.mul_nonpos_of_nonpos_of_nonneg (by omega) hk
      rw [Int.neg_mul]
      omega
  · rw [if_neg h, if_neg (by have := Int.mul_nonneg (show 0 ≤ x by omega) hk; omega)]
/-- f is v / Q -/
def FV (Q : Int) (f : Int × Int) (v : Int) : Prop := 0 < f.2 ∧ ∃ k, Q = f.2 * k ∧ v = f.1 * k
theorem fv_pos {Q : Int} (hQ : 0 < Q) {a k : Int} (ha : 0 < a) (e : Q = a * k) : 0 < k := by
  rcases Int.lt_or_le 0 k with h | h
  · exact h
  · have := Int.mul_nonpos_of_nonneg_of_nonpos (show 0 ≤ a by omega) h
    omega
theorem FV.cross {Q : Int} {f g : Int × Int} {v u : Int} (h : FV Q f v) (h' : FV Q g u) : ∃ k l, Q = f.2 * k ∧ Q = g.2 * l ∧ (f.1 * g.2) * (k * l) = v * Q ∧ (g.1 * f.2) * (k * l) = u * Q := by
  obtain ⟨_, k, e1, e2⟩ := h
  obtain ⟨_, l, e3, e4⟩ := h'
  refine ⟨k, l, e1, e3, ?_, ?_⟩
  · rw [e2]
    calc f.1 * g.2 * (k * l) = f.1 * k * (g.2 * l) := by simp only [Int.mul_comm, Int.mul_left_comm, Int.mul_assoc]
      _ = _ := by rw [← e3]
  · rw [e4]
    calc g.1 * f.2 * (k * l) = g.1 * l * (f.2 * k) := by simp only [Int.mul_comm, Int.mul_left_comm, Int.mul_assoc]
      _ = _ := by rw [← e1]
theorem FV.lt {Q : Int} (hQ : 0 < Q) {f g : Int × Int} {v u : Int} (h : FV Q f v) (h' : FV Q g u) : f.1 * g.2 < g.1 * f.2 ↔ v < u := by
  obtain ⟨k, l, e1, e2, e3, e4⟩ := h.cross h'
  have hk := fv_pos hQ h.1 e1
  have hl := fv_pos hQ h'.1 e2
  have hkl : 0 < k * l := Int.mul_pos hk hl
  rw [← Int.mul_lt_mul_right hkl, e3, e4, Int.mul_lt_mul_right hQ]
theorem FV.eq {Q : Int} (hQ : 0 < Q) {f g : Int × Int} {v u : Int} (h : FV Q f v) (h' : FV Q g u) : f.1 * g.2 = g.1 * f.2 ↔ v = u := by
  have a := h.lt hQ h'
  have b := h'.lt hQ h
  have e : g.1 * f.2 < f.1 * g.2 ↔ u < v := b
  omega
/-- in least terms -/
def redI (n q : Int) : Int × Int := (n / ((Nat.gcd n.natAbs q.natAbs : Nat) : Int), q / ((Nat.gcd n.natAbs q.natAbs : Nat) : Int))
theorem gcd_dvd (n q : Int) : ((Nat.gcd n.natAbs q.natAbs : Nat) : Int) ∣ n ∧ ((Nat.gcd n.natAbs q.natAbs : Nat) : Int) ∣ q := ⟨Int.ofNat_dvd_left.mpr (Nat.gcd_dvd_left _ _), Int.ofNat_dvd_left.mpr (Nat.gcd_dvd_right _ _)⟩
theorem FV.red {Q n q v : Int} (h : FV Q (n, q) v) : FV Q (redI n q) v := by
  obtain ⟨h0, k, e1, e2⟩ := h
  have h0 : 0 < q := h0
  have e1 : Q = q * k := e1
  have e2 : v = n * k := e2
  have hg : 0 < ((Nat.gcd n.natAbs q.natAbs : Nat) : Int) := by
    have := Nat.gcd_pos_of_pos_right n.natAbs (show 0 < q.natAbs by omega)
    omega
  obtain ⟨d1, d2⟩ := gcd_dvd n q
  unfold redI
  generalize ((Nat.gcd n.natAbs q.natAbs : Nat) : Int) = g at *
  obtain ⟨n', rfl⟩ := d1
  obtain ⟨q', rfl⟩ := d2
  rw [Int.mul_ediv_cancel_left _ (by omega), Int.mul_ediv_cancel_left _ (by omega)]
  refine ⟨fv_pos h0 hg rfl, g * k, ?_, ?_⟩
  · rw [e1]; show g * q' * k = q' * (g * k); simp only [Int.mul_comm, Int.mul_left_comm, Int.mul_assoc]
  · rw [e2]; show g * n' * k = n' * (g * k); simp only [Int.mul_comm, Int.mul_left_comm, Int.mul_assoc]
theorem red_co {n q : Int} (h : 0 < q) : Nat.gcd (redI n q).1.natAbs (redI n q).2.natAbs = 1 := by
  have hg : 0 < Nat.gcd n.natAbs q.natAbs := Nat.gcd_pos_of_pos_right n.natAbs (by omega)
  unfold redI
  show Nat.gcd (n / ((Nat.gcd n.natAbs q.natAbs : Nat) : Int)).natAbs (q / ((Nat.gcd n.natAbs q.natAbs : Nat) : Int)).natAbs = 1
  obtain ⟨d1, d2⟩ := gcd_dvd n q
  rw [Int.natAbs_ediv_of_dvd d1, Int.natAbs_ediv_of_dvd d2, Int.natAbs_natCast]
  rw [Nat.gcd_div (Nat.gcd_dvd_left _ _) (Nat.gcd_dvd_right _ _)]
  exact Nat.div_self hg
theorem red_le {n q : Int} (hn : 0 ≤ n) (h : 0 < q) : (0 ≤ (redI n q).1 ∧ (redI n q).1 ≤ n) ∧ (0 < (redI n q).2 ∧ (redI n q).2 ≤ q) := by
  have hg : 0 < ((Nat.gcd n.natAbs q.natAbs : Nat) : Int) := by
    have := Nat.gcd_pos_of_pos_right n.natAbs (show 0 < q.natAbs by omega)
    omega
  obtain ⟨d1, d2⟩ := gcd_dvd n q
  unfold redI
  generalize ((Nat.gcd n.natAbs q.natAbs : Nat) : Int) = g at *
  obtain ⟨n', rfl⟩ := d1
  obtain ⟨q', rfl⟩ := d2
  show (0 ≤ g * n' / g ∧ g * n' / g ≤ g * n') ∧ 0 < g * q' / g ∧ g * q' / g ≤ g * q'
  rw [Int.mul_ediv_cancel_left _ (by omega), Int.mul_ediv_cancel_left _ (by omega)]
  have hq := fv_pos h hg rfl
  have hn' : 0 ≤ n' := Int.nonneg_of_mul_nonneg_right hn hg
  have a : 1 * n' ≤ g * n' := Int.mul_le_mul_of_nonneg_right (by omega) hn'
  have b : 1 * q' ≤ g * q' := Int.mul_le_mul_of_nonneg_right (by omega) (by omega)
  omega
/-! ### a line at a measure -/
def gap (b r : Int) (w : Wt) : Int := ab ((b + r * w.s) * w.q - w.a)
def bet (Q r : Int) (w : Wt) : Int := w.a * (Q / w.q) - r * w.s * Q
def dv (Q b r : Int) (w : Wt) : Int := ab (Q * b - bet Q r w)
theorem q_div {Q q : Int} (h : 0 < q) (d : q ∣ Q) : Q = q * (Q / q) := (Int.mul_ediv_cancel' d).symm
theorem fv_gap {Q b r : Int} {w : Wt} (hQ : 0 < Q) (h : 0 < w.q) (d : w.q ∣ Q) : FV Q (gap b r w, w.q) (dv Q b r w) := by
  have e := q_div h d
  have hk := fv_pos hQ h e
  refine ⟨h, Q / w.q, e, ?_⟩
  show dv Q b r w = gap b r w * (Q / w.q)
  unfold gap dv bet
  rw [ab_mul (by omega)]
  generalize Q / w.q = k at *
  subst e
  congr 1
  simp only [Int.sub_mul, Int.add_mul]
  have : w.q * k * b = b * w.q * k := by simp only [Int.mul_comm, Int.mul_left_comm, Int.mul_assoc]
  have : r * w.s * (w.q * k) = r * w.s * w.q * k := by simp only [Int.mul_comm, Int.mul_left_comm, Int.mul_assoc]
  omega
theorem fv_bet {Q r : Int} {w : Wt} (hQ : 0 < Q) (h : 0 < w.q) (d : w.q ∣ Q) : FV Q (w.a - r * w.s * w.q, w.q) (bet Q r w) := by
  have e := q_div h d
  refine ⟨h, Q / w.q, e, ?_⟩
  show bet Q r w = (w.a - r * w.s * w.q) * (Q / w.q)
  unfold bet
  generalize Q / w.q = k at *
  subst e
  simp only [Int.sub_mul]
  have : r * w.s * (w.q * k) = r * w.s * w.q * k := by simp only [Int.mul_comm, Int.mul_left_comm, Int.mul_assoc]
  omega
theorem dv_nn (Q b r : Int) (w : Wt) : 0 ≤ dv Q b r w := ab_nn _
/-- the worse of two -/
def wo (Q b r : Int) (u v : Wt) : Int := max (dv Q b r u) (dv Q b r v)
def clamp (x : Int) : Int := max (-99) (min 99 x)
theorem clamp_in (x : Int) : -99 ≤ clamp x ∧ clamp x ≤ 99 := by unfold clamp; omega
/-- the middle, rounded down -/
theorem middle {Q : Int} (hQ : 0 < Q) {f g : Int × Int} {v u : Int} (h : FV Q f v) (h' : FV Q g u) : 2 * (Q * ((f.1 * g.2 + g.1 * f.2) / (2 * f.2 * g.2))) ≤ v + u ∧ v + u < 2 * (Q * ((f.1 * g.2 + g.1 * f.2) / (2 * f.2 * g.2))) + 2 * Q := by
  obtain ⟨k, l, e1, e2, e3, e4⟩ := h.cross h'
  have hk := fv_pos hQ h.1 e1
  have hl := fv_pos hQ h'.1 e2
  have hkl : 0 < k * l := Int.mul_pos hk hl
  have hD : 0 < 2 * f.2 * g.2 := Int.mul_pos (Int.mul_pos (by omega) h.1) h'.1
  have a := Int.mul_ediv_self_le (x := f.1 * g.2 + g.1 * f.2) (k := 2 * f.2 * g.2) (by omega)
  have b := Int.lt_mul_ediv_self_add (x := f.1 * g.2 + g.1 * f.2) hD
  generalize (f.1 * g.2 + g.1 * f.2) / (2 * f.2 * g.2) = m at a b ⊢
  have eD : (2 * f.2 * g.2) * (k * l) = 2 * Q * Q := by
    calc 2 * f.2 * g.2 * (k * l) = 2 * (f.2 * k) * (g.2 * l) := by simp only [Int.mul_comm, Int.mul_left_comm, Int.mul_assoc]
      _ = _ := by rw [← e1, ← e2]
  have a2 := Int.mul_le_mul_of_nonneg_right a (show 0 ≤ k * l by omega)
  have b2 := Int.mul_lt_mul_of_pos_right b hkl
  have c1 : 2 * f.2 * g.2 * m * (k * l) = 2 * (Q * m) * Q := by
    calc 2 * f.2 * g.2 * m * (k * l) = (2 * f.2 * g.2) * (k * l) * m := by simp only [Int.mul_comm, Int.mul_left_comm, Int.mul_assoc]
      _ = 2 * Q * Q * m := by rw [eD]
      _ = _ := by simp only [Int.mul_comm, Int.mul_left_comm, Int.mul_assoc]
  have c2 : (f.1 * g.2 + g.1 * f.2) * (k * l) = (v + u) * Q := by rw [Int.add_mul, e3, e4, Int.add_mul]
  rw [c1, c2] at a2
  rw [Int.add_mul (2 * f.2 * g.2 * m), c1, c2, eD] at b2
  have b3 : (v + u) * Q < (2 * (Q * m) + 2 * Q) * Q := by rw [Int.add_mul (2 * (Q * m))]; exact b2
  exact ⟨Int.le_of_mul_le_mul_right a2 hQ, Int.lt_of_mul_lt_mul_right b3 (by omega)⟩
theorem near {Q r m : Int} {u v : Wt} (hQ : 0 < Q) (h1 : 2 * (Q * m) ≤ bet Q r u + bet Q r v) (h2 : bet Q r u + bet Q r v < 2 * (Q * m) + 2 * Q) {B : Int} (hB : -99 ≤ B ∧ B ≤ 99) :
    wo Q (clamp m) r u v ≤ wo Q B r u v ∨ wo Q (clamp (m + 1)) r u v ≤ wo Q B r u v := by
  have mono : ∀ {x y : Int}, x ≤ y → Q * x ≤ Q * y := fun h => Int.mul_le_mul_of_nonneg_left h (by omega)
  have e1 : Q * (m + 1) = Q * m + Q := by rw [Int.mul_add, Int.mul_one]
  unfold wo dv ab
  by_cases h : B ≤ m
  · left
    have a1 : B ≤ clamp m := by unfold clamp; omega
    have a2 := mono a1
    by_cases h3 : clamp m ≤ m
    · have a3 := mono h3
      omega
    · have : clamp m = -99 := by unfold clamp at h3 ⊢; omega
      have : B = clamp m := by omega
      rw [this]
      exact Int.le_refl _
  · right
    have a1 : clamp (m + 1) ≤ B := by unfold clamp; omega
    have a2 := mono a1
    by_cases h3 : m + 1 ≤ clamp (m + 1)
    · have a3 := mono h3
      omega
    · have : clamp (m + 1) = 99 := by unfold clamp at h3 ⊢; omega
      have : B = clamp (m + 1) := by omega
      rw [this]
      exact Int.le_refl _
/-- between the outer ones -/
theorem outer {Q b r : Int} {u v w : Wt} (h1 : bet Q r u ≤ bet Q r w) (h2 : bet Q r w ≤ bet Q r v) : dv Q b r w ≤ wo Q b r u v := by
  unfold wo dv ab
  omega
end X73

namespace K73
open PySem PySem.Spec PyProof.Rows L2 Dz X73
def topS (i : Nat) : Stmt := PySem.Challenge.pw_allstitches_k73_whole_grades.main.body.getD i (.Pass ⟨0, 0, 0, 0⟩)
structure TxtG (w : World) (K : PySem.W.Frag) (mg : Str → Option Value) (cS : Addr) : Prop where
  mg_isinstance : mg "isinstance" = none
  mg_int : mg "int" = none
  mg_bool : mg "bool" = none
  mg_tuple : mg "tuple" = none
  mg_dict : mg "dict" = none
  mg_len : mg "len" = none
  mg_all : mg "all" = none
  mg_any : mg "any" = none
  mg_list : mg "list" = none
  mg_range : mg "range" = none
  mg_sorted : mg "sorted" = none
  mg_abs : mg "abs" = none
  mg_min : mg "min" = none
  mg_max : mg "max" = none
  mg_MOST_BASE : ∃ t, mg "MOST_BASE" = some (.int 99 t)
  mg_MOST_RISE : ∃ t, mg "MOST_RISE" = some (.int 9 t)
  mg_MOST_SIZE : ∃ t, mg "MOST_SIZE" = some (.int 1000 t)
  mg_MOST_ABOVE : ∃ t, mg "MOST_ABOVE" = some (.int 10000 t)
  mg_gcd : mg "gcd" = some (.builtin "math.gcd")
  cl : Cls K cS
  na_line : NoAttr K cS "line"
  na_against : NoAttr K cS "against"
structure TxX (K : PySem.W.Frag) (mg : Str → Option Value) (x : Str) (cX : Addr) : Prop where
  q : PySem.W.excIn K cX [.type "ValueError", .type "Exception", .type "BaseException", .type "object"] "ValueError.__new__" = true
  g : mg x = some (.ref cX)
  k : PySem.W.keepIn K (.ref cX) = true
  b : PySem.W.subIn K (.ref cX) (.type "BaseException") = some true
  t : PySem.W.typeIn K (.ref cX) = some (.type "type")
/-! ### what the defs give -/
def isWh : D → Bool
  | .int _ => true
  | _ => false
def isSz : D → Bool
  | .int i => decide (0 ≤ i)
  | _ => false
theorem eqD_ii {i j : Int} : eqD (.int i) (.int j) = (i == j) := by unfold eqD; rfl
theorem iteDec {p A B : Prop} [Decidable p] (h1 : p → A) (h2 : ¬ p → B) : if decide p = true then A else B := by
  by_cases h : p
  · rw [if_pos (decide_eq_true h)]; exact h1 h
  · rw [if_neg (by rw [decide_eq_true_iff]; exact h)]; exact h2 h
def pd_is_whole : PD := fun _ ds Φ => ∃ d, ds = [d] ∧ (tyN d).isSome = true ∧ Φ (.bl (isWh d))
def pd_is_size : PD := fun _ ds Φ => ∃ d, ds = [d] ∧ (tyN d).isSome = true ∧ Φ (.bl (isSz d))
def lnD (b r : Int) : D := .tup [.int b, .int r]
def frD (f : Int × Int) : D := .tup [.int f.1, .int f.2]
def LineOk (b r : Int) : Prop := (-99 ≤ b ∧ b ≤ 99) ∧ (-9 ≤ r ∧ r ≤ 9)
def pd_is_line : PD := fun _ ds Φ => ∃ b r, ds = [lnD b r] ∧ LineOk b r ∧ Φ (.bl true)
def pd_line_at : PD := fun _ ds Φ => ∃ b r s : Int, ds = [lnD b r, .int s] ∧ (-100 ≤ r ∧ r ≤ 100) ∧ Φ (.int (b + r * s))
def measB : D → Bool
  | .tup [.int a, .int q] => (decide (-10000 ≤ a) && decide (a ≤ 10000)) && (decide (1 ≤ q) && decide (q ≤ 10000))
  | _ => false
def okMeas (d : D) : Bool := (tyN d).isSome && match d with
  | .tup l => l.all (fun x => (tyN x).isSome)
  | _ => true
def pd_is_measure : PD := fun _ ds Φ => ∃ d, ds = [d] ∧ okMeas d = true ∧ Φ (.bl (measB d))
def rsL : List Int := [-9, -8, -7, -6, -5, -4, -3, -2, -1, 0, 1, 2, 3, 4, 5, 6, 7, 8, 9]
theorem rs_rg : rgD (-9) 10 = rsL.map D.int := by with_unfolding_all rfl
def pd_rises : PD := fun _ ds Φ => ds = [] ∧ Φ (.lst (rsL.map D.int))
def Sm (x : Int) : Prop := -(2 ^ 60) ≤ x ∧ x ≤ 2 ^ 60
def pd_is_less : PD := fun _ ds Φ => ∃ f g, ds = [frD f, frD g] ∧ (Sm f.1 ∧ Sm f.2) ∧ (Sm g.1 ∧ Sm g.2) ∧ Φ (.bl (decide (f.1 * g.2 < g.1 * f.2)))
def WtOk (w : Wt) : Prop := (0 ≤ w.s ∧ w.s ≤ 1000) ∧ (-10000 ≤ w.a ∧ w.a ≤ 10000) ∧ (1 ≤ w.q ∧ w.q ≤ 10000)
def mD (w : Wt) : D := .tup [.int w.a, .int w.q]
def pd_distance_at : PD := fun _ ds Φ => ∃ b r w, ds = [lnD b r, .int w.s, mD w] ∧ LineOk b r ∧ WtOk w ∧ Φ (frD (redI (gap b r w) w.q))
def pd_base_at : PD := fun _ ds Φ => ∃ r w, ds = [.int r, .int w.s, mD w] ∧ (-9 ≤ r ∧ r ≤ 9) ∧ WtOk w ∧ Φ (frD (w.a - r * w.s * w.q, w.q))
/-- a product of small ones -/
theorem mul_bd {x y a b : Int} (hx : -a ≤ x ∧ x ≤ a) (hy : -b ≤ y ∧ y ≤ b) : -(a * b) ≤ x * y ∧ x * y ≤ a * b := by
  have key : ∀ {u v : Int}, 0 ≤ u → u ≤ a → 0 ≤ v → v ≤ b → 0 ≤ u * v ∧ u * v ≤ a * b := fun h1 h2 h3 h4 => ⟨Int.mul_nonneg h1 h3, Int.mul_le_mul h2 h4 h3 (by omega)⟩
  rcases Int.le_total 0 x with h1 | h1 <;> rcases Int.le_total 0 y with h2 | h2
  · have := key h1 hx.2 h2 hy.2; omega
  · have := key h1 hx.2 (show 0 ≤ -y by omega) (by omega)
    rw [Int.mul_neg] at this; omega
  · have := key (show 0 ≤ -x by omega) (by omega) h2 hy.2
    rw [Int.neg_mul] at this; omega
  · have := key (show 0 ≤ -x by omega) (by omega) (show 0 ≤ -y by omega) (by omega)
    rw [Int.neg_mul_neg] at this; omega
theorem line_bd {b r : Int} {w : Wt} (h : LineOk b r) (hw : WtOk w) : (-9000 ≤ r * w.s ∧ r * w.s ≤ 9000) ∧ (-9099 ≤ b + r * w.s ∧ b + r * w.s ≤ 9099) ∧ (-90990000 ≤ (b + r * w.s) * w.q ∧ (b + r * w.s) * w.q ≤ 90990000) ∧ (0 ≤ gap b r w ∧ gap b r w ≤ 91000000) := by
  have h1 := mul_bd (x := r) (y := w.s) (a := 9) (b := 1000) h.2 ⟨by have := hw.1; omega, hw.1.2⟩
  have h2 : -9099 ≤ b + r * w.s ∧ b + r * w.s ≤ 9099 := by have := h.1; omega
  have h3 := mul_bd (x := b + r * w.s) (y := w.q) (a := 9099) (b := 10000) h2 ⟨by have := hw.2.2; omega, hw.2.2.2⟩
  refine ⟨by omega, h2, by omega, ab_nn _, ?_⟩
  have := hw.2.1
  unfold gap ab
  split <;> omega
theorem bet_bd {r : Int} {w : Wt} (h : -9 ≤ r ∧ r ≤ 9) (hw : WtOk w) : (-9000 ≤ r * w.s ∧ r * w.s ≤ 9000) ∧ (-90000000 ≤ r * w.s * w.q ∧ r * w.s * w.q ≤ 90000000) := by
  have h1 := mul_bd (x := r) (y := w.s) (a := 9) (b := 1000) h ⟨by have := hw.1; omega, hw.1.2⟩
  have h2 : -9000 ≤ r * w.s ∧ r * w.s ≤ 9000 := by omega
  have h3 := mul_bd (x := r * w.s) (y := w.q) (a := 9000) (b := 10000) h2 ⟨by have := hw.2.2; omega, hw.2.2.2⟩
  exact ⟨h2, by omega⟩
section
variable {P : Program} {w : World} {K : PySem.W.Frag} {mg : Str → Option Value} {base : Heap} {cS cT : Addr}
abbrev s_is_whole : Stmt := topS 6
theorem sc_is_whole : FnScope ["thing"] ["thing"] (defScope s_is_whole) := ⟨rfl, rfl, rfl, by decide +kernel, rfl, by decide +kernel, by decide +kernel⟩
theorem ok_is_whole {f : Addr} {fd : FuncData} (F : Fun K "is_whole" "is_whole" s_is_whole f fd) (T : TxtG w K mg cS)  : FnOk P w K mg base CX0 1 f fd ["thing"] (spD K pd_is_whole) :=
  fn_dz F sc_is_whole (fun A ds Ψ h => by
      obtain ⟨d, rfl, _⟩ := h; rfl) (fun A cdv Ar outer s H E hr =>
    (dss_one (ds_ret (de_andT (de_callB callD_isi rfl T.mg_isinstance (by decide +kernel) (da_cons (de_var 0) (da_cons (de_bltn (v := .ty "int") (d := .ty "int") rfl T.mg_int (by decide +kernel) rfl (fun _ => rep_ty.mpr rfl)) da_nil))) (de_one (de_notT (de_callB callD_isi rfl T.mg_isinstance (by decide +kernel) (da_cons (de_var 0) (da_cons (de_bltn (v := .ty "bool") (d := .ty "bool") rfl T.mg_bool (by decide +kernel) rfl (fun _ => rep_ty.mpr rfl)) da_nil)))))))))
    (fun A ds Ψ h => by
      obtain ⟨d, rfl, ok, h⟩ := h
      cases d with
      | int i => exact ⟨by decide, _, rfl, true, rfl, iteT ⟨by decide, _, rfl, false, rfl, h⟩⟩
      | bl b => exact ⟨by decide, _, rfl, true, rfl, iteT ⟨by decide, _, rfl, true, rfl, h⟩⟩
      | non => exact ⟨by decide, _, rfl, false, rfl, iteF h⟩
      | str _ => exact ⟨by decide, _, rfl, false, rfl, iteF h⟩
      | tup _ => exact ⟨by decide, _, rfl, false, rfl, iteF h⟩
      | lst _ => exact ⟨by decide, _, rfl, false, rfl, iteF h⟩
      | dct _ _ => exact ⟨by decide, _, rfl, false, rfl, iteF h⟩
      | _ => cases ok)

abbrev s_is_size : Stmt := topS 7
theorem sc_is_size : FnScope ["thing"] ["thing"] (defScope s_is_size) := ⟨rfl, rfl, rfl, by decide +kernel, rfl, by decide +kernel, by decide +kernel⟩
theorem ok_is_size {f : Addr} {fd : FuncData} (F : Fun K "is_size" "is_size" s_is_size f fd) (T : TxtG w K mg cS) (G_is_whole : Own P w K mg base "is_whole" 1 ["thing"] pd_is_whole) : FnOk P w K mg base CX0 2 f fd ["thing"] (spD K pd_is_size) :=
  fn_dz F sc_is_size (fun A ds Ψ h => by
      obtain ⟨d, rfl, _⟩ := h; rfl) (fun A cdv Ar outer s H E hr =>
    (dss_one (ds_ret (de_andT (de_own G_is_whole (hr.mono (by decide)) rfl (da_cons (de_var 0) da_nil)) (de_one (de_cmp opd_ge (de_var 0) de_int))))))
    (fun A ds Ψ h => by
      obtain ⟨d, rfl, ok, h⟩ := h
      refine ⟨d, rfl, ok, isWh d, rfl, ?_⟩
      cases d with
      | int i => exact iteT h
      | _ => first | (cases ok; done) | exact iteF h)

abbrev s_is_line : Stmt := topS 11
theorem sc_is_line : FnScope ["thing", "base", "rise"] ["thing"] (defScope s_is_line) := ⟨rfl, rfl, rfl, by decide +kernel, rfl, by decide +kernel, by decide +kernel⟩
theorem ok_is_line {f : Addr} {fd : FuncData} (F : Fun K "is_line" "is_line" s_is_line f fd) (T : TxtG w K mg cS) (G_is_whole : Own P w K mg base "is_whole" 1 ["thing"] pd_is_whole) : FnOk P w K mg base CX0 2 f fd ["thing"] (spD K pd_is_line) :=
  fn_dz F sc_is_line (fun A ds Ψ h => by
      obtain ⟨b, e, rfl, _⟩ := h; rfl) (fun A cdv Ar outer s H E hr =>
    (dss_cons (ds_if (PW.pt (dw_or (dt_not (dt_truth (de_callB callD_isi rfl T.mg_isinstance (by decide +kernel) (da_cons (de_var 0) (da_cons (de_bltn (v := .ty "tuple") (d := .ty "tuple") rfl T.mg_tuple (by decide +kernel) rfl (fun _ => rep_ty.mpr rfl)) da_nil))) (by intro _; rfl))) (dw_or1 (dt_cmp (opd_ne hr.units) (de_callB callD_len rfl T.mg_len (by decide +kernel) (da_cons (de_var 0) da_nil)) de_int))))
      (dss_one (ds_ret de_bl))
      dss_nil)
    (dss_cons (ds_asg (vs := [0, 1, 2]) (de_var 0) (dg_tup (n := 2) rfl (dgs_cons (dg_name (i := 1) sc_is_line.nd rfl (Or.inl rfl)) (dgs_cons (dg_name (i := 2) sc_is_line.nd rfl (Or.inl rfl)) dgs_nil))))
    (dss_cons (ds_if (PW.pt (dw_or (dt_not (dt_truth (de_own G_is_whole (hr.mono (by decide)) rfl (da_cons (de_var 1) da_nil)) (by intro _; rfl))) (dw_or1 (dt_not (dt_truth (de_own G_is_whole (hr.mono (by decide)) rfl (da_cons (de_var 2) da_nil)) (by intro _; rfl))))))
      (dss_one (ds_ret de_bl))
      dss_nil)
    (dss_one (ds_ret (de_andT (de_chain opd_le opd_le (de_un und_neg (de_constI rfl T.mg_MOST_BASE)) (de_var 1) (de_constI rfl T.mg_MOST_BASE)) (de_one (de_chain opd_le opd_le (de_un und_neg (de_constI rfl T.mg_MOST_RISE)) (de_var 2) (de_constI rfl T.mg_MOST_RISE))))))))))
    (fun A ds Ψ h => by
      obtain ⟨b, e, rfl, ⟨h1, h2⟩, h⟩ := h
      refine ⟨by decide, _, rfl, true, rfl, iteF ⟨rfl, rfl, _, rfl, iteF ⟨rfl, rfl, ?_⟩⟩⟩
      refine ⟨_, rfl, rfl, _, rfl, iteF ⟨_, rfl, rfl, _, rfl, iteF ?_⟩⟩
      have e1 : decide (-99 ≤ b) = true := decide_eq_true h1.1
      have e2 : decide (b ≤ 99) = true := decide_eq_true h1.2
      have e3 : decide (-9 ≤ e) = true := decide_eq_true h2.1
      have e4 : decide (e ≤ 9) = true := decide_eq_true h2.2
      refine ⟨_, rfl, iteEqX e1 (iteT ?_)⟩
      show ∃ k, truD (.bl (decide (b ≤ 99))) = some k ∧ _
      rw [e2]
      refine ⟨_, rfl, iteT ⟨_, rfl, iteEqX e3 (iteT ?_)⟩⟩
      show Ψ (.bl (decide (e ≤ 9)))
      rw [e4]
      exact h)

abbrev s_line_at : Stmt := topS 12
theorem sc_line_at : FnScope ["line", "size"] ["line", "size"] (defScope s_line_at) := ⟨rfl, rfl, rfl, by decide +kernel, rfl, by decide +kernel, by decide +kernel⟩
theorem ok_line_at {f : Addr} {fd : FuncData} (F : Fun K "line_at" "line_at" s_line_at f fd) (T : TxtG w K mg cS)  : FnOk P w K mg base CX0 1 f fd ["line", "size"] (spD K pd_line_at) :=
  fn_dz F sc_line_at (fun A ds Ψ h => by
      obtain ⟨b, r, n, rfl, _⟩ := h; rfl) (fun A cdv Ar outer s H E hr =>
    (dss_one (ds_ret (de_op opd_add (de_ix (ixd hr.units) (de_var 0) de_int) (de_op opd_mulT (de_ix (ixd hr.units) (de_var 0) de_int) (de_var 1))))))
    (fun A ds Ψ h => by
      obtain ⟨b, r, n, rfl, hr, h⟩ := h
      exact ⟨_, rfl, _, rfl, .inr ⟨.inl ⟨by omega, by omega⟩, h⟩⟩)

abbrev s_is_measure : Stmt := topS 20
theorem sc_is_measure : FnScope ["thing"] ["thing"] (defScope s_is_measure) := ⟨rfl, rfl, rfl, by decide +kernel, rfl, by decide +kernel, by decide +kernel⟩
theorem ok_is_measure {f : Addr} {fd : FuncData} (F : Fun K "is_measure" "is_measure" s_is_measure f fd) (T : TxtG w K mg cS) (G_is_whole : Own P w K mg base "is_whole" 1 ["thing"] pd_is_whole) : FnOk P w K mg base CX0 2 f fd ["thing"] (spD K pd_is_measure) :=
  fn_dz F sc_is_measure (fun A ds Ψ h => by
      obtain ⟨d, rfl, _⟩ := h; rfl) (fun A cdv Ar outer s H E hr =>
    (dss_cons (ds_if (PW.pt (dw_or (dt_not (dt_truth (de_callB callD_isi rfl T.mg_isinstance (by decide +kernel) (da_cons (de_var 0) (da_cons (de_bltn (v := .ty "tuple") (d := .ty "tuple") rfl T.mg_tuple (by decide +kernel) rfl (fun _ => rep_ty.mpr rfl)) da_nil))) (by intro _; rfl))) (dw_or (dt_cmp (opd_ne hr.units) (de_callB callD_len rfl T.mg_len (by decide +kernel) (da_cons (de_var 0) da_nil)) de_int) (dw_or (dt_not (dt_truth (de_own G_is_whole (hr.mono (by decide)) rfl (da_cons (de_ix (ixd hr.units) (de_var 0) de_int) da_nil)) (by intro _; rfl))) (dw_or1 (dt_not (dt_truth (de_own G_is_whole (hr.mono (by decide)) rfl (da_cons (de_ix (ixd hr.units) (de_var 0) de_int) da_nil)) (by intro _; rfl))))))))
      (dss_one (ds_ret de_bl))
      dss_nil)
    (dss_one (ds_ret (de_andT (de_chain opd_le opd_le (de_un und_neg (de_constI rfl T.mg_MOST_ABOVE)) (de_ix (ixd hr.units) (de_var 0) de_int) (de_constI rfl T.mg_MOST_ABOVE)) (de_one (de_chain opd_le opd_le de_int (de_ix (ixd hr.units) (de_var 0) de_int) (de_constI rfl T.mg_MOST_ABOVE))))))))
    (fun A ds Ψ h => by
      obtain ⟨d, rfl, ok, h⟩ := h
      cases d with
      | tup l =>
        have ok : l.all (fun x => (tyN x).isSome) = true := ok
        refine ⟨by decide, _, rfl, true, rfl, iteF ?_⟩
        refine ⟨rfl, rfl, _, rfl, ?_⟩
        rcases l with _ | ⟨x, _ | ⟨y, _ | ⟨z, t⟩⟩⟩
        · exact iteT h
        · exact iteT (by
            have e : measB (.tup [x]) = false := by cases x <;> rfl
            rw [e] at h; exact h)
        · simp only [List.all_cons, List.all_nil, Bool.and_true, Bool.and_eq_true] at ok
          refine iteF ⟨_, rfl, _, rfl, ok.1, _, rfl, ?_⟩
          cases x with
          | int a =>
            refine iteF ⟨_, rfl, _, rfl, ok.2, _, rfl, ?_⟩
            cases y with
            | int q =>
              refine iteF ⟨_, rfl, ?_⟩
              have h : Ψ (.bl ((decide (-10000 ≤ a) && decide (a ≤ 10000)) && (decide (1 ≤ q) && decide (q ≤ 10000)))) := h
              by_cases c1 : -10000 ≤ a
              · rw [decide_eq_true c1, Bool.true_and] at h
                refine ⟨_, rfl, iteEqX (decide_eq_true c1) (iteT ⟨_, rfl, ?_⟩)⟩
                by_cases c2 : a ≤ 10000
                · rw [decide_eq_true c2, Bool.true_and] at h
                  refine iteEqX (decide_eq_true c2) (iteT ⟨_, rfl, _, rfl, ?_⟩)
                  by_cases c3 : 1 ≤ q
                  · rw [decide_eq_true c3, Bool.true_and] at h
                    exact iteEqX (decide_eq_true c3) (iteT h)
                  · rw [decide_eq_false c3] at h
                    exact iteEqX (decide_eq_false c3) (iteF h)
                · rw [decide_eq_false c2] at h
                  exact iteEqX (decide_eq_false c2) (iteF (by rw [decide_eq_false c2]; exact h))
              · rw [decide_eq_false c1] at h
                refine ⟨_, rfl, iteEqX (decide_eq_false c1) (iteF ⟨_, rfl, iteF h⟩)⟩
            | _ => first | exact iteT h | (cases ok.2; done)
          | _ => first | (cases ok.1; done) | exact iteT (by cases y <;> exact h)
        · exact iteT (by
            have e : measB (.tup (x :: y :: z :: t)) = false := by cases x <;> cases y <;> rfl
            rw [e] at h; exact h)
      | _ => first | (cases ok; done) | exact ⟨by decide, _, rfl, false, rfl, iteT h⟩)

abbrev s_rises : Stmt := topS 21
theorem sc_rises : FnScope [] [] (defScope s_rises) := ⟨rfl, rfl, rfl, by decide +kernel, rfl, by decide +kernel, by decide +kernel⟩
theorem ok_rises {f : Addr} {fd : FuncData} (F : Fun K "rises" "rises" s_rises f fd) (T : TxtG w K mg cS)  : FnOk P w K mg base CX0 1 f fd [] (spD K pd_rises) :=
  fn_dz F sc_rises (fun A ds Ψ h => by
      obtain ⟨rfl, _⟩ := h; rfl) (fun A cdv Ar outer s H E hr =>
    (dss_one (ds_ret (de_listRg rfl rfl T.mg_list (dr_2 rfl T.mg_range (de_un und_neg (de_constI rfl T.mg_MOST_RISE)) (de_op opd_add (de_constI rfl T.mg_MOST_RISE) de_int))))))
    (fun A ds Ψ h => by
      obtain ⟨rfl, h⟩ := h
      refine ⟨_, _, rfl, rfl, ⟨by decide, by decide, by decide, by decide⟩, ?_⟩
      show Ψ (.lst (rgD (-9) 10))
      rw [rs_rg]
      exact h)

abbrev s_is_less : Stmt := topS 22
theorem sc_is_less : FnScope ["one", "other"] ["one", "other"] (defScope s_is_less) := ⟨rfl, rfl, rfl, by decide +kernel, rfl, by decide +kernel, by decide +kernel⟩
theorem ok_is_less {f : Addr} {fd : FuncData} (F : Fun K "is_less" "is_less" s_is_less f fd) (T : TxtG w K mg cS)  : FnOk P w K mg base CX0 1 f fd ["one", "other"] (spD K pd_is_less) :=
  fn_dz F sc_is_less (fun A ds Ψ h => by
      obtain ⟨f, g, rfl, _⟩ := h; rfl) (fun A cdv Ar outer s H E hr =>
    (dss_one (ds_ret (de_cmp opd_lt (de_op opd_mulT (de_ix (ixd hr.units) (de_var 0) de_int) (de_ix (ixd hr.units) (de_var 1) de_int)) (de_op opd_mulT (de_ix (ixd hr.units) (de_var 1) de_int) (de_ix (ixd hr.units) (de_var 0) de_int))))))
    (fun A ds Ψ h => by
      obtain ⟨f, g, rfl, ⟨h1, h2⟩, ⟨h3, h4⟩, h⟩ := h
      have lim : ∀ {x : Int}, Sm x → -(2 ^ 64) < x ∧ x < 2 ^ 64 := fun z => ⟨by have := z.1; omega, by have := z.2; omega⟩
      exact ⟨_, rfl, _, rfl, .inr ⟨.inl (lim h1), _, rfl, _, rfl, .inr ⟨.inl (lim h3), h⟩⟩⟩)

abbrev s_distance_at : Stmt := topS 23
theorem sc_distance_at : FnScope ["line", "size", "measure", "above", "below", "gap", "shared"] ["line", "size", "measure"] (defScope s_distance_at) := ⟨rfl, rfl, rfl, by decide +kernel, rfl, by decide +kernel, by decide +kernel⟩
theorem ok_distance_at {f : Addr} {fd : FuncData} (F : Fun K "distance_at" "distance_at" s_distance_at f fd) (T : TxtG w K mg cS) (G_line_at : Own P w K mg base "line_at" 1 ["line", "size"] pd_line_at) : FnOk P w K mg base CX0 2 f fd ["line", "size", "measure"] (spD K pd_distance_at) :=
  fn_dz F sc_distance_at (fun A ds Ψ h => by
      obtain ⟨b, r, w, rfl, _⟩ := h; rfl) (fun A cdv Ar outer s H E hr =>
    (dss_cons (ds_asg (vs := [0, 1, 2, 3, 4, 5, 6]) (de_var 2) (dg_tup (n := 2) rfl (dgs_cons (dg_name (i := 3) sc_distance_at.nd rfl (Or.inl rfl)) (dgs_cons (dg_name (i := 4) sc_distance_at.nd rfl (Or.inl rfl)) dgs_nil))))
    (dss_cons (ds_asg (vs := [0, 1, 2, 3, 4, 5, 6]) (de_callB callD_abs rfl T.mg_abs (by decide +kernel) (da_cons (de_op opd_sub (de_op opd_mulT (de_own G_line_at (hr.mono (by decide)) rfl (da_cons (de_var 0) (da_cons (de_var 1) da_nil))) (de_var 4)) (de_var 3)) da_nil)) (dg_name (i := 5) sc_distance_at.nd rfl (Or.inl rfl)))
    (dss_cons (ds_asg (vs := [0, 1, 2, 3, 4, 5, 6]) (de_callBf callD_gcd rfl T.mg_gcd (da_cons (de_var 5) (da_cons (de_var 4) da_nil))) (dg_name (i := 6) sc_distance_at.nd rfl (Or.inl rfl)))
    (dss_one (ds_ret (de_tup (da_cons (de_op opd_div (de_var 5) (de_var 6)) (da_cons (de_op opd_div (de_var 4) (de_var 6)) da_nil)))))))))
    (fun A ds Ψ h => by
      obtain ⟨b, r, v, rfl, hl, hw, h⟩ := h
      obtain ⟨b1, b2, b3, b4⟩ := line_bd hl hw
      refine ⟨rfl, rfl, b, r, v.s, rfl, ⟨by have := hl.2; omega, by have := hl.2; omega⟩, .inr ⟨.inl ⟨by omega, by omega⟩, ?_⟩⟩
      have hg : 0 < Nat.gcd (gap b r v).natAbs v.q.natAbs := Nat.gcd_pos_of_pos_right _ (by have := hw.2.2; omega)
      have hg2 : Nat.gcd (gap b r v).natAbs v.q.natAbs ≤ v.q.natAbs := Nat.gcd_le_right _ (by have := hw.2.2; omega)
      have lim : (0 : Int) < ((Nat.gcd (gap b r v).natAbs v.q.natAbs : Nat) : Int) ∧ ((Nat.gcd (gap b r v).natAbs v.q.natAbs : Nat) : Int) < 2 ^ 30 := by have := hw.2.2; omega
      exact ⟨_, _, rfl, lim, lim, Nat.le_of_ble_eq_true rfl, h⟩)

abbrev s_base_at : Stmt := topS 25
theorem sc_base_at : FnScope ["rise", "size", "measure", "above", "below"] ["rise", "size", "measure"] (defScope s_base_at) := ⟨rfl, rfl, rfl, by decide +kernel, rfl, by decide +kernel, by decide +kernel⟩
theorem ok_base_at {f : Addr} {fd : FuncData} (F : Fun K "base_at" "base_at" s_base_at f fd) (T : TxtG w K mg cS)  : FnOk P w K mg base CX0 1 f fd ["rise", "size", "measure"] (spD K pd_base_at) :=
  fn_dz F sc_base_at (fun A ds Ψ h => by
      obtain ⟨r, w, rfl, _⟩ := h; rfl) (fun A cdv Ar outer s H E hr =>
    (dss_cons (ds_asg (vs := [0, 1, 2, 3, 4]) (de_var 2) (dg_tup (n := 2) rfl (dgs_cons (dg_name (i := 3) sc_base_at.nd rfl (Or.inl rfl)) (dgs_cons (dg_name (i := 4) sc_base_at.nd rfl (Or.inl rfl)) dgs_nil))))
    (dss_one (ds_ret (de_tup (da_cons (de_op opd_sub (de_var 3) (de_op opd_mulT (de_op opd_mulT (de_var 0) (de_var 1)) (de_var 4))) (da_cons (de_var 4) da_nil)))))))
    (fun A ds Ψ h => by
      obtain ⟨r, v, rfl, hr, hw, h⟩ := h
      obtain ⟨b1, b2⟩ := bet_bd hr hw
      exact ⟨rfl, rfl, .inr ⟨.inl ⟨by omega, by omega⟩, .inr ⟨.inl ⟨by omega, by omega⟩, Nat.le_of_ble_eq_true rfl, h⟩⟩⟩)

end
end K73

/-! DzDh: forms of dict comprehensions and displays that one uses. -/
namespace Dz
open PySem PySem.Spec PyProof.Rows L2
theorem merge_snoc : ∀ (ps : List (Key × D)) (ks : List Key) (l : List D) (p : Key × D), mergeD ks l (ps ++ [p]) = (putKs (mergeD ks l ps).1 p.1, putKd (mergeD ks l ps).1 (mergeD ks l ps).2 p.1 p.2)
  | [], ks, l, p => rfl
  | q :: ps, ks, l, p => merge_snoc ps (putKs ks q.1) (putKd ks l q.1 q.2) p
theorem hasK_iff {ks : List Key} {k : Key} : hasK ks k = true ↔ k ∈ ks := by
  unfold hasK
  rw [List.any_eq_true]
  constructor
  · rintro ⟨x, hx, e⟩
    rw [← of_decide_eq_true e]; exact hx
  · intro h
    exact ⟨k, h, decide_eq_true rfl⟩
theorem put_new {ks : List Key} {l : List D} {k : Key} {d : D} (h : k ∉ ks) : putKs ks k = ks ++ [k] ∧ putKd ks l k d = l ++ [d] := by
  have e : hasK ks k = false := by
    cases q : hasK ks k with
    | true => exact absurd (hasK_iff.mp q) h
    | false => rfl
  unfold putKs putKd
  rw [e]
  exact ⟨rfl, rfl⟩
theorem merge_nd : ∀ (ps : List (Key × D)) (ks : List Key) (l : List D), (ks ++ ps.map (·.1)).Nodup → mergeD ks l ps = (ks ++ ps.map (·.1), l ++ ps.map (·.2))
  | [], ks, l, _ => by simp [mergeD]
  | p :: ps, ks, l, h => by
    rw [List.map_cons] at h
    have hn : p.1 ∉ ks := fun hm => by
      have := (List.nodup_append.mp h).2.2 p.1 hm p.1 List.mem_cons_self
      exact this rfl
    obtain ⟨e1, e2⟩ := put_new (l := l) (d := p.2) hn
    show mergeD (putKs ks p.1) (putKd ks l p.1 p.2) ps = _
    rw [e1, e2, merge_nd ps (ks ++ [p.1]) (l ++ [p.2]) (by simpa using h)]
    simp
theorem merge_nd0 (ps : List (Key × D)) (h : (ps.map (·.1)).Nodup) : mergeD [] [] ps = (ps.map (·.1), ps.map (·.2)) := merge_nd ps [] [] h
theorem merge_len : ∀ (ps : List (Key × D)) (ks : List Key) (l : List D), (mergeD ks l ps).1.length ≤ ks.length + ps.length
  | [], ks, l => Nat.le_refl _
  | p :: ps, ks, l => by
    have h := merge_len ps (putKs ks p.1) (putKd ks l p.1 p.2)
    have : (putKs ks p.1).length ≤ ks.length + 1 := by
      unfold putKs
      split
      · omega
      · rw [List.length_append]; exact Nat.le_refl _
    show (mergeD (putKs ks p.1) (putKd ks l p.1 p.2) ps).1.length ≤ _
    rw [List.length_cons]
    omega
section
variable {g : FG} {fk fv : FE} {vs : List Nat} {e1 : En} {items : List D} {Φ : D → En → Prop}
theorem dc_map {α : Type} (xs : List α) (enc : α → D) (kf : α → Key) (h : α → D) (hi : items = xs.map enc) (hl : xs.length ≤ 99999)
    (turn : ∀ x ∈ xs, ∀ (J : List Key → List D → Prop) (ks : List Key) (l : List D), J (putKs ks (kf x)) (putKd ks l (kf x) (h x)) → g (enc x) (wipeE e1 vs) fun e2 => fk e2 fun dk e4 => fv e4 fun d e5 => ∃ key, keyD dk = some key ∧ wipeE e5 vs = wipeE e1 vs ∧ J (putKs ks key) (putKd ks l key d))
    (done : Φ (zD (mergeD [] [] (xs.map fun x => (kf x, h x))).1 (mergeD [] [] (xs.map fun x => (kf x, h x))).2) (wipeE e1 vs)) : DcGoal g fYes fk fv vs e1 items Φ := by
  subst hi
  refine ⟨fun k ks l => mergeD [] [] ((xs.take k).map fun x => (kf x, h x)) = (ks, l), rfl, fun k x ks l hx ha => ?_, fun ks l ha => ?_⟩
  · rw [List.getElem?_map] at hx
    cases hk : xs[k]? with
    | none => rw [hk] at hx; cases hx
    | some y =>
      rw [hk] at hx
      have ex : enc y = x := Option.some.inj hx
      subst ex
      refine ⟨?_, ?_⟩
      · have := merge_len ((xs.take k).map fun x => (kf x, h x)) [] []
        rw [ha, List.length_map, List.length_take] at this
        have : ks.length ≤ min k xs.length := by simpa using this
        omega
      · rw [yes_eq]
        refine turn y (List.mem_of_getElem? hk) (fun ks l => mergeD [] [] ((xs.take (k + 1)).map fun x => (kf x, h x)) = (ks, l)) ks l ?_
        rw [List.take_add_one, hk, List.map_append]
        show mergeD [] [] (((xs.take k).map fun x => (kf x, h x)) ++ [(kf y, h y)]) = _
        rw [merge_snoc, ha]
  · have ha : mergeD [] [] ((xs.take (xs.map enc).length).map fun x => (kf x, h x)) = (ks, l) := ha
    rw [List.length_map, List.take_length] at ha
    rw [ha] at done
    exact done
end
/-- the answers, one for each item -/
structure Each {α : Type} (R : α → D → Prop) (xs : List α) (acc : List D) : Prop where
  len : acc.length = xs.length
  all : ∀ (i : Nat) (x : α) (d : D), xs[i]? = some x → acc[i]? = some d → R x d
theorem Each.nil {α : Type} {R : α → D → Prop} : Each R [] [] := ⟨rfl, fun i x d h => by cases h⟩
theorem Each.snoc {α : Type} {R : α → D → Prop} {xs : List α} {k : Nat} {y : α} {acc : List D} {d : D} (h : Each R (xs.take k) acc) (hk : xs[k]? = some y) (r : R y d) : Each R (xs.take (k + 1)) (acc ++ [d]) := by
  have hlt := (List.getElem?_eq_some_iff.mp hk).1
  have hl : acc.length = k := by rw [h.len, List.length_take]; omega
  rw [List.take_add_one, hk]
  refine ⟨by rw [List.length_append, List.length_append, h.len]; rfl, fun i x d' hx hd => ?_⟩
  rcases Nat.lt_or_ge i k with q | q
  · rw [List.getElem?_append_left (by rw [List.length_take]; omega)] at hx
    rw [List.getElem?_append_left (by omega)] at hd
    exact h.all i x d' hx hd
  · have hi : i = k := by
      have := (List.getElem?_eq_some_iff.mp hd).1
      rw [List.length_append, hl] at this
      have : i < k + 1 := this
      omega
    subst hi
    rw [List.getElem?_append_right (by rw [List.length_take]; omega), List.length_take, Nat.min_eq_left (by omega), Nat.sub_self] at hx
    rw [List.getElem?_append_right (by omega), hl, Nat.sub_self] at hd
    cases hx
    cases hd
    exact r
section
variable {g : FG} {fe fk fv : FE} {vs : List Nat} {e1 : En} {items : List D} {Φ : D → En → Prop}
theorem lc_rel {α : Type} (R : α → D → Prop) (xs : List α) (enc : α → D) (hi : items = xs.map enc) (hl : xs.length ≤ 99999)
    (turn : ∀ x ∈ xs, ∀ (J : List D → Prop) (acc : List D), (∀ d, R x d → J (acc ++ [d])) → g (enc x) (wipeE e1 vs) fun e2 => fe e2 fun d e4 => wipeE e4 vs = wipeE e1 vs ∧ J (acc ++ [d]))
    (done : ∀ acc, Each R xs acc → Φ (.lst acc) (wipeE e1 vs)) : LcGoal g fYes fe vs e1 items Φ := by
  subst hi
  refine ⟨fun k acc => Each R (xs.take k) acc, .nil, fun k x acc hx ha => ?_, fun acc ha => ?_⟩
  · rw [List.getElem?_map] at hx
    cases hk : xs[k]? with
    | none => rw [hk] at hx; cases hx
    | some y =>
      rw [hk] at hx
      obtain rfl : enc y = x := Option.some.inj hx
      refine ⟨by rw [ha.len, List.length_take]; omega, ?_⟩
      rw [yes_eq]
      exact turn y (List.mem_of_getElem? hk) (fun acc => Each R (xs.take (k + 1)) acc) acc fun d r => ha.snoc hk r
  · rw [List.length_map, List.take_length] at ha
    exact done acc ha
theorem dc_rel {α : Type} (R : α → D → Prop) (xs : List α) (enc : α → D) (kf : α → Key) (hi : items = xs.map enc) (hl : xs.length ≤ 99999) (nd : (xs.map kf).Nodup)
    (turn : ∀ x ∈ xs, ∀ (J : List Key → List D → Prop) (ks : List Key) (l : List D), (∀ d, R x d → J (putKs ks (kf x)) (putKd ks l (kf x) d)) → g (enc x) (wipeE e1 vs) fun e2 => fk e2 fun dk e4 => fv e4 fun d e5 => ∃ key, keyD dk = some key ∧ wipeE e5 vs = wipeE e1 vs ∧ J (putKs ks key) (putKd ks l key d))
    (done : ∀ l, Each R xs l → Φ (zD (xs.map kf) l) (wipeE e1 vs)) : DcGoal g fYes fk fv vs e1 items Φ := by
  subst hi
  refine ⟨fun k ks l => ks = (xs.take k).map kf ∧ Each R (xs.take k) l, ⟨rfl, .nil⟩, fun k x ks l hx ha => ?_, fun ks l ha => ?_⟩
  · rw [List.getElem?_map] at hx
    cases hk : xs[k]? with
    | none => rw [hk] at hx; cases hx
    | some y =>
      rw [hk] at hx
      obtain rfl : enc y = x := Option.some.inj hx
      obtain ⟨rfl, ha⟩ := ha
      refine ⟨by rw [List.length_map, List.length_take]; omega, ?_⟩
      rw [yes_eq]
      refine turn y (List.mem_of_getElem? hk) (fun ks l => ks = (xs.take (k + 1)).map kf ∧ Each R (xs.take (k + 1)) l) _ _ fun d r => ?_
      have hn : kf y ∉ (xs.take k).map kf := fun hm => by
        obtain ⟨hlt, ey⟩ := List.getElem?_eq_some_iff.mp hk
        obtain ⟨z, hz, ez⟩ := List.mem_map.mp hm
        obtain ⟨i, hi, e⟩ := List.getElem_of_mem hz
        rw [List.length_take] at hi
        rw [List.getElem_take] at e
        have := (List.pairwise_iff_getElem.mp nd) i k (by rw [List.length_map]; omega) (by rw [List.length_map]; omega) (by omega)
        rw [List.getElem_map, List.getElem_map, e, ey] at this
        exact this ez
      obtain ⟨e1, e2⟩ := put_new (l := l) (d := d) hn
      rw [e1, e2]
      refine ⟨?_, ha.snoc hk r⟩
      rw [List.take_add_one, hk, List.map_append]
      rfl
  · obtain ⟨h1, h2⟩ := ha
    rw [List.length_map, List.take_length] at h1 h2
    subst h1
    exact done l h2
end
end Dz
namespace Dz
open PySem PySem.Spec PyProof.Rows L2
/-! ### name = {k: v for ..} on one line, the name a local -/
theorem sw_dict {kx vx : Expr} {gs : List Comprehension} {scope : Scope} {pos py : Pos} {y : Str} {l : Nat} {env : Env} (hk : env.scope.kind = .function) (hy : env.scope.names.lookup y = some .local) (hl : (py.line == pos.line) = true)
    (ha : (scope.names.any fun (n, k) => n == y && (k == .local || k == .cell)) = false) : swapsWith (.DictComp kx vx gs scope pos) (some (.Name y py)) l env = pure true := by
  have e1 : env.kindOf y = some .local := hy
  have e2 : env.blockKind = .function := by unfold Env.blockKind; rw [hk]; rfl
  unfold swapsWith
  simp only [e2, e1, ha, Expr.pos, hl]
  rfl
section
variable {X : Cx} {A : Am}
theorem ps_setDc {i : Nat} {y : Str} {py : Pos} {kx vx tg iter : Expr} {ifs : List Expr} {scope : Scope} {own : List (Str × Nat)} {pos spos : Pos} {wi : TI} {g : TG} {tt : TT} {tk tv : TE} (hc : X.calm = true) (hN : X.N.Nodup) (hy : X.N[i]? = some y) (hyl : X.env.scope.names.lookup y = some .local)
    (hsw : swapsWith (.DictComp kx vx [⟨tg, iter, ifs, 0⟩] scope pos) (some (.Name y py)) spos.line X.env = pure true) (hi : PI X tg iter wi) (ok : BlkOk X.N X.env.scope scope own)
    (hg : ∀ (s : Shared) (H : Hp) (C : Addr) (cl : List (Str × Addr)) (fp : List Addr), PG (X.blk s H scope (compEnvC scope cl C X.env) fp) tg g) (ht : ∀ (s : Shared) (H : Hp) (C : Addr) (cl : List (Str × Addr)) (fp : List Addr), PTs (X.blk s H scope (compEnvC scope cl C X.env) fp) ifs tt)
    (hk : ∀ (s : Shared) (H : Hp) (C : Addr) (cl : List (Str × Addr)) (fp : List Addr), PE (X.blk s H scope (compEnvC scope cl C X.env) fp) kx tk)
    (he : ∀ (s : Shared) (H : Hp) (C : Addr) (cl : List (Str × Addr)) (fp : List Addr), PE (X.blk s H scope (compEnvC scope cl C X.env) fp) vx tv) (hs : ∀ x, foldedSetIterable iter X.env x = pure x := by intro _; rfl) :
    PS X (.Assign [.Name y py] (.DictComp kx vx [⟨tg, iter, ifs, 0⟩] scope pos) spos) (fun D σ H => tDc wi g tt tk tv (own.map (·.2)) σ H fun v H' => ∃ a u, v = .ref a ∧ H' a = some u ∧ Mut (some u) ∧ ∀ od, gName i v σ (upd H' a (.frz od u)) D.nx) := by
  refine ⟨fun pins s σ H D I h => ?_⟩
  rw [exec_Assign_Name_used _ _ _ _ hsw]; refine wpAny_bind (wpAny_standAt (wpAny_bind ?_))
  show wpAny _ X.A (do let _ ← comprehension (.DictComp kx vx [⟨tg, iter, ifs, 0⟩] scope pos) scope X.env (firstIterPos [⟨tg, iter, ifs, 0⟩] pos) newDict false (eval iter X.env) (some (assign (.Name y py) X.env))) _ _ s
  refine wpAny_bind (thn (dc_core (Qf := fun _ s' => SP X pins D .next s') hc hN I hi ok hg ht hk he hs h fun L C s' m H' I' ⟨a, u, e1, e2, mu, q⟩ hn f => ?_) fun _ s' hq => wpAny_pure (wpAny_pure hq))
  show wpAny _ _ (assign (.Name y py) X.env (.ref L)) _ _ _
  refine wpAny_assign_Name (store_ok2 (v := V.ref L) I' hN hy (.inl hyl) rfl (fun s2 I2 ⟨b, sb, hb⟩ => ?_) (.inr hyl))
  obtain ⟨f0, f1, f2, f3, f4, f5⟩ := f
  have hbC : C ≠ b := by rcases hb with z | z; { rw [z]; exact f1 }; { exact fun e => f4 y b z e.symm }
  refine ⟨m, hn.sameBut sb hbC, fun h3 sb3 => ?_⟩
  obtain ⟨od, I3⟩ := (I2.turned (t' := s2.toks) (fun b o hb e => (sb3.2 b hb).trans e) f0 f1 f3 f4 f5).lock e2 mu
  exact ⟨_, _, I3, q od⟩
theorem ds_setDc {i : Nat} {y : Str} {py : Pos} {kx vx tg iter : Expr} {ifs : List Expr} {scope : Scope} {own : List (Str × Nat)} {pos spos : Pos} {fi : FI} {g : FG} {ft : FT} {fk fv : FE} (hc : X.calm = true) (hN : X.N.Nodup) (hy : X.N[i]? = some y) (hyl : X.env.scope.names.lookup y = some .local)
    (hsw : swapsWith (.DictComp kx vx [⟨tg, iter, ifs, 0⟩] scope pos) (some (.Name y py)) spos.line X.env = pure true) (hi : DI X A tg iter fi) (ok : BlkOk X.N X.env.scope scope own)
    (hg : ∀ (s : Shared) (H : Hp) (C : Addr) (cl : List (Str × Addr)) (fp : List Addr), DG (X.blk s H scope (compEnvC scope cl C X.env) fp) A (own.map (·.2)) tg g) (ht : ∀ (s : Shared) (H : Hp) (C : Addr) (cl : List (Str × Addr)) (fp : List Addr), DTs (X.blk s H scope (compEnvC scope cl C X.env) fp) A ifs ft)
    (hk : ∀ (s : Shared) (H : Hp) (C : Addr) (cl : List (Str × Addr)) (fp : List Addr), DE (X.blk s H scope (compEnvC scope cl C X.env) fp) A kx fk)
    (he : ∀ (s : Shared) (H : Hp) (C : Addr) (cl : List (Str × Addr)) (fp : List Addr), DE (X.blk s H scope (compEnvC scope cl C X.env) fp) A vx fv) (hs : ∀ x, foldedSetIterable iter X.env x = pure x := by intro _; rfl) :
    DS X A (.Assign [.Name y py] (.DictComp kx vx [⟨tg, iter, ifs, 0⟩] scope pos) spos) (fAsg (fDc fi g ft fk fv (own.map (·.2))) (gN i)) :=
  ps_weak (ps_setDc hc hN hy hyl hsw hi ok hg ht hk he hs) fun Dd σ H ⟨F, G, en, Ψ, k, h, q1, _⟩ => by
    refine le_dc (Q := fun v H' => gName i v σ H' Dd.nx) ⟨F, G, en, _, k, h, fun d e1 v G1 H1 z k1 s1 r1 => ?_⟩
    exact q1 _ _ G1 H1 z (k1.put r1) s1
end
end Dz
namespace Dz
theorem Each.bools {α : Type} {P : α → Bool → Prop} {xs : List α} {acc : List D} (h : Each (fun x d => ∃ b : Bool, d = .bl b ∧ P x b) xs acc) : ∃ bs : List Bool, acc = bs.map D.bl ∧ bs.length = xs.length ∧ ∀ (i : Nat) (x : α) (b : Bool), xs[i]? = some x → bs[i]? = some b → P x b := by
  obtain ⟨hl, ha⟩ := h
  induction acc generalizing xs with
  | nil => exact ⟨[], rfl, hl, fun i x b _ e => by cases e⟩
  | cons d acc ih =>
    cases xs with
    | nil => cases hl
    | cons y ys =>
      obtain ⟨b, rfl, pb⟩ := ha 0 y d rfl rfl
      obtain ⟨bs, rfl, h2, h3⟩ := ih (xs := ys) (by simpa using hl) fun i x d hx hd => ha (i + 1) x d hx hd
      refine ⟨b :: bs, rfl, by simp [h2], fun i x c hx hc => ?_⟩
      cases i with
      | zero => cases hx; cases hc; exact pb
      | succ i => exact h3 i x c hx hc
end Dz
namespace Dz
theorem Each.vals {α β : Type} {f : β → D} {P : α → β → Prop} {xs : List α} {acc : List D} (h : Each (fun x d => ∃ y : β, d = f y ∧ P x y) xs acc) : ∃ ys : List β, acc = ys.map f ∧ ys.length = xs.length ∧ ∀ (i : Nat) (x : α) (y : β), xs[i]? = some x → ys[i]? = some y → P x y := by
  obtain ⟨hl, ha⟩ := h
  induction acc generalizing xs with
  | nil => exact ⟨[], rfl, hl, fun i x b _ e => by cases e⟩
  | cons d acc ih =>
    cases xs with
    | nil => cases hl
    | cons y ys =>
      obtain ⟨b, rfl, pb⟩ := ha 0 y d rfl rfl
      obtain ⟨bs, rfl, h2, h3⟩ := ih (xs := ys) (by simpa using hl) fun i x d hx hd => ha (i + 1) x d hx hd
      refine ⟨b :: bs, rfl, by simp [h2], fun i x c hx hc => ?_⟩
      cases i with
      | zero => cases hx; cases hc; exact pb
      | succ i => exact h3 i x c hx hc
end Dz

namespace K73
open PySem PySem.Spec PyProof.Rows L2 Dz X73
def wKs (W : List Wt) : List Key := W.map fun v => .inl v.s
def wVs (W : List Wt) : List D := W.map mD
def wD (W : List Wt) : D := zD (wKs W) (wVs W)
structure GoodW (Q : Int) (W : List Wt) : Prop where
  pos : 0 < Q
  ne : W ≠ []
  few : W.length ≤ 1000
  nd : (W.map (·.s)).Nodup
  ok : ∀ v ∈ W, WtOk v
  dvd : ∀ v ∈ W, v.q ∣ Q
theorem get_w : ∀ {W : List Wt}, (W.map (·.s)).Nodup → ∀ {v : Wt}, v ∈ W → getK (wKs W) (wVs W) (.inl v.s) = some (mD v)
  | [], _, v, h => nomatch h
  | u :: W, nd, v, h => by
    rw [List.map_cons, List.nodup_cons] at nd
    show getK (.inl u.s :: wKs W) (mD u :: wVs W) (.inl v.s) = _
    unfold getK
    rcases List.mem_cons.mp h with e | hm
    · subst e; rw [if_pos rfl]
    · have ne : ¬ (Sum.inl u.s : Key) = .inl v.s := fun e => nd.1 (List.mem_map.mpr ⟨v, hm, (Sum.inl.inj e).symm⟩)
      rw [if_neg ne]
      exact get_w nd.2 hm
theorem same_w : ∀ {W : List Wt}, (W.map (·.s)).Nodup → ∀ {u v : Wt}, u ∈ W → v ∈ W → u.s = v.s → u = v
  | [], _, u, _, h, _, _ => nomatch h
  | x :: W, nd, u, v, hu, hv, e => by
    rw [List.map_cons, List.nodup_cons] at nd
    rcases List.mem_cons.mp hu with e1 | h1 <;> rcases List.mem_cons.mp hv with e2 | h2
    · rw [e1, e2]
    · exact absurd (List.mem_map.mpr ⟨v, h2, by rw [← e, e1]⟩) nd.1
    · exact absurd (List.mem_map.mpr ⟨u, h1, by rw [e, e2]⟩) nd.1
    · exact same_w nd.2 h1 h2 e
theorem keys_w (W : List Wt) : (wKs W).map kD = (W.map (·.s)).map D.int := by
  unfold wKs
  rw [List.map_map, List.map_map]
  rfl
theorem items_w (W : List Wt) : kvD (wKs W) (wVs W) = W.map fun v => D.tup [.int v.s, mD v] := by
  unfold kvD wKs wVs
  rw [List.zip_map', List.map_map]
  rfl
theorem meas_ok {v : Wt} (h : WtOk v) : measB (mD v) = true ∧ okMeas (mD v) = true := by
  obtain ⟨_, h2, h3⟩ := h
  refine ⟨?_, rfl⟩
  show ((decide (-10000 ≤ v.a) && decide (v.a ≤ 10000)) && (decide (1 ≤ v.q) && decide (v.q ≤ 10000))) = true
  rw [decide_eq_true h2.1, decide_eq_true h2.2, decide_eq_true h3.1, decide_eq_true h3.2]; rfl
theorem GoodW.fv {Q : Int} {W : List Wt} (g : GoodW Q W) {v : Wt} (h : v ∈ W) (b r : Int) : FV Q (gap b r v, v.q) (dv Q b r v) := fv_gap g.pos (by have := (g.ok v h).2.2; omega) (g.dvd v h)
theorem GoodW.fb {Q : Int} {W : List Wt} (g : GoodW Q W) {v : Wt} (h : v ∈ W) (r : Int) : FV Q (v.a - r * v.s * v.q, v.q) (bet Q r v) := fv_bet g.pos (by have := (g.ok v h).2.2; omega) (g.dvd v h)
/-- a distance as it is told -/
structure Far (Q : Int) (f : Int × Int) (x : Int) : Prop where
  fv : FV Q f x
  n : 0 ≤ f.1 ∧ f.1 ≤ 91000000
  q : 1 ≤ f.2 ∧ f.2 ≤ 10000
  co : Nat.gcd f.1.natAbs f.2.natAbs = 1
theorem Far.sm {Q : Int} {f : Int × Int} {x : Int} (h : Far Q f x) : Sm f.1 ∧ Sm f.2 := by
  obtain ⟨_, h1, h2, _⟩ := h
  unfold Sm
  omega
theorem GoodW.far {Q : Int} {W : List Wt} (g : GoodW Q W) {v : Wt} (h : v ∈ W) {b r : Int} (hl : LineOk b r) : Far Q (redI (gap b r v) v.q) (dv Q b r v) := by
  obtain ⟨_, _, _, b4⟩ := line_bd hl (g.ok v h)
  have hq := (g.ok v h).2.2
  have := red_le (n := gap b r v) (q := v.q) b4.1 (by omega)
  exact ⟨(g.fv h b r).red, by omega, by omega, red_co (by omega)⟩
def pd_check : PD := fun _ ds Φ => ∃ Q W, ds = [wD W] ∧ GoodW Q W ∧ Φ .non
def badB (P : Program) (w : World) (d : D) : Prop := d = .non ∨ d = zD [] [] ∨ (∃ k v, d = zD [.inl k] [v] ∧ okMeas v = true ∧ ((decide (0 ≤ k) && decide (k ≤ 1000)) && measB v) = false) ∨ ∃ v, d = oddD P w true v
def pd_checkX (P : Program) (w : World) (cT : Addr) : PDX := fun _ ds _ Ξ => ∃ d, ds = [d] ∧ badB P w d ∧ Ξ (.ref cT) none
def pd_farthest : PD := fun _ ds Φ => ∃ Q W b r, ds = [lnD b r, wD W] ∧ GoodW Q W ∧ LineOk b r ∧ ∀ v ∈ W, (∀ u ∈ W, dv Q b r u ≤ dv Q b r v ∧ (u.s < v.s → dv Q b r u < dv Q b r v)) → Φ (.tup [frD (redI (gap b r v) v.q), .int v.s])
theorem perm_has {W : List Wt} {ys : List Int} (hp : ys.Perm (W.map (·.s))) {k : Nat} {y : Int} (h : ys[k]? = some y) : ∃ v ∈ W, v.s = y := by
  have := hp.mem_iff.mp (List.mem_of_getElem? h)
  obtain ⟨v, hv, e⟩ := List.mem_map.mp this
  exact ⟨v, hv, e⟩
theorem sorted_take {ys : List Int} (h : ys.Pairwise (· ≤ ·)) {k : Nat} {y x : Int} (hk : ys[k]? = some y) (hx : x ∈ ys.take k) : x ≤ y := by
  obtain ⟨i, hi, e⟩ := List.getElem_of_mem hx
  rw [List.length_take] at hi
  rw [List.getElem_take] at e
  obtain ⟨hk', ek⟩ := List.getElem?_eq_some_iff.mp hk
  have := List.pairwise_iff_getElem.mp h i k (by omega) hk' (by omega)
  rw [e, ek] at this
  exact this
theorem take_mem {ys : List Int} {k : Nat} {y x : Int} (hk : ys[k]? = some y) : x ∈ ys.take (k + 1) ↔ x ∈ ys.take k ∨ x = y := by
  rw [List.take_add_one, hk, List.mem_append]
  simp
section
variable {P : Program} {w : World} {K : PySem.W.Frag} {mg : Str → Option Value} {base : Heap} {cS cT : Addr}
abbrev s_check_wanted_measures : Stmt := topS 19
theorem sc_check_wanted_measures : FnScope ["wanted", "size", "measure"] ["wanted"] (defScope s_check_wanted_measures) := ⟨rfl, rfl, rfl, by decide +kernel, rfl, by decide +kernel, by decide +kernel⟩
theorem ok_check_wanted_measures {f : Addr} {fd : FuncData} (F : Fun K "check_wanted_measures" "check_wanted_measures" s_check_wanted_measures f fd) (T : TxtG w K mg cS) (G_is_size : Own P w K mg base "is_size" 2 ["thing"] pd_is_size) (G_is_measure : Own P w K mg base "is_measure" 2 ["thing"] pd_is_measure) : FnOk P w K mg base CX0 3 f fd ["wanted"] (spD K pd_check) :=
  fn_dz F sc_check_wanted_measures (fun A ds Ψ h => by
      obtain ⟨Q, W, rfl, _⟩ := h; rfl) (fun A cdv Ar outer s H E hr =>
    (dss_cons (ds_if (PW.pt (dw_or (dt_not (dt_truth (de_callB (callD_eith callD_isi (callD_eith callD_isiZ (callD_isiOdd P w))) rfl T.mg_isinstance (by decide +kernel) (da_cons (de_var 0) (da_cons (de_bltn (v := .ty "dict") (d := .ty "dict") rfl T.mg_dict (by decide +kernel) rfl (fun _ => rep_ty.mpr rfl)) da_nil))) (by intro _; rfl))) (dw_or1 (dt_not (dt_eith (dt_truthZ (de_var 0) (by intro _; rfl)) (dt_truthOdd P w (de_var 0) (by intro _; rfl)))))))
      (dss_one ds_false)
      dss_nil)
    (dss_one (ds_for (vs := [0, 1, 2]) PassesOwn.never rfl (di_eith (di_items (de_var 0)) (di_itemsOdd P w (de_var 0))) (dg_tup (n := 2) rfl (dgs_cons (dg_name (i := 1) sc_check_wanted_measures.nd rfl (Or.inl rfl)) (dgs_cons (dg_name (i := 2) sc_check_wanted_measures.nd rfl (Or.inl rfl)) dgs_nil)))
      (dss_one (ds_if (PW.pt (dw_or (dt_not (dt_truth (de_own G_is_size (hr.mono (by decide)) rfl (da_cons (de_var 1) da_nil)) (by intro _; rfl))) (dw_or (dt_cmp opd_gt (de_var 1) (de_constI rfl T.mg_MOST_SIZE)) (dw_or1 (dt_not (dt_truth (de_own G_is_measure (hr.mono (by decide)) rfl (da_cons (de_var 2) da_nil)) (by intro _; rfl)))))))
        (dss_one ds_false)
        dss_nil))))))
    (fun A ds Ψ h => by
      obtain ⟨Q, W, rfl, g, h⟩ := h
      refine .inr (.inl ⟨_, _, "dict", rfl, by decide, _, rfl, iteF ?_⟩)
      refine .inl ⟨_, _, rfl, ?_⟩
      have ne : (wKs W).isEmpty = false := by
        obtain _ | ⟨v, W⟩ := W
        · exact absurd rfl g.ne
        · rfl
      rw [ne]
      refine iteF ?_
      refine .inl ⟨_, _, rfl, ?_⟩
      rw [items_w]
      refine ⟨fun k e => ∃ x y, e = [.dat (wD W), x, y], ⟨_, _, rfl⟩, ?_, ?_⟩
      · rintro k x e hx ⟨x1, x2, rfl⟩
        rw [List.getElem?_map] at hx
        cases hk : W[k]? with
        | none => rw [hk] at hx; cases hx
        | some v =>
          rw [hk] at hx
          obtain rfl : D.tup [.int v.s, mD v] = x := Option.some.inj hx
          have ok := g.ok v (List.mem_of_getElem? hk)
          refine ⟨rfl, rfl, ?_⟩
          refine ⟨_, rfl, rfl, _, congrArg some (decide_eq_true ok.1.1), iteF ?_⟩
          refine ⟨_, rfl, iteEqX (decide_eq_false (show ¬ 1000 < v.s by have := ok.1; omega)) (iteF ?_)⟩
          refine ⟨_, rfl, (meas_ok ok).2, _, congrArg some (meas_ok ok).1, iteF ?_⟩
          exact ⟨_, _, rfl⟩
      · rintro e ⟨x1, x2, rfl⟩
        exact h)

theorem ok_check_wanted_measuresX {f : Addr} {fd : FuncData} (F : Fun K "check_wanted_measures" "check_wanted_measures" s_check_wanted_measures f fd) (T : TxtG w K mg cS) (G_is_size : Own P w K mg base "is_size" 2 ["thing"] pd_is_size) (G_is_measure : Own P w K mg base "is_measure" 2 ["thing"] pd_is_measure) (TX_BadTable : TxX K mg "BadTable" cT) : FnOk P w K mg base (L2.CX P w) 3 f fd ["wanted"] (spX K (pd_checkX P w cT)) :=
  fn_dzx F sc_check_wanted_measures (fun A ds Ψ Ξ h => by
      obtain ⟨Q, rfl, _⟩ := h; rfl) (fun A Ξ cdv Ar outer s H E hr tk =>
    (dss_cons (ds_if (PW.pt (dw_or (dt_not (dt_truth (de_callB (callD_eith callD_isi (callD_eith callD_isiZ (callD_isiOdd P w))) rfl T.mg_isinstance (by decide +kernel) (da_cons (de_var 0) (da_cons (de_bltn (v := .ty "dict") (d := .ty "dict") rfl T.mg_dict (by decide +kernel) rfl (fun _ => rep_ty.mpr rfl)) da_nil))) (by intro _; rfl))) (dw_or1 (dt_not (dt_eith (dt_truthZ (de_var 0) (by intro _; rfl)) (dt_truthOdd P w (de_var 0) (by intro _; rfl)))))))
      (dss_one (ds_raise rfl tk PySem.F.excBase_ValueError TX_BadTable.q TX_BadTable.g TX_BadTable.k (raises_own TX_BadTable.b TX_BadTable.t) rfl))
      dss_nil)
    (dss_one (ds_for (vs := [0, 1, 2]) (passes_of rfl) rfl (di_eith (di_items (de_var 0)) (di_itemsOdd P w (de_var 0))) (dg_tup (n := 2) rfl (dgs_cons (dg_name (i := 1) sc_check_wanted_measures.nd rfl (Or.inl rfl)) (dgs_cons (dg_name (i := 2) sc_check_wanted_measures.nd rfl (Or.inl rfl)) dgs_nil)))
      (dss_one (ds_if (PW.pt (dw_or (dt_not (dt_truth (de_own G_is_size (hr.mono (by decide)) rfl (da_cons (de_var 1) da_nil)) (by intro _; rfl))) (dw_or (dt_cmp opd_gt (de_var 1) (de_constI rfl T.mg_MOST_SIZE)) (dw_or1 (dt_not (dt_truth (de_own G_is_measure (hr.mono (by decide)) rfl (da_cons (de_var 2) da_nil)) (by intro _; rfl)))))))
        (dss_one (ds_raise1 rfl tk PySem.F.excBase_ValueError TX_BadTable.q TX_BadTable.g TX_BadTable.k (raises_own TX_BadTable.b TX_BadTable.t) rfl (de_join (DJ.cons de_str (DJ.cons (de_fmt (de_constI rfl T.mg_MOST_SIZE)) (DJ.cons de_str DJ.nil))))))
        dss_nil))))))
    (fun A ds Ψ Ξ h => by
      obtain ⟨d, rfl, hb, hx⟩ := h
      have two : ∀ {en : En}, fRaise1 Ξ.w (.ref cT) (fJs [fC (.str "not a size up to "), fFmt (fC (.int 1000)), fC (.str " and a measure")] Str.empty) en { nx := fun _ => False, rt := fun _ => False } := fun {en} => ⟨_, rfl, by decide +kernel, .inr ⟨1000, rfl, by decide +kernel, _, rfl, by decide +kernel, _, rfl, by decide +kernel, hx⟩⟩
      rcases hb with rfl | rfl | ⟨k, v, rfl, hv, hbad⟩ | ⟨v, rfl⟩
      · exact .inl ⟨by decide, _, rfl, false, rfl, iteT hx⟩
      · exact .inr (.inl ⟨_, _, "dict", rfl, by decide, _, rfl, iteF (.inl ⟨_, _, rfl, iteT hx⟩)⟩)
      · refine .inr (.inl ⟨_, _, "dict", rfl, by decide, _, rfl, iteF (.inl ⟨_, _, rfl, iteF ?_⟩)⟩)
        refine .inl ⟨_, _, rfl, fun k' e => k' = 0 ∧ e = [.dat (zD [.inl k] [v]), .un, .un], ⟨rfl, rfl⟩, ?_, fun e z => by cases z.1⟩
        rintro k' x e hx' ⟨rfl, rfl⟩
        cases hx'
        refine ⟨rfl, rfl, ?_⟩
        refine ⟨_, rfl, rfl, _, rfl, ?_⟩
        show if (!decide (0 ≤ k)) = true then _ else _
        refine iteB (fun z => two) (fun z => ?_)
        have h0 : decide (0 ≤ k) = true := by simpa using z
        rw [h0, Bool.true_and] at hbad
        refine ⟨_, rfl, iteB (fun z => two) (fun z => ?_)⟩
        have h1 : decide (k ≤ 1000) = true := by
          have := of_decide_eq_false z
          exact decide_eq_true (by omega)
        rw [h1, Bool.true_and] at hbad
        refine ⟨_, rfl, hv, _, rfl, ?_⟩
        rw [hbad]
        exact iteT two
      · refine .inr (.inr ⟨_, _, "dict", rfl, by decide, _, rfl, iteF (.inr ⟨_, _, rfl, iteF ?_⟩)⟩)
        refine .inr ⟨_, _, rfl, fun k' e => k' = 0 ∧ e = [.dat (oddD P w true v), .un, .un], ⟨rfl, rfl⟩, ?_, fun e z => by cases z.1⟩
        rintro k' x e hx' ⟨rfl, rfl⟩
        cases hx'
        refine ⟨rfl, rfl, ?_⟩
        exact ⟨_, rfl, rfl, _, rfl, iteT two⟩)

abbrev s_farthest : Stmt := topS 24
theorem sc_farthest : FnScope ["line", "wanted", "best", "size", "far"] ["line", "wanted"] (defScope s_farthest) := ⟨rfl, rfl, rfl, by decide +kernel, rfl, by decide +kernel, by decide +kernel⟩
theorem ok_farthest {f : Addr} {fd : FuncData} (F : Fun K "farthest" "farthest" s_farthest f fd) (T : TxtG w K mg cS) (G_distance_at : Own P w K mg base "distance_at" 2 ["line", "size", "measure"] pd_distance_at) (G_is_less : Own P w K mg base "is_less" 1 ["one", "other"] pd_is_less) : FnOk P w K mg base CX0 3 f fd ["line", "wanted"] (spD K pd_farthest) :=
  fn_dz F sc_farthest (fun A ds Ψ h => by
      obtain ⟨Q, W, b, r, rfl, _⟩ := h; rfl) (fun A cdv Ar outer s H E hr =>
    (dss_cons (ds_asg (vs := [0, 1, 2, 3, 4]) de_non (dg_name (i := 2) sc_farthest.nd rfl (Or.inl rfl)))
    (dss_cons (ds_for (vs := [0, 1, 2, 3, 4]) PassesOwn.never rfl (di_seq (de_callB callD_sortedI rfl T.mg_sorted (by decide +kernel) (da_cons (de_callTy (callD_listZ rfl) rfl T.mg_list (by decide +kernel) (da_cons (de_var 1) da_nil)) da_nil))) (dg_name (i := 3) sc_farthest.nd rfl (Or.inl rfl))
      (dss_cons (ds_asg (vs := [0, 1, 2, 3, 4]) (de_own G_distance_at (hr.mono (by decide)) rfl (da_cons (de_var 0) (da_cons (de_var 3) (da_cons (de_ix (ixz hr.units) (de_var 1) (de_var 3)) da_nil)))) (dg_name (i := 4) sc_farthest.nd rfl (Or.inl rfl)))
      (dss_one (ds_if (PW.pt (dw_or (dt_cmp opd_is (de_var 2) de_non) (dw_or1 (dt_truth (de_own G_is_less (hr.mono (by decide)) rfl (da_cons (de_ix (ixd hr.units) (de_var 2) de_int) (da_cons (de_var 4) da_nil))) (by intro _; rfl)))))
        (dss_one (ds_asg (vs := [0, 1, 2, 3, 4]) (de_tup (da_cons (de_var 4) (da_cons (de_var 3) da_nil))) (dg_name (i := 2) sc_farthest.nd rfl (Or.inl rfl))))
        dss_nil))))
    (dss_one (ds_ret (de_var 2))))))
    (fun A ds Ψ h => by
      obtain ⟨Q, W, b, r, rfl, g, hl, h⟩ := h
      refine ⟨_, _, rfl, ?_⟩
      rw [keys_w]
      refine ⟨_, rfl, fun ys hp hs => ?_⟩
      refine ⟨_, rfl, ?_⟩
      refine ⟨fun k e => ∃ x3 x4 bd, e = [.dat (lnD b r), .dat (wD W), .dat bd, x3, x4] ∧ ((k = 0 ∧ bd = .non) ∨ ∃ v ∈ W, bd = .tup [frD (redI (gap b r v) v.q), .int v.s] ∧ v.s ∈ ys.take k ∧ ∀ u ∈ W, u.s ∈ ys.take k → dv Q b r u ≤ dv Q b r v ∧ (u.s < v.s → dv Q b r u < dv Q b r v)), ⟨_, _, _, rfl, .inl ⟨rfl, rfl⟩⟩, ?_, ?_⟩
      · rintro k x e hx ⟨x3, x4, bd, rfl, hI⟩
        rw [List.getElem?_map] at hx
        cases hk : ys[k]? with
        | none => rw [hk] at hx; cases hx
        | some y =>
          rw [hk] at hx
          obtain rfl : D.int y = x := Option.some.inj hx
          obtain ⟨v, hv, rfl⟩ := perm_has hp hk
          refine ⟨_, _, _, _, rfl, rfl, get_w g.nd hv, b, r, v, rfl, hl, g.ok v hv, ?_⟩
          have fv := g.far hv hl
          have put : ∀ bd', (∃ u ∈ W, bd' = .tup [frD (redI (gap b r u) u.q), .int u.s] ∧ u.s ∈ ys.take (k + 1) ∧ ∀ u' ∈ W, u'.s ∈ ys.take (k + 1) → dv Q b r u' ≤ dv Q b r u ∧ (u'.s < u.s → dv Q b r u' < dv Q b r u)) →
              ∃ x3 x4 bd, [EV.dat (lnD b r), .dat (wD W), .dat bd', .dat (.int v.s), .dat (frD (redI (gap b r v) v.q))] = [.dat (lnD b r), .dat (wD W), .dat bd, x3, x4] ∧ ((k + 1 = 0 ∧ bd = .non) ∨ ∃ v ∈ W, bd = .tup [frD (redI (gap b r v) v.q), .int v.s] ∧ v.s ∈ ys.take (k + 1) ∧ ∀ u ∈ W, u.s ∈ ys.take (k + 1) → dv Q b r u ≤ dv Q b r v ∧ (u.s < v.s → dv Q b r u < dv Q b r v)) := fun bd' z => ⟨_, _, _, rfl, .inr z⟩
          rcases hI with ⟨rfl, rfl⟩ | ⟨u, hu, rfl, hut, hm⟩
          · refine ⟨rfl, _, rfl, iteT ⟨Nat.le_of_ble_eq_true rfl, put _ ⟨v, hv, rfl, (take_mem hk).mpr (.inr rfl), fun u' hu' ht => ?_⟩⟩⟩
            rcases (take_mem hk).mp ht with z | z
            · rw [List.take_zero] at z; cases z
            · obtain rfl := same_w g.nd hu' hv z
              exact ⟨Int.le_refl _, fun q => by omega⟩
          · have fu := g.far hu hl
            have hle := sorted_take hs hk hut
            refine ⟨rfl, _, rfl, iteF ⟨_, rfl, _, _, rfl, fu.sm, fv.sm, _, rfl, iteB (fun z => ?_) (fun z => ?_)⟩⟩
            · have lt := (fu.fv.lt g.pos fv.fv).mp (of_decide_eq_true z)
              refine ⟨Nat.le_of_ble_eq_true rfl, put _ ⟨v, hv, rfl, (take_mem hk).mpr (.inr rfl), fun u' hu' ht => ?_⟩⟩
              rcases (take_mem hk).mp ht with q | q
              · have := hm u' hu' q
                omega
              · obtain rfl := same_w g.nd hu' hv q
                exact ⟨Int.le_refl _, fun q => by omega⟩
            · have ge : ¬ dv Q b r u < dv Q b r v := fun q => of_decide_eq_false z ((fu.fv.lt g.pos fv.fv).mpr q)
              refine put _ ⟨u, hu, rfl, (take_mem hk).mpr (.inl hut), fun u' hu' ht => ?_⟩
              rcases (take_mem hk).mp ht with q | q
              · exact hm u' hu' q
              · obtain rfl := same_w g.nd hu' hv q
                exact ⟨by omega, fun q => by omega⟩
      · rintro e ⟨x3, x4, bd, rfl, hI⟩
        have hlen : (ys.map D.int).length = ys.length := List.length_map _
        rw [hlen, List.take_length] at hI
        have hne : ys.length ≠ 0 := fun z => by
          have := hp.length_eq
          rw [z, List.length_map] at this
          exact g.ne (List.length_eq_zero_iff.mp this.symm)
        rcases hI with ⟨z, _⟩ | ⟨v, hv, rfl, _, hm⟩
        · exact absurd z hne
        · exact h v hv fun u hu => hm u hu (hp.mem_iff.mpr (List.mem_map.mpr ⟨u, hu, rfl⟩)))

end
end K73

namespace K73
open PySem PySem.Spec PyProof.Rows L2 Dz X73
def pd_far_by : PD := pd_farthest
def Outer (Q r : Int) (W : List Wt) (u v : Wt) : Prop := ∀ x ∈ W, bet Q r u ≤ bet Q r x ∧ bet Q r x ≤ bet Q r v
def szD (u v : Wt) : D := .tup [.int u.s, .int v.s]
def pd_outer_sizes : PD := fun _ ds Φ => ∃ Q W r, ds = [.int r, wD W] ∧ GoodW Q W ∧ (-9 ≤ r ∧ r ≤ 9) ∧ ∀ u ∈ W, ∀ v ∈ W, Outer Q r W u v → Φ (szD u v)
def pd_nearest_line : PD := fun _ ds Φ => ∃ Q W r u v, ds = [.int r, szD u v, wD W] ∧ GoodW Q W ∧ (-9 ≤ r ∧ r ≤ 9) ∧ u ∈ W ∧ v ∈ W ∧
  ∀ c f, LineOk c r → Far Q f (wo Q c r u v) → (∀ B, -99 ≤ B ∧ B ≤ 99 → wo Q c r u v ≤ wo Q B r u v) → Φ (.tup [lnD c r, frD f])
def bfr (r : Int) (v : Wt) : Int × Int := (v.a - r * v.s * v.q, v.q)
theorem bfr_bd {r : Int} {v : Wt} (hr : -9 ≤ r ∧ r ≤ 9) (hv : WtOk v) : (-90010000 ≤ (bfr r v).1 ∧ (bfr r v).1 ≤ 90010000) ∧ (1 ≤ (bfr r v).2 ∧ (bfr r v).2 ≤ 10000) := by
  obtain ⟨_, h2⟩ := bet_bd hr hv
  have := hv.2.1
  have := hv.2.2
  unfold bfr
  omega
theorem bfr_sm {r : Int} {v : Wt} (hr : -9 ≤ r ∧ r ≤ 9) (hv : WtOk v) : Sm (bfr r v).1 ∧ Sm (bfr r v).2 := by
  have := bfr_bd hr hv
  unfold Sm
  omega
/-- the one or the two -/
def twoW (u v : Wt) : List Wt := if u.s = v.s then [u] else [u, v]
theorem two_mem {u v x : Wt} (h : x ∈ twoW u v) : x = u ∨ x = v := by
  unfold twoW at h
  split at h
  · exact .inl (List.mem_singleton.mp h)
  · rcases List.mem_cons.mp h with e | e
    · exact .inl e
    · exact .inr (List.mem_singleton.mp e)
theorem two_u (u v : Wt) : u ∈ twoW u v := by unfold twoW; split <;> exact List.mem_cons_self
theorem two_v {u v : Wt} (h : u.s = v.s → u = v) : v ∈ twoW u v := by
  unfold twoW
  split
  · rename_i e; rw [h e]; exact List.mem_cons_self
  · exact List.mem_cons_of_mem _ List.mem_cons_self
theorem two_good {Q : Int} {W : List Wt} (g : GoodW Q W) {u v : Wt} (hu : u ∈ W) (hv : v ∈ W) : GoodW Q (twoW u v) where
  pos := g.pos
  ne := fun e => by have := two_u u v; rw [e] at this; cases this
  few := by unfold twoW; split <;> exact Nat.le_of_ble_eq_true rfl
  nd := by
    unfold twoW
    split
    · simp
    · rename_i h
      simp [h]
  ok := fun x hx => by rcases two_mem hx with rfl | rfl <;> first | exact g.ok _ hu | exact g.ok _ hv
  dvd := fun x hx => by rcases two_mem hx with rfl | rfl <;> first | exact g.dvd _ hu | exact g.dvd _ hv
theorem two_merge {u v : Wt} (h : u.s = v.s → u = v) : mergeD [] [] [(.inl u.s, mD u), (.inl v.s, mD v)] = (wKs (twoW u v), wVs (twoW u v)) := by
  unfold twoW
  by_cases e : u.s = v.s
  · obtain rfl := h e
    rw [if_pos rfl]
    show (putKs [.inl u.s] (.inl u.s), putKd [.inl u.s] [mD u] (.inl u.s) (mD u)) = _
    unfold putKs putKd hasK
    simp [mapAt, wKs, wVs]
  · rw [if_neg e]
    rw [merge_nd0 _ (by simp [e])]
    rfl
/-- the farthest of two -/
theorem two_far {Q : Int} {W : List Wt} (g : GoodW Q W) {u v : Wt} (hu : u ∈ W) (hv : v ∈ W) {c r : Int} (hl : LineOk c r) {x : Wt} (hx : x ∈ twoW u v) (hm : ∀ y ∈ twoW u v, dv Q c r y ≤ dv Q c r x ∧ (y.s < x.s → dv Q c r y < dv Q c r x)) : Far Q (redI (gap c r x) x.q) (wo Q c r u v) := by
  have e : wo Q c r u v = dv Q c r x := by
    have h1 := (hm u (two_u u v)).1
    have h2 := (hm v (two_v (same_w g.nd hu hv))).1
    unfold wo
    rcases two_mem hx with rfl | rfl <;> omega
  rw [e]
  exact (two_good g hu hv).far hx hl
section
variable {P : Program} {w : World} {K : PySem.W.Frag} {mg : Str → Option Value} {base : Heap} {cS cT : Addr}
abbrev s_far_by : Stmt := topS 18
theorem sc_far_by : FnScope ["line", "wanted"] ["line", "wanted"] (defScope s_far_by) := ⟨rfl, rfl, rfl, by decide +kernel, rfl, by decide +kernel, by decide +kernel⟩
theorem ok_far_by {f : Addr} {fd : FuncData} (F : Fun K "far_by" "far_by" s_far_by f fd) (T : TxtG w K mg cS) (G_check_wanted_measures : Own P w K mg base "check_wanted_measures" 3 ["wanted"] pd_check) (G_farthest : Own P w K mg base "farthest" 3 ["line", "wanted"] pd_farthest) : FnOk P w K mg base CX0 4 f fd ["line", "wanted"] (spD K pd_far_by) :=
  fn_dz F sc_far_by (fun A ds Ψ h => by
      obtain ⟨Q, W, b, r, rfl, _⟩ := h; rfl) (fun A cdv Ar outer s H E hr =>
    (dss_cons (ds_expr (de_own G_check_wanted_measures (hr.mono (by decide)) rfl (da_cons (de_var 1) da_nil)))
    (dss_one (ds_ret (de_own G_farthest (hr.mono (by decide)) rfl (da_cons (de_var 0) (da_cons (de_var 1) da_nil)))))))
    (fun A ds Ψ h => by
      obtain ⟨Q, W, b, r, rfl, g, hl, h⟩ := h
      exact ⟨Q, W, rfl, g, Q, W, b, r, rfl, g, hl, h⟩)

abbrev s_outer_sizes : Stmt := topS 26
theorem sc_outer_sizes : FnScope ["rise", "wanted", "sizes", "low", "high", "size", "base"] ["rise", "wanted"] (defScope s_outer_sizes) := ⟨rfl, rfl, rfl, by decide +kernel, rfl, by decide +kernel, by decide +kernel⟩
theorem ok_outer_sizes {f : Addr} {fd : FuncData} (F : Fun K "outer_sizes" "outer_sizes" s_outer_sizes f fd) (T : TxtG w K mg cS) (G_base_at : Own P w K mg base "base_at" 1 ["rise", "size", "measure"] pd_base_at) (G_is_less : Own P w K mg base "is_less" 1 ["one", "other"] pd_is_less) : FnOk P w K mg base CX0 2 f fd ["rise", "wanted"] (spD K pd_outer_sizes) :=
  fn_dz F sc_outer_sizes (fun A ds Ψ h => by
      obtain ⟨Q, W, r, rfl, _⟩ := h; rfl) (fun A cdv Ar outer s H E hr =>
    (dss_cons (ds_asg (vs := [0, 1, 2, 3, 4, 5, 6]) (de_callB callD_sortedI rfl T.mg_sorted (by decide +kernel) (da_cons (de_callTy (callD_listZ rfl) rfl T.mg_list (by decide +kernel) (da_cons (de_var 1) da_nil)) da_nil)) (dg_name (i := 2) sc_outer_sizes.nd rfl (Or.inl rfl)))
    (dss_cons (ds_par (i := 3) (j := 4) rfl sc_outer_sizes.nd rfl rfl (by decide) rfl rfl (da_cons (de_ix (ixd hr.units) (de_var 2) de_int) (da_cons (de_ix (ixd hr.units) (de_var 2) de_int) da_nil)))
    (dss_cons (ds_for (vs := [0, 1, 2, 3, 4, 5, 6]) PassesOwn.never rfl (di_seq (de_var 2)) (dg_name (i := 5) sc_outer_sizes.nd rfl (Or.inl rfl))
      (dss_cons (ds_asg (vs := [0, 1, 2, 3, 4, 5, 6]) (de_own G_base_at (hr.mono (by decide)) rfl (da_cons (de_var 0) (da_cons (de_var 5) (da_cons (de_ix (ixz hr.units) (de_var 1) (de_var 5)) da_nil)))) (dg_name (i := 6) sc_outer_sizes.nd rfl (Or.inl rfl)))
      (dss_cons (ds_if (dt_truth (de_own G_is_less (hr.mono (by decide)) rfl (da_cons (de_var 6) (da_cons (de_own G_base_at (hr.mono (by decide)) rfl (da_cons (de_var 0) (da_cons (de_var 3) (da_cons (de_ix (ixz hr.units) (de_var 1) (de_var 3)) da_nil)))) da_nil))) (by intro _; rfl))
        (dss_one (ds_asg (vs := [0, 1, 2, 3, 4, 5, 6]) (de_var 5) (dg_name (i := 3) sc_outer_sizes.nd rfl (Or.inl rfl))))
        dss_nil)
      (dss_one (ds_if (dt_truth (de_own G_is_less (hr.mono (by decide)) rfl (da_cons (de_own G_base_at (hr.mono (by decide)) rfl (da_cons (de_var 0) (da_cons (de_var 4) (da_cons (de_ix (ixz hr.units) (de_var 1) (de_var 4)) da_nil)))) (da_cons (de_var 6) da_nil))) (by intro _; rfl))
        (dss_one (ds_asg (vs := [0, 1, 2, 3, 4, 5, 6]) (de_var 5) (dg_name (i := 4) sc_outer_sizes.nd rfl (Or.inl rfl))))
        dss_nil)))))
    (dss_one (ds_ret (de_tup (da_cons (de_var 3) (da_cons (de_var 4) da_nil)))))))))
    (fun A ds Ψ h => by
      obtain ⟨Q, W, r, rfl, g, hr, h⟩ := h
      refine ⟨_, _, rfl, ?_⟩
      rw [keys_w]
      refine ⟨_, rfl, fun ys hp hs => ?_⟩
      have hne : ys ≠ [] := fun z => by
        have := hp.length_eq
        rw [z, List.length_map] at this
        exact g.ne (List.length_eq_zero_iff.mp this.symm)
      obtain ⟨y0, yr, rfl⟩ : ∃ y0 yr, ys = y0 :: yr := by
        cases ys with
        | nil => exact absurd rfl hne
        | cons a b => exact ⟨a, b, rfl⟩
      obtain ⟨v0, hv0, rfl⟩ := perm_has hp (k := 0) rfl
      have at0 : atI ((v0.s :: yr).map D.int) 0 = some (.int v0.s) := by
        rw [List.map_cons]
        unfold atI ixN
        simp
      refine ⟨_, at0, _, at0, ?_⟩
      refine ⟨_, rfl, fun k e => ∃ u v x5 x6, u ∈ W ∧ v ∈ W ∧ e = [.dat (.int r), .dat (wD W), .dat (.lst ((v0.s :: yr).map D.int)), .dat (.int u.s), .dat (.int v.s), x5, x6] ∧ ∀ x ∈ W, x.s ∈ (v0.s :: yr).take k → bet Q r u ≤ bet Q r x ∧ bet Q r x ≤ bet Q r v, ⟨v0, v0, _, _, hv0, hv0, rfl, fun x hx hz => by rw [List.take_zero] at hz; cases hz⟩, ?_, ?_⟩
      · rintro k x e hx ⟨u, v, x5, x6, hu, hv, rfl, hI⟩
        rw [List.getElem?_map] at hx
        cases hk : (v0.s :: yr)[k]? with
        | none => rw [hk] at hx; cases hx
        | some y =>
          rw [hk] at hx
          obtain rfl : D.int y = x := Option.some.inj hx
          obtain ⟨t, ht, rfl⟩ := perm_has hp hk
          refine ⟨_, _, _, _, rfl, rfl, get_w g.nd ht, r, t, rfl, hr, g.ok t ht, ?_⟩
          have bt := bfr_sm hr (g.ok t ht)
          have key : ∀ a : Wt, a ∈ W → ((bfr r t).1 * (bfr r a).2 < (bfr r a).1 * (bfr r t).2 ↔ bet Q r t < bet Q r a) := fun a ha => (g.fb ht r).lt g.pos (g.fb ha r)
          have key2 : ∀ a : Wt, a ∈ W → ((bfr r a).1 * (bfr r t).2 < (bfr r t).1 * (bfr r a).2 ↔ bet Q r a < bet Q r t) := fun a ha => (g.fb ha r).lt g.pos (g.fb ht r)
          have last : ∀ u' ∈ W, (∀ x ∈ W, x.s ∈ (v0.s :: yr).take (k + 1) → bet Q r u' ≤ bet Q r x) → ∀ v' ∈ W, (∀ x ∈ W, x.s ∈ (v0.s :: yr).take (k + 1) → bet Q r x ≤ bet Q r v') → ∃ u v x5 x6, u ∈ W ∧ v ∈ W ∧ [EV.dat (.int r), .dat (wD W), .dat (.lst ((v0.s :: yr).map D.int)), .dat (.int u'.s), .dat (.int v'.s), .dat (.int t.s), .dat (frD (bfr r t))] = [.dat (.int r), .dat (wD W), .dat (.lst ((v0.s :: yr).map D.int)), .dat (.int u.s), .dat (.int v.s), x5, x6] ∧ ∀ x ∈ W, x.s ∈ (v0.s :: yr).take (k + 1) → bet Q r u ≤ bet Q r x ∧ bet Q r x ≤ bet Q r v :=
            fun u' hu' a v' hv' b => ⟨u', v', _, _, hu', hv', rfl, fun x hx hz => ⟨a x hx hz, b x hx hz⟩⟩
          have one : ∀ {x : Wt}, x ∈ W → x.s ∈ (v0.s :: yr).take (k + 1) → x.s ∈ (v0.s :: yr).take k ∨ x = t := fun hx hz => by
            rcases (take_mem hk).mp hz with q | q
            · exact .inl q
            · exact .inr (same_w g.nd hx ht q)
          refine ⟨_, _, _, _, rfl, rfl, get_w g.nd hu, r, u, rfl, hr, g.ok u hu, bfr r t, bfr r u, rfl, bt, bfr_sm hr (g.ok u hu), _, rfl, ?_⟩
          have low : ∀ (b : Bool), (b = true ↔ bet Q r t < bet Q r u) → ∃ u' ∈ W, (if b = true then u' = t else u' = u) ∧ ∀ x ∈ W, x.s ∈ (v0.s :: yr).take (k + 1) → bet Q r u' ≤ bet Q r x := fun b hb => by
            cases b with
            | true =>
              have lt := hb.mp rfl
              refine ⟨t, ht, rfl, fun x hx hz => ?_⟩
              rcases one hx hz with q | rfl
              · have := (hI x hx q).1; omega
              · omega
            | false =>
              have ge : ¬ bet Q r t < bet Q r u := fun q => by have := hb.mpr q; cases this
              refine ⟨u, hu, rfl, fun x hx hz => ?_⟩
              rcases one hx hz with q | rfl
              · exact (hI x hx q).1
              · omega
          have high : ∀ (b : Bool), (b = true ↔ bet Q r v < bet Q r t) → ∃ v' ∈ W, (if b = true then v' = t else v' = v) ∧ ∀ x ∈ W, x.s ∈ (v0.s :: yr).take (k + 1) → bet Q r x ≤ bet Q r v' := fun b hb => by
            cases b with
            | true =>
              have lt := hb.mp rfl
              refine ⟨t, ht, rfl, fun x hx hz => ?_⟩
              rcases one hx hz with q | rfl
              · have := (hI x hx q).2; omega
              · omega
            | false =>
              have ge : ¬ bet Q r v < bet Q r t := fun q => by have := hb.mpr q; cases this
              refine ⟨v, hv, rfl, fun x hx hz => ?_⟩
              rcases one hx hz with q | rfl
              · exact (hI x hx q).2
              · omega
          obtain ⟨u', hu', eu, lu⟩ := low (decide ((bfr r t).1 * (bfr r u).2 < (bfr r u).1 * (bfr r t).2)) (by rw [decide_eq_true_iff]; exact key u hu)
          obtain ⟨v', hv', ev, lv⟩ := high (decide ((bfr r v).1 * (bfr r t).2 < (bfr r t).1 * (bfr r v).2)) (by rw [decide_eq_true_iff]; exact key2 v hv)
          have fin := last u' hu' lu v' hv' lv
          refine iteB (fun z => ?_) (fun z => ?_)
          · rw [z, if_pos rfl] at eu
            rw [eu] at fin
            refine ⟨_, _, _, _, rfl, rfl, get_w g.nd hv, r, v, rfl, hr, g.ok v hv, bfr r v, bfr r t, rfl, bfr_sm hr (g.ok v hv), bt, _, rfl, ?_⟩
            refine iteB (fun z => ?_) (fun z => ?_)
            · rw [z, if_pos rfl] at ev; rw [ev] at fin; exact fin
            · rw [z, if_neg Bool.false_ne_true] at ev; rw [ev] at fin; exact fin
          · rw [z, if_neg Bool.false_ne_true] at eu
            rw [eu] at fin
            refine ⟨_, _, _, _, rfl, rfl, get_w g.nd hv, r, v, rfl, hr, g.ok v hv, bfr r v, bfr r t, rfl, bfr_sm hr (g.ok v hv), bt, _, rfl, ?_⟩
            refine iteB (fun z => ?_) (fun z => ?_)
            · rw [z, if_pos rfl] at ev; rw [ev] at fin; exact fin
            · rw [z, if_neg Bool.false_ne_true] at ev; rw [ev] at fin; exact fin
      · rintro e ⟨u, v, x5, x6, hu, hv, rfl, hI⟩
        have hlen : ((v0.s :: yr).map D.int).length = (v0.s :: yr).length := List.length_map _
        rw [hlen, List.take_length] at hI
        exact ⟨Nat.le_of_ble_eq_true rfl, h u hu v hv fun x hx => hI x hx (hp.mem_iff.mpr (List.mem_map.mpr ⟨x, hx, rfl⟩))⟩)

abbrev s_nearest_line : Stmt := topS 27
theorem sc_nearest_line : FnScope ["rise", "sizes", "wanted", "one", "other", "middle", "bases", "pair", "found", "size", "base"] ["rise", "sizes", "wanted"] (defScope s_nearest_line) := ⟨rfl, rfl, rfl, by decide +kernel, rfl, by decide +kernel, by decide +kernel⟩
theorem ok_nearest_line {f : Addr} {fd : FuncData} (F : Fun K "nearest_line" "nearest_line" s_nearest_line f fd) (T : TxtG w K mg cS) (G_base_at : Own P w K mg base "base_at" 1 ["rise", "size", "measure"] pd_base_at) (G_farthest : Own P w K mg base "farthest" 3 ["line", "wanted"] pd_farthest) (G_is_less : Own P w K mg base "is_less" 1 ["one", "other"] pd_is_less) : FnOk P w K mg base CX0 4 f fd ["rise", "sizes", "wanted"] (spD K pd_nearest_line) :=
  fn_dz F sc_nearest_line (fun A ds Ψ h => by
      obtain ⟨Q, W, r, u, v, rfl, _⟩ := h; rfl) (fun A cdv Ar outer s H E hr =>
    (dss_cons (ds_asg (vs := [0, 1, 2, 3, 4, 5, 6, 7, 8, 9, 10]) (de_lc rfl sc_nearest_line.nd (di_seq (de_var 1)) (blkOk_by (own := [("size", 9)]) (N := ["rise", "sizes", "wanted", "one", "other", "middle", "bases", "pair", "found", "size", "base"]) (sc := defScope s_nearest_line) (by decide +kernel)) (fun _ _ _ _ _ => (dg_name (i := 9) sc_nearest_line.nd rfl (Or.inl rfl))) (fun _ _ _ _ _ => dts_nil) (fun _ _ _ _ _ => (de_own G_base_at (hr.mono (by decide)) rfl (da_cons (de_var 0) (da_cons (de_var 9) (da_cons (de_ix (ixz hr.units) (de_var 2) (de_var 9)) da_nil)))))) (dg_tupL (n := 2) rfl (dgs_cons (dg_name (i := 3) sc_nearest_line.nd rfl (Or.inl rfl)) (dgs_cons (dg_name (i := 4) sc_nearest_line.nd rfl (Or.inl rfl)) dgs_nil))))
    (dss_cons (ds_asg (vs := [0, 1, 2, 3, 4, 5, 6, 7, 8, 9, 10]) (de_op opd_div (de_op opd_add (de_op opd_mulT (de_ix (ixd hr.units) (de_var 3) de_int) (de_ix (ixd hr.units) (de_var 4) de_int)) (de_op opd_mulT (de_ix (ixd hr.units) (de_var 4) de_int) (de_ix (ixd hr.units) (de_var 3) de_int))) (de_op opd_mulT (de_op opd_mulT de_int (de_ix (ixd hr.units) (de_var 3) de_int)) (de_ix (ixd hr.units) (de_var 4) de_int))) (dg_name (i := 5) sc_nearest_line.nd rfl (Or.inl rfl)))
    (dss_cons (ds_setLc (i := 6) rfl sc_nearest_line.nd rfl rfl (sw_true rfl rfl rfl (by decide +kernel)) (di_seq (de_tup (da_cons (de_var 5) (da_cons (de_op opd_add (de_var 5) de_int) da_nil)))) (blkOk_by (own := [("base", 10)]) (N := ["rise", "sizes", "wanted", "one", "other", "middle", "bases", "pair", "found", "size", "base"]) (sc := defScope s_nearest_line) (by decide +kernel)) (fun _ _ _ _ _ => (dg_name (i := 10) sc_nearest_line.nd rfl (Or.inl rfl))) (fun _ _ _ _ _ => dts_nil) (fun _ _ _ _ _ => (de_callB (callD_max2 rfl) rfl T.mg_max (by decide +kernel) (da_cons (de_un und_neg (de_constI rfl T.mg_MOST_BASE)) (da_cons (de_callB (callD_min2 rfl) rfl T.mg_min (by decide +kernel) (da_cons (de_constI rfl T.mg_MOST_BASE) (da_cons (de_var 10) da_nil))) da_nil)))))
    (dss_cons (ds_asg (vs := [0, 1, 2, 3, 4, 5, 6, 7, 8, 9, 10]) (de_dc rfl sc_nearest_line.nd (di_seq (de_var 1)) (blkOk_by (own := [("size", 9)]) (N := ["rise", "sizes", "wanted", "one", "other", "middle", "bases", "pair", "found", "size", "base"]) (sc := defScope s_nearest_line) (by decide +kernel)) (fun _ _ _ _ _ => (dg_name (i := 9) sc_nearest_line.nd rfl (Or.inl rfl))) (fun _ _ _ _ _ => dts_nil) (fun _ _ _ _ _ => (de_var 9)) (fun _ _ _ _ _ => (de_ix (ixz hr.units) (de_var 2) (de_var 9)))) (dg_name (i := 7) sc_nearest_line.nd rfl (Or.inr rfl)))
    (dss_cons (ds_setLc (i := 8) rfl sc_nearest_line.nd rfl rfl (sw_true rfl rfl rfl (by decide +kernel)) (di_seq (de_var 6)) (blkOk_by (own := [("base", 10)]) (N := ["rise", "sizes", "wanted", "one", "other", "middle", "bases", "pair", "found", "size", "base"]) (sc := defScope s_nearest_line) (by decide +kernel)) (fun _ _ _ _ _ => (dg_name (i := 10) sc_nearest_line.nd rfl (Or.inl rfl))) (fun _ _ _ _ _ => dts_nil) (fun _ _ _ _ _ => (de_tup (da_cons (de_tup (da_cons (de_var 10) (da_cons (de_var 0) da_nil))) (da_cons (de_ix (ixd hr.units) (de_own G_farthest (hr.mono (by decide)) rfl (da_cons (de_tup (da_cons (de_var 10) (da_cons (de_var 0) da_nil))) (da_cons (de_var 7) da_nil))) de_int) da_nil)))))
    (dss_one (ds_ret (de_if (dt_truth (de_own G_is_less (hr.mono (by decide)) rfl (da_cons (de_ix (ixd hr.units) (de_ix (ixd hr.units) (de_var 8) de_int) de_int) (da_cons (de_ix (ixd hr.units) (de_ix (ixd hr.units) (de_var 8) de_int) de_int) da_nil))) (by intro _; rfl)) (de_ix (ixd hr.units) (de_var 8) de_int) (de_ix (ixd hr.units) (de_var 8) de_int))))))))))
    (fun A ds Ψ h => by
      obtain ⟨Q, W, r, u, v, rfl, g, hr, hu, hv, h⟩ := h
      have gu := g.ok u hu
      have gv := g.ok v hv
      have mem : ∀ x ∈ [u, v], x ∈ W := fun x hx => by
        rcases List.mem_cons.mp hx with e | e
        · rw [e]; exact hu
        · rw [List.mem_singleton.mp e]; exact hv
      refine ⟨_, rfl, ?_⟩
      refine lc_map0 (α := Wt) [u, v] (fun x => .int x.s) (fun x => frD (bfr r x)) rfl (by simp) (fun x hx J acc hJ => ⟨_, _, _, _, rfl, rfl, get_w g.nd (mem x hx), r, x, rfl, hr, g.ok x (mem x hx), rfl, hJ⟩) ?_
      refine ⟨rfl, rfl, ?_⟩
      have bu := bfr_bd hr gu
      have bv := bfr_bd hr gv
      have m1 := mul_bd (x := (bfr r u).1) (y := (bfr r v).2) (a := 90010000) (b := 10000) bu.1 ⟨by omega, bv.2.2⟩
      have m2 := mul_bd (x := (bfr r v).1) (y := (bfr r u).2) (a := 90010000) (b := 10000) bv.1 ⟨by omega, bu.2.2⟩
      have m3 : 0 < 2 * (bfr r u).2 * (bfr r v).2 := Int.mul_pos (by omega) (by omega)
      have m4 : 2 * (bfr r u).2 * (bfr r v).2 ≤ 20000 * 10000 := Int.mul_le_mul (by omega) bv.2.2 (by omega) (by omega)
      refine ⟨_, rfl, _, rfl, .inr ⟨.inl ⟨by omega, by omega⟩, _, rfl, _, rfl, .inr ⟨.inl ⟨by omega, by omega⟩, ?_⟩⟩⟩
      refine ⟨_, rfl, .inr ⟨.inl ⟨by omega, by omega⟩, _, rfl, .inr ⟨.inl ⟨by omega, by omega⟩, ⟨m3, by omega⟩, ?_⟩⟩⟩
      obtain ⟨c1, c2⟩ := middle g.pos (g.fb hu r) (g.fb hv r)
      generalize hm : ((bfr r u).1 * (bfr r v).2 + (bfr r v).1 * (bfr r u).2) / (2 * (bfr r u).2 * (bfr r v).2) = m
      have hm' : ((u.a - r * u.s * u.q, u.q).1 * (v.a - r * v.s * v.q, v.q).2 + (v.a - r * v.s * v.q, v.q).1 * (u.a - r * u.s * u.q, u.q).2) / (2 * (u.a - r * u.s * u.q, u.q).2 * (v.a - r * v.s * v.q, v.q).2) = m := hm
      rw [hm'] at c1 c2
      refine ⟨Nat.le_of_ble_eq_true rfl, _, rfl, ?_⟩
      refine lc_map0 (α := Int) [m, m + 1] D.int (fun x => .int (clamp x)) rfl (by simp) (fun x hx J acc hJ => ⟨_, _, rfl, _, _, rfl, rfl, hJ⟩) ?_
      refine ⟨_, rfl, ?_⟩
      refine dc_map (α := Wt) [u, v] (fun x => .int x.s) (fun x => .inl x.s) mD rfl (by simp) (fun x hx J ks l hJ => ⟨_, _, _, _, rfl, rfl, get_w g.nd (mem x hx), _, rfl, rfl, hJ⟩) ?_
      have same := same_w g.nd hu hv
      have em : mergeD [] [] ([u, v].map fun x => ((.inl x.s : Key), mD x)) = (wKs (twoW u v), wVs (twoW u v)) := two_merge same
      rw [em]
      refine ⟨_, rfl, ?_⟩
      refine lc_rel (α := Int) (fun x d => ∃ f, d = .tup [lnD (clamp x) r, frD f] ∧ Far Q f (wo Q (clamp x) r u v)) [m, m + 1] (fun x => .int (clamp x)) rfl (by simp) (fun x hx J acc hJ => ?_) (fun acc he => ?_)
      · have hl : LineOk (clamp x) r := ⟨clamp_in x, hr⟩
        refine ⟨Nat.le_of_ble_eq_true rfl, Nat.le_of_ble_eq_true rfl, Q, twoW u v, clamp x, r, rfl, two_good g hu hv, hl, fun y hy hmx => ?_⟩
        exact ⟨_, rfl, Nat.le_of_ble_eq_true rfl, rfl, hJ _ ⟨_, rfl, two_far g hu hv hl hy hmx⟩⟩
      · have hlen := he.len
        obtain _ | ⟨d0, _ | ⟨d1, _ | ⟨d2, rest⟩⟩⟩ := acc
        · cases hlen
        · cases hlen
        · obtain ⟨f0, rfl, F0⟩ := he.all 0 m d0 rfl rfl
          obtain ⟨f1, rfl, F1⟩ := he.all 1 (m + 1) d1 rfl rfl
          refine ⟨_, rfl, _, rfl, _, rfl, _, rfl, f1, f0, rfl, F1.sm, F0.sm, _, rfl, iteB (fun z => ?_) (fun z => ?_)⟩
          · have lt := (F1.fv.lt g.pos F0.fv).mp (of_decide_eq_true z)
            refine ⟨_, rfl, h _ _ ⟨clamp_in _, hr⟩ F1 fun B hB => ?_⟩
            rcases near (u := u) (v := v) g.pos c1 c2 hB with q | q
            · omega
            · exact q
          · have ge : ¬ wo Q (clamp (m + 1)) r u v < wo Q (clamp m) r u v := fun q => of_decide_eq_false z ((F1.fv.lt g.pos F0.fv).mpr q)
            refine ⟨_, rfl, h _ _ ⟨clamp_in _, hr⟩ F0 fun B hB => ?_⟩
            rcases near (u := u) (v := v) g.pos c1 c2 hB with q | q
            · exact q
            · omega
        · have : rest.length + 3 = 2 := hlen
          omega)

end
end K73

namespace K73
open PySem PySem.Spec PyProof.Rows L2 Dz X73
def nsG : List Str := ["line", "against"]
def gradeD (cS : Addr) (c r : Int) (ks : List Key) (l : List D) : D := .ins cS nsG [lnD c r, zD ks l]
def rsK : List Key := rsL.map .inl
def outL (outs : List (Wt × Wt)) : List D := outs.map fun p => szD p.1 p.2
def toldD (cS : Addr) (c r : Int) (outs : List (Wt × Wt)) : D := gradeD cS c r rsK (outL outs)
def pd_Grade_init : PDI := fun _ ds Ψ _ => ∃ c r, ∃ (ns : List Int) (l : List D), ds = [lnD c r, zD (ns.map .inl) l] ∧ ns.Nodup ∧ ns.length = l.length ∧ ns.length ≤ 1000 ∧ Ψ nsG [lnD c r, zD (ns.map .inl) l]
/-- all of the two's lines are at least that far -/
def Bars (Q x r : Int) (u v : Wt) : Prop := ∀ B, -99 ≤ B ∧ B ≤ 99 → x ≤ wo Q B r u v
def pd_bars (cS : Addr) : PD := fun _ ds Φ => ∃ Q W c r ks l s f x u v, ds = [gradeD cS c r ks l, .int s, frD f, wD W] ∧ GoodW Q W ∧ (-9 ≤ s ∧ s ≤ 9) ∧ getK ks l (.inl s) = some (szD u v) ∧ u ∈ W ∧ v ∈ W ∧ Far Q f x ∧ ∀ b : Bool, (b = true ↔ Bars Q x s u v) → Φ (.bl b)
structure OutOk (W : List Wt) (outs : List (Wt × Wt)) : Prop where
  len : outs.length = 19
  mem : ∀ p ∈ outs, p.1 ∈ W ∧ p.2 ∈ W
def Most (Q c r : Int) (W : List Wt) (x : Int) : Prop := (∃ v ∈ W, x = dv Q c r v) ∧ ∀ v ∈ W, dv Q c r v ≤ x
def AllBar (Q x : Int) (outs : List (Wt × Wt)) : Prop := ∀ (i : Nat) (s : Int) (p : Wt × Wt), rsL[i]? = some s → outs[i]? = some p → Bars Q x s p.1 p.2
def pd_shows (cS : Addr) : PD := fun _ ds Φ => ∃ Q W c r ks l, ds = [gradeD cS c r ks l, wD W] ∧ GoodW Q W ∧ LineOk c r ∧ ((ks.length ≠ 19 ∧ Φ (.bl false)) ∨ ∃ outs, ks = rsK ∧ l = outL outs ∧ OutOk W outs ∧ ∀ x, Most Q c r W x → ∀ b : Bool, (b = true ↔ AllBar Q x outs) → Φ (.bl b))
structure Told (Q : Int) (W : List Wt) (c r : Int) (outs : List (Wt × Wt)) : Prop where
  line : LineOk c r
  ok : OutOk W outs
  out : ∀ (i : Nat) (s : Int) (p : Wt × Wt), rsL[i]? = some s → outs[i]? = some p → Outer Q s W p.1 p.2
  best : ∃ (i : Nat) (p : Wt × Wt), rsL[i]? = some r ∧ outs[i]? = some p ∧ AllBar Q (wo Q c r p.1 p.2) outs
def pd_grade (cS : Addr) : PD := fun _ ds Φ => ∃ Q W, ds = [wD W] ∧ GoodW Q W ∧ ∀ c r outs, Told Q W c r outs → Φ (toldD cS c r outs)
def pd_gradeX (P : Program) (w : World) (cT : Addr) : PDX := pd_checkX P w cT
theorem get_at {ks : List Key} {l : List D} : ∀ {i : Nat} {k : Key} {d : D}, ks.Nodup → ks[i]? = some k → l[i]? = some d → getK ks l k = some d := by
  induction ks generalizing l with
  | nil => intro i k d _ h; cases h
  | cons a ks ih =>
    intro i k d nd hk hd
    cases l with
    | nil => cases hd
    | cons b l =>
      rw [List.nodup_cons] at nd
      unfold getK
      cases i with
      | zero => cases hk; cases hd; rw [if_pos rfl]
      | succ i =>
        have hk : ks[i]? = some k := hk
        rw [if_neg (fun e => nd.1 (by rw [e]; exact List.mem_of_getElem? hk))]
        exact ih nd.2 hk hd
theorem nd_inl {ns : List Int} (h : ns.Nodup) : (ns.map (Sum.inl : Int → Key)).Nodup := List.Pairwise.map _ (fun a b h e => h (Sum.inl.inj e)) h
theorem rs_nd : rsK.Nodup := by decide +kernel
theorem rs_in : ∀ {i : Nat} {s : Int}, rsL[i]? = some s → (i < 19 ∧ s = -9 + (i : Int)) ∧ (-9 ≤ s ∧ s ≤ 9) := fun {i s} h => by
  have hi : i < 19 := (List.getElem?_eq_some_iff.mp h).1
  have e : ∀ i : Nat, i < 19 → rsL[i]? = some (-9 + (i : Int)) := by decide +kernel
  rw [e i hi] at h
  cases h
  exact ⟨⟨hi, rfl⟩, by omega⟩
theorem out_get {outs : List (Wt × Wt)} {i : Nat} {s : Int} {p : Wt × Wt} (hs : rsL[i]? = some s) (hp : outs[i]? = some p) : getK rsK (outL outs) (.inl s) = some (szD p.1 p.2) := by
  refine get_at (i := i) rs_nd ?_ ?_
  · unfold rsK; rw [List.getElem?_map, hs]; rfl
  · unfold outL; rw [List.getElem?_map, hp]; rfl
theorem most_one {Q c r : Int} {W : List Wt} {x y : Int} (h : Most Q c r W x) (h' : Most Q c r W y) : x = y := by
  obtain ⟨⟨u, hu, rfl⟩, h1⟩ := h
  obtain ⟨⟨v, hv, rfl⟩, h2⟩ := h'
  have := h1 v hv
  have := h2 u hu
  omega
section
variable {P : Program} {w : World} {K : PySem.W.Frag} {mg : Str → Option Value} {base : Heap} {cS cT : Addr}
abbrev s_Grade_init : Stmt := inClass (topS 16) 0
theorem sc_Grade_init : FnScope ["self", "line", "against", "rise"] ["self", "line", "against"] (defScope s_Grade_init) := ⟨rfl, rfl, rfl, by decide +kernel, rfl, by decide +kernel, by decide +kernel⟩
theorem ok_Grade_init {f : Addr} {fd : FuncData} (F : Fun K "__init__" "Grade.__init__" s_Grade_init f fd) (T : TxtG w K mg cS)  : FnOk P w K mg base (L2.CX P w) 1 f fd ["self", "line", "against"] (spI K cS pd_Grade_init) :=
  fn_dzi F sc_Grade_init (fun A ds Ψ Ξ h => by
      obtain ⟨c, r, ks, l, rfl, _⟩ := h; rfl) (fun A Ξ cdv Ar outer s H E hr tk =>
    (dss_cons (ds_fput (i := 0) T.cl T.na_line rfl (Or.inl rfl) (de_var 1))
    (dss_one (ds_fput (i := 0) T.cl T.na_against rfl (Or.inl rfl) (de_dc rfl sc_Grade_init.nd (di_keys (de_var 2)) (blkOk_by (own := [("rise", 3)]) (N := ["self", "line", "against", "rise"]) (sc := defScope s_Grade_init) (by decide +kernel)) (fun _ _ _ _ _ => (dg_name (i := 3) sc_Grade_init.nd rfl (Or.inl rfl))) (fun _ _ _ _ _ => dts_nil) (fun _ _ _ _ _ => (de_var 3)) (fun _ _ _ _ _ => (de_ix (ixz hr.units) (de_var 2) (de_var 3))))))))
    (fun A ds Ψ Ξ p dx h => by
      obtain ⟨c, r, ns, l, rfl, nd, hl, few, h⟩ := h
      refine ⟨p, dx, _, _, rfl, by simp, by simp, ?_⟩
      refine ⟨_, _, rfl, ?_⟩
      refine dc_rel (α := Int) (fun s d => getK (ns.map .inl) l (.inl s) = some d) ns D.int (fun s => .inl s) ?_ (by omega) (nd_inl nd) (fun s hs J ks' l' hJ => ?_) (fun l' he => ?_)
      · rw [List.map_map]; rfl
      · obtain ⟨i, hi, e⟩ := List.getElem_of_mem hs
        obtain ⟨d, hd⟩ : ∃ d, l[i]? = some d := ⟨_, List.getElem?_eq_getElem (by omega)⟩
        have hg : getK (ns.map .inl) l (.inl s) = some d := get_at (nd_inl nd) (by rw [List.getElem?_map, List.getElem?_eq_getElem hi, e]; rfl) hd
        exact ⟨_, _, _, _, rfl, rfl, hg, _, rfl, rfl, hJ d hg⟩
      · have e : l' = l := by
          refine List.ext_getElem? fun i => ?_
          by_cases hi : i < ns.length
          · obtain ⟨d1, h1⟩ : ∃ d1, l'[i]? = some d1 := ⟨_, List.getElem?_eq_getElem (show i < l'.length by have := he.len; omega)⟩
            obtain ⟨d2, h2⟩ : ∃ d2, l[i]? = some d2 := ⟨_, List.getElem?_eq_getElem (show i < l.length by omega)⟩
            have h3 : ns[i]? = some ns[i] := List.getElem?_eq_getElem hi
            have a := he.all i _ _ h3 h1
            have b := get_at (ks := ns.map .inl) (k := .inl ns[i]) (nd_inl nd) (by rw [List.getElem?_map, h3]; rfl) h2
            rw [a] at b
            rw [h1, h2]
            exact b
          · rw [List.getElem?_eq_none (by have := he.len; omega), List.getElem?_eq_none (by omega)]
        rw [e]
        exact ⟨p, dx, _, _, rfl, by decide +kernel, by simp, _, _, rfl, h⟩)

abbrev s_Grade_bars : Stmt := inClass (topS 16) 2
theorem sc_Grade_bars : FnScope ["self", "rise", "far", "wanted", "sizes", "size"] ["self", "rise", "far", "wanted"] (defScope s_Grade_bars) := ⟨rfl, rfl, rfl, by decide +kernel, rfl, by decide +kernel, by decide +kernel⟩
theorem ok_Grade_bars {f : Addr} {fd : FuncData} (F : Fun K "bars" "Grade.bars" s_Grade_bars f fd) (T : TxtG w K mg cS) (G_nearest_line : Own P w K mg base "nearest_line" 4 ["rise", "sizes", "wanted"] pd_nearest_line) (G_is_less : Own P w K mg base "is_less" 1 ["one", "other"] pd_is_less) : FnOk P w K mg base CX0 5 f fd ["self", "rise", "far", "wanted"] (spD K (pd_bars cS)) :=
  fn_dz F sc_Grade_bars (fun A ds Ψ h => by
      obtain ⟨Q, W, c, r, ks, l, s, f, x, u, v, rfl, _⟩ := h; rfl) (fun A cdv Ar outer s H E hr =>
    (dss_cons (ds_asg (vs := [0, 1, 2, 3, 4, 5]) (de_ix (ixz hr.units) (de_fld T.cl T.na_against (de_var 0)) (de_var 1)) (dg_name (i := 4) sc_Grade_bars.nd rfl (Or.inl rfl)))
    (dss_cons (ds_if (PW.pt (dw_or (dt_cmp (opd_ne hr.units) (de_callB callD_len rfl T.mg_len (by decide +kernel) (da_cons (de_var 4) da_nil)) de_int) (dw_or1 (dt_not (dt_truth (de_callB (callD_all rfl) rfl T.mg_all (by decide +kernel) (da_cons (de_lc rfl sc_Grade_bars.nd (di_seq (de_var 4)) (blkOk_by (own := [("size", 5)]) (N := ["self", "rise", "far", "wanted", "sizes", "size"]) (sc := defScope s_Grade_bars) (by decide +kernel)) (fun _ _ _ _ _ => (dg_name (i := 5) sc_Grade_bars.nd rfl (Or.inl rfl))) (fun _ _ _ _ _ => dts_nil) (fun _ _ _ _ _ => (de_cmp (op_inZ hr.units) (de_var 5) (de_var 3) (by rfl)))) da_nil)) (by intro _; rfl))))))
      (dss_one (ds_ret de_bl))
      dss_nil)
    (dss_one (ds_ret (de_notT (de_own G_is_less (hr.mono (by decide)) rfl (da_cons (de_ix (ixd hr.units) (de_own G_nearest_line (hr.mono (by decide)) rfl (da_cons (de_var 1) (da_cons (de_var 4) (da_cons (de_var 3) da_nil)))) de_int) (da_cons (de_var 2) da_nil)))))))))
    (fun A ds Ψ h => by
      obtain ⟨Q, W, c, r, ks, l, s, f, x, u, v, rfl, g, hs, hget, hu, hv, F, h⟩ := h
      refine ⟨_, _, _, rfl, rfl, _, _, _, _, rfl, rfl, hget, ?_⟩
      refine ⟨rfl, rfl, _, rfl, iteF ⟨_, rfl, ?_⟩⟩
      refine lc_map0 (α := Wt) [u, v] (fun x => .int x.s) (fun x => .bl true) rfl (by simp) (fun x hx J acc hJ => ?_) ?_
      · have hm : x ∈ W := by
          rcases List.mem_cons.mp hx with e | e
          · rw [e]; exact hu
          · rw [List.mem_singleton.mp e]; exact hv
        refine ⟨_, _, _, rfl, rfl, rfl, ?_⟩
        rw [get_w g.nd hm]
        exact hJ
      refine ⟨[true, true], rfl, _, rfl, iteF ?_⟩
      refine ⟨Q, W, s, u, v, rfl, g, hs, hu, hv, fun c' f' hl F' hmin => ?_⟩
      refine ⟨_, rfl, f', f, rfl, F'.sm, F.sm, _, rfl, ?_⟩
      refine h _ ?_
      have key := F'.fv.lt g.pos F.fv
      rw [Bool.not_eq_true', decide_eq_false_iff_not, key]
      constructor
      · intro q B hB
        have := hmin B hB
        omega
      · intro q
        have := q c' hl.1
        omega)

abbrev s_Grade_shows : Stmt := inClass (topS 16) 1
theorem sc_Grade_shows : FnScope ["self", "wanted", "far", "rise"] ["self", "wanted"] (defScope s_Grade_shows) := ⟨rfl, rfl, rfl, by decide +kernel, rfl, by decide +kernel, by decide +kernel⟩
theorem ok_Grade_shows {f : Addr} {fd : FuncData} (F : Fun K "shows" "Grade.shows" s_Grade_shows f fd) (T : TxtG w K mg cS) (M_bars : MthD P w K mg base cS "bars" 5 ["self", "rise", "far", "wanted"] (pd_bars cS)) (G_check_wanted_measures : Own P w K mg base "check_wanted_measures" 3 ["wanted"] pd_check) (G_is_line : Own P w K mg base "is_line" 2 ["thing"] pd_is_line) (G_rises : Own P w K mg base "rises" 1 [] pd_rises) (G_farthest : Own P w K mg base "farthest" 3 ["line", "wanted"] pd_farthest) : FnOk P w K mg base CX0 6 f fd ["self", "wanted"] (spD K (pd_shows cS)) :=
  fn_dz F sc_Grade_shows (fun A ds Ψ h => by
      obtain ⟨Q, W, c, r, ks, l, rfl, _⟩ := h; rfl) (fun A cdv Ar outer s H E hr =>
    (dss_cons (ds_expr (de_own G_check_wanted_measures (hr.mono (by decide)) rfl (da_cons (de_var 1) da_nil)))
    (dss_cons (ds_if (PW.pt (dw_or (dt_not (dt_truth (de_own G_is_line (hr.mono (by decide)) rfl (da_cons (de_fld T.cl T.na_line (de_var 0)) da_nil)) (by intro _; rfl))) (dw_or1 (dt_cmp (opd_ne hr.units) (de_callB callD_lenZ rfl T.mg_len (by decide +kernel) (da_cons (de_fld T.cl T.na_against (de_var 0)) da_nil)) (de_callB callD_len rfl T.mg_len (by decide +kernel) (da_cons (de_own0 G_rises (hr.mono (by decide)) rfl) da_nil))))))
      (dss_one (ds_ret de_bl))
      dss_nil)
    (dss_cons (ds_asg (vs := [0, 1, 2, 3]) (de_ix (ixd hr.units) (de_own G_farthest (hr.mono (by decide)) rfl (da_cons (de_fld T.cl T.na_line (de_var 0)) (da_cons (de_var 1) da_nil))) de_int) (dg_name (i := 2) sc_Grade_shows.nd rfl (Or.inr rfl)))
    (dss_one (ds_ret (de_callB (callD_all rfl) rfl T.mg_all (by decide +kernel) (da_cons (de_lc rfl sc_Grade_shows.nd (di_seq (de_own0 G_rises (hr.mono (by decide)) rfl)) (blkOk_by (own := [("rise", 3)]) (N := ["self", "wanted", "far", "rise"]) (sc := defScope s_Grade_shows) (by decide +kernel)) (fun _ _ _ _ _ => (dg_name (i := 3) sc_Grade_shows.nd rfl (Or.inl rfl))) (fun _ _ _ _ _ => dts_nil) (fun _ _ _ _ _ => (de_andT (de_cmp (op_inZ hr.units) (de_var 3) (de_fld T.cl T.na_against (de_var 0)) (by rfl)) (de_one (de_meth M_bars T.cl (hr.mono (by decide)) (de_var 0) (da_cons (de_var 3) (da_cons (de_var 2) (da_cons (de_var 1) da_nil)))))))) da_nil))))))))
    (fun A ds Ψ h => by
      obtain ⟨Q, W, c, r, ks, l, rfl, g, hl, h⟩ := h
      refine ⟨Q, W, rfl, g, ?_⟩
      refine ⟨_, _, _, rfl, rfl, c, r, rfl, hl, _, rfl, iteF ?_⟩
      refine ⟨_, _, _, rfl, rfl, _, _, rfl, rfl, ?_⟩
      refine ⟨rfl, rfl, _, rfl, ?_⟩
      show if (!eqD (.int ks.length) (.int 19)) = true then _ else _
      rw [eqD_ii]
      rcases h with ⟨hn, h⟩ | ⟨outs, rfl, rfl, ok, h⟩
      · have e : (!((ks.length : Int) == 19)) = true := by
          rw [Bool.not_eq_true', beq_eq_false_iff_ne]
          omega
        exact iteEqX e (iteT h)
      refine iteEqX (c := false) (by decide +kernel) (iteF ?_)
      refine ⟨_, _, _, rfl, rfl, Q, W, c, r, rfl, g, hl, fun v hv hm => ?_⟩
      refine ⟨_, rfl, rfl, _, rfl, ?_⟩
      have F := g.far hv hl
      have most : Most Q c r W (dv Q c r v) := ⟨⟨v, hv, rfl⟩, fun u hu => (hm u hu).1⟩
      refine lc_rel (α := Nat × Int) (fun q d => ∃ b : Bool, d = .bl b ∧ (b = true ↔ ∀ p, outs[q.1]? = some p → Bars Q (dv Q c r v) q.2 p.1 p.2)) ((List.range 19).map fun i => (i, -9 + (i : Int))) (fun q => .int q.2) ?_ (by decide +kernel) (fun q hq J acc hJ => ?_) (fun acc he => ?_)
      · with_unfolding_all rfl
      · obtain ⟨i, hi, rfl⟩ := List.mem_map.mp hq
        have hi := List.mem_range.mp hi
        obtain ⟨p, hp⟩ : ∃ p, outs[i]? = some p := ⟨_, List.getElem?_eq_getElem (by rw [ok.len]; exact hi)⟩
        have hs : rsL[i]? = some (-9 + (i : Int)) := (show ∀ i : Nat, i < 19 → rsL[i]? = some (-9 + (i : Int)) by decide +kernel) i hi
        have hget := out_get hs hp
        have pm := ok.mem p (List.mem_of_getElem? hp)
        refine ⟨_, _, _, rfl, rfl, _, _, _, rfl, rfl, ?_⟩
        rw [hget]
        refine ⟨_, rfl, iteT ?_⟩
        refine ⟨_, _, rfl, by decide +kernel, Q, W, c, r, _, _, _, _, _, p.1, p.2, rfl, g, (rs_in hs).2, hget, pm.1, pm.2, F, fun b hb => ?_⟩
        refine ⟨rfl, hJ _ ⟨b, rfl, ?_⟩⟩
        rw [hb]
        constructor
        · intro z p' hp'
          have hp' : outs[i]? = some p' := hp'
          rw [hp] at hp'
          cases hp'
          exact z
        · intro z
          exact z p hp
      · obtain ⟨bs, rfl, hlb, hp⟩ := he.bools
        have at19 : ∀ i : Nat, i < 19 → ((List.range 19).map fun (i : Nat) => (i, -9 + (i : Int)))[i]? = some (i, -9 + (i : Int)) := fun i hi => by rw [List.getElem?_map, List.getElem?_range hi]; rfl
        refine ⟨bs, rfl, h _ most _ ?_⟩
        rw [List.all_eq_true]
        constructor
        · intro z i s p hs hpp
          obtain ⟨⟨hi, rfl⟩, _⟩ := rs_in hs
          obtain ⟨b, hb⟩ : ∃ b, bs[i]? = some b := ⟨_, List.getElem?_eq_getElem (by rw [hlb, List.length_map, List.length_range]; exact hi)⟩
          exact (hp i _ b (at19 i hi) hb).mp (z b (List.mem_of_getElem? hb)) p hpp
        · intro z b hb
          obtain ⟨i, hi, e⟩ := List.getElem_of_mem hb
          have hi19 : i < 19 := by rw [hlb, List.length_map, List.length_range] at hi; exact hi
          have hs : rsL[i]? = some (-9 + (i : Int)) := (show ∀ i : Nat, i < 19 → rsL[i]? = some (-9 + (i : Int)) by decide +kernel) i hi19
          exact (hp i _ b (at19 i hi19) (by rw [List.getElem?_eq_getElem hi, e])).mpr fun p hpp => z i _ p hs hpp)

abbrev s_grade : Stmt := topS 17
theorem sc_grade : FnScope ["wanted", "rise", "against", "best", "found"] ["wanted"] (defScope s_grade) := ⟨rfl, rfl, rfl, by decide +kernel, rfl, by decide +kernel, by decide +kernel⟩
theorem ok_grade {f : Addr} {fd : FuncData} (F : Fun K "grade" "grade" s_grade f fd) (T : TxtG w K mg cS) (G_check_wanted_measures : Own P w K mg base "check_wanted_measures" 3 ["wanted"] pd_check) (G_outer_sizes : Own P w K mg base "outer_sizes" 2 ["rise", "wanted"] pd_outer_sizes) (G_rises : Own P w K mg base "rises" 1 [] pd_rises) (G_nearest_line : Own P w K mg base "nearest_line" 4 ["rise", "sizes", "wanted"] pd_nearest_line) (G_is_less : Own P w K mg base "is_less" 1 ["one", "other"] pd_is_less) (MK_Grade : MkX P w K mg base "Grade" cS 1 ["self", "line", "against"] pd_Grade_init) : FnOk P w K mg base CX0 5 f fd ["wanted"] (spD K (pd_grade cS)) :=
  fn_dz F sc_grade (fun A ds Ψ h => by
      obtain ⟨Q, W, rfl, _⟩ := h; rfl) (fun A cdv Ar outer s H E hr =>
    (dss_cons (ds_expr (de_own G_check_wanted_measures (hr.mono (by decide)) rfl (da_cons (de_var 0) da_nil)))
    (dss_cons (ds_setDc (i := 2) rfl sc_grade.nd rfl rfl (sw_dict rfl rfl rfl (by decide +kernel)) (di_seq (de_own0 G_rises (hr.mono (by decide)) rfl)) (blkOk_by (own := [("rise", 1)]) (N := ["wanted", "rise", "against", "best", "found"]) (sc := defScope s_grade) (by decide +kernel)) (fun _ _ _ _ _ => (dg_name (i := 1) sc_grade.nd rfl (Or.inl rfl))) (fun _ _ _ _ _ => dts_nil) (fun _ _ _ _ _ => (de_var 1)) (fun _ _ _ _ _ => (de_own G_outer_sizes (hr.mono (by decide)) rfl (da_cons (de_var 1) (da_cons (de_var 0) da_nil)))))
    (dss_cons (ds_asg (vs := [0, 1, 2, 3, 4]) de_non (dg_name (i := 3) sc_grade.nd rfl (Or.inl rfl)))
    (dss_cons (ds_for (vs := [0, 1, 2, 3, 4]) PassesOwn.never rfl (di_seq (de_own0 G_rises (hr.mono (by decide)) rfl)) (dg_name (i := 1) sc_grade.nd rfl (Or.inl rfl))
      (dss_cons (ds_asg (vs := [0, 1, 2, 3, 4]) (de_own G_nearest_line (hr.mono (by decide)) rfl (da_cons (de_var 1) (da_cons (de_ix (ixz hr.units) (de_var 2) (de_var 1)) (da_cons (de_var 0) da_nil)))) (dg_name (i := 4) sc_grade.nd rfl (Or.inl rfl)))
      (dss_one (ds_if (PW.pt (dw_or (dt_cmp opd_is (de_var 3) de_non) (dw_or1 (dt_truth (de_own G_is_less (hr.mono (by decide)) rfl (da_cons (de_ix (ixd hr.units) (de_var 4) de_int) (da_cons (de_ix (ixd hr.units) (de_var 3) de_int) da_nil))) (by intro _; rfl)))))
        (dss_one (ds_asg (vs := [0, 1, 2, 3, 4]) (de_var 4) (dg_name (i := 3) sc_grade.nd rfl (Or.inl rfl))))
        dss_nil))))
    (dss_one (ds_ret (de_mkN MK_Grade (hr.mono (by decide)) rfl (da_cons (de_ix (ixd hr.units) (de_var 3) de_int) (da_cons (de_var 2) da_nil))))))))))
    (fun A ds Ψ h => by
      obtain ⟨Q, W, rfl, g, h⟩ := h
      refine ⟨Q, W, rfl, g, rfl, _, rfl, ?_⟩
      refine dc_rel (α := Int) (fun s d => ∃ p : Wt × Wt, d = szD p.1 p.2 ∧ p.1 ∈ W ∧ p.2 ∈ W ∧ Outer Q s W p.1 p.2) rsL D.int (fun s => .inl s) rfl (by decide +kernel) rs_nd (fun s hs J ks' l' hJ => ?_) (fun l he => ?_)
      · obtain ⟨i, hi, e⟩ := List.getElem_of_mem hs
        have hr := (rs_in (show rsL[i]? = some s by rw [List.getElem?_eq_getElem hi, e])).2
        exact ⟨Q, W, s, rfl, g, hr, fun u hu v hv ho => ⟨_, rfl, rfl, hJ _ ⟨(u, v), rfl, hu, hv, ho⟩⟩⟩
      obtain ⟨outs, rfl, hlen, ho⟩ := he.vals
      have ok : OutOk W outs := ⟨hlen, fun p hp => by
        obtain ⟨i, hi, e⟩ := List.getElem_of_mem hp
        have hi19 : i < 19 := by rw [hlen] at hi; exact hi
        have hs : rsL[i]? = some (-9 + (i : Int)) := (show ∀ i : Nat, i < 19 → rsL[i]? = some (-9 + (i : Int)) by decide +kernel) i hi19
        have := ho i _ p hs (by rw [List.getElem?_eq_getElem hi, e])
        exact ⟨this.1, this.2.1⟩⟩
      refine ⟨rfl, _, rfl, ?_⟩
      refine ⟨fun k e => ∃ x1 x4 bd, e = [.dat (wD W), x1, .dat (zD rsK (outL outs)), .dat bd, x4] ∧ ((k = 0 ∧ bd = .non) ∨ ∃ (c : Int) (i : Nat) (p : Wt × Wt) (f : Int × Int) (s : Int), rsL[i]? = some s ∧ outs[i]? = some p ∧ bd = .tup [lnD c s, frD f] ∧ LineOk c s ∧ Far Q f (wo Q c s p.1 p.2) ∧ ∀ (j : Nat) (s' : Int) (p' : Wt × Wt), j < k → rsL[j]? = some s' → outs[j]? = some p' → Bars Q (wo Q c s p.1 p.2) s' p'.1 p'.2), ⟨_, _, _, rfl, .inl ⟨rfl, rfl⟩⟩, ?_, ?_⟩
      · rintro k x e hx ⟨x1, x4, bd, rfl, hI⟩
        rw [List.getElem?_map] at hx
        cases hk : rsL[k]? with
        | none => rw [hk] at hx; cases hx
        | some s =>
          rw [hk] at hx
          obtain rfl : D.int s = x := Option.some.inj hx
          obtain ⟨⟨hk19, _⟩, hsr⟩ := rs_in hk
          obtain ⟨p, hp⟩ : ∃ p, outs[k]? = some p := ⟨_, List.getElem?_eq_getElem (show k < outs.length by rw [hlen]; exact hk19)⟩
          obtain ⟨pu, pv, po⟩ := ho k s p hk hp
          refine ⟨_, _, _, _, rfl, rfl, out_get hk hp, Q, W, s, p.1, p.2, rfl, g, hsr, pu, pv, fun c f hl F hmin => ?_⟩
          have put : ∀ bd', (∃ (c : Int) (i : Nat) (p : Wt × Wt) (f : Int × Int) (s : Int), rsL[i]? = some s ∧ outs[i]? = some p ∧ bd' = .tup [lnD c s, frD f] ∧ LineOk c s ∧ Far Q f (wo Q c s p.1 p.2) ∧ ∀ (j : Nat) (s' : Int) (p' : Wt × Wt), j < k + 1 → rsL[j]? = some s' → outs[j]? = some p' → Bars Q (wo Q c s p.1 p.2) s' p'.1 p'.2) →
              ∃ x1 x4 bd, [EV.dat (wD W), .dat (.int s), .dat (zD rsK (outL outs)), .dat bd', .dat (.tup [lnD c s, frD f])] = [.dat (wD W), x1, .dat (zD rsK (outL outs)), .dat bd, x4] ∧ ((k + 1 = 0 ∧ bd = .non) ∨ ∃ (c : Int) (i : Nat) (p : Wt × Wt) (f : Int × Int) (s : Int), rsL[i]? = some s ∧ outs[i]? = some p ∧ bd = .tup [lnD c s, frD f] ∧ LineOk c s ∧ Far Q f (wo Q c s p.1 p.2) ∧ ∀ (j : Nat) (s' : Int) (p' : Wt × Wt), j < k + 1 → rsL[j]? = some s' → outs[j]? = some p' → Bars Q (wo Q c s p.1 p.2) s' p'.1 p'.2) := fun bd' z => ⟨_, _, _, rfl, .inr z⟩
          have mine : ∀ (j : Nat) (s' : Int) (p' : Wt × Wt), j = k → rsL[j]? = some s' → outs[j]? = some p' → Bars Q (wo Q c s p.1 p.2) s' p'.1 p'.2 := fun j s' p' e h1 h2 => by
            subst e
            rw [hk] at h1
            rw [hp] at h2
            cases h1
            cases h2
            exact hmin
          rcases hI with ⟨rfl, rfl⟩ | ⟨c0, i0, p0, f0, s0, e1, e2, rfl, hl0, F0, hb0⟩
          · refine ⟨rfl, _, rfl, iteT (put _ ⟨c, 0, p, f, s, hk, hp, rfl, hl, F, fun j s' p' hj h1 h2 => mine j s' p' (by omega) h1 h2⟩)⟩
          · refine ⟨rfl, _, rfl, iteF ⟨_, rfl, _, rfl, f, f0, rfl, F.sm, F0.sm, _, rfl, iteB (fun z => ?_) (fun z => ?_)⟩⟩
            · have lt := (F.fv.lt g.pos F0.fv).mp (of_decide_eq_true z)
              refine put _ ⟨c, k, p, f, s, hk, hp, rfl, hl, F, fun j s' p' hj h1 h2 => ?_⟩
              by_cases q : j = k
              · exact mine j s' p' q h1 h2
              · intro B hB
                have := hb0 j s' p' (by omega) h1 h2 B hB
                omega
            · have ge : ¬ wo Q c s p.1 p.2 < wo Q c0 s0 p0.1 p0.2 := fun q => of_decide_eq_false z ((F.fv.lt g.pos F0.fv).mpr q)
              refine put _ ⟨c0, i0, p0, f0, s0, e1, e2, rfl, hl0, F0, fun j s' p' hj h1 h2 => ?_⟩
              by_cases q : j = k
              · intro B hB
                have := mine j s' p' q h1 h2 B hB
                omega
              · exact hb0 j s' p' (by omega) h1 h2
      · rintro e ⟨x1, x4, bd, rfl, hI⟩
        rcases hI with ⟨z, _⟩ | ⟨c, i, p, f, s, e1, e2, rfl, hl, F, hb⟩
        · exact absurd z (by decide +kernel)
        · have told : Told Q W c s outs := ⟨hl, ok, fun i s p h1 h2 => (ho i s p h1 h2).2.2, i, p, e1, e2, fun j s' p' h1 h2 => hb j s' p' (rs_in h1).1.1 h1 h2⟩
          exact ⟨_, rfl, c, s, rsL, _, rfl, by decide +kernel, by rw [show (outL outs).length = outs.length from List.length_map _, hlen], by decide +kernel, h c s outs told⟩)

theorem ok_gradeX {f : Addr} {fd : FuncData} (F : Fun K "grade" "grade" s_grade f fd) (T : TxtG w K mg cS) (GX_check_wanted_measures : OwnX P w K mg base "check_wanted_measures" 3 ["wanted"] (pd_checkX P w cT)) (G_outer_sizes : Own P w K mg base "outer_sizes" 2 ["rise", "wanted"] pd_outer_sizes) (G_rises : Own P w K mg base "rises" 1 [] pd_rises) (G_nearest_line : Own P w K mg base "nearest_line" 4 ["rise", "sizes", "wanted"] pd_nearest_line) (G_is_less : Own P w K mg base "is_less" 1 ["one", "other"] pd_is_less) (MK_Grade : MkX P w K mg base "Grade" cS 1 ["self", "line", "against"] pd_Grade_init) : FnOk P w K mg base (L2.CX P w) 5 f fd ["wanted"] (spX K (pd_gradeX P w cT)) :=
  fn_dzx F sc_grade (fun A ds Ψ Ξ h => by
      obtain ⟨d, rfl, _⟩ := h; rfl) (fun A Ξ cdv Ar outer s H E hr tk =>
    (dss_cons (ds_expr (de_ownX GX_check_wanted_measures tk (hr.mono (by decide)) rfl (da_cons (de_var 0) da_nil)))
    (dss_cons (ds_setDc (i := 2) rfl sc_grade.nd rfl rfl (sw_dict rfl rfl rfl (by decide +kernel)) (di_seq (de_own0 G_rises (hr.mono (by decide)) rfl)) (blkOk_by (own := [("rise", 1)]) (N := ["wanted", "rise", "against", "best", "found"]) (sc := defScope s_grade) (by decide +kernel)) (fun _ _ _ _ _ => (dg_name (i := 1) sc_grade.nd rfl (Or.inl rfl))) (fun _ _ _ _ _ => dts_nil) (fun _ _ _ _ _ => (de_var 1)) (fun _ _ _ _ _ => (de_own G_outer_sizes (hr.mono (by decide)) rfl (da_cons (de_var 1) (da_cons (de_var 0) da_nil)))))
    (dss_cons (ds_asg (vs := [0, 1, 2, 3, 4]) de_non (dg_name (i := 3) sc_grade.nd rfl (Or.inl rfl)))
    (dss_cons (ds_for (vs := [0, 1, 2, 3, 4]) (passes_of rfl) rfl (di_seq (de_own0 G_rises (hr.mono (by decide)) rfl)) (dg_name (i := 1) sc_grade.nd rfl (Or.inl rfl))
      (dss_cons (ds_asg (vs := [0, 1, 2, 3, 4]) (de_own G_nearest_line (hr.mono (by decide)) rfl (da_cons (de_var 1) (da_cons (de_ix (ixz hr.units) (de_var 2) (de_var 1)) (da_cons (de_var 0) da_nil)))) (dg_name (i := 4) sc_grade.nd rfl (Or.inl rfl)))
      (dss_one (ds_if (PW.pt (dw_or (dt_cmp opd_is (de_var 3) de_non) (dw_or1 (dt_truth (de_own G_is_less (hr.mono (by decide)) rfl (da_cons (de_ix (ixd hr.units) (de_var 4) de_int) (da_cons (de_ix (ixd hr.units) (de_var 3) de_int) da_nil))) (by intro _; rfl)))))
        (dss_one (ds_asg (vs := [0, 1, 2, 3, 4]) (de_var 4) (dg_name (i := 3) sc_grade.nd rfl (Or.inl rfl))))
        dss_nil))))
    (dss_one (ds_ret (de_mkX MK_Grade tk (hr.mono (by decide)) rfl (da_cons (de_ix (ixd hr.units) (de_var 3) de_int) (da_cons (de_var 2) da_nil))))))))))
    (fun A ds Ψ Ξ h => by
      obtain ⟨d, rfl, hb, hx⟩ := h
      exact ⟨d, rfl, hb, hx⟩)

end
end K73

namespace Dz
open PySem PySem.Spec PyProof.Rows L2
/-! ### two sorted arrangements of the same texts are one -/
theorem cps_trans : ∀ (a b c : List Nat), ltCps b a = false → ltCps c b = false → ltCps c a = false
  | [], _, [], _, _ => rfl
  | [], _, _ :: _, _, _ => rfl
  | x :: a, [], c, h1, _ => by simp [ltCps] at h1
  | x :: a, y :: b, [], _, h2 => by simp [ltCps] at h2
  | x :: a, y :: b, z :: c, h1, h2 => by
    simp only [ltCps, Bool.or_eq_false_iff, decide_eq_false_iff_not, Bool.and_eq_false_iff, beq_eq_false_iff_ne] at h1 h2 ⊢
    refine ⟨by omega, ?_⟩
    by_cases h : z = x
    · refine .inr ?_
      have e1 : y = x := by omega
      have e2 : z = y := by omega
      rcases h1.2 with q | q
      · exact absurd e1 q
      · rcases h2.2 with q' | q'
        · exact absurd e2 q'
        · exact cps_trans a b c q q'
    · exact .inl h
theorem cps_anti : ∀ (a b : List Nat), ltCps a b = false → ltCps b a = false → a = b
  | [], [], _, _ => rfl
  | [], _ :: _, h, _ => by simp [ltCps] at h
  | _ :: _, [], _, h => by simp [ltCps] at h
  | x :: a, y :: b, h1, h2 => by
    simp only [ltCps, Bool.or_eq_false_iff, decide_eq_false_iff_not, Bool.and_eq_false_iff, beq_eq_false_iff_ne] at h1 h2
    have e : x = y := by omega
    subst e
    rcases h1.2 with q | q
    · exact absurd rfl q
    · rcases h2.2 with q' | q'
      · exact absurd rfl q'
      · rw [cps_anti a b q q']
def leS (a b : Str) : Prop := ltCps b.cps.toList a.cps.toList = false
theorem leS_anti {a b : Str} (h1 : leS a b) (h2 : leS b a) : a = b := by
  have e := cps_anti _ _ h2 h1
  cases a; cases b
  simp only at e
  congr
  exact Array.toList_inj.mp e
theorem rising_pw : ∀ {l : List Str} {p : Str}, risingS p l = true → (p :: l).Pairwise leS
  | [], p, _ => List.pairwise_singleton _ _
  | x :: r, p, h => by
    have h : (!ltCps x.cps.toList p.cps.toList && risingS x r) = true := h
    rw [Bool.and_eq_true, Bool.not_eq_true'] at h
    have ih := rising_pw h.2
    refine List.pairwise_cons.mpr ⟨fun y hy => ?_, ih⟩
    rcases List.mem_cons.mp hy with e | hy
    · rw [e]; exact h.1
    · exact cps_trans _ _ _ h.1 ((List.pairwise_cons.mp ih).1 y hy)
theorem sorted_pw : ∀ {l : List Str}, sortedS l = true → l.Pairwise leS
  | [], _ => List.Pairwise.nil
  | _ :: _, h => rising_pw h
theorem pw_unique : ∀ {l m : List Str}, l.Perm m → l.Pairwise leS → m.Pairwise leS → l = m
  | [], m, p, _, _ => (List.Perm.nil_eq p)
  | x :: l, [], p, _, _ => absurd p.length_eq (by simp)
  | x :: l, y :: m, p, h1, h2 => by
    have e : x = y := by
      have hx : x ∈ y :: m := p.mem_iff.mp List.mem_cons_self
      have hy : y ∈ x :: l := p.mem_iff.mpr List.mem_cons_self
      rcases List.mem_cons.mp hx with e | hx
      · exact e
      · rcases List.mem_cons.mp hy with e | hy
        · exact e.symm
        · exact leS_anti ((List.pairwise_cons.mp h1).1 y hy) ((List.pairwise_cons.mp h2).1 x hx)
    subst e
    rw [pw_unique (List.Perm.cons_inv p) (List.pairwise_cons.mp h1).2 (List.pairwise_cons.mp h2).2]
theorem sorted_unique {l m n : List Str} (h1 : l.Perm n) (h2 : m.Perm n) (s1 : sortedS l = true) (s2 : sortedS m = true) : l = m := pw_unique (h1.trans h2.symm) (sorted_pw s1) (sorted_pw s2)
/-! ### equal to itself -/
mutual
theorem eqD_refl : ∀ (n : Nat) (d : D), plD n d = true → eqD d d = true
  | _, .non, _ => by unfold eqD; rfl
  | _, .bl b, _ => by unfold eqD; exact beq_self_eq_true b
  | _, .int b, _ => by unfold eqD; exact beq_self_eq_true b
  | _, .str b, _ => by unfold eqD; exact beq_self_eq_true b
  | n, .tup l, h => by
    obtain ⟨m, _, h⟩ := pl_tup h
    unfold eqD
    exact eqL_refl m l h
  | n, .lst l, h => by
    obtain ⟨m, _, h⟩ := pl_lst h
    unfold eqD
    exact eqL_refl m l h
  | n, .fro l, h => by
    obtain ⟨m, _, h⟩ := pl_fro h
    unfold eqD
    exact eqL_refl m l h
  | _, .dct _ _, h => by unfold plD at h; cases h
  | _, .ins _ _ _, h => by unfold plD at h; cases h
  | _, .tok _, h => by unfold plD at h; cases h
  | _, .ty _, h => by unfold plD at h; cases h
theorem eqL_refl : ∀ (n : Nat) (l : List D), plL n l = true → eqL l l = true
  | _, [], _ => by unfold eqL; rfl
  | n, x :: l, h => by
    unfold plL at h
    rw [Bool.and_eq_true] at h
    unfold eqL
    rw [eqD_refl n x h.1, eqL_refl n l h.2]; rfl
end
theorem plL_strs {n : Nat} : ∀ {zs : List Str}, (∀ z ∈ zs, PyData.strOk z = true) → plL n (zs.map D.str) = true
  | [], _ => by unfold plL; rfl
  | z :: r, h => by
    rw [List.map_cons]
    unfold plL plD
    rw [h z List.mem_cons_self, plL_strs fun y hy => h y (List.mem_cons_of_mem _ hy)]; rfl
theorem pl_lst_strs {n : Nat} {zs : List Str} (h : ∀ z ∈ zs, PyData.strOk z = true) : plD (n + 1) (.lst (zs.map D.str)) = true := by
  unfold plD
  exact plL_strs h
end Dz

namespace K73
open PySem PySem.Spec PyProof.Rows L2 Dz X73
abbrev pd_law_number : PD := pdNumber
abbrev pd_law_take : PD := pdTake
def Bd (f : Int × Int) : Prop := (0 ≤ f.1 ∧ f.1 ≤ 91000000) ∧ (1 ≤ f.2 ∧ f.2 ≤ 10000)
theorem Bd.sm {f : Int × Int} (h : Bd f) : Sm f.1 ∧ Sm f.2 := by
  unfold Bd at h
  unfold Sm
  omega
def pd_law_far : PD := fun _ ds Φ => ∃ Q W b r, ds = [lnD b r, wD W] ∧ GoodW Q W ∧ LineOk b r ∧ ∀ f x, FV Q f x → Bd f → Most Q b r W x → ((x = 0 ∧ f = (0, 1)) ∨ ∃ v ∈ W, f = (gap b r v, v.q) ∧ x = dv Q b r v ∧ 0 < x) → Φ (frD f)
def pd_law_less : PD := pd_is_less
def pd_law_least : PD := fun _ ds Φ => ∃ Q W r, ds = [wD W, .int r] ∧ GoodW Q W ∧ (-9 ≤ r ∧ r ≤ 9) ∧ ∀ f x B, FV Q f x → Bd f → (-99 ≤ B ∧ B ≤ 99) → Most Q B r W x → Φ (frD f)
theorem GoodW.bd {Q : Int} {W : List Wt} (g : GoodW Q W) {v : Wt} (h : v ∈ W) {b r : Int} (hl : LineOk b r) : Bd (gap b r v, v.q) := by
  obtain ⟨_, _, _, b4⟩ := line_bd hl (g.ok v h)
  have := (g.ok v h).2.2
  exact ⟨b4, this⟩
section
variable {P : Program} {w : World} {K : PySem.W.Frag} {mg : Str → Option Value} {base : Heap} {cS cT : Addr}
abbrev s_law_number : Stmt := topS 29
theorem sc_law_number : FnScope ["script", "index", "cell", "blend"] ["script", "index"] (defScope s_law_number) := ⟨rfl, rfl, rfl, by decide +kernel, rfl, by decide +kernel, by decide +kernel⟩
theorem ok_law_number {f : Addr} {fd : FuncData} (F : Fun K "_law_number" "_law_number" s_law_number f fd) (T : TxtG w K mg cS)  : FnOk P w K mg base CX0 1 f fd ["script", "index"] (spD K pd_law_number) :=
  fn_dz F sc_law_number (fun A ds Ψ h => by
      obtain ⟨ns, i, rfl, _⟩ := h; rfl) (fun A cdv Ar outer s H E hr =>
    (dss_cons (ds_if (dt_cmp (opd_eq hr.units) (de_var 0) (de_lst da_nil))
      (dss_one (ds_ret (de_callTy callD_int rfl T.mg_int (by decide +kernel) (da_cons (de_op opd_mod (de_op opd_add (de_op opd_mul (de_var 1) de_int) de_int) de_int) da_nil))))
      dss_nil)
    (dss_cons (ds_asg (vs := [0, 1, 2, 3]) (de_ix (ixd hr.units) (de_var 0) (de_op opd_mod (de_var 1) (de_callB callD_len rfl T.mg_len (by decide +kernel) (da_cons (de_var 0) da_nil)))) (dg_name (i := 2) sc_law_number.nd rfl (Or.inl rfl)))
    (dss_cons (ds_if (dt_cmp opd_ge (de_callB callD_abs rfl T.mg_abs (by decide +kernel) (da_cons (de_var 2) da_nil)) (de_op opd_pow de_int de_int))
      (dss_one (ds_asg (vs := [0, 1, 2, 3]) (de_op opd_mod (de_var 2) (de_op opd_pow de_int de_int)) (dg_name (i := 2) sc_law_number.nd rfl (Or.inl rfl))))
      dss_nil)
    (dss_cons (ds_asg (vs := [0, 1, 2, 3]) (de_op opd_mod (de_op opd_add (de_op opd_mul (de_op opd_add (de_var 2) (de_op opd_mul de_int (de_var 1))) de_int) (de_op opd_mul de_int (de_callB callD_len rfl T.mg_len (by decide +kernel) (da_cons (de_var 0) da_nil)))) de_int) (dg_name (i := 3) sc_law_number.nd rfl (Or.inl rfl)))
    (dss_one (ds_ret (de_callTy callD_int rfl T.mg_int (by decide +kernel) (da_cons (de_op opd_mod (de_op opd_add (de_op opd_mul (de_op opd_mod (de_op opd_mul (de_var 3) de_int) de_int) de_int) (de_var 1)) de_int) da_nil)))))))))
    (fun A ds Ψ h => by
      obtain ⟨ns, i, rfl, hl, h⟩ := h
      refine ⟨Nat.zero_le _, pl_fro_ints 11 ns, rfl, _, rfl, ?_⟩
      cases ns with
      | nil => exact iteT ⟨.inr ⟨by decide, by decide⟩, by decide, h _ (Int.emod_nonneg _ (by decide))⟩
      | cons n r =>
        refine iteF ⟨?_, ?_⟩
        · show (0 : Int) < (((n :: r).map D.int).length : Nat)
          simp only [List.length_map, List.length_cons]
          omega
        · have hpos : (0 : Int) < (((n :: r).map D.int).length : Nat) := by
            simp only [List.length_map, List.length_cons]
            omega
          obtain ⟨d, hd, e⟩ := atI_in (l := (n :: r).map D.int) (Int.emod_nonneg i (Int.ne_of_gt hpos)) (Int.emod_lt_of_pos i hpos)
          obtain ⟨c, _, rfl⟩ := List.mem_map.mp hd
          refine ⟨_, e, ⟨by decide, by decide, by decide⟩, _, rfl, ?_⟩
          refine ite2 (fun _ => ⟨⟨by decide, by decide, by decide⟩, by decide, ?_⟩) (fun _ => ?_)
          all_goals exact ⟨.inl ⟨by decide, by decide⟩, .inr ⟨by decide, by decide⟩, .inl ⟨by decide, by decide⟩, by decide, .inr ⟨by decide, by decide⟩, by decide, .inr ⟨by decide, by decide⟩, by decide, h _ (Int.emod_nonneg _ (by decide))⟩)

abbrev s_law_take : Stmt := topS 30
theorem sc_law_take : FnScope ["draw", "many"] ["draw", "many"] (defScope s_law_take) := ⟨rfl, rfl, rfl, by decide +kernel, rfl, by decide +kernel, by decide +kernel⟩
theorem ok_law_take {f : Addr} {fd : FuncData} (F : Fun K "_law_take" "_law_take" s_law_take f fd) (T : TxtG w K mg cS) (G_law_number : Own P w K mg base "_law_number" 1 ["script", "index"] pdNumber) : FnOk P w K mg base CX0 2 f fd ["draw", "many"] (spD K pdTake) :=
  fn_dz F sc_law_take (fun A ds Ψ h => by
      obtain ⟨p, ns, m, rfl, _⟩ := h; rfl) (fun A cdv Ar outer s H E hr =>
    (dss_cons (ds_drawInc 0)
    (dss_one (ds_ret (de_op opd_mod (de_callTy callD_int rfl T.mg_int (by decide +kernel) (da_cons (de_own G_law_number (hr.mono (by decide)) rfl (da_cons (de_drawIx 0) (da_cons (de_callTy callD_int rfl T.mg_int (by decide +kernel) (da_cons (de_drawIx 0) da_nil)) da_nil))) da_nil)) (de_var 1))))))
    (fun A ds Ψ h => by
      obtain ⟨p, ns, m, rfl, d, hm, h⟩ := h
      exact ⟨p, ns, rfl, d, p, ns, rfl, d, .inl ⟨rfl, p, ns, rfl, d, .inr ⟨rfl, fun n => ⟨ns, n, rfl, d.few, fun r hr => ⟨hm, h _ (Int.emod_nonneg r (Int.ne_of_gt hm)) (Int.emod_lt_of_pos r hm)⟩⟩⟩⟩⟩)

abbrev s_law_far : Stmt := topS 32
theorem sc_law_far : FnScope ["line", "wanted", "best", "size", "told", "far"] ["line", "wanted"] (defScope s_law_far) := ⟨rfl, rfl, rfl, by decide +kernel, rfl, by decide +kernel, by decide +kernel⟩
theorem ok_law_far {f : Addr} {fd : FuncData} (F : Fun K "_law_far" "_law_far" s_law_far f fd) (T : TxtG w K mg cS)  : FnOk P w K mg base CX0 1 f fd ["line", "wanted"] (spD K pd_law_far) :=
  fn_dz F sc_law_far (fun A ds Ψ h => by
      obtain ⟨Q, W, b, r, rfl, _⟩ := h; rfl) (fun A cdv Ar outer s H E hr =>
    (dss_cons (ds_asg (vs := [0, 1, 2, 3, 4, 5]) (de_tup (da_cons de_int (da_cons de_int da_nil))) (dg_name (i := 2) sc_law_far.nd rfl (Or.inl rfl)))
    (dss_cons (ds_for (vs := [0, 1, 2, 3, 4, 5]) PassesOwn.never rfl (di_items (de_var 1)) (dg_tup (n := 2) rfl (dgs_cons (dg_name (i := 3) sc_law_far.nd rfl (Or.inl rfl)) (dgs_cons (dg_name (i := 4) sc_law_far.nd rfl (Or.inl rfl)) dgs_nil)))
      (dss_cons (ds_asg (vs := [0, 1, 2, 3, 4, 5]) (de_tup (da_cons (de_callB callD_abs rfl T.mg_abs (by decide +kernel) (da_cons (de_op opd_sub (de_op opd_mulT (de_op opd_add (de_ix (ixd hr.units) (de_var 0) de_int) (de_op opd_mulT (de_ix (ixd hr.units) (de_var 0) de_int) (de_var 3))) (de_ix (ixd hr.units) (de_var 4) de_int)) (de_ix (ixd hr.units) (de_var 4) de_int)) da_nil)) (da_cons (de_ix (ixd hr.units) (de_var 4) de_int) da_nil))) (dg_name (i := 5) sc_law_far.nd rfl (Or.inl rfl)))
      (dss_one (ds_asg (vs := [0, 1, 2, 3, 4, 5]) (de_if (dt_cmp opd_gt (de_op opd_mulT (de_ix (ixd hr.units) (de_var 5) de_int) (de_ix (ixd hr.units) (de_var 2) de_int)) (de_op opd_mulT (de_ix (ixd hr.units) (de_var 2) de_int) (de_ix (ixd hr.units) (de_var 5) de_int))) (de_var 5) (de_var 2)) (dg_name (i := 2) sc_law_far.nd rfl (Or.inl rfl))))))
    (dss_one (ds_ret (de_var 2))))))
    (fun A ds Ψ h => by
      obtain ⟨Q, W, b, r, rfl, g, hl, h⟩ := h
      refine ⟨Nat.le_of_ble_eq_true rfl, _, _, rfl, ?_⟩
      rw [items_w]
      refine ⟨fun k e => ∃ x3 x4 x5 f x, e = [.dat (lnD b r), .dat (wD W), .dat (frD f), x3, x4, x5] ∧ FV Q f x ∧ Bd f ∧ ((x = 0 ∧ f = (0, 1)) ∨ ∃ v ∈ W, f = (gap b r v, v.q) ∧ x = dv Q b r v ∧ 0 < x) ∧ 0 ≤ x ∧ ∀ j v, j < k → W[j]? = some v → dv Q b r v ≤ x, ⟨_, _, _, (0, 1), 0, rfl, ⟨by decide, Q, by show Q = 1 * Q; omega, by show (0 : Int) = 0 * Q; omega⟩, by unfold Bd; decide, .inl ⟨rfl, rfl⟩, by decide, fun j v hj => absurd hj (Nat.not_lt_zero j)⟩, ?_, ?_⟩
      · rintro k x e hx ⟨x3, x4, x5, f, y, rfl, fv, bd, hy, hy0, hI⟩
        rw [List.getElem?_map] at hx
        cases hk : W[k]? with
        | none => rw [hk] at hx; cases hx
        | some v =>
          rw [hk] at hx
          obtain rfl : D.tup [.int v.s, mD v] = x := Option.some.inj hx
          have hv := List.mem_of_getElem? hk
          obtain ⟨b1, b2, b3, b4⟩ := line_bd hl (g.ok v hv)
          have gv := g.bd hv hl
          have gf := g.fv hv b r
          refine ⟨rfl, rfl, ?_⟩
          refine ⟨_, rfl, _, rfl, .inr ⟨.inl ⟨by have := hl.2; omega, by have := hl.2; omega⟩, _, rfl, .inr ⟨.inl ⟨by omega, by omega⟩, _, rfl, _, rfl, Nat.le_of_ble_eq_true rfl, ?_⟩⟩⟩
          refine ⟨_, rfl, _, rfl, .inr ⟨.inl ⟨by have := gv.1; show -(2 ^ 64) < gap b r v; omega, by have := gv.1; show gap b r v < 2 ^ 64; omega⟩, _, rfl, _, rfl, .inr ⟨.inl ⟨by have := bd.1; omega, by have := bd.1; omega⟩, _, rfl, ?_⟩⟩⟩
          have key := fv.lt g.pos gf
          refine iteB (fun z => ?_) (fun z => ?_)
          · have lt := key.mp (of_decide_eq_true z)
            refine ⟨_, _, _, (gap b r v, v.q), dv Q b r v, rfl, gf, gv, .inr ⟨v, hv, rfl, rfl, by omega⟩, by omega, fun j u hj hu => ?_⟩
            by_cases q : j = k
            · subst q; rw [hk] at hu; cases hu; exact Int.le_refl _
            · have := hI j u (by omega) hu; omega
          · have ge : ¬ y < dv Q b r v := fun q => of_decide_eq_false z (key.mpr q)
            refine ⟨_, _, _, f, y, rfl, fv, bd, hy, hy0, fun j u hj hu => ?_⟩
            by_cases q : j = k
            · subst q; rw [hk] at hu; cases hu; omega
            · exact hI j u (by omega) hu
      · rintro e ⟨x3, x4, x5, f, y, rfl, fv, bd, hy, hy0, hI⟩
        refine h f y fv bd ⟨?_, fun v hv => ?_⟩ hy
        · rcases hy with ⟨rfl, _⟩ | ⟨v, hv, _, e, _⟩
          · obtain ⟨v, hv⟩ := List.exists_mem_of_ne_nil W g.ne
            obtain ⟨i, hi, e⟩ := List.getElem_of_mem hv
            have := hI i v (by rw [List.length_map]; exact hi) (by rw [List.getElem?_eq_getElem hi, e])
            have := dv_nn Q b r v
            exact ⟨v, hv, by omega⟩
          · exact ⟨v, hv, e⟩
        · obtain ⟨i, hi, e⟩ := List.getElem_of_mem hv
          exact hI i v (by rw [List.length_map]; exact hi) (by rw [List.getElem?_eq_getElem hi, e]))

abbrev s_law_less : Stmt := topS 33
theorem sc_law_less : FnScope ["one", "other"] ["one", "other"] (defScope s_law_less) := ⟨rfl, rfl, rfl, by decide +kernel, rfl, by decide +kernel, by decide +kernel⟩
theorem ok_law_less {f : Addr} {fd : FuncData} (F : Fun K "_law_less" "_law_less" s_law_less f fd) (T : TxtG w K mg cS)  : FnOk P w K mg base CX0 1 f fd ["one", "other"] (spD K pd_law_less) :=
  fn_dz F sc_law_less (fun A ds Ψ h => by
      obtain ⟨f, g, rfl, _⟩ := h; rfl) (fun A cdv Ar outer s H E hr =>
    (dss_one (ds_ret (de_cmp opd_lt (de_op opd_mulT (de_ix (ixd hr.units) (de_var 0) de_int) (de_ix (ixd hr.units) (de_var 1) de_int)) (de_op opd_mulT (de_ix (ixd hr.units) (de_var 1) de_int) (de_ix (ixd hr.units) (de_var 0) de_int))))))
    (fun A ds Ψ h => by
      obtain ⟨f, g, rfl, ⟨h1, h2⟩, ⟨h3, h4⟩, h⟩ := h
      have lim : ∀ {x : Int}, Sm x → -(2 ^ 64) < x ∧ x < 2 ^ 64 := fun z => ⟨by have := z.1; omega, by have := z.2; omega⟩
      exact ⟨_, rfl, _, rfl, .inr ⟨.inl (lim h1), _, rfl, _, rfl, .inr ⟨.inl (lim h3), h⟩⟩⟩)

abbrev s_law_least : Stmt := topS 34
theorem sc_law_least : FnScope ["wanted", "rise", "best", "base", "far"] ["wanted", "rise"] (defScope s_law_least) := ⟨rfl, rfl, rfl, by decide +kernel, rfl, by decide +kernel, by decide +kernel⟩
theorem ok_law_least {f : Addr} {fd : FuncData} (F : Fun K "_law_least" "_law_least" s_law_least f fd) (T : TxtG w K mg cS) (G_law_far : Own P w K mg base "_law_far" 1 ["line", "wanted"] pd_law_far) (G_law_less : Own P w K mg base "_law_less" 1 ["one", "other"] pd_law_less) : FnOk P w K mg base CX0 2 f fd ["wanted", "rise"] (spD K pd_law_least) :=
  fn_dz F sc_law_least (fun A ds Ψ h => by
      obtain ⟨Q, W, r, rfl, _⟩ := h; rfl) (fun A cdv Ar outer s H E hr =>
    (dss_cons (ds_asg (vs := [0, 1, 2, 3, 4]) de_non (dg_name (i := 2) sc_law_least.nd rfl (Or.inl rfl)))
    (dss_cons (ds_for (vs := [0, 1, 2, 3, 4]) PassesOwn.never rfl (di_rng2 rfl T.mg_range (da_cons (de_un und_neg de_int) (da_cons de_int da_nil))) (dg_name (i := 3) sc_law_least.nd rfl (Or.inl rfl))
      (dss_cons (ds_asg (vs := [0, 1, 2, 3, 4]) (de_own G_law_far (hr.mono (by decide)) rfl (da_cons (de_tup (da_cons (de_var 3) (da_cons (de_var 1) da_nil))) (da_cons (de_var 0) da_nil))) (dg_name (i := 4) sc_law_least.nd rfl (Or.inl rfl)))
      (dss_one (ds_asg (vs := [0, 1, 2, 3, 4]) (de_if (PW.pt (dw_or (dt_cmp opd_is (de_var 2) de_non) (dw_or1 (dt_truth (de_own G_law_less (hr.mono (by decide)) rfl (da_cons (de_var 4) (da_cons (de_var 2) da_nil))) (by intro _; rfl))))) (de_var 4) (de_var 2)) (dg_name (i := 2) sc_law_least.nd rfl (Or.inl rfl))))))
    (dss_one (ds_ret (de_var 2))))))
    (fun A ds Ψ h => by
      obtain ⟨Q, W, r, rfl, g, hr, h⟩ := h
      refine ⟨_, _, rfl, ⟨by decide, by decide, by decide, by decide⟩, ?_⟩
      refine ⟨fun k e => ∃ x3 x4 bd, e = [.dat (wD W), .dat (.int r), .dat bd, x3, x4] ∧ ((k = 0 ∧ bd = .non) ∨ ∃ f x B, bd = frD f ∧ FV Q f x ∧ Bd f ∧ (-99 ≤ B ∧ B ≤ 99) ∧ Most Q B r W x), ⟨_, _, _, rfl, .inl ⟨rfl, rfl⟩⟩, ?_, ?_⟩
      · rintro k x e hx ⟨x3, x4, bd, rfl, hI⟩
        obtain ⟨hk, rfl⟩ := rngD_get hx
        have hk : k < 199 := hk
        have hB : -99 ≤ (-99 + (k : Int)) ∧ (-99 + (k : Int)) ≤ 99 := by omega
        refine ⟨Nat.le_of_ble_eq_true rfl, Q, W, -99 + (k : Int), r, rfl, g, ⟨hB, hr⟩, fun f y fv bf hm _ => ?_⟩
        rcases hI with ⟨rfl, rfl⟩ | ⟨f0, x0, B0, rfl, fv0, bf0, hB0, hm0⟩
        · exact ⟨rfl, _, rfl, iteT ⟨_, _, _, rfl, .inr ⟨f, y, _, rfl, fv, bf, hB, hm⟩⟩⟩
        · refine ⟨rfl, _, rfl, iteF ⟨f, f0, rfl, bf.sm, bf0.sm, _, rfl, iteB (fun z => ?_) (fun z => ?_)⟩⟩
          · exact ⟨_, _, _, rfl, .inr ⟨f, y, _, rfl, fv, bf, hB, hm⟩⟩
          · exact ⟨_, _, _, rfl, .inr ⟨f0, x0, B0, rfl, fv0, bf0, hB0, hm0⟩⟩
      · rintro e ⟨x3, x4, bd, rfl, hI⟩
        rcases hI with ⟨z, _⟩ | ⟨f0, x0, B0, rfl, fv0, bf0, hB0, hm0⟩
        · exact absurd z (by rw [rngD_len]; decide)
        · exact h f0 x0 B0 fv0 bf0 hB0 hm0)

end
end K73

namespace K73
open PySem PySem.Spec PyProof.Rows L2 Dz X73
/-- what the law draws -/
def Lw (v : Wt) : Prop := (0 ≤ v.s ∧ v.s ≤ 8) ∧ (-10000 ≤ v.a ∧ v.a ≤ 10000) ∧ 1 ≤ v.q ∧ v.q ≤ 60
structure LW (W : List Wt) : Prop where
  nd : (W.map (·.s)).Nodup
  ok : ∀ v ∈ W, Lw v
theorem lw_nil : LW [] := ⟨List.nodup_nil, fun v h => nomatch h⟩
theorem key_mem {W : List Wt} {s : Int} : (Sum.inl s : Key) ∈ wKs W ↔ s ∈ W.map (·.s) := by
  unfold wKs
  rw [List.mem_map, List.mem_map]
  exact ⟨fun ⟨v, h, e⟩ => ⟨v, h, Sum.inl.inj e⟩, fun ⟨v, h, e⟩ => ⟨v, h, by rw [e]⟩⟩
theorem map_at (s : Int) (m : Wt) : ∀ W : List Wt, mapAt (wKs W) (wVs W) (.inl s) (mD m) = wVs (W.map fun v => if v.s = s then m else v)
  | [] => rfl
  | v :: W => by
    have ih := map_at s m W
    show (if (Sum.inl v.s : Key) = .inl s then mD m else mD v) :: mapAt (wKs W) (wVs W) (.inl s) (mD m) = mD (if v.s = s then m else v) :: wVs (W.map _)
    rw [ih]
    by_cases h : v.s = s
    · rw [if_pos (by rw [h]), if_pos h]
    · rw [if_neg (fun e => h (Sum.inl.inj e)), if_neg h]
theorem put_w {W : List Wt} (h : LW W) {s a q : Int} (h1 : 0 ≤ s ∧ s ≤ 8) (h2 : -10000 ≤ a ∧ a ≤ 10000) (h3 : 1 ≤ q ∧ q ≤ 60) : ∃ W', putKs (wKs W) (.inl s) = wKs W' ∧ putKd (wKs W) (wVs W) (.inl s) (mD ⟨s, a, q⟩) = wVs W' ∧ LW W' ∧ W'.length ≤ W.length + 1 ∧ W' ≠ [] := by
  have hl : Lw ⟨s, a, q⟩ := ⟨h1, h2, h3⟩
  by_cases hm : s ∈ W.map (·.s)
  · have hk : hasK (wKs W) (.inl s) = true := hasK_iff.mpr (key_mem.mpr hm)
    have keys : (W.map fun v => if v.s = s then (⟨s, a, q⟩ : Wt) else v).map (·.s) = W.map (·.s) := by
      rw [List.map_map]
      refine List.map_congr_left fun v _ => ?_
      show (if v.s = s then (⟨s, a, q⟩ : Wt) else v).s = v.s
      split
      · rename_i e; exact e.symm
      · rfl
    refine ⟨W.map fun v => if v.s = s then ⟨s, a, q⟩ else v, ?_, ?_, ⟨by rw [keys]; exact h.nd, fun v hv => ?_⟩, by rw [List.length_map]; omega, fun e => ?_⟩
    · unfold putKs
      rw [hk, if_pos rfl]
      have : ∀ V : List Wt, wKs V = (V.map (·.s)).map Sum.inl := fun V => by unfold wKs; rw [List.map_map]; rfl
      rw [this, this, keys]
    · unfold putKd
      rw [hk, if_pos rfl, map_at]
    · obtain ⟨u, hu, e⟩ := List.mem_map.mp hv
      split at e
      · rw [← e]; exact hl
      · rw [← e]; exact h.ok u hu
    · have := congrArg List.length e
      rw [List.length_map] at this
      have : W = [] := List.length_eq_zero_iff.mp this
      rw [this] at hm
      cases hm
  · obtain ⟨e1, e2⟩ := put_new (ks := wKs W) (l := wVs W) (k := .inl s) (d := mD ⟨s, a, q⟩) (fun z => hm (key_mem.mp z))
    refine ⟨W ++ [⟨s, a, q⟩], ?_, ?_, ⟨?_, fun v hv => ?_⟩, by rw [List.length_append]; exact Nat.le_refl _, by simp⟩
    · rw [e1]; unfold wKs; rw [List.map_append]; rfl
    · rw [e2]; unfold wVs; rw [List.map_append]; rfl
    · rw [List.map_append, List.nodup_append]
      refine ⟨h.nd, by simp, fun x hx y hy e => ?_⟩
      have e2 : y = s := List.mem_singleton.mp hy
      exact hm (by rw [← e2, ← e]; exact hx)
    · rcases List.mem_append.mp hv with z | z
      · exact h.ok v z
      · rw [List.mem_singleton.mp z]; exact hl
theorem ex_q : ∀ W : List Wt, (∀ v ∈ W, 1 ≤ v.q) → ∃ Q : Int, 0 < Q ∧ ∀ v ∈ W, v.q ∣ Q
  | [], _ => ⟨1, by decide, fun v h => nomatch h⟩
  | u :: W, h => by
    obtain ⟨Q, h1, h2⟩ := ex_q W fun v hv => h v (List.mem_cons_of_mem _ hv)
    have hu := h u List.mem_cons_self
    refine ⟨u.q * Q, Int.mul_pos (by omega) h1, fun v hv => ?_⟩
    rcases List.mem_cons.mp hv with e | e
    · rw [e]; exact ⟨Q, rfl⟩
    · obtain ⟨k, hk⟩ := h2 v e
      exact ⟨u.q * k, by rw [hk, Int.mul_left_comm]⟩
theorem LW.good {W : List Wt} (h : LW W) (hne : W ≠ []) (hl : W.length ≤ 1000) : ∃ Q, GoodW Q W := by
  obtain ⟨Q, h1, h2⟩ := ex_q W fun v hv => (h.ok v hv).2.2.1
  exact ⟨Q, h1, hne, hl, h.nd, fun v hv => by obtain ⟨a, b, c⟩ := h.ok v hv; unfold WtOk; omega, h2⟩
/-- the best line's distance -/
theorem Told.all {Q : Int} {W : List Wt} {c r : Int} {outs : List (Wt × Wt)} (T : Told Q W c r outs) (g : GoodW Q W) {x : Int} (hm : Most Q c r W x) : AllBar Q x outs := by
  obtain ⟨i, p, e1, e2, hb⟩ := T.best
  have ho := T.out i r p e1 e2
  have e : x ≤ wo Q c r p.1 p.2 := by
    obtain ⟨⟨v, hv, rfl⟩, _⟩ := hm
    exact X73.outer (ho v hv).1 (ho v hv).2
  intro j s q h1 h2 B hB
  have := hb j s q h1 h2 B hB
  omega
theorem rs_at {s : Int} (h : -9 ≤ s ∧ s ≤ 9) : rsL[(s + 9).toNat]? = some s := by
  have e := (show ∀ i : Nat, i < 19 → rsL[i]? = some (-9 + (i : Int)) by decide +kernel) (s + 9).toNat (by omega)
  rw [e]
  congr 1
  omega
/-- what the best line bars -/
theorem Told.bar {Q : Int} {W : List Wt} {c r : Int} {outs : List (Wt × Wt)} (T : Told Q W c r outs) (g : GoodW Q W) {x : Int} (hm : Most Q c r W x) (y : Int) : AllBar Q y outs ↔ y ≤ x := by
  obtain ⟨i, p, e1, e2, hb⟩ := T.best
  have ho := T.out i r p e1 e2
  obtain ⟨pu, pv⟩ := T.ok.mem p (List.mem_of_getElem? e2)
  have e : wo Q c r p.1 p.2 = x := by
    have h1 := hm.2 _ pu
    have h2 := hm.2 _ pv
    obtain ⟨⟨v, hv, rfl⟩, _⟩ := hm
    have := X73.outer (b := c) (ho v hv).1 (ho v hv).2
    unfold wo at this ⊢
    omega
  rw [e] at hb
  constructor
  · intro h
    have := h i r p e1 e2 c T.line.1
    omega
  · intro h j s q h1 h2 B hB
    have := hb j s q h1 h2 B hB
    omega
theorem kv_told {outs : List (Wt × Wt)} : kvD rsK (outL outs) = (rsL.zip outs).map fun q => .tup [.int q.1, szD q.2.1 q.2.2] := by
  unfold kvD rsK outL
  rw [List.zip_map, List.map_map]
  rfl
theorem nd_map {l : List (Int × (Wt × Wt))} (h : (l.map (·.1)).Nodup) : (l.map fun q => (Sum.inl q.1 : Key)).Nodup := by
  have := nd_inl h
  rw [List.map_map] at this
  exact this
theorem told_less {outs : List (Wt × Wt)} (hl : outs.length = 19) {rr : Int} (hr : -9 ≤ rr ∧ rr ≤ 9) : (((rsL.zip outs).filter fun q => !(q.1 == rr)).map (·.1)).Nodup ∧ (((rsL.zip outs).filter fun q => !(q.1 == rr)).map (·.1)).length < 19 := by
  have e1 : (rsL.zip outs).map (·.1) = rsL := by rw [List.map_fst_zip]; rw [hl]; decide +kernel
  have nd : ((rsL.zip outs).map (·.1)).Nodup := by rw [e1]; decide +kernel
  refine ⟨nd.sublist (List.filter_sublist.map _), ?_⟩
  rw [List.length_map]
  have hz : (rsL.zip outs).length = 19 := by rw [List.length_zip, hl]; decide +kernel
  obtain ⟨q, hq⟩ : ∃ q, outs[(rr + 9).toNat]? = some q := ⟨_, List.getElem?_eq_getElem (by omega)⟩
  have hm : (rr, q) ∈ rsL.zip outs := List.mem_of_getElem? (List.getElem?_zip_eq_some.mpr ⟨rs_at hr, hq⟩)
  have := List.length_filter_lt_length_iff_exists (l := rsL.zip outs) (p := fun q => !(q.1 == rr))
  have := this.mpr ⟨(rr, q), hm, by simp⟩
  omega
def badL (P : Program) (w : World) : List D := [zD [] [], .non, zD [.inl 0] [.int 5], zD [.inl 0] [.tup [.int 1, .int 0]], zD [.inl 0] [.tup [.int 1, .int (-1)]], zD [.inl (-1)] [.tup [.int 1, .int 1]], zD [.inl 1001] [.tup [.int 1, .int 1]], oddD P w true (.tup [.int 1, .int 1]), zD [.inl 0] [.tup [.int 10001, .int 1]], zD [.inl 0] [.tup [.int 1, .int 1, .int 1]]]
theorem bad_all {P : Program} {w : World} {x : D} (h : x ∈ badL P w) : badB P w x := by
  simp only [badL, List.mem_cons, List.not_mem_nil, or_false] at h
  rcases h with rfl | rfl | rfl | rfl | rfl | rfl | rfl | rfl | rfl | rfl
  · exact .inr (.inl rfl)
  · exact .inl rfl
  · exact .inr (.inr (.inl ⟨_, _, rfl, by decide +kernel, by decide +kernel⟩))
  · exact .inr (.inr (.inl ⟨_, _, rfl, by decide +kernel, by decide +kernel⟩))
  · exact .inr (.inr (.inl ⟨_, _, rfl, by decide +kernel, by decide +kernel⟩))
  · exact .inr (.inr (.inl ⟨_, _, rfl, by decide +kernel, by decide +kernel⟩))
  · exact .inr (.inr (.inl ⟨_, _, rfl, by decide +kernel, by decide +kernel⟩))
  · exact .inr (.inr (.inr ⟨_, rfl⟩))
  · exact .inr (.inr (.inl ⟨_, _, rfl, by decide +kernel, by decide +kernel⟩))
  · exact .inr (.inr (.inl ⟨_, _, rfl, by decide +kernel, by decide +kernel⟩))
theorem rs_sort {ys : List Int} (hp : ys.Perm rsL) (hs : ys.Pairwise (· ≤ ·)) : ys = rsL := List.Perm.eq_of_pairwise (le := (· ≤ ·)) (fun a b _ _ h1 h2 => Int.le_antisymm h1 h2) hs (by decide +kernel) hp
theorem two_most {Q B s x : Int} {u v : Wt} {W : List Wt} (nd : u.s = v.s → u = v) (hm : Most Q B s (twoW u v) x) : wo Q B s u v ≤ x := by
  have h1 := hm.2 u (two_u u v)
  have h2 := hm.2 v (two_v nd)
  unfold wo
  omega
theorem w_most {Q B s x : Int} {u v : Wt} {W : List Wt} (hu : u ∈ W) (hv : v ∈ W) (hm : Most Q B s W x) : wo Q B s u v ≤ x := by
  have h1 := hm.2 u hu
  have h2 := hm.2 v hv
  unfold wo
  omega
theorem one_good {Q : Int} {W : List Wt} (g : GoodW Q W) {v : Wt} (hv : v ∈ W) : GoodW Q [v] where
  pos := g.pos
  ne := fun e => nomatch e
  few := Nat.le_of_ble_eq_true rfl
  nd := by simp
  ok := fun x hx => by rw [List.mem_singleton.mp hx]; exact g.ok v hv
  dvd := fun x hx => by rw [List.mem_singleton.mp hx]; exact g.dvd v hv
theorem one_most {Q c r x : Int} {v : Wt} (h : Most Q c r [v] x) : x = dv Q c r v := by
  obtain ⟨⟨u, hu, e⟩, _⟩ := h
  rw [List.mem_singleton.mp hu] at e
  exact e
/-- the one who is asked twice answers alike -/
theorem one_same {Q c r x y : Int} {v : Wt} {f h : Int × Int} (hx : x = dv Q c r v) (hy : y = dv Q c r v) (hf : (x = 0 ∧ f = (0, 1)) ∨ ∃ u ∈ [v], f = (gap c r u, u.q) ∧ x = dv Q c r u ∧ 0 < x) (hh : (y = 0 ∧ h = (0, 1)) ∨ ∃ u ∈ [v], h = (gap c r u, u.q) ∧ y = dv Q c r u ∧ 0 < y) : f = h := by
  rcases hf with ⟨e1, rfl⟩ | ⟨u, hu, rfl, _, h1⟩ <;> rcases hh with ⟨e2, rfl⟩ | ⟨t, ht, rfl, _, h2⟩
  · rfl
  · omega
  · omega
  · rw [List.mem_singleton.mp hu, List.mem_singleton.mp ht]
/-- the steps of Euclid -/
def Eu (k : Nat) (a b : Int) : Prop := (0 ≤ a ∧ 0 ≤ b) ∧ Nat.gcd a.natAbs b.natAbs = 1 ∧ (k = 0 → 1 ≤ a ∧ a ≤ 60) ∧ (1 ≤ k → b ≤ 60) ∧ (2 ≤ k → b = 0 ∨ (a ≤ 60 ∧ b < a)) ∧ (3 ≤ k → b = 0 ∨ b + (k : Int) ≤ 32)
theorem eu_stop {k : Nat} {a : Int} (h : Eu k a 0) (hk : k = 0 → False) : Eu (k + 1) a 0 := by
  obtain ⟨h1, h2, h3, h4, h5, h6⟩ := h
  exact ⟨h1, h2, fun z => by omega, fun _ => by decide, fun _ => .inl rfl, fun _ => .inl rfl⟩
theorem eu_stop0 {a : Int} (h : Eu 0 a 0) : Eu 1 a 0 := by
  obtain ⟨h1, h2, h3, h4, h5, h6⟩ := h
  exact ⟨h1, h2, fun z => by omega, fun _ => by decide, fun _ => .inl rfl, fun _ => .inl rfl⟩
theorem eu_go {k : Nat} {a b : Int} (h : Eu k a b) (hb : b ≠ 0) : Eu (k + 1) b (a % b) := by
  obtain ⟨⟨ha, hb0⟩, h2, h3, h4, h5, h6⟩ := h
  have b1 : 0 < b := by omega
  have m0 := Int.emod_nonneg a hb
  have m1 := Int.emod_lt_of_pos a b1
  refine ⟨⟨hb0, m0⟩, ?_, fun z => by omega, fun _ => ?_, fun hk => ?_, fun hk => ?_⟩
  · have e : (a % b).natAbs = a.natAbs % b.natAbs := by
      obtain ⟨n, rfl⟩ := Int.eq_ofNat_of_zero_le ha
      obtain ⟨m, rfl⟩ := Int.eq_ofNat_of_zero_le hb0
      rfl
    rw [e, Nat.gcd_comm, ← Nat.gcd_rec, Nat.gcd_comm]
    exact h2
  · rcases Nat.eq_zero_or_pos k with q | q
    · have := h3 q
      have : a % b ≤ a := by
        have hd := Int.mul_ediv_add_emod a b
        have := Int.mul_nonneg hb0 (Int.ediv_nonneg ha hb0)
        omega
      omega
    · have := h4 q
      omega
  · exact .inr ⟨h4 (by omega), m1⟩
  · rcases Nat.lt_or_ge k 3 with q | q
    · have hk2 : k = 2 := by omega
      rcases h5 (by omega) with z | ⟨z1, z2⟩
      · exact absurd z hb
      · right
        have hd := Int.mul_ediv_add_emod a b
        have hq : 1 ≤ a / b := by
          have := Int.ediv_le_ediv b1 (show b ≤ a by omega)
          rw [Int.ediv_self hb] at this
          exact this
        have hm : b * 1 ≤ b * (a / b) := Int.mul_le_mul_of_nonneg_left hq hb0
        rw [Int.mul_one] at hm
        subst hk2
        push_cast
        omega
    · rcases h6 q with z | z
      · exact absurd z hb
      · right
        push_cast
        omega
theorem eu_end {a b : Int} (h : Eu 60 a b) : a = 1 := by
  obtain ⟨⟨ha, hb⟩, h2, _, _, _, h6⟩ := h
  have : b = 0 := by
    rcases h6 (by decide) with z | z
    · exact z
    · exfalso
      have z : b + ((60 : Nat) : Int) ≤ 32 := z
      omega
  subst this
  rw [Int.natAbs_zero, Nat.gcd_zero_right] at h2
  omega
section
variable {P : Program} {w : World} {K : PySem.W.Frag} {mg : Str → Option Value} {base : Heap} {cS cT : Addr}
abbrev s_law : Stmt := topS 35
theorem sc_law : FnScope ["script", "draw", "line", "wanted", "turn", "size", "below", "told", "far", "rises_v", "rise", "one", "other", "some", "pair", "less", "rest", "worse", "bad", "row"] ["script"] (defScope s_law) := ⟨rfl, rfl, rfl, by decide +kernel, rfl, by decide +kernel, by decide +kernel⟩
set_option maxHeartbeats 0 in
theorem ok_law {f : Addr} {fd : FuncData} (F : Fun K "law" "law" s_law f fd) (T : TxtG w K mg cS) (G_law_take : Own P w K mg base "_law_take" 2 ["draw", "many"] pdTake) (G_grade : Own P w K mg base "grade" 5 ["wanted"] (pd_grade cS)) (GX_grade : OwnX P w K mg base "grade" 5 ["wanted"] (pd_gradeX P w cT)) (G_far_by : Own P w K mg base "far_by" 4 ["line", "wanted"] pd_far_by) (G_law_far : Own P w K mg base "_law_far" 1 ["line", "wanted"] pd_law_far) (G_law_less : Own P w K mg base "_law_less" 1 ["one", "other"] pd_law_less) (G_law_least : Own P w K mg base "_law_least" 2 ["wanted", "rise"] pd_law_least) (MK_Grade : MkX P w K mg base "Grade" cS 1 ["self", "line", "against"] pd_Grade_init) (M_shows : MthD P w K mg base cS "shows" 6 ["self", "wanted"] (pd_shows cS)) (TX_BadTable : TxX K mg "BadTable" cT) (xm : PySem.W.exmOne K (.ref cT) (.ref cT) = some true) : FnOk P w K mg base CX0 9 f fd ["script"] (spLaw K) :=
  law_dz (rest := (defBody s_law).tail) F sc_law rfl (fun cdv Ar outer s H E => ps_set (i := 1) sc_law.nd rfl (Or.inl rfl) (pe_lst (pa_cons (pv 0) (pa_cons pe_int pa_nil)))) (by decide) (fun A cdv Ar outer s H E hr =>
    (dss_cons (ds_asg (vs := [0, 1, 2, 3, 4, 5, 6, 7, 8, 9, 10, 11, 12, 13, 14, 15, 16, 17, 18, 19]) (de_tup (da_cons (de_op opd_sub (de_own G_law_take (hr.mono (by decide)) rfl (da_cons (de_var 1) (da_cons de_int da_nil))) de_int) (da_cons (de_op opd_sub (de_own G_law_take (hr.mono (by decide)) rfl (da_cons (de_var 1) (da_cons de_int da_nil))) de_int) da_nil))) (dg_name (i := 2) sc_law.nd rfl (Or.inl rfl)))
    (dss_cons (ds_setN (i := 3) sc_law.nd rfl (Or.inr rfl) dn_dct)
    (dss_cons (ds_for (vs := [0, 1, 2, 3, 4, 5, 6, 7, 8, 9, 10, 11, 12, 13, 14, 15, 16, 17, 18, 19]) PassesOwn.never rfl (di_rng1 rfl T.mg_range (da_cons (de_op opd_add de_int (de_own G_law_take (hr.mono (by decide)) rfl (da_cons (de_var 1) (da_cons de_int da_nil)))) da_nil)) (dg_name (i := 4) sc_law.nd rfl (Or.inl rfl))
      (dss_cons (ds_asg (vs := [0, 1, 2, 3, 4, 5, 6, 7, 8, 9, 10, 11, 12, 13, 14, 15, 16, 17, 18, 19]) (de_tup (da_cons (de_own G_law_take (hr.mono (by decide)) rfl (da_cons (de_var 1) (da_cons de_int da_nil))) (da_cons (de_op opd_add de_int (de_own G_law_take (hr.mono (by decide)) rfl (da_cons (de_var 1) (da_cons de_int da_nil)))) da_nil))) (dg_tup (n := 2) rfl (dgs_cons (dg_name (i := 5) sc_law.nd rfl (Or.inr rfl)) (dgs_cons (dg_name (i := 6) sc_law.nd rfl (Or.inl rfl)) dgs_nil))))
      (dss_one (ds_putD (i := 3) (hu_of hr) rfl (Or.inr (Or.inl rfl)) (de_var 5) (de_tup (da_cons (de_op opd_sub (de_op opd_add (de_op opd_mulT (de_op opd_add (de_ix (ixd hr.units) (de_var 2) de_int) (de_op opd_mulT (de_ix (ixd hr.units) (de_var 2) de_int) (de_var 5))) (de_var 6)) (de_own G_law_take (hr.mono (by decide)) rfl (da_cons (de_var 1) (da_cons de_int da_nil)))) de_int) (da_cons (de_var 6) da_nil)))))))
    (dss_cons (ds_if (dt_cmp (opd_eq hr.units) (de_own G_law_take (hr.mono (by decide)) rfl (da_cons (de_var 1) (da_cons de_int da_nil))) de_int)
      (dss_one (ds_putD (i := 3) (hu_of hr) rfl (Or.inr (Or.inl rfl)) (de_own G_law_take (hr.mono (by decide)) rfl (da_cons (de_var 1) (da_cons de_int da_nil))) (de_tup (da_cons de_int (da_cons (de_op opd_add de_int (de_own G_law_take (hr.mono (by decide)) rfl (da_cons (de_var 1) (da_cons de_int da_nil)))) da_nil)))))
      dss_nil)
    (dss_cons (ds_asg (vs := [0, 1, 2, 3, 4, 5, 6, 7, 8, 9, 10, 11, 12, 13, 14, 15, 16, 17, 18, 19]) (de_own G_grade (hr.mono (by decide)) rfl (da_cons (de_varZ 3) da_nil)) (dg_name (i := 7) sc_law.nd rfl (Or.inr rfl)))
    (dss_cons (ds_asg (vs := [0, 1, 2, 3, 4, 5, 6, 7, 8, 9, 10, 11, 12, 13, 14, 15, 16, 17, 18, 19]) (de_own G_law_far (hr.mono (by decide)) rfl (da_cons (de_fld T.cl T.na_line (de_var 7)) (da_cons (de_var 3) da_nil))) (dg_name (i := 8) sc_law.nd rfl (Or.inr rfl)))
    (dss_cons (ds_if (PW.pt (dw_or (dt_not (dt_truth (de_meth M_shows T.cl (hr.mono (by decide)) (de_var 7) (da_cons (de_var 3) da_nil)) (by intro _; rfl))) (dw_or1 (dt_cmp (opd_ne hr.units) (de_callB callD_sortedI rfl T.mg_sorted (by decide +kernel) (da_cons (de_callTy (callD_listZ rfl) rfl T.mg_list (by decide +kernel) (da_cons (de_fld T.cl T.na_against (de_var 7)) da_nil)) da_nil)) (de_listRg rfl rfl T.mg_list (dr_2 rfl T.mg_range (de_un und_neg de_int) de_int))))))
      (dss_one (ds_ret de_bl))
      dss_nil)
    (dss_cons (ds_asg (vs := [0, 1, 2, 3, 4, 5, 6, 7, 8, 9, 10, 11, 12, 13, 14, 15, 16, 17, 18, 19]) (de_lst (da_cons (de_ix (ixd hr.units) (de_fld T.cl T.na_line (de_var 7)) de_int) (da_cons (de_ix (ixd hr.units) (de_var 2) de_int) (da_cons (de_op opd_sub (de_own G_law_take (hr.mono (by decide)) rfl (da_cons (de_var 1) (da_cons de_int da_nil))) de_int) (da_cons (de_op opd_sub (de_own G_law_take (hr.mono (by decide)) rfl (da_cons (de_var 1) (da_cons de_int da_nil))) de_int) da_nil))))) (dg_name (i := 9) sc_law.nd rfl (Or.inl rfl)))
    (dss_cons (ds_for (vs := [0, 1, 2, 3, 4, 5, 6, 7, 8, 9, 10, 11, 12, 13, 14, 15, 16, 17, 18, 19]) PassesOwn.never rfl (di_seq (de_var 9)) (dg_name (i := 10) sc_law.nd rfl (Or.inr rfl))
      (dss_cons (ds_asg (vs := [0, 1, 2, 3, 4, 5, 6, 7, 8, 9, 10, 11, 12, 13, 14, 15, 16, 17, 18, 19]) (de_ix (ixz hr.units) (de_fld T.cl T.na_against (de_var 7)) (de_var 10)) (dg_tup (n := 2) rfl (dgs_cons (dg_name (i := 11) sc_law.nd rfl (Or.inl rfl)) (dgs_cons (dg_name (i := 12) sc_law.nd rfl (Or.inl rfl)) dgs_nil))))
      (dss_cons (ds_asg (vs := [0, 1, 2, 3, 4, 5, 6, 7, 8, 9, 10, 11, 12, 13, 14, 15, 16, 17, 18, 19]) (de_callTy (callD_dictP rfl) rfl T.mg_dict (by decide +kernel) (da_cons (de_lst (da_cons (de_tup (da_cons (de_var 11) (da_cons (de_ix (ixz hr.units) (de_var 3) (de_var 11)) da_nil))) (da_cons (de_tup (da_cons (de_var 12) (da_cons (de_ix (ixz hr.units) (de_var 3) (de_var 12)) da_nil))) da_nil))) da_nil)) (dg_name (i := 13) sc_law.nd rfl (Or.inl rfl)))
      (dss_one (ds_if (PW.pt (dw_or (dt_truth (de_own G_law_less (hr.mono (by decide)) rfl (da_cons (de_own G_law_least (hr.mono (by decide)) rfl (da_cons (de_var 13) (da_cons (de_var 10) da_nil))) (da_cons (de_var 8) da_nil))) (by intro _; rfl)) (dw_or1 (dt_truth (de_own G_law_less (hr.mono (by decide)) rfl (da_cons (de_own G_law_least (hr.mono (by decide)) rfl (da_cons (de_var 3) (da_cons (de_var 10) da_nil))) (da_cons (de_var 8) da_nil))) (by intro _; rfl)))))
        (dss_one (ds_ret de_bl))
        dss_nil)))))
    (dss_cons (ds_asg (vs := [0, 1, 2, 3, 4, 5, 6, 7, 8, 9, 10, 11, 12, 13, 14, 15, 16, 17, 18, 19]) (de_own G_far_by (hr.mono (by decide)) rfl (da_cons (de_fld T.cl T.na_line (de_var 7)) (da_cons (de_var 3) da_nil))) (dg_tup (n := 2) rfl (dgs_cons (dg_name (i := 14) sc_law.nd rfl (Or.inl rfl)) (dgs_cons (dg_name (i := 5) sc_law.nd rfl (Or.inr rfl)) dgs_nil))))
    (dss_cons (ds_if (PW.pt (dw_or (dt_cmp (opd_ne hr.units) (de_op opd_mulT (de_ix (ixd hr.units) (de_var 14) de_int) (de_ix (ixd hr.units) (de_var 8) de_int)) (de_op opd_mulT (de_ix (ixd hr.units) (de_var 8) de_int) (de_ix (ixd hr.units) (de_var 14) de_int))) (dw_or1 (dt_cmp (opd_ne hr.units) (de_op opd_mulT (de_ix (ixd hr.units) (de_own G_law_far (hr.mono (by decide)) rfl (da_cons (de_fld T.cl T.na_line (de_var 7)) (da_cons (de_disp1 (de_var 5) (de_ix (ixz hr.units) (de_var 3) (de_var 5))) da_nil))) de_int) (de_ix (ixd hr.units) (de_var 8) de_int)) (de_op opd_mulT (de_ix (ixd hr.units) (de_var 8) de_int) (de_ix (ixd hr.units) (de_own G_law_far (hr.mono (by decide)) rfl (da_cons (de_fld T.cl T.na_line (de_var 7)) (da_cons (de_disp1 (de_var 5) (de_ix (ixz hr.units) (de_var 3) (de_var 5))) da_nil))) de_int))))))
      (dss_one (ds_ret de_bl))
      dss_nil)
    (dss_cons (ds_if (dt_truth (de_callB (callD_any rfl) rfl T.mg_any (by decide +kernel) (da_cons (de_lc rfl sc_law.nd (di_keys (de_var 3)) (blkOk_by (own := [("less", 15)]) (N := ["script", "draw", "line", "wanted", "turn", "size", "below", "told", "far", "rises_v", "rise", "one", "other", "some", "pair", "less", "rest", "worse", "bad", "row"]) (sc := defScope s_law) (by decide +kernel)) (fun _ _ _ _ _ => (dg_name (i := 15) sc_law.nd rfl (Or.inl rfl))) (fun _ _ _ _ _ => (dts_one (dt_cmp opd_lt (de_var 15) (de_var 5)))) (fun _ _ _ _ _ => (de_notT (de_own G_law_less (hr.mono (by decide)) rfl (da_cons (de_own G_law_far (hr.mono (by decide)) rfl (da_cons (de_fld T.cl T.na_line (de_var 7)) (da_cons (de_disp1 (de_var 15) (de_ix (ixz hr.units) (de_var 3) (de_var 15))) da_nil))) (da_cons (de_var 8) da_nil)))))) da_nil)) (by intro _; rfl))
      (dss_one (ds_ret de_bl))
      dss_nil)
    (dss_cons (ds_par (i := 11) (j := 16) rfl sc_law.nd rfl rfl (by decide) rfl rfl (da_cons (de_ix (ixd hr.units) (de_var 14) de_int) (da_cons (de_ix (ixd hr.units) (de_var 14) de_int) da_nil)))
    (dss_cons (ds_for (vs := [0, 1, 2, 3, 4, 5, 6, 7, 8, 9, 10, 11, 12, 13, 14, 15, 16, 17, 18, 19]) PassesOwn.never rfl (di_rng1 rfl T.mg_range (da_cons de_int da_nil)) (dg_name (i := 4) sc_law.nd rfl (Or.inl rfl))
      (dss_one (ds_if (dt_cmp (opd_ne hr.units) (de_var 16) de_int)
        (dss_one (ds_par (i := 11) (j := 16) rfl sc_law.nd rfl rfl (by decide) rfl rfl (da_cons (de_var 16) (da_cons (de_op opd_mod (de_callTy callD_int rfl T.mg_int (by decide +kernel) (da_cons (de_var 11) da_nil)) (de_var 16)) da_nil))))
        dss_nil)))
    (dss_cons (ds_if (PW.pt (dw_or (dt_cmp (opd_ne hr.units) (de_var 11) de_int) (dw_or1 (dt_cmp opd_lt (de_ix (ixd hr.units) (de_var 14) de_int) de_int))))
      (dss_one (ds_ret de_bl))
      dss_nil)
    (dss_cons (ds_asg (vs := [0, 1, 2, 3, 4, 5, 6, 7, 8, 9, 10, 11, 12, 13, 14, 15, 16, 17, 18, 19]) (de_tup (da_cons (de_if (dt_cmp opd_lt (de_ix (ixd hr.units) (de_fld T.cl T.na_line (de_var 7)) de_int) de_int) (de_op opd_add (de_ix (ixd hr.units) (de_fld T.cl T.na_line (de_var 7)) de_int) de_int) (de_op opd_sub (de_ix (ixd hr.units) (de_fld T.cl T.na_line (de_var 7)) de_int) de_int)) (da_cons (de_ix (ixd hr.units) (de_fld T.cl T.na_line (de_var 7)) de_int) da_nil))) (dg_name (i := 17) sc_law.nd rfl (Or.inl rfl)))
    (dss_cons (ds_if (dt_cmp (opd_ne hr.units) (de_meth M_shows T.cl (hr.mono (by decide)) (de_mkN MK_Grade (hr.mono (by decide)) rfl (da_cons (de_var 17) (da_cons (de_fld T.cl T.na_against (de_var 7)) da_nil))) (da_cons (de_var 3) da_nil)) (de_notT (de_own G_law_less (hr.mono (by decide)) rfl (da_cons (de_var 8) (da_cons (de_own G_law_far (hr.mono (by decide)) rfl (da_cons (de_var 17) (da_cons (de_var 3) da_nil))) da_nil)))))
      (dss_one (ds_ret de_bl))
      dss_nil)
    (dss_cons (ds_asg (vs := [0, 1, 2, 3, 4, 5, 6, 7, 8, 9, 10, 11, 12, 13, 14, 15, 16, 17, 18, 19]) (de_op opd_sub (de_own G_law_take (hr.mono (by decide)) rfl (da_cons (de_var 1) (da_cons de_int da_nil))) de_int) (dg_name (i := 10) sc_law.nd rfl (Or.inr rfl)))
    (dss_cons (ds_asg (vs := [0, 1, 2, 3, 4, 5, 6, 7, 8, 9, 10, 11, 12, 13, 14, 15, 16, 17, 18, 19]) (de_callTy (callD_dictP rfl) rfl T.mg_dict (by decide +kernel) (da_cons (de_lc rfl sc_law.nd (di_itemsN (de_fld T.cl T.na_against (de_var 7))) (blkOk_by (own := [("row", 19)]) (N := ["script", "draw", "line", "wanted", "turn", "size", "below", "told", "far", "rises_v", "rise", "one", "other", "some", "pair", "less", "rest", "worse", "bad", "row"]) (sc := defScope s_law) (by decide +kernel)) (fun _ _ _ _ _ => (dg_name (i := 19) sc_law.nd rfl (Or.inl rfl))) (fun _ _ _ _ _ => (dts_one (dt_cmp (opd_ne hr.units) (de_ix (ixd hr.units) (de_var 19) de_int) (de_var 10)))) (fun _ _ _ _ _ => (de_var 19))) da_nil)) (dg_name (i := 15) sc_law.nd rfl (Or.inl rfl)))
    (dss_cons (ds_if (dt_truth (de_meth M_shows T.cl (hr.mono (by decide)) (de_mkN MK_Grade (hr.mono (by decide)) rfl (da_cons (de_fld T.cl T.na_line (de_var 7)) (da_cons (de_var 15) da_nil))) (da_cons (de_var 3) da_nil)) (by intro _; rfl))
      (dss_one (ds_ret de_bl))
      dss_nil)
    (dss_cons (ds_for (vs := [0, 1, 2, 3, 4, 5, 6, 7, 8, 9, 10, 11, 12, 13, 14, 15, 16, 17, 18, 19]) PassesOwn.never rfl (di_seq (de_tup (da_cons de_disp0 (da_cons de_non (da_cons (de_disp1 de_int de_int) (da_cons (de_disp1 de_int (de_tup (da_cons de_int (da_cons de_int da_nil)))) (da_cons (de_disp1 de_int (de_tup (da_cons de_int (da_cons (de_un und_neg de_int) da_nil)))) (da_cons (de_disp1 (de_un und_neg de_int) (de_tup (da_cons de_int (da_cons de_int da_nil)))) (da_cons (de_disp1 de_int (de_tup (da_cons de_int (da_cons de_int da_nil)))) (da_cons (de_dispB P w (de_tup (da_cons de_int (da_cons de_int da_nil)))) (da_cons (de_disp1 de_int (de_tup (da_cons de_int (da_cons de_int da_nil)))) (da_cons (de_disp1 de_int (de_tup (da_cons de_int (da_cons de_int (da_cons de_int da_nil))))) da_nil)))))))))))) (dg_name (i := 18) sc_law.nd rfl (Or.inl rfl))
      (dss_one (ds_try_only' rfl rfl rfl ⟨rfl, by decide, .inl TX_BadTable.g⟩ takes_no
        (fun _ _ _ _ _ tk _ => (dss_cons (ds_expr (de_ownX GX_grade tk (hr.mono (by decide)) rfl (da_cons (de_var 18) da_nil)))
        (dss_one (ds_ret de_bl))))
        (fun _ _ a oe cls d pn z1 z2 => (dss_one ds_pass)))))
    (dss_one (ds_ret de_bl))))))))))))))))))))))))
    (fun A p ns d => by
      refine seqAny (fun e => ∃ l0 l1 : Int, (-10 ≤ l0 ∧ l0 ≤ 29) ∧ (-5 ≤ l1 ∧ l1 ≤ 7) ∧ e = [.dat (.fro (ns.map D.int)), .dat (.tok p), .dat (lnD l0 l1), .un, .un, .un, .un, .un, .un, .un, .un, .un, .un, .un, .un, .un, .un, .un, .un, .un]) (fun Ψ k => ⟨p, ns, _, rfl, d, by decide, fun r h0 h1 => ⟨p, ns, _, rfl, d, by decide, fun r2 h2 h3 => ⟨Nat.le_of_ble_eq_true rfl, k _ ⟨r - 10, r2 - 5, by omega, by omega, rfl⟩⟩⟩⟩) ?_
      rintro e ⟨l0, l1, hl0, hl1, rfl⟩
      refine seqTo (e' := [.dat (.fro (ns.map D.int)), .dat (.tok p), .dat (lnD l0 l1), .cel (.dct [] []), .un, .un, .un, .un, .un, .un, .un, .un, .un, .un, .un, .un, .un, .un, .un, .un]) (fun Ψ k => k) ?_
      refine seqAny (fun e => ∃ W y4 y5 y6, LW W ∧ W.length ≤ 4 ∧ W ≠ [] ∧ e = [.dat (.fro (ns.map D.int)), .dat (.tok p), .dat (lnD l0 l1), .cel (.dct (wKs W) (wVs W)), y4, y5, y6, .un, .un, .un, .un, .un, .un, .un, .un, .un, .un, .un, .un, .un]) (fun Ψ kk => ?_) ?_
      · refine ⟨p, ns, _, rfl, d, by decide, fun r h0 h4 => ⟨1 + r, rfl, by omega, by omega, ?_⟩⟩
        refine ⟨fun k e => ∃ W y4 y5 y6, LW W ∧ W.length ≤ k ∧ (1 ≤ k → W ≠ []) ∧ e = [.dat (.fro (ns.map D.int)), .dat (.tok p), .dat (lnD l0 l1), .cel (.dct (wKs W) (wVs W)), y4, y5, y6, .un, .un, .un, .un, .un, .un, .un, .un, .un, .un, .un, .un, .un], ⟨[], _, _, _, lw_nil, Nat.le_refl 0, fun z => by omega, rfl⟩, ?_, ?_⟩
        · rintro k x e hx ⟨W, y4, y5, y6, lw, hlen, hne, rfl⟩
          obtain ⟨hk, rfl⟩ := rngD_get hx
          have hk : k < (1 + r).toNat := hk
          refine gN_env (e' := [.dat (.fro (ns.map D.int)), .dat (.tok p), .dat (lnD l0 l1), .cel (.dct (wKs W) (wVs W)), .dat (.int (0 + (k : Int))), y5, y6, .un, .un, .un, .un, .un, .un, .un, .un, .un, .un, .un, .un, .un]) rfl ?_
          refine ⟨p, ns, _, rfl, d, by decide, fun s hs0 hs1 => ⟨p, ns, _, rfl, d, by decide, fun q hq0 hq1 => ⟨Nat.le_of_ble_eq_true rfl, rfl, rfl, ?_⟩⟩⟩
          have m1 := mul_bd (x := l1) (y := s) (a := 7) (b := 8) ⟨by omega, by omega⟩ ⟨by omega, by omega⟩
          have m2 := mul_bd (x := l0 + l1 * s) (y := 1 + q) (a := 85) (b := 3) ⟨by omega, by omega⟩ ⟨by omega, by omega⟩
          refine ⟨_, rfl, _, rfl, .inr ⟨.inl ⟨by omega, by omega⟩, .inr ⟨.inl ⟨by omega, by omega⟩, p, ns, _, rfl, d, by decide, fun t ht0 ht1 => ⟨Nat.le_of_ble_eq_true rfl, _, _, rfl, _, rfl, _, _, rfl, ?_, ?_⟩⟩⟩⟩
          · show (wKs W).length < 100000
            unfold wKs
            rw [List.length_map]
            omega
          · obtain ⟨W', e1, e2, lw', hlen', hne'⟩ := put_w lw (s := s) (a := (l0 + l1 * s) * (1 + q) + t - 4) (q := 1 + q) ⟨by omega, by omega⟩ ⟨by omega, by omega⟩ ⟨by omega, by omega⟩
            exact ⟨W', .dat (.int (0 + (k : Int))), .dat (.int s), .dat (.int (1 + q)), lw', by omega, fun _ => hne', by rw [← e1, ← e2]; rfl⟩
        · rintro e ⟨W, y4, y5, y6, lw, hlen, hne, rfl⟩
          rw [rngD_len] at hlen hne
          exact kk _ ⟨W, y4, y5, y6, lw, by omega, hne (by omega), rfl⟩
      rintro e ⟨W0, y4, y5, y6, lw0, hlen0, hne0, rfl⟩
      refine seqAny (fun e => ∃ W, LW W ∧ W.length ≤ 5 ∧ W ≠ [] ∧ e = [.dat (.fro (ns.map D.int)), .dat (.tok p), .dat (lnD l0 l1), .cel (.dct (wKs W) (wVs W)), y4, y5, y6, .un, .un, .un, .un, .un, .un, .un, .un, .un, .un, .un, .un, .un]) (fun Ψ kk => ?_) ?_
      · refine ⟨p, ns, _, rfl, d, by decide, fun r h0 h6 => ⟨rfl, rfl, _, rfl, iteB (fun z => ?_) (fun z => ?_)⟩⟩
        · refine ⟨p, ns, _, rfl, d, by decide, fun q hq0 hq1 => ⟨Nat.le_of_ble_eq_true rfl, _, _, rfl, p, ns, _, rfl, d, by decide, fun s hs0 hs1 => ⟨_, rfl, _, _, rfl, ?_, ?_⟩⟩⟩
          · show (wKs W0).length < 100000
            unfold wKs
            rw [List.length_map]
            omega
          · obtain ⟨W', e1, e2, lw', hlen', hne'⟩ := put_w lw0 (s := s) (a := 10000) (q := 1 + q) ⟨by omega, by omega⟩ ⟨by omega, by omega⟩ ⟨by omega, by omega⟩
            exact kk _ ⟨W', lw', by omega, hne', by rw [← e1, ← e2]; rfl⟩
        · exact kk _ ⟨W0, lw0, by omega, hne0, rfl⟩
      rintro e ⟨W, lw, hlen, hne, rfl⟩
      obtain ⟨Q, g⟩ := lw.good hne (by omega)
      refine seqAny (fun e => ∃ c r outs, Told Q W c r outs ∧ e = [.dat (.fro (ns.map D.int)), .dat (.tok p), .dat (lnD l0 l1), .dat (wD W), y4, y5, y6, .dat (toldD cS c r outs), .un, .un, .un, .un, .un, .un, .un, .un, .un, .un, .un, .un]) (fun Ψ k => ⟨_, _, rfl, Q, W, rfl, g, fun c r outs T => k _ ⟨c, r, outs, T, rfl⟩⟩) ?_
      rintro e ⟨c, r, outs, T, rfl⟩
      refine seqAny (fun e => ∃ f x, FV Q f x ∧ Bd f ∧ Most Q c r W x ∧ e = [.dat (.fro (ns.map D.int)), .dat (.tok p), .dat (lnD l0 l1), .dat (wD W), y4, y5, y6, .dat (toldD cS c r outs), .dat (frD f), .un, .un, .un, .un, .un, .un, .un, .un, .un, .un, .un]) (fun Ψ k => ⟨_, _, _, rfl, rfl, Q, W, c, r, rfl, g, T.line, fun f x fv bf hm _ => k _ ⟨f, x, fv, bf, hm, rfl⟩⟩) ?_
      rintro e ⟨f, x, fv, bf, hm, rfl⟩
      have all := T.all g hm
      refine seqTo (e' := [.dat (.fro (ns.map D.int)), .dat (.tok p), .dat (lnD l0 l1), .dat (wD W), y4, y5, y6, .dat (toldD cS c r outs), .dat (frD f), .un, .un, .un, .un, .un, .un, .un, .un, .un, .un, .un]) (fun Ψ k => ?_) ?_
      · refine ⟨_, _, rfl, by decide +kernel, Q, W, c, r, _, _, rfl, g, T.line, .inr ⟨outs, rfl, rfl, T.ok, fun x' hm' b hb => ?_⟩⟩
        have eb : b = true := hb.mpr (by rw [most_one hm' hm]; exact all)
        rw [eb]
        refine ⟨_, rfl, iteF ⟨_, _, _, rfl, rfl, _, _, rfl, rsL, rfl, fun ys hp hs => ?_⟩⟩
        obtain rfl := rs_sort hp hs
        exact ⟨_, _, rfl, rfl, ⟨by decide, by decide, by decide, by decide⟩, by decide +kernel, by decide +kernel, _, rfl, iteEqX (c := false) (by decide +kernel) (iteF k)⟩
      refine seqAny (fun e => ∃ a b : Int, (-9 ≤ a ∧ a ≤ 9) ∧ (-9 ≤ b ∧ b ≤ 9) ∧ e = [.dat (.fro (ns.map D.int)), .dat (.tok p), .dat (lnD l0 l1), .dat (wD W), y4, y5, y6, .dat (toldD cS c r outs), .dat (frD f), .dat (.lst [.int r, .int l1, .int a, .int b]), .un, .un, .un, .un, .un, .un, .un, .un, .un, .un]) (fun Ψ k => ?_) ?_
      · exact ⟨_, _, _, rfl, rfl, _, rfl, _, rfl, p, ns, _, rfl, d, by decide, fun a ha0 ha1 => ⟨p, ns, _, rfl, d, by decide, fun b hb0 hb1 => ⟨Nat.le_of_ble_eq_true rfl, k _ ⟨a - 9, b - 9, by omega, by omega, rfl⟩⟩⟩⟩
      rintro e ⟨ra, rb, hra, hrb, rfl⟩
      refine seqAny (fun e => ∃ y10 y11 y12 y13, e = [.dat (.fro (ns.map D.int)), .dat (.tok p), .dat (lnD l0 l1), .dat (wD W), y4, y5, y6, .dat (toldD cS c r outs), .dat (frD f), .dat (.lst [.int r, .int l1, .int ra, .int rb]), y10, y11, y12, y13, .un, .un, .un, .un, .un, .un]) (fun Ψ kk => ?_) ?_
      · refine ⟨_, rfl, fun _ e => ∃ y10 y11 y12 y13, e = [.dat (.fro (ns.map D.int)), .dat (.tok p), .dat (lnD l0 l1), .dat (wD W), y4, y5, y6, .dat (toldD cS c r outs), .dat (frD f), .dat (.lst [.int r, .int l1, .int ra, .int rb]), y10, y11, y12, y13, .un, .un, .un, .un, .un, .un], ⟨_, _, _, _, rfl⟩, ?_, fun e h => kk e h⟩
        rintro k x0 e hx ⟨y10, y11, y12, y13, rfl⟩
        obtain ⟨s, hs, rfl⟩ : ∃ s : Int, (-9 ≤ s ∧ s ≤ 9) ∧ x0 = .int s := by
          have hx := List.mem_of_getElem? hx
          simp only [List.mem_cons, List.not_mem_nil, or_false] at hx
          rcases hx with rfl | rfl | rfl | rfl
          · exact ⟨_, T.line.2, rfl⟩
          · exact ⟨_, ⟨by omega, by omega⟩, rfl⟩
          · exact ⟨_, hra, rfl⟩
          · exact ⟨_, hrb, rfl⟩
        have hsL := rs_at hs
        obtain ⟨q, hq⟩ : ∃ q, outs[(s + 9).toNat]? = some q := ⟨_, List.getElem?_eq_getElem (by rw [T.ok.len]; omega)⟩
        obtain ⟨qu, qv⟩ := T.ok.mem q (List.mem_of_getElem? hq)
        have bar := all _ s q hsL hq
        have same := same_w g.nd qu qv
        refine gN_env (e' := [.dat (.fro (ns.map D.int)), .dat (.tok p), .dat (lnD l0 l1), .dat (wD W), y4, y5, y6, .dat (toldD cS c r outs), .dat (frD f), .dat (.lst [.int r, .int l1, .int ra, .int rb]), .dat (.int s), y11, y12, y13, .un, .un, .un, .un, .un, .un]) rfl ?_
        refine seqTo (e' := [.dat (.fro (ns.map D.int)), .dat (.tok p), .dat (lnD l0 l1), .dat (wD W), y4, y5, y6, .dat (toldD cS c r outs), .dat (frD f), .dat (.lst [.int r, .int l1, .int ra, .int rb]), .dat (.int s), .dat (.int q.1.s), .dat (.int q.2.s), y13, .un, .un, .un, .un, .un, .un]) (fun Ψ k => ⟨_, _, _, rfl, rfl, _, _, _, _, rfl, rfl, out_get hsL hq, rfl, rfl, k⟩) ?_
        refine seqTo (e' := [.dat (.fro (ns.map D.int)), .dat (.tok p), .dat (lnD l0 l1), .dat (wD W), y4, y5, y6, .dat (toldD cS c r outs), .dat (frD f), .dat (.lst [.int r, .int l1, .int ra, .int rb]), .dat (.int s), .dat (.int q.1.s), .dat (.int q.2.s), .dat (wD (twoW q.1 q.2)), .un, .un, .un, .un, .un, .un]) (fun Ψ k => ?_) ?_
        · refine ⟨_, _, _, _, rfl, rfl, get_w g.nd qu, Nat.le_of_ble_eq_true rfl, _, _, _, _, rfl, rfl, get_w g.nd qv, Nat.le_of_ble_eq_true rfl, Nat.le_of_ble_eq_true rfl, [(.inl q.1.s, mD q.1), (.inl q.2.s, mD q.2)], rfl, ?_⟩
          rw [two_merge same]
          exact k
        refine ⟨Q, twoW q.1 q.2, s, rfl, two_good g qu qv, hs, fun f1 x1 B1 fv1 bf1 hB1 hm1 => ?_⟩
        have ge1 : ¬ x1 < x := by
          have := two_most (W := W) same hm1
          have := bar B1 hB1
          omega
        refine ⟨f1, f, rfl, bf1.sm, bf.sm, _, rfl, iteEqX (c := false) (decide_eq_false fun z => ge1 ((fv1.lt g.pos fv).mp z)) (iteF ?_)⟩
        refine ⟨Q, W, s, rfl, g, hs, fun f2 x2 B2 fv2 bf2 hB2 hm2 => ?_⟩
        have ge2 : ¬ x2 < x := by
          have := w_most qu qv hm2
          have := bar B2 hB2
          omega
        exact ⟨f2, f, rfl, bf2.sm, bf.sm, _, rfl, iteEqX (c := false) (decide_eq_false fun z => ge2 ((fv2.lt g.pos fv).mp z)) (iteF ⟨_, _, _, _, rfl⟩)⟩
      rintro e ⟨y10, y11, y12, y13, rfl⟩
      generalize EV.dat (.lst [.int r, .int l1, .int ra, .int rb]) = y9
      refine seqAny (fun e => ∃ v ∈ W, (∀ u ∈ W, dv Q c r u ≤ dv Q c r v ∧ (u.s < v.s → dv Q c r u < dv Q c r v)) ∧ e = [.dat (.fro (ns.map D.int)), .dat (.tok p), .dat (lnD l0 l1), .dat (wD W), y4, .dat (.int v.s), y6, .dat (toldD cS c r outs), .dat (frD f), y9, y10, y11, y12, y13, .dat (frD (redI (gap c r v) v.q)), .un, .un, .un, .un, .un]) (fun Ψ k => ⟨_, _, _, rfl, rfl, Q, W, c, r, rfl, g, T.line, fun v hv hmx => ⟨rfl, rfl, k _ ⟨v, hv, hmx, rfl⟩⟩⟩) ?_
      rintro e ⟨v, hv, hmx, rfl⟩
      have F := g.far hv T.line
      obtain rfl : x = dv Q c r v := most_one hm ⟨⟨v, hv, rfl⟩, fun u hu => (hmx u hu).1⟩
      have small : (redI (gap c r v) v.q).2 ≤ 60 := by
        obtain ⟨_, _, _, b4⟩ := line_bd T.line (g.ok v hv)
        have h1 := (lw.ok v hv).2.2
        have := (red_le (n := gap c r v) (q := v.q) b4.1 (by omega)).2.2
        omega
      generalize hfp : redI (gap c r v) v.q = fp at F small
      have bp : Bd fp := ⟨F.n, F.q⟩
      have lim : ∀ {z : Int × Int}, Bd z → (-(2 ^ 64) < z.1 ∧ z.1 < 2 ^ 64) := fun h => by have := h.1; omega
      refine seqTo (e' := [.dat (.fro (ns.map D.int)), .dat (.tok p), .dat (lnD l0 l1), .dat (wD W), y4, .dat (.int v.s), y6, .dat (toldD cS c r outs), .dat (frD f), y9, y10, y11, y12, y13, .dat (frD fp), .un, .un, .un, .un, .un]) (fun Ψ k => ?_) ?_
      · refine ⟨_, rfl, _, rfl, .inr ⟨.inl (lim bp), _, rfl, _, rfl, .inr ⟨.inl (lim bf), rfl, rfl, _, rfl, iteEqX (c := false) ?_ (iteF ?_)⟩⟩⟩
        · rw [eqD_ii, (F.fv.eq g.pos fv).mpr rfl]; simp
        refine ⟨_, _, _, rfl, rfl, _, _, _, _, rfl, rfl, get_w g.nd hv, _, rfl, Q, [v], c, r, rfl, one_good g hv, T.line, fun f3 x3 fv3 bf3 hm3 hd3 => ?_⟩
        refine ⟨_, rfl, _, rfl, .inr ⟨.inl (lim bf3), _, rfl, ?_⟩⟩
        refine ⟨_, _, _, rfl, rfl, _, _, _, _, rfl, rfl, get_w g.nd hv, _, rfl, Q, [v], c, r, rfl, one_good g hv, T.line, fun f4 x4 fv4 bf4 hm4 hd4 => ?_⟩
        obtain rfl := one_same (one_most hm3) (one_most hm4) hd3 hd4
        obtain rfl := one_most hm3
        refine ⟨_, rfl, .inr ⟨.inl (lim bf), rfl, rfl, _, rfl, iteEqX (c := false) ?_ (iteF k)⟩⟩
        rw [eqD_ii, (fv3.eq g.pos fv).mpr rfl]; simp
      refine seqTo (e' := [.dat (.fro (ns.map D.int)), .dat (.tok p), .dat (lnD l0 l1), .dat (wD W), y4, .dat (.int v.s), y6, .dat (toldD cS c r outs), .dat (frD f), y9, y10, y11, y12, y13, .dat (frD fp), .un, .un, .un, .un, .un]) (fun Ψ k => ?_) ?_
      · refine ⟨_, _, rfl, ?_⟩
        rw [keys_w]
        refine lc_filter (α := Wt) W (fun u => .int u.s) (fun _ => .bl false) (fun u => decide (u.s < v.s)) (by rw [List.map_map]; rfl) (by omega) (fun u hu J acc h1 h2 => ?_) ?_
        · refine ⟨_, rfl, iteB (fun z => ?_) (fun z => ?_)⟩
          · have lt := (hmx u hu).2 (of_decide_eq_true z)
            refine ⟨_, _, _, rfl, rfl, _, _, _, _, rfl, rfl, get_w g.nd hu, _, rfl, Q, [u], c, r, rfl, one_good g hu, T.line, fun f3 x3 fv3 bf3 hm3 hd3 => ?_⟩
            obtain rfl := one_most hm3
            refine ⟨f3, f, rfl, bf3.sm, bf.sm, _, rfl, ?_⟩
            rw [decide_eq_true ((fv3.lt g.pos fv).mpr lt)]
            exact ⟨rfl, h1 z⟩
          · exact ⟨rfl, h2 z⟩
        refine ⟨(W.filter fun u => decide (u.s < v.s)).map fun _ => false, by rw [List.map_map]; rfl, _, rfl, iteEqX (c := false) ?_ (iteF k)⟩
        rw [List.any_map]
        simp
      refine seqTo (e' := [.dat (.fro (ns.map D.int)), .dat (.tok p), .dat (lnD l0 l1), .dat (wD W), y4, .dat (.int v.s), y6, .dat (toldD cS c r outs), .dat (frD f), y9, y10, .dat (.int fp.2), y12, y13, .dat (frD fp), .un, .dat (.int fp.1), .un, .un, .un]) (fun Ψ k => ⟨_, rfl, _, rfl, k⟩) ?_
      refine seqAny (fun e => ∃ y4 b, e = [.dat (.fro (ns.map D.int)), .dat (.tok p), .dat (lnD l0 l1), .dat (wD W), y4, .dat (.int v.s), y6, .dat (toldD cS c r outs), .dat (frD f), y9, y10, .dat (.int 1), y12, y13, .dat (frD fp), .un, .dat (.int b), .un, .un, .un]) (fun Ψ kk => ?_) ?_
      · refine ⟨_, rfl, by decide, by decide, ?_⟩
        refine ⟨fun k e => ∃ y4 a b, Eu k a b ∧ e = [.dat (.fro (ns.map D.int)), .dat (.tok p), .dat (lnD l0 l1), .dat (wD W), y4, .dat (.int v.s), y6, .dat (toldD cS c r outs), .dat (frD f), y9, y10, .dat (.int a), y12, y13, .dat (frD fp), .un, .dat (.int b), .un, .un, .un], ⟨_, _, _, ?_, rfl⟩, ?_, ?_⟩
        · have h1 := F.n
          have h2 := F.q
          exact ⟨⟨by omega, by omega⟩, by rw [Nat.gcd_comm]; exact F.co, fun _ => ⟨by omega, small⟩, fun z => by omega, fun z => by omega, fun z => by omega⟩
        · rintro k x e hx ⟨y4, a, b, eu, rfl⟩
          obtain ⟨hk, rfl⟩ := rngD_get hx
          refine gN_env (e' := [.dat (.fro (ns.map D.int)), .dat (.tok p), .dat (lnD l0 l1), .dat (wD W), .dat (.int (0 + (k : Int))), .dat (.int v.s), y6, .dat (toldD cS c r outs), .dat (frD f), y9, y10, .dat (.int a), y12, y13, .dat (frD fp), .un, .dat (.int b), .un, .un, .un]) rfl ?_
          refine ⟨rfl, rfl, _, rfl, iteB (fun z => ?_) (fun z => ?_)⟩
          · have hb : b ≠ 0 := fun e => by rw [eqD_ii, e] at z; simp at z
            exact ⟨by have := eu.1.2; omega, _, b, a % b, eu_go eu hb, rfl⟩
          · have hb : b = 0 := by rw [eqD_ii] at z; simpa using z
            subst hb
            refine ⟨_, a, 0, ?_, rfl⟩
            rcases Nat.eq_zero_or_pos k with q | q
            · subst q; exact eu_stop0 eu
            · exact eu_stop eu (by omega)
        · rintro e ⟨y4, a, b, eu, rfl⟩
          rw [rngD_len] at eu
          obtain rfl := eu_end eu
          exact kk _ ⟨_, _, rfl⟩
      rintro e ⟨z4, b, rfl⟩
      refine seqTo (e' := [.dat (.fro (ns.map D.int)), .dat (.tok p), .dat (lnD l0 l1), .dat (wD W), z4, .dat (.int v.s), y6, .dat (toldD cS c r outs), .dat (frD f), y9, y10, .dat (.int 1), y12, y13, .dat (frD fp), .un, .dat (.int b), .un, .un, .un]) (fun Ψ k => ?_) ?_
      · exact ⟨rfl, rfl, _, rfl, iteEqX (c := false) (by rw [eqD_ii]; simp) (iteF ⟨_, rfl, _, rfl, iteEqX (c := false) (decide_eq_false (by have := bp.2; omega)) (iteF k)⟩)⟩
      generalize EV.dat (.int 1) = y11
      generalize EV.dat (.int b) = y16
      generalize EV.dat (frD fp) = y14
      generalize EV.dat (.int v.s) = y5
      refine seqAny (fun e => ∃ wb : Int, (-99 ≤ wb ∧ wb ≤ 99) ∧ e = [.dat (.fro (ns.map D.int)), .dat (.tok p), .dat (lnD l0 l1), .dat (wD W), z4, y5, y6, .dat (toldD cS c r outs), .dat (frD f), y9, y10, y11, y12, y13, y14, .un, y16, .dat (lnD wb r), .un, .un]) (fun Ψ k => ?_) ?_
      · have hc := T.line.1
        refine ⟨_, _, _, rfl, rfl, _, rfl, _, rfl, iteB (fun z => ?_) (fun z => ?_)⟩
        · have z := of_decide_eq_true z
          exact ⟨_, _, _, rfl, rfl, _, rfl, _, _, _, rfl, rfl, _, rfl, Nat.le_of_ble_eq_true rfl, k _ ⟨c + 7, by omega, rfl⟩⟩
        · exact ⟨_, _, _, rfl, rfl, _, rfl, _, _, _, rfl, rfl, _, rfl, Nat.le_of_ble_eq_true rfl, k _ ⟨c - 7, by have := of_decide_eq_false z; omega, rfl⟩⟩
      rintro e ⟨wb, hwb, rfl⟩
      have lw2 : LineOk wb r := ⟨hwb, T.line.2⟩
      have olen : (outL outs).length = 19 := by unfold outL; rw [List.length_map]; exact T.ok.len
      refine seqTo (e' := [.dat (.fro (ns.map D.int)), .dat (.tok p), .dat (lnD l0 l1), .dat (wD W), z4, y5, y6, .dat (toldD cS c r outs), .dat (frD f), y9, y10, y11, y12, y13, y14, .un, y16, .dat (lnD wb r), .un, .un]) (fun Ψ k => ?_) ?_
      · refine ⟨_, _, _, rfl, rfl, wb, r, rsL, outL outs, rfl, by decide +kernel, by rw [olen]; rfl, by decide +kernel, ?_⟩
        refine ⟨_, _, rfl, by decide +kernel, Q, W, wb, r, rsK, outL outs, rfl, g, lw2, .inr ⟨outs, rfl, rfl, T.ok, fun x' hm' b1 hb1 => ?_⟩⟩
        refine ⟨Q, W, wb, r, rfl, g, lw2, fun f5 x5 fv5 bf5 hm5 _ => ⟨f, f5, rfl, bf.sm, bf5.sm, _, rfl, rfl, rfl, _, rfl, iteEqX (c := false) ?_ (iteF k)⟩⟩
        obtain rfl := most_one hm' hm5
        have bar := T.bar g hm x'
        have e5 : decide (f.1 * f5.2 < f5.1 * f.2) = decide (dv Q c r v < x') := by
          have := fv.lt g.pos fv5
          by_cases z : dv Q c r v < x'
          · rw [decide_eq_true z, decide_eq_true (this.mpr z)]
          · rw [decide_eq_false z, decide_eq_false fun y => z (this.mp y)]
        rw [e5]
        have eb : b1 = !decide (dv Q c r v < x') := by
          by_cases z : dv Q c r v < x'
          · rw [decide_eq_true z]
            cases b1 with
            | true => have := bar.mp (hb1.mp rfl); omega
            | false => rfl
          · rw [decide_eq_false z]
            exact hb1.mpr (bar.mpr (by omega))
        rw [eb]
        unfold eqD
        simp
      refine seqAny (fun e => ∃ rr : Int, (-9 ≤ rr ∧ rr ≤ 9) ∧ e = [.dat (.fro (ns.map D.int)), .dat (.tok p), .dat (lnD l0 l1), .dat (wD W), z4, y5, y6, .dat (toldD cS c r outs), .dat (frD f), y9, .dat (.int rr), y11, y12, y13, y14, .un, y16, .dat (lnD wb r), .un, .un]) (fun Ψ k => ⟨p, ns, _, rfl, d, by decide, fun a h0 h1 => k _ ⟨a - 9, by omega, rfl⟩⟩) ?_
      rintro e ⟨rr, hrr, rfl⟩
      refine seqAny (fun e => ∃ (ks : List Int) (ll : List D), ks.Nodup ∧ ks.length = ll.length ∧ ks.length < 19 ∧ e = [.dat (.fro (ns.map D.int)), .dat (.tok p), .dat (lnD l0 l1), .dat (wD W), z4, y5, y6, .dat (toldD cS c r outs), .dat (frD f), y9, .dat (.int rr), y11, y12, y13, y14, .dat (zD (ks.map .inl) ll), y16, .dat (lnD wb r), .un, .un]) (fun Ψ k => ?_) ?_
      · refine ⟨_, _, _, rfl, rfl, _, _, rfl, ?_⟩
        rw [kv_told]
        refine lc_filter (α := Int × (Wt × Wt)) (rsL.zip outs) (fun q => .tup [.int q.1, szD q.2.1 q.2.2]) (fun q => .tup [.int q.1, szD q.2.1 q.2.2]) (fun q => !(q.1 == rr)) rfl (by rw [List.length_zip, T.ok.len]; decide +kernel) (fun q hq J acc h1 h2 => ?_) ?_
        · refine ⟨_, rfl, rfl, rfl, _, rfl, iteB (fun z => ⟨rfl, h1 ?_⟩) (fun z => ⟨rfl, h2 ?_⟩)⟩
          · rw [← eqD_ii]; exact z
          · rw [← eqD_ii]; exact z
        obtain ⟨nd, lt⟩ := told_less T.ok.len hrr
        refine ⟨((rsL.zip outs).filter fun q => !(q.1 == rr)).map fun q => (.inl q.1, szD q.2.1 q.2.2), by rw [List.map_map]; rfl, ?_⟩
        rw [merge_nd0 _ (by rw [List.map_map]; exact nd_map nd)]
        refine k _ ⟨((rsL.zip outs).filter fun q => !(q.1 == rr)).map (·.1), ((rsL.zip outs).filter fun q => !(q.1 == rr)).map fun q => szD q.2.1 q.2.2, nd, by rw [List.length_map, List.length_map], lt, ?_⟩
        rw [List.map_map, List.map_map, List.map_map]
        rfl
      rintro e ⟨ks, ll, nd, hkl, lt, rfl⟩
      refine seqTo (e' := [.dat (.fro (ns.map D.int)), .dat (.tok p), .dat (lnD l0 l1), .dat (wD W), z4, y5, y6, .dat (toldD cS c r outs), .dat (frD f), y9, .dat (.int rr), y11, y12, y13, y14, .dat (zD (ks.map .inl) ll), y16, .dat (lnD wb r), .un, .un]) (fun Ψ k => ?_) ?_
      · refine ⟨_, _, _, rfl, rfl, c, r, ks, ll, rfl, nd, hkl, by omega, ?_⟩
        exact ⟨_, _, rfl, by decide +kernel, Q, W, c, r, ks.map .inl, ll, rfl, g, T.line, .inl ⟨by rw [List.length_map]; omega, _, rfl, iteF k⟩⟩
      refine seqAny (fun e => ∃ y18, e = [.dat (.fro (ns.map D.int)), .dat (.tok p), .dat (lnD l0 l1), .dat (wD W), z4, y5, y6, .dat (toldD cS c r outs), .dat (frD f), y9, .dat (.int rr), y11, y12, y13, y14, .dat (zD (ks.map .inl) ll), y16, .dat (lnD wb r), y18, .un]) (fun Ψ kk => ?_) ?_
      · refine ⟨_, rfl, Nat.le_of_ble_eq_true rfl, _, rfl, Nat.le_of_ble_eq_true rfl, _, rfl, Nat.le_of_ble_eq_true rfl, _, rfl, Nat.le_of_ble_eq_true rfl, _, rfl, Nat.le_of_ble_eq_true rfl, Nat.le_of_ble_eq_true rfl, _, rfl, Nat.le_of_ble_eq_true rfl, _, rfl, Nat.le_of_ble_eq_true rfl, badL P w, rfl, ?_⟩
        refine ⟨fun _ e => ∃ y18, e = [.dat (.fro (ns.map D.int)), .dat (.tok p), .dat (lnD l0 l1), .dat (wD W), z4, y5, y6, .dat (toldD cS c r outs), .dat (frD f), y9, .dat (.int rr), y11, y12, y13, y14, .dat (zD (ks.map .inl) ll), y16, .dat (lnD wb r), y18, .un], ⟨_, rfl⟩, ?_, fun e h => kk e h⟩
        rintro k x0 e hx ⟨y18, rfl⟩
        have hb := bad_all (List.mem_of_getElem? hx)
        refine gN_env (e' := [.dat (.fro (ns.map D.int)), .dat (.tok p), .dat (lnD l0 l1), .dat (wD W), z4, y5, y6, .dat (toldD cS c r outs), .dat (frD f), y9, .dat (.int rr), y11, y12, y13, y14, .dat (zD (ks.map .inl) ll), y16, .dat (lnD wb r), .dat x0, .un]) rfl ?_
        intro F0 G0
        exact ⟨x0, rfl, hb, true, xm, fun _ _ _ _ _ _ => ⟨_, rfl⟩, fun z => nomatch z⟩
      rintro e ⟨y18, rfl⟩
      rfl)
end
end K73

namespace K73
open PySem PySem.Spec PyProof.Rows L2 Dz X73

theorem all_mk {l : PySem.W.OpenLaw} {w : World} {K : PySem.W.Frag} {h : Heap} {mg : Str → Option Value} {fa : Addr} (X : K.In h) (G : h.Ns mainGlobals mg) (hfa : mg "law" = some (.ref fa))
    {cS cT : Addr} {u0 u1 u2 u3 : Tok}
    {f0 : Addr} {od0 an0 : Option Addr} {sl0 : Array (Option Value)} {oc0 kV0 dc0 pm0 cd0 ct0 : Value}
    {f1 : Addr} {od1 an1 : Option Addr} {sl1 : Array (Option Value)} {oc1 kV1 dc1 pm1 cd1 ct1 : Value}
    {f2 : Addr} {od2 an2 : Option Addr} {sl2 : Array (Option Value)} {oc2 kV2 dc2 pm2 cd2 ct2 : Value}
    {f3 : Addr} {od3 an3 : Option Addr} {sl3 : Array (Option Value)} {oc3 kV3 dc3 pm3 cd3 ct3 : Value}
    {f4 : Addr} {od4 an4 : Option Addr} {sl4 : Array (Option Value)} {oc4 kV4 dc4 pm4 cd4 ct4 : Value}
    {f5 : Addr} {od5 an5 : Option Addr} {sl5 : Array (Option Value)} {oc5 kV5 dc5 pm5 cd5 ct5 : Value}
    {f6 : Addr} {od6 an6 : Option Addr} {sl6 : Array (Option Value)} {oc6 kV6 dc6 pm6 cd6 ct6 : Value}
    {f7 : Addr} {od7 an7 : Option Addr} {sl7 : Array (Option Value)} {oc7 kV7 dc7 pm7 cd7 ct7 : Value}
    {f8 : Addr} {od8 an8 : Option Addr} {sl8 : Array (Option Value)} {oc8 kV8 dc8 pm8 cd8 ct8 : Value}
    {f9 : Addr} {od9 an9 : Option Addr} {sl9 : Array (Option Value)} {oc9 kV9 dc9 pm9 cd9 ct9 : Value}
    {f10 : Addr} {od10 an10 : Option Addr} {sl10 : Array (Option Value)} {oc10 kV10 dc10 pm10 cd10 ct10 : Value}
    {f11 : Addr} {od11 an11 : Option Addr} {sl11 : Array (Option Value)} {oc11 kV11 dc11 pm11 cd11 ct11 : Value}
    {f12 : Addr} {od12 an12 : Option Addr} {sl12 : Array (Option Value)} {oc12 kV12 dc12 pm12 cd12 ct12 : Value}
    {f13 : Addr} {od13 an13 : Option Addr} {sl13 : Array (Option Value)} {oc13 kV13 dc13 pm13 cd13 ct13 : Value}
    {f14 : Addr} {od14 an14 : Option Addr} {sl14 : Array (Option Value)} {oc14 kV14 dc14 pm14 cd14 ct14 : Value}
    {f15 : Addr} {od15 an15 : Option Addr} {sl15 : Array (Option Value)} {oc15 kV15 dc15 pm15 cd15 ct15 : Value}
    {f16 : Addr} {od16 an16 : Option Addr} {sl16 : Array (Option Value)} {oc16 kV16 dc16 pm16 cd16 ct16 : Value}
    {f17 : Addr} {od17 an17 : Option Addr} {sl17 : Array (Option Value)} {oc17 kV17 dc17 pm17 cd17 ct17 : Value}
    {f18 : Addr} {od18 an18 : Option Addr} {sl18 : Array (Option Value)} {oc18 kV18 dc18 pm18 cd18 ct18 : Value}
    {f19 : Addr} {od19 an19 : Option Addr} {sl19 : Array (Option Value)} {oc19 kV19 dc19 pm19 cd19 ct19 : Value}
    {f20 : Addr} {od20 an20 : Option Addr} {sl20 : Array (Option Value)} {oc20 kV20 dc20 pm20 cd20 ct20 : Value}
    {f21 : Addr} {od21 an21 : Option Addr} {sl21 : Array (Option Value)} {oc21 kV21 dc21 pm21 cd21 ct21 : Value}
    {f22 : Addr} {od22 an22 : Option Addr} {sl22 : Array (Option Value)} {oc22 kV22 dc22 pm22 cd22 ct22 : Value}
    {f23 : Addr} {od23 an23 : Option Addr} {sl23 : Array (Option Value)} {oc23 kV23 dc23 pm23 cd23 ct23 : Value}
    (a0 : PySem.W.nsIn K mainGlobals "is_whole" = some (some (.ref f0)))
    (l0 : K.lookup f0 = some ⟨oc0, od0, .func (PySem.W.fnOf "is_whole" "is_whole" (defArgs s_is_whole) (defBody s_is_whole) (defScope s_is_whole) .none kV0 dc0 pm0 an0 cd0 ct0), sl0⟩) (c0 : PySem.W.codeIn K cd0 "is_whole" = true) (k0 : PySem.W.keepIn K (.ref f0) = true)
    (a1 : PySem.W.nsIn K mainGlobals "is_size" = some (some (.ref f1)))
    (l1 : K.lookup f1 = some ⟨oc1, od1, .func (PySem.W.fnOf "is_size" "is_size" (defArgs s_is_size) (defBody s_is_size) (defScope s_is_size) .none kV1 dc1 pm1 an1 cd1 ct1), sl1⟩) (c1 : PySem.W.codeIn K cd1 "is_size" = true) (k1 : PySem.W.keepIn K (.ref f1) = true)
    (a2 : PySem.W.nsIn K mainGlobals "is_line" = some (some (.ref f2)))
    (l2 : K.lookup f2 = some ⟨oc2, od2, .func (PySem.W.fnOf "is_line" "is_line" (defArgs s_is_line) (defBody s_is_line) (defScope s_is_line) .none kV2 dc2 pm2 an2 cd2 ct2), sl2⟩) (c2 : PySem.W.codeIn K cd2 "is_line" = true) (k2 : PySem.W.keepIn K (.ref f2) = true)
    (a3 : PySem.W.nsIn K mainGlobals "line_at" = some (some (.ref f3)))
    (l3 : K.lookup f3 = some ⟨oc3, od3, .func (PySem.W.fnOf "line_at" "line_at" (defArgs s_line_at) (defBody s_line_at) (defScope s_line_at) .none kV3 dc3 pm3 an3 cd3 ct3), sl3⟩) (c3 : PySem.W.codeIn K cd3 "line_at" = true) (k3 : PySem.W.keepIn K (.ref f3) = true)
    (a4 : PySem.W.findIn K (.ref cS) "__init__" = some (some (.ref f4))) (i4 : PySem.W.isFn K (.ref f4) = true)
    (l4 : K.lookup f4 = some ⟨oc4, od4, .func (PySem.W.fnOf "__init__" "Grade.__init__" (defArgs s_Grade_init) (defBody s_Grade_init) (defScope s_Grade_init) .none kV4 dc4 pm4 an4 cd4 ct4), sl4⟩) (c4 : PySem.W.codeIn K cd4 "Grade.__init__" = true) (k4 : PySem.W.keepIn K (.ref f4) = true)
    (a5 : PySem.W.findIn K (.ref cS) "shows" = some (some (.ref f5))) (i5 : PySem.W.isFn K (.ref f5) = true)
    (l5 : K.lookup f5 = some ⟨oc5, od5, .func (PySem.W.fnOf "shows" "Grade.shows" (defArgs s_Grade_shows) (defBody s_Grade_shows) (defScope s_Grade_shows) .none kV5 dc5 pm5 an5 cd5 ct5), sl5⟩) (c5 : PySem.W.codeIn K cd5 "Grade.shows" = true) (k5 : PySem.W.keepIn K (.ref f5) = true)
    (a6 : PySem.W.findIn K (.ref cS) "bars" = some (some (.ref f6))) (i6 : PySem.W.isFn K (.ref f6) = true)
    (l6 : K.lookup f6 = some ⟨oc6, od6, .func (PySem.W.fnOf "bars" "Grade.bars" (defArgs s_Grade_bars) (defBody s_Grade_bars) (defScope s_Grade_bars) .none kV6 dc6 pm6 an6 cd6 ct6), sl6⟩) (c6 : PySem.W.codeIn K cd6 "Grade.bars" = true) (k6 : PySem.W.keepIn K (.ref f6) = true)
    (a7 : PySem.W.nsIn K mainGlobals "grade" = some (some (.ref f7)))
    (l7 : K.lookup f7 = some ⟨oc7, od7, .func (PySem.W.fnOf "grade" "grade" (defArgs s_grade) (defBody s_grade) (defScope s_grade) .none kV7 dc7 pm7 an7 cd7 ct7), sl7⟩) (c7 : PySem.W.codeIn K cd7 "grade" = true) (k7 : PySem.W.keepIn K (.ref f7) = true)
    (a8 : PySem.W.nsIn K mainGlobals "far_by" = some (some (.ref f8)))
    (l8 : K.lookup f8 = some ⟨oc8, od8, .func (PySem.W.fnOf "far_by" "far_by" (defArgs s_far_by) (defBody s_far_by) (defScope s_far_by) .none kV8 dc8 pm8 an8 cd8 ct8), sl8⟩) (c8 : PySem.W.codeIn K cd8 "far_by" = true) (k8 : PySem.W.keepIn K (.ref f8) = true)
    (a9 : PySem.W.nsIn K mainGlobals "check_wanted_measures" = some (some (.ref f9)))
    (l9 : K.lookup f9 = some ⟨oc9, od9, .func (PySem.W.fnOf "check_wanted_measures" "check_wanted_measures" (defArgs s_check_wanted_measures) (defBody s_check_wanted_measures) (defScope s_check_wanted_measures) .none kV9 dc9 pm9 an9 cd9 ct9), sl9⟩) (c9 : PySem.W.codeIn K cd9 "check_wanted_measures" = true) (k9 : PySem.W.keepIn K (.ref f9) = true)
    (a10 : PySem.W.nsIn K mainGlobals "is_measure" = some (some (.ref f10)))
    (l10 : K.lookup f10 = some ⟨oc10, od10, .func (PySem.W.fnOf "is_measure" "is_measure" (defArgs s_is_measure) (defBody s_is_measure) (defScope s_is_measure) .none kV10 dc10 pm10 an10 cd10 ct10), sl10⟩) (c10 : PySem.W.codeIn K cd10 "is_measure" = true) (k10 : PySem.W.keepIn K (.ref f10) = true)
    (a11 : PySem.W.nsIn K mainGlobals "rises" = some (some (.ref f11)))
    (l11 : K.lookup f11 = some ⟨oc11, od11, .func (PySem.W.fnOf "rises" "rises" (defArgs s_rises) (defBody s_rises) (defScope s_rises) .none kV11 dc11 pm11 an11 cd11 ct11), sl11⟩) (c11 : PySem.W.codeIn K cd11 "rises" = true) (k11 : PySem.W.keepIn K (.ref f11) = true)
    (a12 : PySem.W.nsIn K mainGlobals "is_less" = some (some (.ref f12)))
    (l12 : K.lookup f12 = some ⟨oc12, od12, .func (PySem.W.fnOf "is_less" "is_less" (defArgs s_is_less) (defBody s_is_less) (defScope s_is_less) .none kV12 dc12 pm12 an12 cd12 ct12), sl12⟩) (c12 : PySem.W.codeIn K cd12 "is_less" = true) (k12 : PySem.W.keepIn K (.ref f12) = true)
    (a13 : PySem.W.nsIn K mainGlobals "distance_at" = some (some (.ref f13)))
    (l13 : K.lookup f13 = some ⟨oc13, od13, .func (PySem.W.fnOf "distance_at" "distance_at" (defArgs s_distance_at) (defBody s_distance_at) (defScope s_distance_at) .none kV13 dc13 pm13 an13 cd13 ct13), sl13⟩) (c13 : PySem.W.codeIn K cd13 "distance_at" = true) (k13 : PySem.W.keepIn K (.ref f13) = true)
    (a14 : PySem.W.nsIn K mainGlobals "farthest" = some (some (.ref f14)))
    (l14 : K.lookup f14 = some ⟨oc14, od14, .func (PySem.W.fnOf "farthest" "farthest" (defArgs s_farthest) (defBody s_farthest) (defScope s_farthest) .none kV14 dc14 pm14 an14 cd14 ct14), sl14⟩) (c14 : PySem.W.codeIn K cd14 "farthest" = true) (k14 : PySem.W.keepIn K (.ref f14) = true)
    (a15 : PySem.W.nsIn K mainGlobals "base_at" = some (some (.ref f15)))
    (l15 : K.lookup f15 = some ⟨oc15, od15, .func (PySem.W.fnOf "base_at" "base_at" (defArgs s_base_at) (defBody s_base_at) (defScope s_base_at) .none kV15 dc15 pm15 an15 cd15 ct15), sl15⟩) (c15 : PySem.W.codeIn K cd15 "base_at" = true) (k15 : PySem.W.keepIn K (.ref f15) = true)
    (a16 : PySem.W.nsIn K mainGlobals "outer_sizes" = some (some (.ref f16)))
    (l16 : K.lookup f16 = some ⟨oc16, od16, .func (PySem.W.fnOf "outer_sizes" "outer_sizes" (defArgs s_outer_sizes) (defBody s_outer_sizes) (defScope s_outer_sizes) .none kV16 dc16 pm16 an16 cd16 ct16), sl16⟩) (c16 : PySem.W.codeIn K cd16 "outer_sizes" = true) (k16 : PySem.W.keepIn K (.ref f16) = true)
    (a17 : PySem.W.nsIn K mainGlobals "nearest_line" = some (some (.ref f17)))
    (l17 : K.lookup f17 = some ⟨oc17, od17, .func (PySem.W.fnOf "nearest_line" "nearest_line" (defArgs s_nearest_line) (defBody s_nearest_line) (defScope s_nearest_line) .none kV17 dc17 pm17 an17 cd17 ct17), sl17⟩) (c17 : PySem.W.codeIn K cd17 "nearest_line" = true) (k17 : PySem.W.keepIn K (.ref f17) = true)
    (a18 : PySem.W.nsIn K mainGlobals "_law_number" = some (some (.ref f18)))
    (l18 : K.lookup f18 = some ⟨oc18, od18, .func (PySem.W.fnOf "_law_number" "_law_number" (defArgs s_law_number) (defBody s_law_number) (defScope s_law_number) .none kV18 dc18 pm18 an18 cd18 ct18), sl18⟩) (c18 : PySem.W.codeIn K cd18 "_law_number" = true) (k18 : PySem.W.keepIn K (.ref f18) = true)
    (a19 : PySem.W.nsIn K mainGlobals "_law_take" = some (some (.ref f19)))
    (l19 : K.lookup f19 = some ⟨oc19, od19, .func (PySem.W.fnOf "_law_take" "_law_take" (defArgs s_law_take) (defBody s_law_take) (defScope s_law_take) .none kV19 dc19 pm19 an19 cd19 ct19), sl19⟩) (c19 : PySem.W.codeIn K cd19 "_law_take" = true) (k19 : PySem.W.keepIn K (.ref f19) = true)
    (a20 : PySem.W.nsIn K mainGlobals "_law_far" = some (some (.ref f20)))
    (l20 : K.lookup f20 = some ⟨oc20, od20, .func (PySem.W.fnOf "_law_far" "_law_far" (defArgs s_law_far) (defBody s_law_far) (defScope s_law_far) .none kV20 dc20 pm20 an20 cd20 ct20), sl20⟩) (c20 : PySem.W.codeIn K cd20 "_law_far" = true) (k20 : PySem.W.keepIn K (.ref f20) = true)
    (a21 : PySem.W.nsIn K mainGlobals "_law_less" = some (some (.ref f21)))
    (l21 : K.lookup f21 = some ⟨oc21, od21, .func (PySem.W.fnOf "_law_less" "_law_less" (defArgs s_law_less) (defBody s_law_less) (defScope s_law_less) .none kV21 dc21 pm21 an21 cd21 ct21), sl21⟩) (c21 : PySem.W.codeIn K cd21 "_law_less" = true) (k21 : PySem.W.keepIn K (.ref f21) = true)
    (a22 : PySem.W.nsIn K mainGlobals "_law_least" = some (some (.ref f22)))
    (l22 : K.lookup f22 = some ⟨oc22, od22, .func (PySem.W.fnOf "_law_least" "_law_least" (defArgs s_law_least) (defBody s_law_least) (defScope s_law_least) .none kV22 dc22 pm22 an22 cd22 ct22), sl22⟩) (c22 : PySem.W.codeIn K cd22 "_law_least" = true) (k22 : PySem.W.keepIn K (.ref f22) = true)
    (a23 : PySem.W.nsIn K mainGlobals "law" = some (some (.ref f23)))
    (l23 : K.lookup f23 = some ⟨oc23, od23, .func (PySem.W.fnOf "law" "law" (defArgs s_law) (defBody s_law) (defScope s_law) .none kV23 dc23 pm23 an23 cd23 ct23), sl23⟩) (c23 : PySem.W.codeIn K cd23 "law" = true) (k23 : PySem.W.keepIn K (.ref f23) = true)
    (aS_cS : PySem.W.nsIn K mainGlobals "Grade" = some (some (.ref cS)))
    (gcG : PySem.W.nsIn K mainGlobals "BadTable" = some (some (.ref cT)))
    (z0 : PySem.W.nsIn K mainGlobals "isinstance" = some none)
    (z1 : PySem.W.nsIn K mainGlobals "int" = some none)
    (z2 : PySem.W.nsIn K mainGlobals "bool" = some none)
    (z3 : PySem.W.nsIn K mainGlobals "tuple" = some none)
    (z4 : PySem.W.nsIn K mainGlobals "dict" = some none)
    (z5 : PySem.W.nsIn K mainGlobals "len" = some none)
    (z6 : PySem.W.nsIn K mainGlobals "all" = some none)
    (z7 : PySem.W.nsIn K mainGlobals "any" = some none)
    (z8 : PySem.W.nsIn K mainGlobals "list" = some none)
    (z9 : PySem.W.nsIn K mainGlobals "range" = some none)
    (z10 : PySem.W.nsIn K mainGlobals "sorted" = some none)
    (z11 : PySem.W.nsIn K mainGlobals "abs" = some none)
    (z12 : PySem.W.nsIn K mainGlobals "min" = some none)
    (z13 : PySem.W.nsIn K mainGlobals "max" = some none)
    (pg_cS : PySem.W.plainGet K cS Str.empty = true)
    (hd_cS : PySem.W.hasDictIn K cS = true)
    (po_cS : PySem.W.plainOver K cS = true)
    (sa_cS : PySem.W.findIn K (.ref cS) "__setattr__" = some (some (.builtin "object.__setattr__")))
    (mk_cS : PySem.W.makesIn K cS = true)
    (kc_cS : PySem.W.keepIn K (.ref cS) = true)
    (n_cS_line : PySem.W.findIn K (.ref cS) "line" = some none)
    (n_cS_against : PySem.W.findIn K (.ref cS) "against" = some none)
    (aG : PySem.W.nsIn K mainGlobals "gcd" = some (some (.builtin "math.gcd")))
    (xq : PySem.W.excIn K cT [.type "ValueError", .type "Exception", .type "BaseException", .type "object"] "ValueError.__new__" = true)
    (xk : PySem.W.keepIn K (.ref cT) = true)
    (xb : PySem.W.subIn K (.ref cT) (.type "BaseException") = some true)
    (xt : PySem.W.typeIn K (.ref cT) = some (.type "type"))
    (xd : PySem.W.hasDictIn K cT = true)
    (xs : PySem.W.subIn K (.ref cT) (.ref cT) = some true)
    (x0 : PySem.W.nsIn K mainGlobals "MOST_BASE" = some (some (.int 99 u0)))
    (x1 : PySem.W.nsIn K mainGlobals "MOST_RISE" = some (some (.int 9 u1)))
    (x2 : PySem.W.nsIn K mainGlobals "MOST_SIZE" = some (some (.int 1000 u2)))
    (x3 : PySem.W.nsIn K mainGlobals "MOST_ABOVE" = some (some (.int 10000 u3)))
    : ∃ fd : FuncData, (∀ (s : Shared) (v : Value), BindsTo s fd ⟨[v], []⟩ [("script", v)]) ∧ ∀ base : Heap, K.In base → base.Ns mainGlobals mg → FnOk l.prog w K mg base CX0 9 fa fd ["script"] (spLaw K) := by
  have e := hfa.symm.trans (PySem.W.mg_of X G a23)
  cases e
  have cl_cS : Cls K cS := ⟨pg_cS, hd_cS, po_cS, sa_cS⟩
  have T : TxtG w K mg cS := { mg_gcd := PySem.W.mg_of X G aG, mg_MOST_BASE := ⟨_, PySem.W.mg_of X G x0⟩, mg_MOST_RISE := ⟨_, PySem.W.mg_of X G x1⟩, mg_MOST_SIZE := ⟨_, PySem.W.mg_of X G x2⟩, mg_MOST_ABOVE := ⟨_, PySem.W.mg_of X G x3⟩, mg_isinstance := PySem.W.mg_none_of X G z0, mg_int := PySem.W.mg_none_of X G z1, mg_bool := PySem.W.mg_none_of X G z2, mg_tuple := PySem.W.mg_none_of X G z3, mg_dict := PySem.W.mg_none_of X G z4, mg_len := PySem.W.mg_none_of X G z5, mg_all := PySem.W.mg_none_of X G z6, mg_any := PySem.W.mg_none_of X G z7, mg_list := PySem.W.mg_none_of X G z8, mg_range := PySem.W.mg_none_of X G z9, mg_sorted := PySem.W.mg_none_of X G z10, mg_abs := PySem.W.mg_none_of X G z11, mg_min := PySem.W.mg_none_of X G z12, mg_max := PySem.W.mg_none_of X G z13, cl := cl_cS, na_line := n_cS_line, na_against := n_cS_against }
  have TX_BadTable : TxX K mg "BadTable" cT := ⟨xq, PySem.W.mg_of X G gcG, xk, xb, xt⟩
  have xm := PySem.W.exm_ref xb xd xt xs
  have F0 := fun_mk (st := s_is_whole) l0 c0 k0
  have b0 := F0.binds (ps := ["thing"]) fun _ _ _ _ _ _ us hl => match us, hl with | [_], _ => rfl
  have F1 := fun_mk (st := s_is_size) l1 c1 k1
  have b1 := F1.binds (ps := ["thing"]) fun _ _ _ _ _ _ us hl => match us, hl with | [_], _ => rfl
  have F2 := fun_mk (st := s_is_line) l2 c2 k2
  have b2 := F2.binds (ps := ["thing"]) fun _ _ _ _ _ _ us hl => match us, hl with | [_], _ => rfl
  have F3 := fun_mk (st := s_line_at) l3 c3 k3
  have b3 := F3.binds (ps := ["line", "size"]) fun _ _ _ _ _ _ us hl => match us, hl with | [_, _], _ => rfl
  have F4 := fun_mk (st := s_Grade_init) l4 c4 k4
  have b4 := F4.binds (ps := ["self", "line", "against"]) fun _ _ _ _ _ _ us hl => match us, hl with | [_, _, _], _ => rfl
  have F5 := fun_mk (st := s_Grade_shows) l5 c5 k5
  have b5 := F5.binds (ps := ["self", "wanted"]) fun _ _ _ _ _ _ us hl => match us, hl with | [_, _], _ => rfl
  have F6 := fun_mk (st := s_Grade_bars) l6 c6 k6
  have b6 := F6.binds (ps := ["self", "rise", "far", "wanted"]) fun _ _ _ _ _ _ us hl => match us, hl with | [_, _, _, _], _ => rfl
  have F7 := fun_mk (st := s_grade) l7 c7 k7
  have b7 := F7.binds (ps := ["wanted"]) fun _ _ _ _ _ _ us hl => match us, hl with | [_], _ => rfl
  have F8 := fun_mk (st := s_far_by) l8 c8 k8
  have b8 := F8.binds (ps := ["line", "wanted"]) fun _ _ _ _ _ _ us hl => match us, hl with | [_, _], _ => rfl
  have F9 := fun_mk (st := s_check_wanted_measures) l9 c9 k9
  have b9 := F9.binds (ps := ["wanted"]) fun _ _ _ _ _ _ us hl => match us, hl with | [_], _ => rfl
  have F10 := fun_mk (st := s_is_measure) l10 c10 k10
  have b10 := F10.binds (ps := ["thing"]) fun _ _ _ _ _ _ us hl => match us, hl with | [_], _ => rfl
  have F11 := fun_mk (st := s_rises) l11 c11 k11
  have b11 := F11.binds (ps := []) fun _ _ _ _ _ _ us hl => match us, hl with | [], _ => rfl
  have F12 := fun_mk (st := s_is_less) l12 c12 k12
  have b12 := F12.binds (ps := ["one", "other"]) fun _ _ _ _ _ _ us hl => match us, hl with | [_, _], _ => rfl
  have F13 := fun_mk (st := s_distance_at) l13 c13 k13
  have b13 := F13.binds (ps := ["line", "size", "measure"]) fun _ _ _ _ _ _ us hl => match us, hl with | [_, _, _], _ => rfl
  have F14 := fun_mk (st := s_farthest) l14 c14 k14
  have b14 := F14.binds (ps := ["line", "wanted"]) fun _ _ _ _ _ _ us hl => match us, hl with | [_, _], _ => rfl
  have F15 := fun_mk (st := s_base_at) l15 c15 k15
  have b15 := F15.binds (ps := ["rise", "size", "measure"]) fun _ _ _ _ _ _ us hl => match us, hl with | [_, _, _], _ => rfl
  have F16 := fun_mk (st := s_outer_sizes) l16 c16 k16
  have b16 := F16.binds (ps := ["rise", "wanted"]) fun _ _ _ _ _ _ us hl => match us, hl with | [_, _], _ => rfl
  have F17 := fun_mk (st := s_nearest_line) l17 c17 k17
  have b17 := F17.binds (ps := ["rise", "sizes", "wanted"]) fun _ _ _ _ _ _ us hl => match us, hl with | [_, _, _], _ => rfl
  have F18 := fun_mk (st := s_law_number) l18 c18 k18
  have b18 := F18.binds (ps := ["script", "index"]) fun _ _ _ _ _ _ us hl => match us, hl with | [_, _], _ => rfl
  have F19 := fun_mk (st := s_law_take) l19 c19 k19
  have b19 := F19.binds (ps := ["draw", "many"]) fun _ _ _ _ _ _ us hl => match us, hl with | [_, _], _ => rfl
  have F20 := fun_mk (st := s_law_far) l20 c20 k20
  have b20 := F20.binds (ps := ["line", "wanted"]) fun _ _ _ _ _ _ us hl => match us, hl with | [_, _], _ => rfl
  have F21 := fun_mk (st := s_law_less) l21 c21 k21
  have b21 := F21.binds (ps := ["one", "other"]) fun _ _ _ _ _ _ us hl => match us, hl with | [_, _], _ => rfl
  have F22 := fun_mk (st := s_law_least) l22 c22 k22
  have b22 := F22.binds (ps := ["wanted", "rise"]) fun _ _ _ _ _ _ us hl => match us, hl with | [_, _], _ => rfl
  have F23 := fun_mk (st := s_law) l23 c23 k23
  refine ⟨PySem.W.fnOf "law" "law" (defArgs s_law) (defBody s_law) (defScope s_law) .none kV23 dc23 pm23 an23 cd23 ct23, fun s v => .of_eq rfl, fun base _ _ => ?_⟩
  have H0_G_law_number : Own l.prog w K mg base "_law_number" 1 ["script", "index"] pdNumber := Own.mk' (ok_law_number F18 T) (PySem.W.mg_of X G a18) k18 b18
  have H1_G_law_take : Own l.prog w K mg base "_law_take" 2 ["draw", "many"] pdTake := Own.mk' (ok_law_take F19 T H0_G_law_number) (PySem.W.mg_of X G a19) k19 b19
  have H2_G_is_whole : Own l.prog w K mg base "is_whole" 1 ["thing"] pd_is_whole := Own.mk' (ok_is_whole F0 T) (PySem.W.mg_of X G a0) k0 b0
  have H3_G_is_size : Own l.prog w K mg base "is_size" 2 ["thing"] pd_is_size := Own.mk' (ok_is_size F1 T H2_G_is_whole) (PySem.W.mg_of X G a1) k1 b1
  have H4_G_is_measure : Own l.prog w K mg base "is_measure" 2 ["thing"] pd_is_measure := Own.mk' (ok_is_measure F10 T H2_G_is_whole) (PySem.W.mg_of X G a10) k10 b10
  have H5_G_check_wanted_measures : Own l.prog w K mg base "check_wanted_measures" 3 ["wanted"] pd_check := Own.mk' (ok_check_wanted_measures F9 T H3_G_is_size H4_G_is_measure) (PySem.W.mg_of X G a9) k9 b9
  have H6_G_base_at : Own l.prog w K mg base "base_at" 1 ["rise", "size", "measure"] pd_base_at := Own.mk' (ok_base_at F15 T) (PySem.W.mg_of X G a15) k15 b15
  have H7_G_is_less : Own l.prog w K mg base "is_less" 1 ["one", "other"] pd_is_less := Own.mk' (ok_is_less F12 T) (PySem.W.mg_of X G a12) k12 b12
  have H8_G_outer_sizes : Own l.prog w K mg base "outer_sizes" 2 ["rise", "wanted"] pd_outer_sizes := Own.mk' (ok_outer_sizes F16 T H6_G_base_at H7_G_is_less) (PySem.W.mg_of X G a16) k16 b16
  have H9_G_rises : Own l.prog w K mg base "rises" 1 [] pd_rises := Own.mk' (ok_rises F11 T) (PySem.W.mg_of X G a11) k11 b11
  have H10_G_line_at : Own l.prog w K mg base "line_at" 1 ["line", "size"] pd_line_at := Own.mk' (ok_line_at F3 T) (PySem.W.mg_of X G a3) k3 b3
  have H11_G_distance_at : Own l.prog w K mg base "distance_at" 2 ["line", "size", "measure"] pd_distance_at := Own.mk' (ok_distance_at F13 T H10_G_line_at) (PySem.W.mg_of X G a13) k13 b13
  have H12_G_farthest : Own l.prog w K mg base "farthest" 3 ["line", "wanted"] pd_farthest := Own.mk' (ok_farthest F14 T H11_G_distance_at H7_G_is_less) (PySem.W.mg_of X G a14) k14 b14
  have H13_G_nearest_line : Own l.prog w K mg base "nearest_line" 4 ["rise", "sizes", "wanted"] pd_nearest_line := Own.mk' (ok_nearest_line F17 T H6_G_base_at H12_G_farthest H7_G_is_less) (PySem.W.mg_of X G a17) k17 b17
  have H14_MK_Grade : MkX l.prog w K mg base "Grade" cS 1 ["self", "line", "against"] pd_Grade_init := ⟨PySem.W.mg_of X G aS_cS, cl_cS, ⟨f4, _, (ok_Grade_init F4 T), ⟨mk_cS, a4, i4, kc_cS⟩, b4⟩⟩
  have H15_G_grade : Own l.prog w K mg base "grade" 5 ["wanted"] (pd_grade cS) := Own.mk' (ok_grade F7 T H5_G_check_wanted_measures H8_G_outer_sizes H9_G_rises H13_G_nearest_line H7_G_is_less H14_MK_Grade) (PySem.W.mg_of X G a7) k7 b7
  have H16_GX_check_wanted_measures : OwnX l.prog w K mg base "check_wanted_measures" 3 ["wanted"] (pd_checkX l.prog w cT) := ⟨f9, _, (ok_check_wanted_measuresX F9 T H3_G_is_size H4_G_is_measure TX_BadTable), PySem.W.mg_of X G a9, k9, b9⟩
  have H17_GX_grade : OwnX l.prog w K mg base "grade" 5 ["wanted"] (pd_gradeX l.prog w cT) := ⟨f7, _, (ok_gradeX F7 T H16_GX_check_wanted_measures H8_G_outer_sizes H9_G_rises H13_G_nearest_line H7_G_is_less H14_MK_Grade), PySem.W.mg_of X G a7, k7, b7⟩
  have H18_G_far_by : Own l.prog w K mg base "far_by" 4 ["line", "wanted"] pd_far_by := Own.mk' (ok_far_by F8 T H5_G_check_wanted_measures H12_G_farthest) (PySem.W.mg_of X G a8) k8 b8
  have H19_G_law_far : Own l.prog w K mg base "_law_far" 1 ["line", "wanted"] pd_law_far := Own.mk' (ok_law_far F20 T) (PySem.W.mg_of X G a20) k20 b20
  have H20_G_law_less : Own l.prog w K mg base "_law_less" 1 ["one", "other"] pd_law_less := Own.mk' (ok_law_less F21 T) (PySem.W.mg_of X G a21) k21 b21
  have H21_G_law_least : Own l.prog w K mg base "_law_least" 2 ["wanted", "rise"] pd_law_least := Own.mk' (ok_law_least F22 T H19_G_law_far H20_G_law_less) (PySem.W.mg_of X G a22) k22 b22
  have H22_M_bars : MthD l.prog w K mg base cS "bars" 5 ["self", "rise", "far", "wanted"] (pd_bars cS) := ⟨f6, _, (ok_Grade_bars F6 T H13_G_nearest_line H7_G_is_less), ⟨a6, i6, k6⟩, b6⟩
  have H23_G_is_line : Own l.prog w K mg base "is_line" 2 ["thing"] pd_is_line := Own.mk' (ok_is_line F2 T H2_G_is_whole) (PySem.W.mg_of X G a2) k2 b2
  have H24_M_shows : MthD l.prog w K mg base cS "shows" 6 ["self", "wanted"] (pd_shows cS) := ⟨f5, _, (ok_Grade_shows F5 T H22_M_bars H5_G_check_wanted_measures H23_G_is_line H9_G_rises H12_G_farthest), ⟨a5, i5, k5⟩, b5⟩
  exact (ok_law F23 T H1_G_law_take H15_G_grade H17_GX_grade H18_G_far_by H19_G_law_far H20_G_law_less H21_G_law_least H14_MK_Grade H24_M_shows TX_BadTable xm)
end K73

open PySem PySem.W PyProof.Rows
set_option maxRecDepth 100000 in
set_option maxHeartbeats 0 in
theorem PySem.Challenge.cw_allstitches_k73_whole_grades_holds : PySem.Challenge.rw_allstitches_k73_whole_grades.Holds := by
  w_on; o_law; k_head; (case hw => w_witness2)
  k_fill
  refine L2.walk_of (l := PySem.Challenge.rw_allstitches_k73_whole_grades) (n := 63) (k := 9) (x := "script") (CX := fun _ => L2.CX0) (sp := fun w => Dz.spLaw _) rfl (by decide) rfl ⟨rfl, by decide, by decide⟩ (fun w h Y => PySem.W.kIn_of Y) ?F (fun _ _ a ns hl _ hS => ⟨a, ns, rfl, hS, hl, fun _ => rfl⟩) (fun _ _ _ _ _ h => h)
  case F =>
    intro w mg fa h KX G hmg
    refine' K73.all_mk KX G hmg ?a0 ?l0 ?c0 ?k0 ?a1 ?l1 ?c1 ?k1 ?a2 ?l2 ?c2 ?k2 ?a3 ?l3 ?c3 ?k3 ?a4 ?i4 ?l4 ?c4 ?k4 ?a5 ?i5 ?l5 ?c5 ?k5 ?a6 ?i6 ?l6 ?c6 ?k6 ?a7 ?l7 ?c7 ?k7 ?a8 ?l8 ?c8 ?k8 ?a9 ?l9 ?c9 ?k9 ?a10 ?l10 ?c10 ?k10 ?a11 ?l11 ?c11 ?k11 ?a12 ?l12 ?c12 ?k12 ?a13 ?l13 ?c13 ?k13 ?a14 ?l14 ?c14 ?k14 ?a15 ?l15 ?c15 ?k15 ?a16 ?l16 ?c16 ?k16 ?a17 ?l17 ?c17 ?k17 ?a18 ?l18 ?c18 ?k18 ?a19 ?l19 ?c19 ?k19 ?a20 ?l20 ?c20 ?k20 ?a21 ?l21 ?c21 ?k21 ?a22 ?l22 ?c22 ?k22 ?a23 ?l23 ?c23 ?k23 ?aS_cS ?gcG ?z0 ?z1 ?z2 ?z3 ?z4 ?z5 ?z6 ?z7 ?z8 ?z9 ?z10 ?z11 ?z12 ?z13 ?pg_cS ?hd_cS ?po_cS ?sa_cS ?mk_cS ?kc_cS ?n_cS_line ?n_cS_against ?aG ?xq ?xk ?xb ?xt ?xd ?xs ?x0 ?x1 ?x2 ?x3
    (case aS_cS => k_is)
    (case gcG => k_is)
    (case a0 => k_is)
    (case l0 => k_is)
    (case c0 => k_is)
    (case k0 => k_is)
    (case a1 => k_is)
    (case l1 => k_is)
    (case c1 => k_is)
    (case k1 => k_is)
    (case a2 => k_is)
    (case l2 => k_is)
    (case c2 => k_is)
    (case k2 => k_is)
    (case a3 => k_is)
    (case l3 => k_is)
    (case c3 => k_is)
    (case k3 => k_is)
    (case a4 => k_is)
    (case i4 => k_is)
    (case l4 => k_is)
    (case c4 => k_is)
    (case k4 => k_is)
    (case a5 => k_is)
    (case i5 => k_is)
    (case l5 => k_is)
    (case c5 => k_is)
    (case k5 => k_is)
    (case a6 => k_is)
    (case i6 => k_is)
    (case l6 => k_is)
    (case c6 => k_is)
    (case k6 => k_is)
    (case a7 => k_is)
    (case l7 => k_is)
    (case c7 => k_is)
    (case k7 => k_is)
    (case a8 => k_is)
    (case l8 => k_is)
    (case c8 => k_is)
    (case k8 => k_is)
    (case a9 => k_is)
    (case l9 => k_is)
    (case c9 => k_is)
    (case k9 => k_is)
    (case a10 => k_is)
    (case l10 => k_is)
    (case c10 => k_is)
    (case k10 => k_is)
    (case a11 => k_is)
    (case l11 => k_is)
    (case c11 => k_is)
    (case k11 => k_is)
    (case a12 => k_is)
    (case l12 => k_is)
    (case c12 => k_is)
    (case k12 => k_is)
    (case a13 => k_is)
    (case l13 => k_is)
    (case c13 => k_is)
    (case k13 => k_is)
    (case a14 => k_is)
    (case l14 => k_is)
    (case c14 => k_is)
    (case k14 => k_is)
    (case a15 => k_is)
    (case l15 => k_is)
    (case c15 => k_is)
    (case k15 => k_is)
    (case a16 => k_is)
    (case l16 => k_is)
    (case c16 => k_is)
    (case k16 => k_is)
    (case a17 => k_is)
    (case l17 => k_is)
    (case c17 => k_is)
    (case k17 => k_is)
    (case a18 => k_is)
    (case l18 => k_is)
    (case c18 => k_is)
    (case k18 => k_is)
    (case a19 => k_is)
    (case l19 => k_is)
    (case c19 => k_is)
    (case k19 => k_is)
    (case a20 => k_is)
    (case l20 => k_is)
    (case c20 => k_is)
    (case k20 => k_is)
    (case a21 => k_is)
    (case l21 => k_is)
    (case c21 => k_is)
    (case k21 => k_is)
    (case a22 => k_is)
    (case l22 => k_is)
    (case c22 => k_is)
    (case k22 => k_is)
    (case a23 => k_is)
    (case l23 => k_is)
    (case c23 => k_is)
    (case k23 => k_is)
    (case z0 => k_is)
    (case z1 => k_is)
    (case z2 => k_is)
    (case z3 => k_is)
    (case z4 => k_is)
    (case z5 => k_is)
    (case z6 => k_is)
    (case z7 => k_is)
    (case z8 => k_is)
    (case z9 => k_is)
    (case z10 => k_is)
    (case z11 => k_is)
    (case z12 => k_is)
    (case z13 => k_is)
    (case pg_cS => k_is)
    (case hd_cS => k_is)
    (case po_cS => k_is)
    (case sa_cS => k_is)
    (case mk_cS => k_is)
    (case kc_cS => k_is)
    (case n_cS_line => k_is)
    (case n_cS_against => k_is)
    (case aG => k_is)
    (case xq => k_exc)
    (case xk => k_is)
    (case xb => k_is)
    (case xt => k_is)
    (case xd => k_is)
    (case xs => first | rfl | k_is)
    (case x0 => k_is)
    (case x1 => k_is)
    (case x2 => k_is)
    (case x3 => k_is)
