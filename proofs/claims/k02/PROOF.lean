import PyProof.Rows.All
import Wide.All
import OpenK.AllK
import Wide.FinOn
import HandS.ForMost
import HandS.TupAny
import HandS.Deep
import HandS.Wide
import HandS.Conv
import HandS.IsInst
import HandS.Style
import HandS.TupLe
import HandS.TupMul
import HandS.Zip
import HandS.SortOrd
import PyProof.ReprRoads
import HandS.TupSets
import HandS.ExcValue
import HandS.Gcd
import HandS.Star
import HandS.SetFor
import KE.KMathG
import KE.DataFind
import KE.KTupSum
import HandS.Flow
import HandS.List
import KE.KMathGC
import PySem.Challenge.RW_belltables_k02_whole_scenarios_of_anythi
set_option Elab.async false
set_option linter.all false
set_option maxRecDepth 100000
/-! Dv: programs over plain data, as total functions. The relation between slots of data and the abstract heap. -/
namespace Dv
open PySem PySem.Spec PyProof.Rows L2

mutual
/-- v is the data d in H -/
inductive Rp (K : PySem.W.Frag) (H : Hp) : V → PyData → Prop
  | non : Rp K H .non .none
  | bl (b : Bool) : Rp K H (.bl b) (.bool b)
  | int (i : Int) : Rp K H (.int i) (.int i)
  | str (x : Str) : Rp K H (.str x) (.str x)
  | lst {a : Addr} {xs : List V} {ds : List PyData} (h : H a = some (.lst xs)) (r : RpA K H xs ds) : Rp K H (.ref a) (.list ds)
  | tup {a : Addr} {xs : List V} {ds : List PyData} (h : SqT K H a xs) (r : RpA K H xs ds) : Rp K H (.ref a) (.tuple ds)
  | dic {a : Addr} (h : H a = some (.dK [])) : Rp K H (.ref a) (.dict [])
  | scr {a : Addr} {ns : List Int} (h : SqL K H a (ns.map V.int)) : Rp K H (.ref a) (.dict [(.none, .list (ns.map .int))])
inductive RpA (K : PySem.W.Frag) (H : Hp) : List V → List PyData → Prop
  | nil : RpA K H [] []
  | cons {v : V} {vs : List V} {d : PyData} {ds : List PyData} (h : Rp K H v d) (t : RpA K H vs ds) : RpA K H (v :: vs) (d :: ds)
end

/-- more is tracked -/
def Le (H H' : Hp) : Prop := ∀ b o, H b = some o → H' b = some o
theorem Le.refl (H : Hp) : Le H H := fun _ _ h => h
theorem Le.trans {A B C : Hp} (h : Le A B) (g : Le B C) : Le A C := fun b o e => g b o (h b o e)
theorem Le.rd {H H' : Hp} {a : Addr} {u : HO} (e : Le H H') (h : Rd H a u) : Rd H' a u := by
  rcases h with h | ⟨o, h⟩
  · exact .inl (e a _ h)
  · exact .inr ⟨o, e a _ h⟩
theorem Le.l {K : PySem.W.Frag} {H H' : Hp} {a : Addr} {xs : List V} (e : Le H H') (h : SqL K H a xs) : SqL K H' a xs := h.imp (e.rd) id
theorem Le.t {K : PySem.W.Frag} {H H' : Hp} {a : Addr} {xs : List V} (e : Le H H') (h : SqT K H a xs) : SqT K H' a xs := h.imp (e.rd) id
theorem Le.new {H : Hp} {p : Addr} {o : HO} (h : H p = none) : Le H (upd H p o) := fun b u q => by
  rw [upd_ne (ne_of_none q h)]
  exact q

mutual
theorem Rp.mono {K : PySem.W.Frag} {H H' : Hp} (e : Le H H') : ∀ {v : V} {d : PyData}, Rp K H v d → Rp K H' v d
  | _, _, .non => .non
  | _, _, .bl b => .bl b
  | _, _, .int i => .int i
  | _, _, .str x => .str x
  | _, _, .lst h r => .lst (e _ _ h) (r.mono e)
  | _, _, .tup h r => .tup (e.t h) (r.mono e)
  | _, _, .dic h => .dic (e _ _ h)
  | _, _, .scr h => .scr (e.l h)
theorem RpA.mono {K : PySem.W.Frag} {H H' : Hp} (e : Le H H') : ∀ {vs : List V} {ds : List PyData}, RpA K H vs ds → RpA K H' vs ds
  | _, _, .nil => .nil
  | _, _, .cons h t => .cons (h.mono e) (t.mono e)
end
section
variable {K : PySem.W.Frag} {H : Hp}
theorem RpA.len : ∀ {vs : List V} {ds : List PyData}, RpA K H vs ds → vs.length = ds.length
  | _, _, .nil => rfl
  | _, _, .cons _ t => by simp [t.len]
theorem RpA.get : ∀ {vs : List V} {ds : List PyData}, RpA K H vs ds → ∀ {i : Nat} {d : PyData}, ds[i]? = some d → ∃ v, vs[i]? = some v ∧ Rp K H v d
  | _, _, .nil, i, d, h => by simp at h
  | _, _, .cons h t, 0, d, e => by simp at e; subst e; exact ⟨_, rfl, h⟩
  | _, _, .cons h t, i + 1, d, e => by
    obtain ⟨v, h1, h2⟩ := t.get (i := i) (by simpa using e)
    exact ⟨v, by simpa using h1, h2⟩
theorem RpA.getV : ∀ {vs : List V} {ds : List PyData}, RpA K H vs ds → ∀ {i : Nat} {v : V}, vs[i]? = some v → ∃ d, ds[i]? = some d ∧ Rp K H v d
  | _, _, .nil, i, d, h => by simp at h
  | _, _, .cons h t, 0, d, e => by simp at e; subst e; exact ⟨_, rfl, h⟩
  | _, _, .cons h t, i + 1, d, e => by
    obtain ⟨v, h1, h2⟩ := t.getV (i := i) (by simpa using e)
    exact ⟨v, by simpa using h1, h2⟩
theorem RpA.append : ∀ {vs ws : List V} {ds es : List PyData}, RpA K H vs ds → RpA K H ws es → RpA K H (vs ++ ws) (ds ++ es)
  | _, _, _, _, .nil, s => s
  | _, _, _, _, .cons r t, s => .cons r (t.append s)
theorem RpA.take : ∀ {vs : List V} {ds : List PyData} (n : Nat), RpA K H vs ds → RpA K H (vs.take n) (ds.take n)
  | _, _, 0, _ => .nil
  | _, _, _ + 1, .nil => .nil
  | _, _, n + 1, .cons r t => .cons r (t.take n)
theorem RpA.drop : ∀ {vs : List V} {ds : List PyData} (n : Nat), RpA K H vs ds → RpA K H (vs.drop n) (ds.drop n)
  | _, _, 0, r => r
  | _, _, _ + 1, .nil => .nil
  | _, _, n + 1, .cons _ t => t.drop n
theorem RpA.reverse {vs : List V} {ds : List PyData} (h : RpA K H vs ds) : RpA K H vs.reverse ds.reverse := by
  induction vs generalizing ds with
  | nil => cases h; exact .nil
  | cons v vs ih =>
    cases h with
    | cons h t => rw [List.reverse_cons, List.reverse_cons]; exact (ih t).append (.cons h .nil)
theorem RpA.set : ∀ {vs : List V} {ds : List PyData} (i : Nat) {v : V} {d : PyData}, RpA K H vs ds → Rp K H v d → RpA K H (vs.set i v) (ds.set i d)
  | _, _, _, _, _, .nil, _ => .nil
  | _, _, 0, _, _, .cons _ t, r => .cons r t
  | _, _, i + 1, _, _, .cons h t, r => .cons h (t.set i r)
theorem RpA.snoc {vs : List V} {ds : List PyData} {v : V} {d : PyData} (h : RpA K H vs ds) (r : Rp K H v d) : RpA K H (vs ++ [v]) (ds ++ [d]) := h.append (.cons r .nil)
theorem RpA.ints : ∀ {vs : List V} {ns : List Int}, RpA K H vs (ns.map .int) → vs = ns.map V.int
  | _, [], .nil => rfl
  | _, n :: ns, .cons h t => by cases h; rw [t.ints]; rfl
theorem RpA.of_ints : ∀ (ns : List Int), RpA K H (ns.map V.int) (ns.map .int)
  | [] => .nil
  | n :: ns => .cons (.int n) (RpA.of_ints ns)
theorem RpA.bls : ∀ {vs : List V} {ns : List Bool}, RpA K H vs (ns.map .bool) → vs = ns.map V.bl
  | _, [], .nil => rfl
  | _, n :: ns, .cons h t => by cases h; rw [t.bls]; rfl
end

/-! ### what is hidden -/
/-- the heap without the addresses of N and L -/
noncomputable def hd (N : Addr → Prop) (L : List (Option Addr)) (H : Hp) : Hp := open Classical in fun b => if N b ∨ some b ∈ L then none else H b
theorem hd_some {N : Addr → Prop} {L : List (Option Addr)} {H : Hp} {b : Addr} {o : HO} : hd N L H b = some o ↔ ¬ N b ∧ some b ∉ L ∧ H b = some o := by
  unfold hd
  by_cases h : N b ∨ some b ∈ L
  · simp only [h, if_true]; constructor
    · intro e; cases e
    · rintro ⟨a, b, _⟩; rcases h with h | h
      · exact absurd h a
      · exact absurd h b
  · simp only [h, if_false]; exact ⟨fun e => ⟨fun z => h (.inl z), fun z => h (.inr z), e⟩, fun e => e.2.2⟩
theorem hd_le {N : Addr → Prop} {L : List (Option Addr)} {H : Hp} : Le (hd N L H) H := fun b o e => (hd_some.mp e).2.2

inductive PV where
  /-- data -/
  | pl (d : PyData)
  /-- a list of one's own: none else holds it -/
  | ow (ds : List PyData)
  /-- a caller's list, handed in to be changed -/
  | rf (ds : List PyData)
abbrev REnv := List (Option PV)
/-- N: what is hidden by the callers; as: the lists handed in, by slot; H0: the entry's heap -/
structure Ent where
  N : Addr → Prop
  as : List (Option Addr)
  H0 : Hp
def Ent.hide (G : Ent) (p : Addr) : Ent := { G with N := fun b => G.N b ∨ b = p }

def SlotOk (K : PySem.W.Frag) (G : Ent) (L : List (Option Addr)) (H : Hp) (i : Nat) (l : Option Addr) (v : V) : PV → Prop
  | .pl d => l = none ∧ Rp K (hd G.N L H) v d
  | .ow ds => ∃ a vs, v = .ref a ∧ l = some a ∧ (G.H0 a = none ∧ ¬ G.N a) ∧ H a = some (.lst vs) ∧ RpA K (hd G.N L H) vs ds
  | .rf ds => ∃ a vs, v = .ref a ∧ l = some a ∧ G.as[i]? = some (some a) ∧ H a = some (.lst vs) ∧ RpA K (hd G.N L H) vs ds

structure Rel (K : PySem.W.Frag) (G : Ent) (L : List (Option Addr)) (ρ : REnv) (σ : L2.St) (H : Hp) : Prop where
  ln : ρ.length = σ.length
  lL : L.length = σ.length
  at_ : ∀ (i : Nat) x, ρ[i]? = some (some x) → ∃ v l, σ[i]? = some (some v) ∧ L[i]? = some l ∧ SlotOk K G L H i l v x
  inj : ∀ (i j : Nat) a, L[i]? = some (some a) → L[j]? = some (some a) → i = j
  lt : ∀ a, some a ∈ L → ∃ o, H a = some o
  fr : ∀ b o, some b ∉ G.as → G.H0 b = some o → H b = some o
  nd : ∀ b, G.N b → ∃ o, H b = some o
  bd : ∀ b, some b ∈ G.as → G.N b
  lo : ∀ a, some a ∈ L → G.H0 a = none ∨ some a ∈ G.as

/-- what does not stand at an address of L stays -/
def Ew (L : List (Option Addr)) (H H' : Hp) : Prop := (∀ b o, some b ∉ L → H b = some o → H' b = some o) ∧ ∀ b o, H b = some o → ∃ o', H' b = some o'
def LS (L' L : List (Option Addr)) : Prop := L'.length = L.length ∧ ∀ (i : Nat) a, L'[i]? = some (some a) → L[i]? = some (some a)
theorem LS.refl (L : List (Option Addr)) : LS L L := ⟨rfl, fun _ _ h => h⟩
theorem LS.trans {A B C : List (Option Addr)} (h : LS A B) (g : LS B C) : LS A C := ⟨h.1.trans g.1, fun i a e => g.2 i a (h.2 i a e)⟩
theorem LS.mem {L' L : List (Option Addr)} (h : LS L' L) {a : Addr} (m : some a ∈ L') : some a ∈ L := by
  obtain ⟨i, e⟩ := List.mem_iff_getElem?.mp m
  exact List.mem_of_getElem? (h.2 i a e)
theorem Ew.refl (L : List (Option Addr)) (H : Hp) : Ew L H H := ⟨fun _ _ _ h => h, fun _ o h => ⟨o, h⟩⟩
theorem Ew.trans {L L' : List (Option Addr)} {A B C : Hp} (h : Ew L A B) (g : Ew L' B C) (s : LS L' L) : Ew L A C := ⟨fun b o n e => g.1 b o (fun m => n (s.mem m)) (h.1 b o n e), fun b o e => by obtain ⟨u, e1⟩ := h.2 b o e; exact g.2 b u e1⟩
theorem Le.ew {L : List (Option Addr)} {H H' : Hp} (h : Le H H') : Ew L H H' := ⟨fun b o _ e => h b o e, fun b o e => ⟨o, h b o e⟩⟩
/-- hidden heaps grow -/
theorem Ew.hd {N : Addr → Prop} {L L' : List (Option Addr)} {H H' : Hp} (e : Ew L H H') (s : LS L' L) : Le (Dv.hd N L H) (Dv.hd N L' H') := fun b o h => by
  obtain ⟨h1, h2, h3⟩ := hd_some.mp h
  exact hd_some.mpr ⟨h1, fun m => h2 (s.mem m), e.1 b o h2 h3⟩
section
variable {K : PySem.W.Frag} {G : Ent} {L : List (Option Addr)} {ρ : REnv} {σ : L2.St} {H H' : Hp}
theorem Rel.fresh (R : Rel K G L ρ σ H) {p : Addr} (h : H p = none) : ¬ G.N p ∧ some p ∉ L ∧ G.H0 p = none := by
  have h1 : ¬ G.N p := fun z => by obtain ⟨o, e⟩ := R.nd p z; rw [h] at e; cases e
  have h2 : some p ∉ L := fun z => by obtain ⟨o, e⟩ := R.lt p z; rw [h] at e; cases e
  refine ⟨h1, h2, ?_⟩
  cases e : G.H0 p with
  | none => rfl
  | some o =>
    by_cases hb : some p ∈ G.as
    · exact absurd (R.bd p hb) h1
    · have := R.fr p o hb e; rw [h] at this; cases this
/-- a new object that is plain data -/
theorem hd_new (R : Rel K G L ρ σ H) {p : Addr} {o : HO} (h : H p = none) : hd G.N L (upd H p o) p = some o :=
  hd_some.mpr ⟨(R.fresh h).1, (R.fresh h).2.1, upd_same⟩
/-- all that is tracked stays -/
theorem Rel.mono (R : Rel K G L ρ σ H) (e : Le H H') : Rel K G L ρ σ H' where
  ln := R.ln
  lL := R.lL
  at_ := fun i x h => by
    obtain ⟨v, l, h1, h2, h3⟩ := R.at_ i x h
    refine ⟨v, l, h1, h2, ?_⟩
    have m : Le (hd G.N L H) (hd G.N L H') := (Le.ew e).hd (.refl _)
    cases x with
    | pl d => exact ⟨h3.1, h3.2.mono m⟩
    | ow ds => obtain ⟨a, vs, q1, q2, q3, q4, q5⟩ := h3; exact ⟨a, vs, q1, q2, q3, e _ _ q4, q5.mono m⟩
    | rf ds => obtain ⟨a, vs, q1, q2, q3, q4, q5⟩ := h3; exact ⟨a, vs, q1, q2, q3, e _ _ q4, q5.mono m⟩
  inj := R.inj
  lt := fun a h => by obtain ⟨o, q⟩ := R.lt a h; exact ⟨o, e _ _ q⟩
  fr := fun b o n h => e _ _ (R.fr b o n h)
  nd := fun b h => by obtain ⟨o, q⟩ := R.nd b h; exact ⟨o, e _ _ q⟩
  bd := R.bd
  lo := R.lo
/-- a slot gets data -/
theorem Rel.setPl (R : Rel K G L ρ σ H) (i : Nat) {v : V} {d : PyData} (r : Rp K (hd G.N (L.set i none) H) v d) : Rel K G (L.set i none) (ρ.set i (some (.pl d))) (σ.set i (some v)) H := by
  have s : LS (L.set i none) L := ⟨by simp, fun j a h => by
    by_cases hj : i = j
    · subst hj
      by_cases hl : i < L.length
      · rw [List.getElem?_set_self hl] at h; cases h
      · rw [List.getElem?_eq_none (by simpa using hl)] at h; cases h
    · rwa [List.getElem?_set_ne hj] at h⟩
  have m : Le (hd G.N L H) (hd G.N (L.set i none) H) := (Ew.refl L H).hd s
  refine ⟨by simp [R.ln], by simp [R.lL], fun j x h => ?_, fun j k a h1 h2 => R.inj j k a (s.2 _ _ h1) (s.2 _ _ h2), fun a h => R.lt a (s.mem h), R.fr, R.nd, R.bd, fun a h => R.lo a (s.mem h)⟩
  by_cases hj : i = j
  · subst hj
    have hi : i < ρ.length := by
      cases Nat.lt_or_ge i ρ.length with
      | inl q => exact q
      | inr q => rw [List.getElem?_eq_none (by simpa using q)] at h; cases h
    rw [List.getElem?_set_self hi] at h
    cases h
    exact ⟨v, none, List.getElem?_set_self (by rw [← R.ln]; exact hi), List.getElem?_set_self (by rw [R.lL, ← R.ln]; exact hi), rfl, r⟩
  · rw [List.getElem?_set_ne hj] at h
    obtain ⟨w, l, h1, h2, h3⟩ := R.at_ j x h
    refine ⟨w, l, by rw [List.getElem?_set_ne hj]; exact h1, by rw [List.getElem?_set_ne hj]; exact h2, ?_⟩
    cases x with
    | pl d => exact ⟨h3.1, h3.2.mono m⟩
    | ow ds => obtain ⟨a, vs, q1, q2, q3, q4, q5⟩ := h3; exact ⟨a, vs, q1, q2, q3, q4, q5.mono m⟩
    | rf ds => obtain ⟨a, vs, q1, q2, q3, q4, q5⟩ := h3; exact ⟨a, vs, q1, q2, q3, q4, q5.mono m⟩

theorem LS.set (L : List (Option Addr)) (i : Nat) : LS (L.set i none) L := ⟨by simp, fun j a h => by
    by_cases hj : i = j
    · subst hj
      by_cases hl : i < L.length
      · rw [List.getElem?_set_self hl] at h; cases h
      · rw [List.getElem?_eq_none (by simpa using hl)] at h; cases h
    · rwa [List.getElem?_set_ne hj] at h⟩
theorem mem_set_some {L : List (Option Addr)} {i : Nat} {p a : Addr} (h : some a ∈ L.set i (some p)) : some a ∈ L ∨ a = p := by
  rcases List.mem_or_eq_of_mem_set h with q | q
  · exact .inl q
  · exact .inr (Option.some.inj q)
theorem SlotOk.mono {N' : Addr → Prop} {L' : List (Option Addr)} {i : Nat} {l : Option Addr} {v : V} {x : PV} {G' : Ent} (h : SlotOk K G L H i l v x) (m : Le (hd G.N L H) (hd G'.N L' H')) (hH : ∀ a vs, some a ∈ L → H a = some (.lst vs) → H' a = some (.lst vs))
    (h0 : G'.H0 = G.H0) (ha : G'.as = G.as) (hl : l.isSome = true → L[i]? = some l) (hn : ∀ a, some a ∈ L → ¬ G.N a → ¬ G'.N a) : SlotOk K G' L' H' i l v x := by
  cases x with
  | pl d => exact ⟨h.1, h.2.mono m⟩
  | ow ds =>
    obtain ⟨a, vs, q1, q2, q3, q4, q5⟩ := h
    subst q2
    exact ⟨a, vs, q1, rfl, by rw [h0]; exact ⟨q3.1, hn a (List.mem_of_getElem? (hl rfl)) q3.2⟩, hH a vs (List.mem_of_getElem? (hl rfl)) q4, q5.mono m⟩
  | rf ds =>
    obtain ⟨a, vs, q1, q2, q3, q4, q5⟩ := h
    subst q2
    exact ⟨a, vs, q1, rfl, by rw [ha]; exact q3, hH a vs (List.mem_of_getElem? (hl rfl)) q4, q5.mono m⟩
/-- a new list becomes a slot's own -/
theorem Rel.setOw {p : Addr} {vs : List V} {ds : List PyData} (R : Rel K (G.hide p) L ρ σ H) (i : Nat) (hp : H p = some (.lst vs)) (hl : some p ∉ L) (h0 : G.H0 p = none) (hn : ¬ G.N p) (r : RpA K (hd (G.hide p).N L H) vs ds) (hb : ∀ b, some b ∈ G.as → G.N b) :
    Rel K G (L.set i (some p)) (ρ.set i (some (.ow ds))) (σ.set i (some (.ref p))) H := by
  have m : Le (hd (G.hide p).N L H) (hd G.N (L.set i (some p)) H) := fun b o e => by
    obtain ⟨h1, h2, h3⟩ := hd_some.mp e
    refine hd_some.mpr ⟨fun z => h1 (.inl z), fun z => ?_, h3⟩
    rcases mem_set_some z with q | q
    · exact h2 q
    · exact h1 (.inr q)
  refine ⟨by simp [R.ln], by simp [R.lL], fun j x h => ?_, fun j k a h1 h2 => ?_, fun a h => ?_, R.fr, fun b h => R.nd b (.inl h), hb, fun a h => ?_⟩
  · by_cases hj : i = j
    · subst hj
      have hi : i < ρ.length := by
        cases Nat.lt_or_ge i ρ.length with
        | inl q => exact q
        | inr q => rw [List.getElem?_eq_none (by simpa using q)] at h; cases h
      rw [List.getElem?_set_self hi] at h
      cases h
      exact ⟨.ref p, some p, List.getElem?_set_self (by rw [← R.ln]; exact hi), List.getElem?_set_self (by rw [R.lL, ← R.ln]; exact hi), p, vs, rfl, rfl, ⟨h0, hn⟩, hp, r.mono m⟩
    · rw [List.getElem?_set_ne hj] at h
      obtain ⟨w, l, h1, h2, h3⟩ := R.at_ j x h
      exact ⟨w, l, by rw [List.getElem?_set_ne hj]; exact h1, by rw [List.getElem?_set_ne hj]; exact h2, h3.mono (N' := G.N) m (fun _ _ _ q => q) rfl rfl (fun _ => h2) fun a _ z y => z (.inl y)⟩
  · have key : ∀ (j : Nat) a, (L.set i (some p))[j]? = some (some a) → (j = i ∧ a = p) ∨ (j ≠ i ∧ L[j]? = some (some a)) := fun j a h => by
      by_cases hj : i = j
      · subst hj
        by_cases hi : i < L.length
        · rw [List.getElem?_set_self hi] at h; cases h; exact .inl ⟨rfl, rfl⟩
        · rw [List.getElem?_eq_none (by simpa using hi)] at h; cases h
      · rw [List.getElem?_set_ne hj] at h; exact .inr ⟨fun z => hj z.symm, h⟩
    rcases key j a h1 with ⟨e1, e2⟩ | ⟨e1, e2⟩
    · rcases key k a h2 with ⟨f1, f2⟩ | ⟨f1, f2⟩
      · rw [e1, f1]
      · rw [e2] at f2; exact absurd (List.mem_of_getElem? f2) hl
    · rcases key k a h2 with ⟨f1, f2⟩ | ⟨f1, f2⟩
      · rw [f2] at e2; exact absurd (List.mem_of_getElem? e2) hl
      · exact R.inj j k a e2 f2
  · rcases mem_set_some h with q | q
    · exact R.lt a q
    · rw [q]; exact ⟨_, hp⟩
  · rcases mem_set_some h with q | q
    · exact R.lo a q
    · rw [q]; exact .inl h0

theorem hd_hide {p : Addr} {o : HO} (h : H p = none) : Le (hd G.N L H) (hd (G.hide p).N L (upd H p o)) := fun b u e => by
  obtain ⟨h1, h2, h3⟩ := hd_some.mp e
  have hb : b ≠ p := ne_of_none h3 h
  exact hd_some.mpr ⟨fun z => z.elim h1 hb, h2, by rw [upd_ne hb]; exact h3⟩
theorem hd_unhide {p : Addr} : Le (hd (G.hide p).N L H) (hd G.N L H) := fun b u e => by
  obtain ⟨h1, h2, h3⟩ := hd_some.mp e
  exact hd_some.mpr ⟨fun z => h1 (.inl z), h2, h3⟩
theorem Rel.hide (R : Rel K G L ρ σ H) {p : Addr} {o : HO} (h : H p = none) : Rel K (G.hide p) L ρ σ (upd H p o) where
  ln := R.ln
  lL := R.lL
  at_ := fun i x e => by
    obtain ⟨v, l, h1, h2, h3⟩ := R.at_ i x e
    exact ⟨v, l, h1, h2, h3.mono (N' := G.N) (hd_hide h) (fun a vs m q => by rw [upd_ne (ne_of_none q h)]; exact q) rfl rfl (fun _ => h2) fun a m z y => y.elim z fun e => (R.fresh h).2.1 (e ▸ m)⟩
  inj := R.inj
  lt := fun a m => by obtain ⟨u, q⟩ := R.lt a m; exact ⟨u, Le.new h _ _ q⟩
  fr := fun b u n q => Le.new h _ _ (R.fr b u n q)
  nd := fun b z => by
    rcases z with z | z
    · obtain ⟨u, q⟩ := R.nd b z; exact ⟨u, Le.new h _ _ q⟩
    · rw [z]; exact ⟨o, upd_same⟩
  bd := fun b z => .inl (R.bd b z)
  lo := R.lo
theorem Rel.unhide {p : Addr} (R : Rel K (G.hide p) L ρ σ H) (hb : ∀ b, some b ∈ G.as → G.N b) : Rel K G L ρ σ H where
  ln := R.ln
  lL := R.lL
  at_ := fun i x e => by
    obtain ⟨v, l, h1, h2, h3⟩ := R.at_ i x e
    exact ⟨v, l, h1, h2, h3.mono (N' := G.N) hd_unhide (fun a vs m q => q) rfl rfl (fun _ => h2) fun a m z y => z (.inl y)⟩
  inj := R.inj
  lt := R.lt
  fr := R.fr
  nd := fun b z => R.nd b (.inl z)
  bd := hb
  lo := R.lo
/-- one's own list handed on: it is data from now on -/
theorem Rel.moveOw {i : Nat} {ds : List PyData} (R : Rel K G L ρ σ H) (h : ρ[i]? = some (some (.ow ds))) :
    ∃ a, σ[i]? = some (some (.ref a)) ∧ Rel K G (L.set i none) (ρ.set i (some (.pl (.list ds)))) σ H ∧ Rp K (hd G.N (L.set i none) H) (.ref a) (.list ds) := by
  obtain ⟨v, l, h1, h2, a, vs, e1, e2, e3, e4, e5⟩ := R.at_ i _ h
  subst e1 e2
  have m : Le (hd G.N L H) (hd G.N (L.set i none) H) := (Ew.refl L H).hd (LS.set L i)
  have hi : i < L.length := (List.getElem?_eq_some_iff.mp h2).1
  have hna : some a ∉ L.set i none := fun z => by
    obtain ⟨j, hj⟩ := List.mem_iff_getElem?.mp z
    have hj' := (LS.set L i).2 j a hj
    have e := R.inj _ _ _ h2 hj'
    subst e
    rw [List.getElem?_set_self hi] at hj
    cases hj
  have r : Rp K (hd G.N (L.set i none) H) (.ref a) (.list ds) := .lst (hd_some.mpr ⟨e3.2, hna, e4⟩) (e5.mono m)
  have hs : σ.set i (some (.ref a)) = σ := by
    apply List.ext_getElem?
    intro j
    by_cases hj : i = j
    · subst hj; rw [List.getElem?_set_self (by rw [← R.lL]; exact hi)]; exact h1.symm
    · rw [List.getElem?_set_ne hj]
  refine ⟨a, h1, ?_, r⟩
  have R2 := R.setPl i r
  rw [hs] at R2
  exact R2
/-- a list in a slot is changed -/
def PV.put (ds : List PyData) : PV → PV
  | .pl d => .pl d
  | .ow _ => .ow ds
  | .rf _ => .rf ds
def PV.lst? : PV → Option (List PyData)
  | .pl _ => none
  | .ow ds => some ds
  | .rf ds => some ds
theorem Rel.own (R : Rel K G L ρ σ H) {i : Nat} {x : PV} {ds : List PyData} (h : ρ[i]? = some (some x)) (hx : x.lst? = some ds) :
    ∃ a vs, σ[i]? = some (some (.ref a)) ∧ L[i]? = some (some a) ∧ H a = some (.lst vs) ∧ RpA K (hd G.N L H) vs ds := by
  obtain ⟨v, l, h1, h2, h3⟩ := R.at_ i _ h
  cases x with
  | pl d => cases hx
  | ow es => cases hx; obtain ⟨a, vs, e1, e2, e3, e4, e5⟩ := h3; subst e1 e2; exact ⟨a, vs, h1, h2, e4, e5⟩
  | rf es => cases hx; obtain ⟨a, vs, e1, e2, e3, e4, e5⟩ := h3; subst e1 e2; exact ⟨a, vs, h1, h2, e4, e5⟩
theorem hd_write {a : Addr} {o : HO} (m : some a ∈ L) : Le (hd G.N L H) (hd G.N L (upd H a o)) := fun b u e => by
  obtain ⟨h1, h2, h3⟩ := hd_some.mp e
  exact hd_some.mpr ⟨h1, h2, by rw [upd_ne (show b ≠ a from fun z => h2 (by rw [z]; exact m))]; exact h3⟩
theorem Ew.write {a : Addr} {o : HO} (m : some a ∈ L) : Ew L H (upd H a o) := ⟨fun b u n e => by rw [upd_ne (show b ≠ a from fun z => n (by rw [z]; exact m))]; exact e, fun b u e => by
    by_cases hb : b = a
    · rw [hb]; exact ⟨_, upd_same⟩
    · exact ⟨u, by rw [upd_ne hb]; exact e⟩⟩
theorem Ew.free {L : List (Option Addr)} {H H' : Hp} (w : Ew L H H') {p : Addr} (h : H' p = none) : H p = none := by
  cases e : H p with
  | none => rfl
  | some o => obtain ⟨u, e1⟩ := w.2 p o e; rw [h] at e1; cases e1
theorem Rel.write (R : Rel K G L ρ σ H) {i : Nat} {x : PV} {ds ds' : List PyData} {a : Addr} {vs' : List V} (h : ρ[i]? = some (some x)) (hx : x.lst? = some ds) (hl : L[i]? = some (some a)) (r : RpA K (hd G.N L H) vs' ds') :
    Rel K G L (ρ.set i (some (x.put ds'))) σ (upd H a (.lst vs')) := by
  have ma : some a ∈ L := List.mem_of_getElem? hl
  have m : Le (hd G.N L H) (hd G.N L (upd H a (.lst vs'))) := hd_write ma
  refine ⟨by simp [R.ln], R.lL, fun j y e => ?_, R.inj, fun b mb => ?_, fun b o n e => ?_, fun b n => ?_, R.bd, R.lo⟩
  · by_cases hj : i = j
    · subst hj
      have hi : i < ρ.length := (List.getElem?_eq_some_iff.mp h).1
      rw [List.getElem?_set_self hi] at e
      cases e
      obtain ⟨v, l, h1, h2, h3⟩ := R.at_ i _ h
      rw [hl] at h2
      cases h2
      refine ⟨v, some a, h1, hl, ?_⟩
      cases x with
      | pl d => cases hx
      | ow es => obtain ⟨b, vs, e1, e2, e3, e4, e5⟩ := h3; cases e2; exact ⟨a, vs', e1, rfl, e3, upd_same, r.mono m⟩
      | rf es => obtain ⟨b, vs, e1, e2, e3, e4, e5⟩ := h3; cases e2; exact ⟨a, vs', e1, rfl, e3, upd_same, r.mono m⟩
    · rw [List.getElem?_set_ne hj] at e
      obtain ⟨v, l, h1, h2, h3⟩ := R.at_ j _ e
      refine ⟨v, l, h1, h2, ?_⟩
      cases y with
      | pl d => exact ⟨h3.1, h3.2.mono m⟩
      | ow es =>
        obtain ⟨b, vs, e1, e2, e3, e4, e5⟩ := h3
        refine ⟨b, vs, e1, e2, e3, ?_, e5.mono m⟩
        subst e2
        rw [upd_ne (show b ≠ a from fun z => hj (R.inj i j a hl (by rw [← z]; exact h2)))]
        exact e4
      | rf es =>
        obtain ⟨b, vs, e1, e2, e3, e4, e5⟩ := h3
        refine ⟨b, vs, e1, e2, e3, ?_, e5.mono m⟩
        subst e2
        rw [upd_ne (show b ≠ a from fun z => hj (R.inj i j a hl (by rw [← z]; exact h2)))]
        exact e4
  · by_cases hb : b = a
    · rw [hb]; exact ⟨_, upd_same⟩
    · rw [upd_ne hb]; exact R.lt b mb
  · have hb : b ≠ a := fun z => by
      subst z
      rcases R.lo b ma with q | q
      · rw [q] at e; cases e
      · exact n q
    rw [upd_ne hb]; exact R.fr b o n e
  · by_cases hb : b = a
    · rw [hb]; exact ⟨_, upd_same⟩
    · rw [upd_ne hb]; exact R.nd b n
/-- slots are forgotten -/
def wipeR (ρ : REnv) : List Nat → REnv
  | [] => ρ
  | v :: vs => (wipeR ρ vs).set v none
theorem Rel.forget (R : Rel K G L ρ σ H) {ρ' : REnv} {σ' : L2.St} (hl : ρ'.length = ρ.length) (hs : σ'.length = σ.length) (h : ∀ (i : Nat) x, ρ'[i]? = some (some x) → ρ[i]? = some (some x) ∧ σ'[i]? = σ[i]?) : Rel K G L ρ' σ' H :=
  ⟨by rw [hl, hs]; exact R.ln, by rw [hs]; exact R.lL, fun i x e => by
    obtain ⟨e1, e2⟩ := h i x e
    obtain ⟨v, l, h1, h2, h3⟩ := R.at_ i x e1
    exact ⟨v, l, by rw [e2]; exact h1, h2, h3⟩, R.inj, R.lt, R.fr, R.nd, R.bd, R.lo⟩
theorem wipeR_length (ρ : REnv) : ∀ vs : List Nat, (wipeR ρ vs).length = ρ.length
  | [] => rfl
  | v :: vs => by unfold wipeR; rw [List.length_set, wipeR_length ρ vs]
theorem wipeR_some {ρ : REnv} {i : Nat} {x : PV} : ∀ {vs : List Nat}, (wipeR ρ vs)[i]? = some (some x) → ρ[i]? = some (some x) ∧ i ∉ vs
  | [], h => ⟨h, by simp⟩
  | v :: vs, h => by
    unfold wipeR at h
    by_cases hi : v = i
    · subst hi
      by_cases hv : v < (wipeR ρ vs).length
      · rw [List.getElem?_set_self hv] at h; cases h
      · rw [List.getElem?_eq_none (by simpa using hv)] at h; cases h
    · rw [List.getElem?_set_ne hi] at h
      obtain ⟨h1, h2⟩ := wipeR_some h
      exact ⟨h1, by simp only [List.mem_cons, not_or]; exact ⟨fun e => hi e.symm, h2⟩⟩
theorem Rel.wiped (R : Rel K G L ρ σ H) (vs : List Nat) : Rel K G L (wipeR ρ vs) (wipe σ vs) H :=
  R.forget (wipeR_length _ _) (wipe_length _ _) fun i x e => by
    obtain ⟨e1, e2⟩ := wipeR_some e
    exact ⟨e1, wipe_out e2⟩
end
end Dv

/-! Dv: promises of defs that are called where no repr is under way. -/
namespace Dv
open PySem PySem.Spec PyProof.Rows L2

/-- nothing is being shown -/
def Cl0 (A : Around) : Prop := A.guards = some []
theorem Cl0.deeper {A : Around} (h : Cl0 A) (e : Env) : Cl0 (A.deeper e) := h

structure FnG (P : Program) (w : World) (K : PySem.W.Frag) (mg : Str → Option Value) (base : Heap) (k : Nat) (f : Addr) (fd : FuncData) (ps : List Str) (sp : Sp) : Prop where
  many : ∀ vs H Q E, sp vs H Q E → vs.length = ps.length
  go : ∀ (A : Around) (out : List Env) (s : Shared) (H : Hp) (args : Args) (us : List Value) (vs : List V) (Q : VK), Cl0 A → Room k A →
    Env0 P w K mg base A out s H → BindsTo s fd args (ps.zip us) → Vals vs us → sp vs H Q E0 →
    codeAny (model P w) A (.call (.ref f) args) (CR CX0 out P w H s Q E0) s

section
variable {X : Cx} {k : Nat} {f : Addr} {fd : FuncData} {ps : List Str} {sp : Sp} {x : Str} {p pos : Pos} {e : Expr} {es : List Expr} {t : TA}
theorem FnG.up {P : Program} {w : World} {K : PySem.W.Frag} {mg : Str → Option Value} {base : Heap} {j : Nat} (F : FnG P w K mg base j f fd ps sp) (h : j ≤ k) : FnG P w K mg base k f fd ps sp where
  many := F.many
  go A out s H args us vs Q c r := F.go A out s H args us vs Q c (r.mono h)
/-- behind a callee's run -/
theorem FnG.ends {pins : List (Addr × Obj)} {σ : L2.St} {H : Hp} {s s' : Shared} {Q : VK} {r : Result} (I : Inv X pins σ H s) (h : CR CX0 X.stack X.prog X.w H s Q E0 r s') :
    ∃ u, r = .ok (.ret u) ∧ EP X pins σ Q u s' := by
  rcases r with fl | er
  · exact False.elim h
  · rcases er with _ | _ | _ | u
    · exact False.elim h
    · exact False.elim h
    · exact False.elim h
    · exact ⟨u, rfl, I.after h⟩

/-- the call of a def with values -/
theorem FnG.at {pins : List (Addr × Obj)} {σ : L2.St} {H : Hp} {s : Shared} {Q : VK} {us : List Value} {vs : List V}
    (F : FnG X.prog X.w X.K X.mg X.base k f fd ps sp) (c : Cl0 X.A) (hr : Room k X.A) (hb : Binds X.K fd ps [])
    (I : Inv X pins σ H s) (r : Vals vs us) (h : sp vs H Q E0) :
    wpAny (model X.prog X.w) X.A (call (.ref f) us) (EP X pins σ Q) X.xe s := by
  have hz : (us ++ []).length = ps.length := by
    rw [List.append_nil, ← r.length]
    exact F.many _ _ _ _ h
  have hb' := hb s us I.kIn hz
  rw [List.append_nil] at hb'
  refine wpAny_call (codeAny_mono (F.go X.A X.stack s H ⟨us, []⟩ us vs Q c hr I.env0 hb' r h) fun re s' hq => ?_)
  obtain ⟨u, rfl, ep⟩ := FnG.ends I hq
  exact ep
theorem pe_callG (F : FnG X.prog X.w X.K X.mg X.base k f fd ps sp) (c : Cl0 X.A) (hr : Room k X.A) (hg : Gl X x)
    (hm : X.mg x = some (.ref f)) (hk : PySem.W.keepIn X.K (.ref f) = true) (hb : Binds X.K fd ps []) (ha : PA X (e :: es) t)
    (hdb : (x == ("__debug__" : Str)) = false := by decide)
    (he : starEach (e :: es) X.env = (false, eval e X.env) :: starEach es X.env := by rfl)
    (hpl : (backTo pos (starEach es X.env)).any (·.1) = false := by rfl) :
    PE X (.Call (.Name x p) (e :: es) [] pos) (fun σ H Q => t σ H fun vs H1 => sp vs H1 Q E0) := by
  constructor
  intro pins s σ H Q I h
  have step : ∀ us s1, AP X pins σ (fun vs H1 => sp vs H1 Q E0) us s1 → X.K.In s1.heap ∧ wpAny (model X.prog X.w) X.A (call (.ref f) us) (EP X pins σ Q) X.xe s1 := by
    rintro us s1 ⟨vs, H1, I1, r, q⟩
    exact ⟨I1.kIn, F.at c hr hb I1 r q⟩
  exact wpAny_Call_Name_kw (ld_glob I hg hm (PySem.W.callWith_K (h₀ := X.base) I.ok.mod.kin hk (thn (ha.run pos pins s σ H _ I h) step) he hpl) hdb)
/-- a call by keywords -/
theorem pe_callGK {ks : List Str} {g : List Value → List Value → List Value} {gV : List V → List V → List V} {kws : List Keyword} {es : List Expr} {tk : TA}
    (F : FnG X.prog X.w X.K X.mg X.base k f fd ps sp) (c : Cl0 X.A) (hr : Room k X.A) (hg : Gl X x)
    (hm : X.mg x = some (.ref f)) : True := trivial
end

section
variable {P : Program} {w : World} {K : PySem.W.Frag} {mg : Str → Option Value} {base : Heap}
/-- a def of the text keeps its promise if its body does -/
theorem FnG.of {k : Nat} {f : Addr} {qual name : Str} {st : Stmt} {fd : FuncData} {N ps : List Str} {sp : Sp} (F : L2.Fun K name qual st f fd) (S : FnScope N ps (defScope st))
    (many : ∀ vs H Q E, sp vs H Q E → vs.length = ps.length)
    (hbody : ∀ (cdv : Value) (A : Around) (out : List Env) (s : Shared) (H : Hp) (vs : List V) (Q : VK), Cl0 A →
      Room k (A.deeper (envOfC qual (defScope st) s.heap.objs.size f cdv)) → sp vs H Q E0 →
      ∃ t, PSs (cxOf CX0 P w K mg base N qual (defScope st) f cdv A out s H E0) (defBody st) t ∧ t { nx := fun _ H' => Q .non H', rt := Q } (start N vs) H) :
    FnG P w K mg base (k + 1) f fd ps sp := by
  obtain ⟨oc, od, kV, doc, pm, an, cdv, ct, osl, rfl, lk, hcd⟩ := F.ex
  constructor
  · exact many
  intro A out s H args us vs Q c hr e0 hb r hsp
  have pres : ∀ b o, base.get? b = some o → s.heap.get? b = some o := fun b o e => (e0.bs b o e).1
  have hkind : ∀ y ∈ ps.zip us, (defScope st).names.lookup y.1 = some .local ∨
      ((defScope st).names.lookup y.1 = some .cell ∧ ((cellsFrom (s.heap.objs.size + 1) (defScope st).names []).lookup y.1).isSome = true) := by
    rintro ⟨n, v⟩ hy
    rcases S.par n (List.of_mem_zip hy).1 with q | q
    · exact .inl q
    · exact .inr ⟨q, PySem.W.cellsFrom_some _ _ _ (.inl q)⟩
  have KX : K.In s.heap := e0.mod.kin.keeps pres
  refine codeAny_call_function hr.depth (KX _ _ lk) rfl S.co S.gen rfl (PySem.W.codeRec_of KX hcd) (hb _ _ _ _ ?_)
  refine wpAny_newFunctionEnv_cells S.kind hkind fun env he s1 x => ?_
  subst he
  refine ⟨(e0.mod.nolimit.keeps pres).keeps x.toInCall.keep, codeAny_func ?_⟩
  obtain ⟨t, ht, hq⟩ := hbody cdv A out s H vs Q c (hr.deeper _) hsp
  have I := inv_start (CX := CX0) (E := E0) S hr.hd e0 (many _ _ _ _ hsp) r x
  refine wpAny_mono (ht.run [] s1 (start N vs) H _ I hq) (fun fl s' hs => ?_) fun er s' hs => hs
  rcases fl with _ | _ | _ | u
  · obtain ⟨σ', H', J, q⟩ := hs
    exact ⟨V.non, H', J.os, J.bare, J.base, J.hok, rfl, q⟩
  · obtain ⟨σ', H', J, q⟩ := hs
    exact False.elim q
  · obtain ⟨σ', H', J, q⟩ := hs
    exact False.elim q
  · obtain ⟨v, σ', H', J, rv, q⟩ := hs
    exact ⟨v, H', J.os, J.bare, J.base, J.hok, rv, q⟩
end
end Dv

/-! Dv: expressions as functions of slots of data. -/
namespace Dv
open PySem PySem.Spec PyProof.Rows L2

abbrev D1 := REnv → Option (PyData × REnv)
abbrev B1 := REnv → Option (Bool × REnv)
abbrev A1 := REnv → Option (List PyData × REnv)

/-- what an expression's reading may rely on, and what follows -/
def SemE (K : PySem.W.Frag) (t : TE) (f : D1) : Prop := ∀ (G : Ent) (L : List (Option Addr)) (ρ : REnv) (σ : L2.St) (H : Hp) (Q : VK) (d : PyData) (ρ' : REnv),
  Rel K G L ρ σ H → f ρ = some (d, ρ') →
  (∀ v H' L', LS L' L → Rel K G L' ρ' σ H' → Ew L H H' → Rp K (hd G.N L' H') v d → Q v H') → t σ H Q
def SemT (K : PySem.W.Frag) (t : TT) (f : B1) : Prop := ∀ (G : Ent) (L : List (Option Addr)) (ρ : REnv) (σ : L2.St) (H : Hp) (Q : Bool → Hp → Prop) (d : Bool) (ρ' : REnv),
  Rel K G L ρ σ H → f ρ = some (d, ρ') →
  (∀ H' L', LS L' L → Rel K G L' ρ' σ H' → Ew L H H' → Q d H') → t σ H Q
def SemA (K : PySem.W.Frag) (t : TA) (f : A1) : Prop := ∀ (G : Ent) (L : List (Option Addr)) (ρ : REnv) (σ : L2.St) (H : Hp) (Q : List V → Hp → Prop) (d : List PyData) (ρ' : REnv),
  Rel K G L ρ σ H → f ρ = some (d, ρ') →
  (∀ v H' L', LS L' L → Rel K G L' ρ' σ H' → Ew L H H' → RpA K (hd G.N L' H') v d → Q v H') → t σ H Q
/-- a new list that none else holds -/
def SemF (K : PySem.W.Frag) (t : TE) (f : A1) : Prop := ∀ (G : Ent) (L : List (Option Addr)) (ρ : REnv) (σ : L2.St) (H : Hp) (Q : VK) (d : List PyData) (ρ' : REnv),
  Rel K G L ρ σ H → f ρ = some (d, ρ') →
  (∀ p vs H' L', LS L' L → H p = none → H' p = some (.lst vs) → Rel K (G.hide p) L' ρ' σ H' → Ew L H H' → RpA K (hd (G.hide p).N L' H') vs d → Q (.ref p) H') → t σ H Q
structure SE (K : PySem.W.Frag) (X : Cx) (e : Expr) (t : TE) (f : D1) : Prop where
  pe : PE X e t
  sem : SemE K t f
structure ST (K : PySem.W.Frag) (X : Cx) (e : Expr) (t : TT) (f : B1) : Prop where
  pe : PT X e t
  sem : SemT K t f
structure SA (K : PySem.W.Frag) (X : Cx) (es : List Expr) (t : TA) (f : A1) : Prop where
  pe : PA X es t
  sem : SemA K t f
structure SF (K : PySem.W.Frag) (X : Cx) (e : Expr) (t : TE) (f : A1) : Prop where
  pe : PE X e t
  sem : SemF K t f

/-- reading a name -/
def fVar (i : Nat) : D1 := fun ρ => match ρ[i]? with
  | some (some (.pl d)) => some (d, ρ)
  | some (some (.ow ds)) => some (.list ds, ρ.set i (some (.pl (.list ds))))
  | _ => none
def fC (d : PyData) : D1 := fun ρ => some (d, ρ)
section
variable {K : PySem.W.Frag}
theorem Rel.get {G : Ent} {L : List (Option Addr)} {ρ : REnv} {σ : L2.St} {H : Hp} (R : Rel K G L ρ σ H) {i : Nat} {d : PyData} (h : ρ[i]? = some (some (.pl d))) :
    ∃ v, σ[i]? = some (some v) ∧ Rp K (hd G.N L H) v d := by
  obtain ⟨v, l, h1, _, h3⟩ := R.at_ i _ h
  exact ⟨v, h1, h3.2⟩
theorem sem_var (i : Nat) : SemE K (tVar i) (fVar i) := by
  intro G L ρ σ H Q d ρ' R e q
  unfold fVar at e
  split at e
  · rename_i d' h
    cases e
    obtain ⟨v, h1, h2⟩ := R.get h
    exact ⟨v, h1, q v H L (.refl L) R (.refl L H) h2⟩
  · rename_i ds h
    cases e
    obtain ⟨a, h1, R2, r⟩ := R.moveOw h
    exact ⟨_, h1, q _ H _ (LS.set L i) R2 (.refl L H) r⟩
  · cases e
theorem sem_c {v : V} {d : PyData} (h : ∀ H, Rp K H v d) : SemE K (tC v) (fC d) := by
  intro G L ρ σ H Q d' ρ' R e q
  cases e
  exact q v H L (.refl L) R (.refl L H) (h _)
/-- two in a row -/
theorem SemE.two {ta tb : TE} {fa fb : D1} (ha : SemE K ta fa) (hb : SemE K tb fb) {G : Ent} {L : List (Option Addr)} {ρ ρ1 ρ2 : REnv} {σ : L2.St} {H : Hp} {dx dy : PyData} (R : Rel K G L ρ σ H)
    (e1 : fa ρ = some (dx, ρ1)) (e2 : fb ρ1 = some (dy, ρ2)) {k : V → V → Hp → Prop}
    (q : ∀ x y H' L', LS L' L → Rel K G L' ρ2 σ H' → Ew L H H' → Rp K (hd G.N L' H') x dx → Rp K (hd G.N L' H') y dy → k x y H') : ta σ H fun x H1 => tb σ H1 fun y H2 => k x y H2 :=
  ha G L ρ σ H _ dx ρ1 R e1 fun x H1 L1 s1 R1 w1 r1 => hb G L1 ρ1 σ H1 _ dy ρ2 R1 e2 fun y H2 L2' s2 R2 w2 r2 =>
    q x y H2 L2' (s2.trans s1) R2 (w1.trans w2 s1) (r1.mono (w2.hd s2)) r2
end

/-! ### operators by values -/
/-- a value whose items are data, the list itself may be hidden -/
inductive Tp (K : PySem.W.Frag) (H Hh : Hp) : V → PyData → Prop
  | non : Tp K H Hh .non .none
  | bl (b : Bool) : Tp K H Hh (.bl b) (.bool b)
  | int (i : Int) : Tp K H Hh (.int i) (.int i)
  | str (x : Str) : Tp K H Hh (.str x) (.str x)
  | lst {a : Addr} {xs : List V} {ds : List PyData} (h : H a = some (.lst xs)) (r : RpA K Hh xs ds) : Tp K H Hh (.ref a) (.list ds)
  | tup {a : Addr} {xs : List V} {ds : List PyData} (h : SqT K H a xs) (hh : SqT K Hh a xs) (r : RpA K Hh xs ds) : Tp K H Hh (.ref a) (.tuple ds)
  | dic {a : Addr} (h : H a = some (.dK [])) : Tp K H Hh (.ref a) (.dict [])
  | scr {a : Addr} {ns : List Int} (h : SqL K H a (ns.map V.int)) : Tp K H Hh (.ref a) (.dict [(.none, .list (ns.map .int))])
theorem Rp.tp {K : PySem.W.Frag} {H Hh : Hp} (e : Le Hh H) : ∀ {v : V} {d : PyData}, Rp K Hh v d → Tp K H Hh v d
  | _, _, .non => .non
  | _, _, .bl b => .bl b
  | _, _, .int i => .int i
  | _, _, .str x => .str x
  | _, _, .lst h r => .lst (e _ _ h) r
  | _, _, .tup h r => .tup (e.t h) h r
  | _, _, .dic h => .dic (e _ _ h)
  | _, _, .scr h => .scr (e.l h)
def Alloc (N : Addr → Prop) (L : List (Option Addr)) (H : Hp) : Prop := ∀ b, N b ∨ some b ∈ L → ∃ o, H b = some o
theorem Rel.alloc {K : PySem.W.Frag} {G : Ent} {L : List (Option Addr)} {ρ : REnv} {σ : L2.St} {H : Hp} (R : Rel K G L ρ σ H) : Alloc G.N L H := fun b h => h.elim (R.nd b) (R.lt b)
theorem Alloc.new {N : Addr → Prop} {L : List (Option Addr)} {H : Hp} (A : Alloc N L H) {p : Addr} {o : HO} (h : H p = none) : hd N L (upd H p o) p = some o := by
  refine hd_some.mpr ⟨fun z => ?_, fun z => ?_, upd_same⟩
  · obtain ⟨u, e⟩ := A p (.inl z); rw [h] at e; cases e
  · obtain ⟨u, e⟩ := A p (.inr z); rw [h] at e; cases e
theorem hd_mono {N : Addr → Prop} {L : List (Option Addr)} {H H' : Hp} (e : Le H H') : Le (hd N L H) (hd N L H') := fun b o h => by
  obtain ⟨h1, h2, h3⟩ := hd_some.mp h
  exact hd_some.mpr ⟨h1, h2, e b o h3⟩
abbrev G2 := PyData → PyData → Option PyData
/-- a reading by values does what g says -/
def OpS (K : PySem.W.Frag) (r : R2) (g : G2) : Prop := ∀ (N : Addr → Prop) (L : List (Option Addr)) (H : Hp) (x y : V) (dx dy dz : PyData) (Q : VK), Alloc N L H →
  Tp K H (hd N L H) x dx → Tp K H (hd N L H) y dy → g dx dy = some dz → (∀ v H', Le H H' → Rp K (hd N L H') v dz → Q v H') → r x y H Q
def UnS (K : PySem.W.Frag) (r : V → Hp → VK → Prop) (g : PyData → Option PyData) : Prop := ∀ (N : Addr → Prop) (L : List (Option Addr)) (H : Hp) (x : V) (dx dz : PyData) (Q : VK), Alloc N L H →
  Tp K H (hd N L H) x dx → g dx = some dz → (∀ v H', Le H H' → Rp K (hd N L H') v dz → Q v H') → r x H Q
/-- the function of a two-place operation -/
def f2 (g : G2) (fa fb : D1) : D1 := fun ρ => match fa ρ with
  | none => none
  | some (x, ρ1) => match fb ρ1 with
    | none => none
    | some (y, ρ2) => match g x y with
      | none => none
      | some z => some (z, ρ2)
def f1 (g : PyData → Option PyData) (fa : D1) : D1 := fun ρ => match fa ρ with
  | none => none
  | some (x, ρ1) => match g x with
      | none => none
      | some z => some (z, ρ1)
theorem f2_some {g : G2} {fa fb : D1} {ρ ρ' : REnv} {z : PyData} (h : f2 g fa fb ρ = some (z, ρ')) : ∃ x ρ1 y, fa ρ = some (x, ρ1) ∧ fb ρ1 = some (y, ρ') ∧ g x y = some z := by
  unfold f2 at h
  split at h
  · cases h
  · rename_i x ρ1 e1
    split at h
    · cases h
    · rename_i y ρ2 e2
      split at h
      · cases h
      · rename_i w e3
        cases h
        exact ⟨x, ρ1, y, e1, e2, e3⟩
theorem f1_some {g : PyData → Option PyData} {fa : D1} {ρ ρ' : REnv} {z : PyData} (h : f1 g fa ρ = some (z, ρ')) : ∃ x, fa ρ = some (x, ρ') ∧ g x = some z := by
  unfold f1 at h
  split at h
  · cases h
  · rename_i x ρ1 e1
    split at h
    · cases h
    · rename_i w e3
      cases h
      exact ⟨x, e1, e3⟩
section
variable {K : PySem.W.Frag} {ta tb : TE} {fa fb : D1}
theorem sem_op {r : R2} {g : G2} (ho : OpS K r g) (ha : SemE K ta fa) (hb : SemE K tb fb) : SemE K (tOp r ta tb) (f2 g fa fb) := by
  intro G L ρ σ H Q d ρ' R e q
  obtain ⟨x, ρ1, y, e1, e2, e3⟩ := f2_some e
  refine ha.two hb R e1 e2 fun vx vy H2 L2' s2 R2 w2 r1 r2 => ?_
  refine ho G.N L2' H2 vx vy x y d Q R2.alloc (r1.tp hd_le) (r2.tp hd_le) e3 fun v H3 le r => ?_
  exact q v H3 L2' s2 (R2.mono le) (w2.trans (le.ew (L := L2')) s2) r
theorem sem_un {r : V → Hp → VK → Prop} {g : PyData → Option PyData} (ho : UnS K r g) (ha : SemE K ta fa) : SemE K (tUn r ta) (f1 g fa) := by
  intro G L ρ σ H Q d ρ' R e q
  obtain ⟨x, e1, e3⟩ := f1_some e
  refine ha G L ρ σ H _ x ρ' R e1 fun vx H2 L2' s2 R2 w2 r1 => ?_
  refine ho G.N L2' H2 vx x d Q R2.alloc (r1.tp hd_le) e3 fun v H3 le r => ?_
  exact q v H3 L2' s2 (R2.mono le) (w2.trans (le.ew (L := L2')) s2) r

/-- what one's own slot holds -/
def ownAt (ρ : REnv) (i : Nat) : Option (List PyData) := match ρ[i]? with
  | some (some x) => x.lst?
  | _ => none
theorem ownAt_some {ρ : REnv} {i : Nat} {ds : List PyData} (h : ownAt ρ i = some ds) : ∃ x, ρ[i]? = some (some x) ∧ x.lst? = some ds := by
  unfold ownAt at h
  split at h
  · exact ⟨_, by assumption, h⟩
  · cases h
/-- one's own list as the first, the second operand: what it holds when both are there -/
def fOL (g : G2) (i : Nat) (fb : D1) : D1 := fun ρ => match ownAt ρ i with
  | none => none
  | some _ => match fb ρ with
    | none => none
    | some (y, ρ2) => match ownAt ρ2 i with
      | none => none
      | some ds => match g (.list ds) y with
        | none => none
        | some z => some (z, ρ2)
def fOR (g : G2) (fa : D1) (i : Nat) : D1 := fun ρ => match fa ρ with
  | none => none
  | some (y, ρ2) => match ownAt ρ2 i with
    | none => none
    | some ds => match g y (.list ds) with
      | none => none
      | some z => some (z, ρ2)
def fOU (g : PyData → Option PyData) (i : Nat) : D1 := fun ρ => match ownAt ρ i with
  | none => none
  | some ds => match g (.list ds) with
    | none => none
    | some z => some (z, ρ)
theorem Rel.tpOwn {G : Ent} {L : List (Option Addr)} {ρ : REnv} {σ : L2.St} {H : Hp} (R : Rel K G L ρ σ H) {i : Nat} {ds : List PyData} (h : ownAt ρ i = some ds) :
    ∃ v, σ[i]? = some (some v) ∧ Tp K H (hd G.N L H) v (.list ds) := by
  obtain ⟨x, h, hx⟩ := ownAt_some h
  obtain ⟨a, vs, h1, _, h3, h4⟩ := R.own h hx
  exact ⟨_, h1, .lst h3 h4⟩
theorem slot_same {σ : L2.St} {i : Nat} {v w : V} (h : σ[i]? = some (some v)) (g : σ[i]? = some (some w)) : v = w := by rw [h] at g; cases g; rfl
theorem sem_opL {r : R2} {g : G2} (ho : OpS K r g) (i : Nat) (hb : SemE K tb fb) : SemE K (tOp r (tVar i) tb) (fOL g i fb) := by
  intro G L ρ σ H Q d ρ' R e q
  unfold fOL at e
  split at e
  · cases e
  rename_i ds0 e0
  split at e
  · cases e
  rename_i y ρ2 e1
  split at e
  · cases e
  rename_i ds e2
  split at e
  · cases e
  rename_i z e4
  cases e
  obtain ⟨v, hv, _⟩ := R.tpOwn e0
  refine ⟨v, hv, hb G L ρ σ H _ y ρ' R e1 fun vy H2 L2' s2 R2 w2 r1 => ?_⟩
  obtain ⟨v', h1, h2⟩ := R2.tpOwn e2
  cases slot_same hv h1
  refine ho G.N L2' H2 v vy _ y d Q R2.alloc h2 (r1.tp hd_le) e4 fun w H3 le r => ?_
  exact q w H3 L2' s2 (R2.mono le) (w2.trans (le.ew (L := L2')) s2) r
theorem sem_opR {r : R2} {g : G2} (ho : OpS K r g) (i : Nat) (ha : SemE K ta fa) : SemE K (tOp r ta (tVar i)) (fOR g fa i) := by
  intro G L ρ σ H Q d ρ' R e q
  unfold fOR at e
  split at e
  · cases e
  rename_i y ρ2 e1
  split at e
  · cases e
  rename_i ds e2
  split at e
  · cases e
  rename_i z e4
  cases e
  refine ha G L ρ σ H _ y ρ' R e1 fun vy H2 L2' s2 R2 w2 r1 => ?_
  obtain ⟨v', h1, h2⟩ := R2.tpOwn e2
  refine ⟨v', h1, ho G.N L2' H2 vy v' y _ d Q R2.alloc (r1.tp hd_le) h2 e4 fun w H3 le r => ?_⟩
  exact q w H3 L2' s2 (R2.mono le) (w2.trans (le.ew (L := L2')) s2) r
theorem sem_unO {r : V → Hp → VK → Prop} {g : PyData → Option PyData} (ho : UnS K r g) (i : Nat) : SemE K (tUn r (tVar i)) (fOU g i) := by
  intro G L ρ σ H Q d ρ' R e q
  unfold fOU at e
  split at e
  · cases e
  rename_i ds e2
  split at e
  · cases e
  rename_i z e4
  cases e
  obtain ⟨v', h1, h2⟩ := R.tpOwn e2
  refine ⟨v', h1, ho G.N L H v' _ d Q R.alloc h2 e4 fun w H3 le r => ?_⟩
  exact q w H3 L (.refl L) (R.mono le) (le.ew (L := L)) r

/-! ### argument lists and displays -/
def fNil : A1 := fun ρ => some ([], ρ)
def fCons (fa : D1) (fr : A1) : A1 := fun ρ => match fa ρ with
  | none => none
  | some (x, ρ1) => match fr ρ1 with
    | none => none
    | some (xs, ρ2) => some (x :: xs, ρ2)
theorem sem_nil : SemA K tNil fNil := by
  intro G L ρ σ H Q d ρ' R e q
  cases e
  exact q [] H L (.refl L) R (.refl L H) .nil
theorem fCons_some {fa : D1} {fr : A1} {ρ ρ' : REnv} {d : List PyData} (e : fCons fa fr ρ = some (d, ρ')) : ∃ x ρ1 xs, d = x :: xs ∧ fa ρ = some (x, ρ1) ∧ fr ρ1 = some (xs, ρ') := by
  unfold fCons at e
  split at e
  · cases e
  rename_i x ρ1 e1
  split at e
  · cases e
  rename_i xs ρ2 e2
  cases e
  exact ⟨x, ρ1, xs, rfl, e1, e2⟩
theorem sem_cons {tr : TA} {fr : A1} (ha : SemE K ta fa) (hr : SemA K tr fr) : SemA K (tCons ta tr) (fCons fa fr) := by
  intro G L ρ σ H Q d ρ' R e q
  obtain ⟨x, ρ1, xs, rfl, e1, e2⟩ := fCons_some e
  refine ha G L ρ σ H _ x ρ1 R e1 fun v H1 L1 s1 R1 w1 r1 => ?_
  refine hr G L1 ρ1 σ H1 _ xs ρ' R1 e2 fun vs H2 L2' s2 R2 w2 r2 => ?_
  exact q (v :: vs) H2 L2' (s2.trans s1) R2 (w1.trans w2 s1) (.cons (r1.mono (w2.hd s2)) r2)
def fTup (fa : A1) : D1 := fun ρ => match fa ρ with
  | none => none
  | some (xs, ρ1) => if xs.length ≤ sizeLine then some (.tuple xs, ρ1) else none
theorem sem_tup {t : TA} {f : A1} (h : SemA K t f) : SemE K (tTup t) (fTup f) := by
  intro G L ρ σ H Q d ρ' R e q
  unfold fTup at e
  split at e
  · cases e
  rename_i xs ρ1 e1
  split at e
  · rename_i hz
    cases e
    refine h G L ρ σ H _ xs ρ' R e1 fun vs H1 L1 s1 R1 w1 r1 => ⟨by rw [r1.len]; exact hz, fun p hp => ?_⟩
    have le : Le H1 (upd H1 p (.tup vs)) := Le.new hp
    exact q _ _ L1 s1 (R1.mono le) (w1.trans (le.ew (L := L1)) s1) (.tup (.of (R1.alloc.new hp)) (r1.mono (hd_mono le)))
  · cases e
/-- a new list -/
def fLst (fa : A1) : A1 := fun ρ => match fa ρ with
  | none => none
  | some (xs, ρ1) => if xs.length ≤ sizeLine then some (xs, ρ1) else none
theorem semF_lst {t : TA} {f : A1} (h : SemA K t f) : SemF K (tLst t) (fLst f) := by
  intro G L ρ σ H Q d ρ' R e q
  unfold fLst at e
  split at e
  · cases e
  rename_i xs ρ1 e1
  split at e
  · rename_i hz
    cases e
    refine h G L ρ σ H _ _ ρ' R e1 fun vs H1 L1 s1 R1 w1 r1 => ⟨by rw [r1.len]; exact hz, fun p hp => ?_⟩
    exact q p vs _ L1 s1 (w1.free hp) upd_same (R1.hide hp) (w1.trans ((Le.new hp).ew (L := L1)) s1) (r1.mono (hd_hide hp))
  · cases e
end
end Dv

/-! Dv: the operations over data. -/
namespace Dv
open PySem PySem.Spec PyProof.Rows L2

/-! ### data read by the library's own relation -/
section
variable {K : PySem.W.Frag} {H : Hp}
mutual
theorem Rp.dp : ∀ {v : V} {d : PyData}, Rp K H v d → d.canLay0 = true → Dp K H v d
  | _, _, .non, _ => .non
  | _, _, .bl b, _ => .bl b
  | _, _, .int i, _ => .int i
  | _, _, .str x, _ => .str x
  | _, _, .lst h r, e => .lst (.of h) (r.dp (by simpa [PyData.canLay0] using e))
  | _, _, .tup h r, e => .tup h (r.dp (by simpa [PyData.canLay0] using e))
  | _, _, .dic _, e => by simp [PyData.canLay0] at e
  | _, _, .scr _, e => by simp [PyData.canLay0] at e
theorem RpA.dp : ∀ {vs : List V} {ds : List PyData}, RpA K H vs ds → PyData.canLayAll0 ds = true → DpAll K H vs ds
  | _, _, .nil, _ => .nil
  | _, _, .cons h t, e => by
    simp [PyData.canLayAll0] at e
    exact .cons (h.dp e.1) (t.dp e.2)
end
end
theorem Tp.dp {K : PySem.W.Frag} {H Hh : Hp} (le : Le Hh H) {v : V} {d : PyData} (h : Tp K H Hh v d) (e : d.canLay0 = true) : Dp K H v d := by
  cases h with
  | non => exact .non
  | bl b => exact .bl b
  | int i => exact .int i
  | str x => exact .str x
  | lst h r => exact .lst (.of h) ((r.mono le).dp (by simpa [PyData.canLay0] using e))
  | tup h hh r => exact .tup h ((r.mono le).dp (by simpa [PyData.canLay0] using e))
  | dic _ => simp [PyData.canLay0] at e
  | scr _ => simp [PyData.canLay0] at e

/-! ### + - * % // ** -/
def gI (g : Int → Int → Option PyData) : G2 := fun x y => match x, y with
  | .int i, .int j => g i j
  | _, _ => none
theorem gI_some {g : Int → Int → Option PyData} {x y z : PyData} (h : gI g x y = some z) : ∃ i j, x = .int i ∧ y = .int j ∧ g i j = some z := by
  unfold gI at h
  split at h
  · exact ⟨_, _, rfl, rfl, h⟩
  · cases h
theorem Tp.int_of {K : PySem.W.Frag} {H Hh : Hp} {v : V} {i : Int} (h : Tp K H Hh v (.int i)) : v = .int i := by cases h; rfl
theorem Tp.bl_of {K : PySem.W.Frag} {H Hh : Hp} {v : V} {i : Bool} (h : Tp K H Hh v (.bool i)) : v = .bl i := by cases h; rfl
theorem Rp.int_of {K : PySem.W.Frag} {H : Hp} {v : V} {i : Int} (h : Rp K H v (.int i)) : v = .int i := by cases h; rfl
theorem Rp.bl_of {K : PySem.W.Frag} {H : Hp} {v : V} {i : Bool} (h : Rp K H v (.bool i)) : v = .bl i := by cases h; rfl
section
variable {K : PySem.W.Frag}
theorem ops_I0 {f : Int → Int → Int} : OpS K (rI0 fun i j => .int (f i j)) (gI fun i j => some (.int (f i j))) := by
  intro N L H x y dx dy dz Q A hx hy e q
  obtain ⟨i, j, rfl, rfl, e⟩ := gI_some e
  cases e
  exact ⟨i, j, hx.int_of, hy.int_of, q _ H (.refl H) (.int _)⟩
theorem ops_B0 {f : Int → Int → Bool} : OpS K (rI0 fun i j => .bl (f i j)) (gI fun i j => some (.bool (f i j))) := by
  intro N L H x y dx dy dz Q A hx hy e q
  obtain ⟨i, j, rfl, rfl, e⟩ := gI_some e
  cases e
  exact ⟨i, j, hx.int_of, hy.int_of, q _ H (.refl H) (.bl _)⟩
theorem ops_I {C : Int → Int → Prop} {c : Int → Int → Bool} {f : Int → Int → Int} (hc : ∀ i j, c i j = true → C i j) : OpS K (rI C fun i j => .int (f i j)) (gI fun i j => if c i j then some (.int (f i j)) else none) := by
  intro N L H x y dx dy dz Q A hx hy e q
  obtain ⟨i, j, rfl, rfl, e1⟩ := gI_some e
  clear e
  split at e1
  · rename_i h
    cases e1
    exact ⟨i, j, hx.int_of, hy.int_of, hc i j h, q _ H (.refl H) (.int _)⟩
  · cases e1
/-- two readings, by the kind of data -/
def gOr (g g' : G2) : G2 := fun x y => match g x y with
  | some z => some z
  | none => g' x y
theorem ops_or {r r' : R2} {g g' : G2} (h : OpS K r g) (h' : OpS K r' g') : OpS K (fun x y H Q => r x y H Q ∨ r' x y H Q) (gOr g g') := by
  intro N L H x y dx dy dz Q A hx hy e q
  unfold gOr at e
  split at e
  · rename_i z e1
    cases e
    exact .inl (h N L H x y dx dy dz Q A hx hy e1 q)
  · exact .inr (h' N L H x y dx dy dz Q A hx hy e q)
def gCatL : G2 := fun x y => match x, y with
  | .list xs, .list ys => if xs.length + ys.length ≤ sizeLine then some (.list (xs ++ ys)) else none
  | _, _ => none
def gCatT : G2 := fun x y => match x, y with
  | .tuple xs, .tuple ys => if xs.length + ys.length ≤ sizeLine then some (.tuple (xs ++ ys)) else none
  | _, _ => none
theorem ops_cat : OpS K rCat gCatL := by
  intro N L H x y dx dy dz Q A hx hy e q
  unfold gCatL at e
  split at e
  · split at e
    · rename_i xs ys hz
      cases e
      cases hx with
      | lst h1 r1 =>
        cases hy with
        | lst h2 r2 =>
          refine ⟨_, _, _, _, rfl, rfl, h1, h2, by rw [r1.len, r2.len]; exact hz, fun p hp => ?_⟩
          exact q _ _ (Le.new hp) (.lst (A.new hp) ((r1.append r2).mono (hd_mono (Le.new hp))))
    · cases e
  · cases e
theorem ops_catT : OpS K (rCatA K) gCatT := by
  intro N L H x y dx dy dz Q A hx hy e q
  unfold gCatT at e
  split at e
  · split at e
    · rename_i xs ys hz
      cases e
      cases hx with
      | tup h1 hh1 r1 =>
        cases hy with
        | tup h2 hh2 r2 =>
          refine ⟨_, _, _, _, rfl, rfl, h1, h2, by rw [r1.len, r2.len]; exact hz, fun e => ?_, fun _ e => ?_, fun _ _ p hp => ?_⟩
          · subst e
            have := r1.len
            cases xs with
            | nil => exact q _ H (.refl H) (.tup hh2 r2)
            | cons a b => simp at this
          · subst e
            have := r2.len
            cases ys with
            | nil => rw [List.append_nil] at q; exact q _ H (.refl H) (.tup hh1 r1)
            | cons a b => simp at this
          · exact q _ _ (Le.new hp) (.tup (.of (A.new hp)) ((r1.append r2).mono (hd_mono (Le.new hp))))
    · cases e
  · cases e
end

/-- a new list by values -/
def OpF (K : PySem.W.Frag) (r : R2) (g : PyData → PyData → Option (List PyData)) : Prop := ∀ (N : Addr → Prop) (L : List (Option Addr)) (H : Hp) (x y : V) (dx dy : PyData) (ds : List PyData) (Q : VK), Alloc N L H →
  Tp K H (hd N L H) x dx → Tp K H (hd N L H) y dy → g dx dy = some ds → (∀ p vs, H p = none → RpA K (hd N L H) vs ds → Q (.ref p) (upd H p (.lst vs))) → r x y H Q
def f2F (g : PyData → PyData → Option (List PyData)) (fa fb : D1) : A1 := fun ρ => match fa ρ with
  | none => none
  | some (x, ρ1) => match fb ρ1 with
    | none => none
    | some (y, ρ2) => match g x y with
      | none => none
      | some z => some (z, ρ2)
theorem semF_op {K : PySem.W.Frag} {ta tb : TE} {fa fb : D1} {r : R2} {g : PyData → PyData → Option (List PyData)} (ho : OpF K r g) (ha : SemE K ta fa) (hb : SemE K tb fb) : SemF K (tOp r ta tb) (f2F g fa fb) := by
  intro G L ρ σ H Q d ρ' R e q
  unfold f2F at e
  split at e
  · cases e
  rename_i x ρ1 e1
  split at e
  · cases e
  rename_i y ρ2 e2
  split at e
  · cases e
  rename_i z e3
  cases e
  refine ha.two hb R e1 e2 fun vx vy H2 L2' s2 R2 w2 r1 r2 => ?_
  refine ho G.N L2' H2 vx vy x y d Q R2.alloc (r1.tp hd_le) (r2.tp hd_le) e3 fun p vs hp r => ?_
  exact q p vs _ L2' s2 (w2.free hp) upd_same (R2.hide hp) (w2.trans ((Le.new hp).ew (L := L2')) s2) (r.mono (hd_hide hp))
/-- a new list is data, too -/
theorem Rel.plain {K : PySem.W.Frag} {G : Ent} {L : List (Option Addr)} {ρ : REnv} {σ : L2.St} {H : Hp} {p : Addr} {vs : List V} {ds : List PyData} (R : Rel K (G.hide p) L ρ σ H) (hb : ∀ b, some b ∈ G.as → G.N b) (hn : ¬ G.N p) (hl : some p ∉ L) (h : H p = some (.lst vs)) (r : RpA K (hd (G.hide p).N L H) vs ds) :
    Rel K G L ρ σ H ∧ Rp K (hd G.N L H) (.ref p) (.list ds) :=
  ⟨R.unhide hb, .lst (hd_some.mpr ⟨hn, hl, h⟩) (r.mono hd_unhide)⟩
def fF (f : A1) : D1 := fun ρ => match f ρ with
  | none => none
  | some (ds, ρ1) => some (.list ds, ρ1)
theorem SemF.e {K : PySem.W.Frag} {t : TE} {f : A1} (h : SemF K t f) : SemE K t (fF f) := by
  intro G L ρ σ H Q d ρ' R e q
  unfold fF at e
  split at e
  · cases e
  rename_i ds ρ1 e1
  cases e
  refine h G L ρ σ H Q ds ρ' R e1 fun p vs H' L' s hp h1 R1 w r => ?_
  have hf := R.fresh hp
  obtain ⟨R2, rp⟩ := R1.plain R.bd hf.1 (fun m => hf.2.1 (s.mem m)) h1 r
  exact q _ _ L' s R2 w rp
def small64 (i : Int) : Bool := decide (-(2 ^ 64) < i) && decide (i < 2 ^ 64)
def gMulI : G2 := gI fun i j => if small64 i || small64 j then some (.int (i * j)) else none
theorem ops_mul {K : PySem.W.Frag} : OpS K (rI CMul fun i j => .int (i * j)) gMulI := ops_I (c := fun i j => small64 i || small64 j) fun i j h => by
  unfold small64 at h
  simp only [Bool.or_eq_true, Bool.and_eq_true, decide_eq_true_eq] at h
  exact h
theorem RpA.rep {K : PySem.W.Frag} {H : Hp} {vs : List V} {ds : List PyData} (h : RpA K H vs ds) : ∀ n : Nat, RpA K H (List.replicate n vs).flatten (List.replicate n ds).flatten
  | 0 => .nil
  | n + 1 => by rw [List.replicate_succ, List.replicate_succ, List.flatten_cons, List.flatten_cons]; exact h.append (h.rep n)
def gRepL : PyData → PyData → Option (List PyData) := fun x y => match x, y with
  | .list xs, .int k => if 0 ≤ k ∧ k ≤ 100000 ∧ xs.length * k.toNat ≤ sizeLine then some (List.replicate k.toNat xs).flatten else none
  | _, _ => none
def gRepT : G2 := fun x y => match x, y with
  | .tuple xs, .int k => if xs ≠ [] ∧ 2 ≤ k ∧ k ≤ 1000 ∧ xs.length ≤ 1000 then some (.tuple (List.replicate k.toNat xs).flatten) else none
  | _, _ => none
theorem opF_rep {K : PySem.W.Frag} : OpF K rRep gRepL := by
  intro N L H x y dx dy ds Q A hx hy e q
  unfold gRepL at e
  split at e
  · split at e
    · rename_i xs k hz
      cases e
      cases hx with
      | lst h1 r1 =>
        cases hy
        refine ⟨_, k, _, rfl, rfl, h1, by omega, by omega, by rw [r1.len]; exact hz.2.2, fun p hp => ?_⟩
        exact q p _ hp (r1.rep _)
    · cases e
  · cases e
theorem opF_cat {K : PySem.W.Frag} : OpF K rCat (fun x y => match gCatL x y with | some (.list zs) => some zs | _ => none) := by
  intro N L H x y dx dy ds Q A hx hy e q
  unfold gCatL at e
  cases hx <;> try (simp at e; done)
  rename_i a xs dxs h1 r1
  cases hy <;> try (simp at e; done)
  rename_i b ys dys h2 r2
  simp only at e
  split at e
  · rename_i h
    split at h
    · rename_i hz
      cases h
      cases e
      refine ⟨_, _, _, _, rfl, rfl, h1, h2, by rw [r1.len, r2.len]; exact hz, fun p hp => ?_⟩
      exact q p _ hp (r1.append r2)
    · cases h
  · cases e
theorem ops_repT {K : PySem.W.Frag} : OpS K (rRepT K) gRepT := by
  intro N L H x y dx dy dz Q A hx hy e q
  unfold gRepT at e
  split at e
  · split at e
    · rename_i xs k hz
      cases e
      cases hx with
      | tup h1 hh1 r1 =>
        cases hy
        refine ⟨_, k, _, rfl, rfl, h1, fun z => ?_, by omega, by omega, by rw [r1.len]; exact hz.2.2.2, fun p hp => ?_⟩
        · subst z
          have := r1.len
          cases xs with
          | nil => exact hz.1 rfl
          | cons a b => simp at this
        · exact q _ _ (Le.new hp) (.tup (.of (A.new hp)) ((r1.rep _).mono (hd_mono (Le.new hp))))
    · cases e
  · cases e
section
variable {X : Cx} {K : PySem.W.Frag}
def rAdd (K : PySem.W.Frag) : R2 := fun x y H Q => rI0 (fun i j => .int (i + j)) x y H Q ∨ (rCat x y H Q ∨ rCatA K x y H Q)
def gAdd : G2 := gOr (gI fun i j => some (.int (i + j))) (gOr gCatL gCatT)
theorem o_add : OpR X (binaryOp .Add) (rAdd X.K) := op_add.or (op_cat.or op_catA)
theorem s_add : OpS K (rAdd K) gAdd := ops_or ops_I0 (ops_or ops_cat ops_catT)
def gSub : G2 := gI fun i j => some (.int (i - j))
theorem s_sub : OpS K (rI0 fun i j => .int (i - j)) gSub := ops_I0
def rMul (K : PySem.W.Frag) : R2 := fun x y H Q => rI CMul (fun i j => .int (i * j)) x y H Q ∨ rRepT K x y H Q
def gMul : G2 := gOr gMulI gRepT
theorem o_mul : OpR X (binaryOp .Mult) (rMul X.K) := op_mul.or op_repT
theorem s_mul : OpS K (rMul K) gMul := ops_or ops_mul ops_repT
def gMod : G2 := gI fun i j => if decide (0 < j) then some (.int (i % j)) else none
theorem s_mod : OpS K (rI (fun _ j => 0 < j) fun i j => .int (i % j)) gMod := ops_I (c := fun _ j => decide (0 < j)) fun _ _ h => of_decide_eq_true h
def gDiv : G2 := gI fun i j => if decide (0 < j ∧ j.natAbs.log2 < 9000) then some (.int (i / j)) else none
theorem s_div : OpS K (rI CDivW fun i j => .int (i / j)) gDiv := ops_I (c := fun _ j => decide (0 < j ∧ j.natAbs.log2 < 9000)) fun _ j h => (of_decide_eq_true h : 0 < j ∧ j.natAbs.log2 < 9000)
def gPow : G2 := gI fun i j => if decide (0 ≤ j ∧ j ≤ 1000000 ∧ i.natAbs < 2 ^ 64) then some (.int (i ^ j.toNat)) else none
theorem s_pow : OpS K (rI CPow fun i j => .int (i ^ j.toNat)) gPow := ops_I (c := fun i j => decide (0 ≤ j ∧ j ≤ 1000000 ∧ i.natAbs < 2 ^ 64)) fun i j h => (of_decide_eq_true h : 0 ≤ j ∧ j ≤ 1000000 ∧ i.natAbs < 2 ^ 64)
def gNeg : PyData → Option PyData := fun x => match x with
  | .int i => some (.int (-i))
  | _ => none
theorem s_neg : UnS K (rU fun i => .int (-i)) gNeg := by
  intro N L H x dx dz Q A hx e q
  unfold gNeg at e
  split at e
  · cases e
    exact ⟨_, hx.int_of, q _ H (.refl H) (.int _)⟩
  · cases e

/-! ### comparisons -/
def gEq : G2 := fun x y => if SeqAt.shaped x && SeqAt.shaped y then some (.bool (PyData.eqv x y)) else none
def gNe : G2 := fun x y => if SeqAt.shaped x && SeqAt.shaped y then some (.bool (!PyData.eqv x y)) else none
theorem s_eq : OpS K (rEqD K) gEq := by
  intro N L H x y dx dy dz Q A hx hy e q
  unfold gEq at e
  split at e
  · rename_i h
    cases e
    simp only [Bool.and_eq_true] at h
    exact ⟨dx, dy, hx.dp hd_le (SeqAt.canLay_of_shaped h.1), hy.dp hd_le (SeqAt.canLay_of_shaped h.2), h.1, h.2, q _ H (.refl H) (.bl _)⟩
  · cases e
theorem s_ne : OpS K (rNeD K) gNe := by
  intro N L H x y dx dy dz Q A hx hy e q
  unfold gNe at e
  split at e
  · rename_i h
    cases e
    simp only [Bool.and_eq_true] at h
    exact ⟨dx, dy, hx.dp hd_le (SeqAt.canLay_of_shaped h.1), hy.dp hd_le (SeqAt.canLay_of_shaped h.2), h.1, h.2, q _ H (.refl H) (.bl _)⟩
  · cases e
/-- the ints of a row of data -/
def intsOf : List PyData → Option (List Int)
  | [] => some []
  | .int i :: r => match intsOf r with
    | some ns => some (i :: ns)
    | none => none
  | _ => none
theorem intsOf_some : ∀ {ds : List PyData} {ns : List Int}, intsOf ds = some ns → ds = ns.map .int
  | [], ns, h => by cases h; rfl
  | .int i :: r, ns, h => by
    unfold intsOf at h
    split at h
    · rename_i ms e
      cases h
      rw [intsOf_some e]; rfl
    · cases h
  | .none :: _, _, h => by simp [intsOf] at h
  | .bool _ :: _, _, h => by simp [intsOf] at h
  | .str _ :: _, _, h => by simp [intsOf] at h
  | .list _ :: _, _, h => by simp [intsOf] at h
  | .tuple _ :: _, _, h => by simp [intsOf] at h
  | .dict _ :: _, _, h => by simp [intsOf] at h
theorem intsOf_map : ∀ ns : List Int, intsOf (ns.map .int) = some ns
  | [] => rfl
  | n :: ns => by show (match intsOf (ns.map .int) with | some ms => some (n :: ms) | none => none) = _; rw [intsOf_map ns]
def gLtT : G2 := fun x y => match x, y with
  | .tuple xs, .tuple ys => match intsOf xs, intsOf ys with
    | some ns, some ms => some (.bool (HT.lexLt ns ms))
    | _, _ => none
  | _, _ => none
theorem s_ltT : OpS K (rLtT K) gLtT := by
  intro N L H x y dx dy dz Q A hx hy e q
  unfold gLtT at e
  cases hx <;> try (simp at e; done)
  rename_i a xs ds h1 hh1 r1
  cases hy <;> try (simp at e; done)
  rename_i b ys es h2 hh2 r2
  simp only at e
  split at e
  · rename_i ns ms e1 e2
    cases e
    have z1 := intsOf_some e1
    have z2 := intsOf_some e2
    subst z1 z2
    have v1 := r1.ints
    have v2 := r2.ints
    subst v1 v2
    exact ⟨a, b, ns, ms, rfl, rfl, h1, h2, q _ H (.refl H) (.bl _)⟩
  · cases e
def rLt (K : PySem.W.Frag) : R2 := fun x y H Q => rI0 (fun i j => .bl (decide (i < j))) x y H Q ∨ rLtT K x y H Q
def gLt : G2 := gOr (gI fun i j => some (.bool (decide (i < j)))) gLtT
theorem o_lt (hu : X.A.units < cLine) : OpR X (compareOp .Lt) (rLt X.K) := op_lt.or (op_ltT hu)
theorem s_lt : OpS K (rLt K) gLt := ops_or ops_B0 s_ltT
def gLe : G2 := gI fun i j => some (.bool (decide (i ≤ j)))
def gGt : G2 := gI fun i j => some (.bool (decide (j < i)))
def gGe : G2 := gI fun i j => some (.bool (decide (j ≤ i)))
theorem s_le : OpS K (rI0 fun i j => .bl (decide (i ≤ j))) gLe := ops_B0
theorem s_gt : OpS K (rI0 fun i j => .bl (decide (j < i))) gGt := ops_B0
theorem s_ge : OpS K (rI0 fun i j => .bl (decide (j ≤ i))) gGe := ops_B0
def gIsN : G2 := fun x y => match y with
  | .none => some (.bool (match x with | .none => true | _ => false))
  | _ => none
def gNotN : G2 := fun x y => match y with
  | .none => some (.bool (match x with | .none => false | _ => true))
  | _ => none
theorem s_isN : OpS K (fun x y H Q => y = .non ∧ Q (.bl (decide (x = .non))) H) gIsN := by
  intro N L H x y dx dy dz Q A hx hy e q
  unfold gIsN at e
  split at e
  · cases e
    cases hy
    refine ⟨rfl, q _ H (.refl H) ?_⟩
    cases hx <;> exact .bl _
  · cases e
theorem s_notN : OpS K (fun x y H Q => y = .non ∧ Q (.bl (!decide (x = .non))) H) gNotN := by
  intro N L H x y dx dy dz Q A hx hy e q
  unfold gNotN at e
  split at e
  · cases e
    cases hy
    refine ⟨rfl, q _ H (.refl H) ?_⟩
    cases hx <;> exact .bl _
  · cases e
/-! texts compared -/
def gEqS : G2 := fun x y => match x, y with
  | .str a, .str b => some (.bool (decide (a = b)))
  | _, _ => none
def gNeS : G2 := fun x y => match x, y with
  | .str a, .str b => some (.bool (!decide (a = b)))
  | _, _ => none
theorem dec_strs (a b : Str) : decide (V.str a = V.str b) = decide (a = b) := by
  apply Bool.eq_iff_iff.mpr
  simp
theorem s_eqS : OpS K rEq gEqS := by
  intro N L H x y dx dy dz Q A hx hy e q
  unfold gEqS at e
  split at e
  · cases e
    cases hx
    cases hy
    exact ⟨rfl, by rw [dec_strs]; exact q _ H (.refl H) (.bl _)⟩
  · cases e
theorem s_neS : OpS K rNe gNeS := by
  intro N L H x y dx dy dz Q A hx hy e q
  unfold gNeS at e
  split at e
  · cases e
    cases hx
    cases hy
    exact ⟨rfl, by rw [dec_strs]; exact q _ H (.refl H) (.bl _)⟩
  · cases e
def rEqA (K : PySem.W.Frag) : R2 := fun x y H Q => rEq x y H Q ∨ rEqD K x y H Q
def rNeA (K : PySem.W.Frag) : R2 := fun x y H Q => rNe x y H Q ∨ rNeD K x y H Q
def gEqA : G2 := gOr gEqS gEq
def gNeA : G2 := gOr gNeS gNe
theorem s_eqA : OpS K (rEqA K) gEqA := ops_or s_eqS s_eq
theorem s_neA : OpS K (rNeA K) gNeA := ops_or s_neS s_ne
theorem o_eqA (hu : X.A.units + 64 < cLine) : OpR X (compareOp .Eq) (rEqA X.K) := op_eq.or (op_eqD hu)
theorem o_neA (hu : X.A.units + 64 < cLine) : OpR X (compareOp .NotEq) (rNeA X.K) := op_ne.or (op_neD hu)
end
end Dv

/-! Dv: tests, subscripts, slices, calls of what is built in. -/
namespace Dv
open PySem PySem.Spec PyProof.Rows L2

section
variable {K : PySem.W.Frag} {ta tb tc : TE} {fa fb fc : D1} {t u : TT} {ft fu : B1}
/-! ### tests -/
def fT (fa : D1) : B1 := fun ρ => match fa ρ with
  | some (.bool b, ρ1) => some (b, ρ1)
  | _ => none
theorem sem_tB (h : SemE K ta fa) : SemT K (tB ta) (fT fa) := by
  intro G L ρ σ H Q d ρ' R e q
  unfold fT at e
  split at e
  · rename_i b ρ1 e1
    cases e
    refine h G L ρ σ H _ _ ρ' R e1 fun v H1 L1 s1 R1 w1 r1 => ?_
    exact ⟨d, r1.bl_of, q H1 L1 s1 R1 w1⟩
  · cases e
theorem sem_tTest (h : SemE K ta fa) : SemT K (tTest ta) (fT fa) := sem_tB h
def fAndT (ft fu : B1) : B1 := fun ρ => match ft ρ with
  | some (true, ρ1) => fu ρ1
  | some (false, ρ1) => some (false, ρ1)
  | none => none
def fOrT (ft fu : B1) : B1 := fun ρ => match ft ρ with
  | some (true, ρ1) => some (true, ρ1)
  | some (false, ρ1) => fu ρ1
  | none => none
def fNotT (ft : B1) : B1 := fun ρ => match ft ρ with
  | some (b, ρ1) => some (!b, ρ1)
  | none => none
theorem sem_andT (h : SemT K t ft) (g : SemT K u fu) : SemT K (tAnd t u) (fAndT ft fu) := by
  intro G L ρ σ H Q d ρ' R e q
  unfold fAndT at e
  split at e
  · rename_i ρ1 e1
    refine h G L ρ σ H _ _ ρ1 R e1 fun H1 L1 s1 R1 w1 => ?_
    rw [if_pos rfl]
    exact g G L1 ρ1 σ H1 _ _ ρ' R1 e fun H2 L2' s2 R2 w2 => q H2 L2' (s2.trans s1) R2 (w1.trans w2 s1)
  · rename_i ρ1 e1
    cases e
    refine h G L ρ σ H _ _ ρ' R e1 fun H1 L1 s1 R1 w1 => ?_
    rw [if_neg (by simp)]
    exact q H1 L1 s1 R1 w1
  · cases e
theorem sem_orT (h : SemT K t ft) (g : SemT K u fu) : SemT K (tOr t u) (fOrT ft fu) := by
  intro G L ρ σ H Q d ρ' R e q
  unfold fOrT at e
  split at e
  · rename_i ρ1 e1
    cases e
    refine h G L ρ σ H _ _ ρ' R e1 fun H1 L1 s1 R1 w1 => ?_
    rw [if_pos rfl]
    exact q H1 L1 s1 R1 w1
  · rename_i ρ1 e1
    refine h G L ρ σ H _ _ ρ1 R e1 fun H1 L1 s1 R1 w1 => ?_
    rw [if_neg (by simp)]
    exact g G L1 ρ1 σ H1 _ _ ρ' R1 e fun H2 L2' s2 R2 w2 => q H2 L2' (s2.trans s1) R2 (w1.trans w2 s1)
  · cases e
theorem sem_notT (h : SemT K t ft) : SemT K (tNot t) (fNotT ft) := by
  intro G L ρ σ H Q d ρ' R e q
  unfold fNotT at e
  split at e
  · rename_i b ρ1 e1
    cases e
    exact h G L ρ σ H _ _ ρ' R e1 fun H1 L1 s1 R1 w1 => q H1 L1 s1 R1 w1
  · cases e
/-- and, or, not as values -/
def fAndV (fa fb : D1) : D1 := fun ρ => match fa ρ with
  | some (.bool true, ρ1) => fb ρ1
  | some (.bool false, ρ1) => some (.bool false, ρ1)
  | _ => none
def fOrV (fa fb : D1) : D1 := fun ρ => match fa ρ with
  | some (.bool true, ρ1) => some (.bool true, ρ1)
  | some (.bool false, ρ1) => fb ρ1
  | _ => none
def fNotV (fa : D1) : D1 := fun ρ => match fa ρ with
  | some (.bool b, ρ1) => some (.bool (!b), ρ1)
  | _ => none
theorem sem_andV (h : SemE K ta fa) (g : SemE K tb fb) : SemE K (tAndV ta tb) (fAndV fa fb) := by
  intro G L ρ σ H Q d ρ' R e q
  unfold fAndV at e
  split at e
  · rename_i ρ1 e1
    refine h G L ρ σ H _ _ ρ1 R e1 fun v H1 L1 s1 R1 w1 r1 => ⟨true, r1.bl_of, ?_⟩
    rw [if_pos rfl]
    exact g G L1 ρ1 σ H1 _ _ ρ' R1 e fun v2 H2 L2' s2 R2 w2 r2 => q v2 H2 L2' (s2.trans s1) R2 (w1.trans w2 s1) r2
  · rename_i ρ1 e1
    cases e
    refine h G L ρ σ H _ _ ρ' R e1 fun v H1 L1 s1 R1 w1 r1 => ⟨false, r1.bl_of, ?_⟩
    rw [if_neg (by simp)]
    exact q _ H1 L1 s1 R1 w1 (.bl false)
  · cases e
theorem sem_orV (h : SemE K ta fa) (g : SemE K tb fb) : SemE K (tOrV ta tb) (fOrV fa fb) := by
  intro G L ρ σ H Q d ρ' R e q
  unfold fOrV at e
  split at e
  · rename_i ρ1 e1
    cases e
    refine h G L ρ σ H _ _ ρ' R e1 fun v H1 L1 s1 R1 w1 r1 => ⟨true, r1.bl_of, ?_⟩
    rw [if_pos rfl]
    exact q _ H1 L1 s1 R1 w1 (.bl true)
  · rename_i ρ1 e1
    refine h G L ρ σ H _ _ ρ1 R e1 fun v H1 L1 s1 R1 w1 r1 => ⟨false, r1.bl_of, ?_⟩
    rw [if_neg (by simp)]
    exact g G L1 ρ1 σ H1 _ _ ρ' R1 e fun v2 H2 L2' s2 R2 w2 r2 => q v2 H2 L2' (s2.trans s1) R2 (w1.trans w2 s1) r2
  · cases e
theorem sem_notV (h : SemE K ta fa) : SemE K (tNotV ta) (fNotV fa) := by
  intro G L ρ σ H Q d ρ' R e q
  unfold fNotV at e
  split at e
  · rename_i b ρ1 e1
    cases e
    refine h G L ρ σ H _ _ ρ' R e1 fun v H1 L1 s1 R1 w1 r1 => ⟨b, r1.bl_of, ?_⟩
    exact q _ H1 L1 s1 R1 w1 (.bl _)
  · cases e
/-- a if t else b -/
def fIf (ft : B1) (fa fb : D1) : D1 := fun ρ => match ft ρ with
  | some (true, ρ1) => fa ρ1
  | some (false, ρ1) => fb ρ1
  | none => none
theorem sem_if (h : SemT K t ft) (ha : SemE K ta fa) (hb : SemE K tb fb) : SemE K (tIf t ta tb) (fIf ft fa fb) := by
  intro G L ρ σ H Q d ρ' R e q
  unfold fIf at e
  split at e
  · rename_i ρ1 e1
    refine h G L ρ σ H _ _ ρ1 R e1 fun H1 L1 s1 R1 w1 => ?_
    rw [if_pos rfl]
    exact ha G L1 ρ1 σ H1 _ _ ρ' R1 e fun v2 H2 L2' s2 R2 w2 r2 => q v2 H2 L2' (s2.trans s1) R2 (w1.trans w2 s1) r2
  · rename_i ρ1 e1
    refine h G L ρ σ H _ _ ρ1 R e1 fun H1 L1 s1 R1 w1 => ?_
    rw [if_neg (by simp)]
    exact hb G L1 ρ1 σ H1 _ _ ρ' R1 e fun v2 H2 L2' s2 R2 w2 r2 => q v2 H2 L2' (s2.trans s1) R2 (w1.trans w2 s1) r2
  · cases e
/-- a op b op' c -/
def fChain (g g' : G2) (fa fb fc : D1) : D1 := fun ρ => match fa ρ with
  | none => none
  | some (x, ρ1) => match fb ρ1 with
    | none => none
    | some (y, ρ2) => match g x y with
      | some (.bool true) => match fc ρ2 with
        | none => none
        | some (z, ρ3) => match g' y z with
          | none => none
          | some w => some (w, ρ3)
      | some (.bool false) => some (.bool false, ρ2)
      | _ => none
theorem sem_chain {r r' : R2} {g g' : G2} (ho : OpS K r g) (ho' : OpS K r' g') (ha : SemE K ta fa) (hb : SemE K tb fb) (hc : SemE K tc fc) : SemE K (tChain r r' ta tb tc) (fChain g g' fa fb fc) := by
  intro G L ρ σ H Q d ρ' R e q
  unfold fChain at e
  split at e
  · cases e
  rename_i x ρ1 e1
  split at e
  · cases e
  rename_i y ρ2 e2
  refine ha.two hb R e1 e2 fun vx vy H2 L2' s2 R2 w2 r1 r2 => ?_
  split at e
  · rename_i e3
    split at e
    · cases e
    rename_i z ρ3 e4
    split at e
    · cases e
    rename_i w e5
    cases e
    refine ho G.N L2' H2 vx vy x y _ _ R2.alloc (r1.tp hd_le) (r2.tp hd_le) e3 fun v H3 le r => ⟨true, r.bl_of, ?_⟩
    rw [if_pos rfl]
    refine hc G L2' ρ2 σ H3 _ z ρ' (R2.mono le) e4 fun vz H4 L4 s4 R4 w4 r4 => ?_
    have r2' := (r2.mono (hd_mono le)).mono (w4.hd s4)
    refine ho' G.N L4 H4 vy vz y z d Q R4.alloc (r2'.tp hd_le) (r4.tp hd_le) e5 fun v5 H5 le5 r5 => ?_
    exact q v5 H5 L4 (s4.trans s2) (R4.mono le5) ((w2.trans ((le.ew (L := L2'))) s2).trans (w4.trans (le5.ew (L := L4)) s4) s2) r5
  · rename_i e3
    cases e
    refine ho G.N L2' H2 vx vy x y _ _ R2.alloc (r1.tp hd_le) (r2.tp hd_le) e3 fun v H3 le r => ⟨false, r.bl_of, ?_⟩
    rw [if_neg (by simp)]
    exact q _ H3 L2' s2 (R2.mono le) (w2.trans (le.ew (L := L2')) s2) (.bl false)
  · cases e

/-! ### subscripts -/
def gIx : G2 := fun x y => match y with
  | .int i => match x with
    | .list xs => atI xs i
    | .tuple xs => atI xs i
    | .dict [(.none, .list xs)] => atI xs i
    | _ => none
  | _ => none
theorem RpA.atI {H : Hp} {vs : List V} {ds : List PyData} (h : RpA K H vs ds) {i : Int} {d : PyData} (e : L2.atI ds i = some d) : ∃ v, L2.atI vs i = some v ∧ Rp K H v d := by
  unfold L2.atI at e ⊢
  rw [h.len]
  cases e1 : ixN ds.length i with
  | none => rw [e1] at e; cases e
  | some j => rw [e1] at e; exact h.get (i := j) e
def rIxD (K : PySem.W.Frag) : R2 := fun x y H Q => rIxL K x y H Q ∨ rIxT K x y H Q
theorem s_ix : OpS K (rIxD K) gIx := by
  intro N L H x y dx dy dz Q A hx hy e q
  unfold gIx at e
  split at e
  · rename_i i
    have hy' := hy.int_of
    subst hy'
    split at e
    · cases hx with
      | lst h1 r1 =>
        obtain ⟨v, hv, rv⟩ := r1.atI e
        exact .inl ⟨_, _, i, v, rfl, rfl, .of h1, hv, q v H (.refl H) rv⟩
    · cases hx with
      | tup h1 hh1 r1 =>
        obtain ⟨v, hv, rv⟩ := r1.atI e
        exact .inr ⟨_, _, i, v, rfl, rfl, h1, hv, q v H (.refl H) rv⟩
    · rename_i xs
      generalize hg : PyData.dict [(.none, .list xs)] = dd at hx
      cases hx <;> try (cases hg; done)
      rename_i a ns h1
      cases hg
      obtain ⟨v, hv, rv⟩ := (RpA.of_ints (K := K) (H := hd N L H) ns).atI e
      exact .inl ⟨_, _, i, v, rfl, rfl, h1, hv, q v H (.refl H) rv⟩
    · cases e
  · cases e

/-! ### slices -/
def SemO (K : PySem.W.Frag) (t : TO) (f : REnv → Option (Option Int × REnv)) : Prop := ∀ (G : Ent) (L : List (Option Addr)) (ρ : REnv) (σ : L2.St) (H : Hp) (Q : Option Int → Hp → Prop) (d : Option Int) (ρ' : REnv),
  Rel K G L ρ σ H → f ρ = some (d, ρ') →
  (∀ H' L', LS L' L → Rel K G L' ρ' σ H' → Ew L H H' → Q d H') → t σ H Q
def fNo : REnv → Option (Option Int × REnv) := fun ρ => some (none, ρ)
def fPart (fa : D1) : REnv → Option (Option Int × REnv) := fun ρ => match fa ρ with
  | some (.int i, ρ1) => some (some i, ρ1)
  | _ => none
theorem sem_no : SemO K tNoPart fNo := by
  intro G L ρ σ H Q d ρ' R e q
  cases e
  exact q H L (.refl L) R (.refl L H)
theorem sem_part (h : SemE K ta fa) : SemO K (tPart ta) (fPart fa) := by
  intro G L ρ σ H Q d ρ' R e q
  unfold fPart at e
  split at e
  · rename_i i ρ1 e1
    cases e
    refine h G L ρ σ H _ _ ρ' R e1 fun v H1 L1 s1 R1 w1 r1 => ?_
    exact ⟨i, r1.int_of, q H1 L1 s1 R1 w1⟩
  · cases e
def cutA {α : Type} (xs : List α) (lo hi : Option Int) : List α := (xs.drop (HT.sIx xs.length 0 lo)).take (HT.sIx xs.length xs.length hi - HT.sIx xs.length 0 lo)
theorem RpA.cut {H : Hp} {vs : List V} {ds : List PyData} (h : RpA K H vs ds) (lo hi : Option Int) : RpA K H (cutV vs lo hi) (cutA ds lo hi) := by
  unfold cutV cutA
  rw [h.len]
  exact (h.drop _).take _
def gSl (x : PyData) (lo hi : Option Int) : Option PyData := match x with
  | .list xs => some (.list (cutA xs lo hi))
  | .tuple xs => some (.tuple (cutA xs lo hi))
  | .dict [(.none, .list xs)] => some (.list (cutA xs lo hi))
  | _ => none
def rSlD (K : PySem.W.Frag) : V → Option Int → Option Int → Hp → VK → Prop := fun x lo hi H Q => rSlL K x lo hi H Q ∨ rSlA K x lo hi H Q
theorem cutA_whole {α : Type} {xs : List α} {lo hi : Option Int} (h : HT.sIx xs.length 0 lo = 0 ∧ HT.sIx xs.length xs.length hi = xs.length) : cutA xs lo hi = xs := by
  unfold cutA
  rw [h.1, h.2]
  simp
theorem sl_ok {N : Addr → Prop} {L : List (Option Addr)} {H : Hp} {x : V} {dx dz : PyData} {lo hi : Option Int} {Q : VK} (A : Alloc N L H) (hx : Tp K H (hd N L H) x dx) (e : gSl dx lo hi = some dz)
    (q : ∀ v H', Le H H' → Rp K (hd N L H') v dz → Q v H') : rSlD K x lo hi H Q := by
  unfold gSl at e
  split at e
  · cases e
    cases hx with
    | lst h1 r1 =>
      refine .inl ⟨_, _, rfl, .of h1, fun p hp => ?_⟩
      exact q _ _ (Le.new hp) (.lst (A.new hp) ((r1.cut lo hi).mono (hd_mono (Le.new hp))))
  · cases e
    cases hx with
    | tup h1 hh1 r1 =>
      refine .inr ⟨_, _, rfl, h1, fun w => ?_, fun _ p hp => ?_⟩
      · rw [r1.len] at w
        rw [cutA_whole w] at q
        exact q _ H (.refl H) (.tup hh1 r1)
      · exact q _ _ (Le.new hp) (.tup (.of (A.new hp)) ((r1.cut lo hi).mono (hd_mono (Le.new hp))))
  · rename_i xs
    cases e
    generalize hg : PyData.dict [(.none, .list xs)] = dd at hx
    cases hx <;> try (cases hg; done)
    rename_i a ns h1
    cases hg
    refine .inl ⟨_, _, rfl, h1, fun p hp => ?_⟩
    exact q _ _ (Le.new hp) (.lst (A.new hp) (((RpA.of_ints (K := K) (H := hd N L H) ns).cut lo hi).mono (hd_mono (Le.new hp))))
  · cases e
def fSl (fa : D1) (fl fh : REnv → Option (Option Int × REnv)) : D1 := fun ρ => match fa ρ with
  | none => none
  | some (x, ρ1) => match fl ρ1 with
    | none => none
    | some (lo, ρ2) => match fh ρ2 with
      | none => none
      | some (hi, ρ3) => match gSl x lo hi with
        | none => none
        | some z => some (z, ρ3)
theorem sem_sl {tl th : TO} {fl fh : REnv → Option (Option Int × REnv)} (ha : SemE K ta fa) (hl : SemO K tl fl) (hh : SemO K th fh) : SemE K (tSl (rSlD K) ta tl th) (fSl fa fl fh) := by
  intro G L ρ σ H Q d ρ' R e q
  unfold fSl at e
  split at e
  · cases e
  rename_i x ρ1 e1
  split at e
  · cases e
  rename_i lo ρ2 e2
  split at e
  · cases e
  rename_i hi ρ3 e3
  split at e
  · cases e
  rename_i z e4
  cases e
  refine ha G L ρ σ H _ _ ρ1 R e1 fun v H1 L1 s1 R1 w1 r1 => ?_
  refine hl G L1 ρ1 σ H1 _ _ ρ2 R1 e2 fun H2 L2' s2 R2 w2 => ?_
  refine hh G L2' ρ2 σ H2 _ _ ρ' R2 e3 fun H3 L3 s3 R3 w3 => ?_
  have r3 := (r1.mono (w2.hd s2)).mono (w3.hd s3)
  refine sl_ok R3.alloc (r3.tp hd_le) e4 fun v4 H4 le4 r4 => ?_
  exact q v4 H4 L3 ((s3.trans s2).trans s1) (R3.mono le4) (w1.trans (w2.trans (w3.trans (le4.ew (L := L3)) s3) s2) s1) r4
end
section
variable {X : Cx}
theorem ix_d : IxR X (rIxD X.K) := ix_list.or ix_tup
theorem sl_d : SlR X (rSlD X.K) := sl_list.or sl_tupA
end
end Dv

/-! Dv: calls of what is built in. -/
namespace Dv
open PySem PySem.Spec PyProof.Rows L2

inductive TpA (K : PySem.W.Frag) (H Hh : Hp) : List V → List PyData → Prop
  | nil : TpA K H Hh [] []
  | cons {v : V} {vs : List V} {d : PyData} {ds : List PyData} (h : Tp K H Hh v d) (t : TpA K H Hh vs ds) : TpA K H Hh (v :: vs) (d :: ds)
theorem RpA.tp {K : PySem.W.Frag} {H Hh : Hp} (e : Le Hh H) : ∀ {vs : List V} {ds : List PyData}, RpA K Hh vs ds → TpA K H Hh vs ds
  | _, _, .nil => .nil
  | _, _, .cons h t => .cons (h.tp e) (t.tp e)
abbrev GN := List PyData → Option PyData
def CallS (K : PySem.W.Frag) (r : List V → Hp → VK → Prop) (g : GN) : Prop := ∀ (N : Addr → Prop) (L : List (Option Addr)) (H : Hp) (vs : List V) (ds : List PyData) (dz : PyData) (Q : VK), Alloc N L H →
  TpA K H (hd N L H) vs ds → g ds = some dz → (∀ v H', Le H H' → Rp K (hd N L H') v dz → Q v H') → r vs H Q
def fCB (g : GN) (fa : A1) : D1 := fun ρ => match fa ρ with
  | none => none
  | some (xs, ρ1) => match g xs with
    | none => none
    | some z => some (z, ρ1)
section
variable {K : PySem.W.Frag}
theorem sem_cb {r : List V → Hp → VK → Prop} {g : GN} {t : TA} {f : A1} (ho : CallS K r g) (h : SemA K t f) : SemE K (tCB r t) (fCB g f) := by
  intro G L ρ σ H Q d ρ' R e q
  unfold fCB at e
  split at e
  · cases e
  rename_i xs ρ1 e1
  split at e
  · cases e
  rename_i z e2
  cases e
  refine h G L ρ σ H _ _ ρ' R e1 fun vs H1 L1 s1 R1 w1 r1 => ?_
  refine ho G.N L1 H1 vs xs d Q R1.alloc (r1.tp hd_le) e2 fun v H2 le r2 => ?_
  exact q v H2 L1 s1 (R1.mono le) (w1.trans (le.ew (L := L1)) s1) r2
/-- of one's own list alone -/
theorem sem_cbO {r : List V → Hp → VK → Prop} {g : GN} (ho : CallS K r g) (i : Nat) : SemE K (tCB r (tCons (tVar i) tNil)) (fOU (fun x => g [x]) i) := by
  intro G L ρ σ H Q d ρ' R e q
  unfold fOU at e
  split at e
  · cases e
  rename_i ds e2
  split at e
  · cases e
  rename_i z e4
  cases e
  obtain ⟨v', h1, h2⟩ := R.tpOwn e2
  refine ⟨v', h1, ho G.N L H [v'] _ d Q R.alloc (.cons h2 .nil) e4 fun w H3 le r => ?_⟩
  exact q w H3 L (.refl L) (R.mono le) (le.ew (L := L)) r

/-! ### len, all, any, tuple, list, min, max, abs, int, sum, divmod -/
def gLen : GN := fun xs => match xs with
  | [.list ds] => some (.int ds.length)
  | [.tuple ds] => some (.int ds.length)
  | [.dict [(.none, .list ds)]] => some (.int ds.length)
  | _ => none
def rLenD (K : PySem.W.Frag) : List V → Hp → VK → Prop := fun xs H Q => ∃ p ys, xs = [.ref p] ∧ (SqL K H p ys ∨ SqT K H p ys) ∧ Q (.int ys.length) H
theorem scr_of {H Hh : Hp} {v : V} {xs : List PyData} (h : Tp K H Hh v (.dict [(.none, .list xs)])) : ∃ (a : Addr) (ns : List Int), v = .ref a ∧ xs = ns.map .int ∧ SqL K H a (ns.map V.int) := by
  generalize hg : PyData.dict [(.none, .list xs)] = dd at h
  cases h <;> try (cases hg; done)
  rename_i a ns h1
  cases hg
  exact ⟨a, ns, rfl, rfl, h1⟩
theorem s_len : CallS K (rLenD K) gLen := by
  intro N L H vs ds dz Q A h e q
  unfold gLen at e
  split at e
  · cases e
    cases h with
    | cons h t =>
      cases t
      cases h with
      | lst h1 r1 => exact ⟨_, _, rfl, .inl (.of h1), by rw [r1.len]; exact q _ H (.refl H) (.int _)⟩
  · cases e
    cases h with
    | cons h t =>
      cases t
      cases h with
      | tup h1 hh1 r1 => exact ⟨_, _, rfl, .inr h1, by rw [r1.len]; exact q _ H (.refl H) (.int _)⟩
  · cases e
    cases h with
    | cons h t =>
      cases t
      obtain ⟨a, ns, rfl, rfl, h1⟩ := scr_of h
      refine ⟨_, _, rfl, .inl h1, ?_⟩
      have := q (.int ((ns.map V.int).length : Nat)) H (.refl H)
      simp only [List.length_map] at this ⊢
      exact this (.int _)
  · cases e
/-- the bools of a row of data -/
def blsOf : List PyData → Option (List Bool)
  | [] => some []
  | .bool i :: r => match blsOf r with
    | some ns => some (i :: ns)
    | none => none
  | _ => none
theorem blsOf_some : ∀ {ds : List PyData} {ns : List Bool}, blsOf ds = some ns → ds = ns.map .bool
  | [], ns, h => by cases h; rfl
  | .bool i :: r, ns, h => by
    unfold blsOf at h
    split at h
    · rename_i ms e
      cases h
      rw [blsOf_some e]; rfl
    · cases h
  | .none :: _, _, h => by simp [blsOf] at h
  | .int _ :: _, _, h => by simp [blsOf] at h
  | .str _ :: _, _, h => by simp [blsOf] at h
  | .list _ :: _, _, h => by simp [blsOf] at h
  | .tuple _ :: _, _, h => by simp [blsOf] at h
  | .dict _ :: _, _, h => by simp [blsOf] at h
theorem blsOf_map : ∀ ns : List Bool, blsOf (ns.map .bool) = some ns
  | [] => rfl
  | n :: ns => by show (match blsOf (ns.map .bool) with | some ms => some (n :: ms) | none => none) = _; rw [blsOf_map ns]
def gAll : GN := fun xs => match xs with
  | [.list ds] => match blsOf ds with
    | some bs => some (.bool (bs.all id))
    | none => none
  | _ => none
def gAny : GN := fun xs => match xs with
  | [.list ds] => match blsOf ds with
    | some bs => some (.bool (bs.any id))
    | none => none
  | _ => none
theorem s_all : CallS K (rAll K) gAll := by
  intro N L H vs ds dz Q A h e q
  unfold gAll at e
  split at e
  · split at e
    · rename_i bs e1
      cases e
      cases h with
      | cons h t =>
        cases t
        cases h with
        | lst h1 r1 =>
          have z := blsOf_some e1
          subst z
          have v := r1.bls
          subst v
          exact ⟨_, bs, rfl, .of h1, q _ H (.refl H) (.bl _)⟩
    · cases e
  · cases e
theorem s_any : CallS K (rAny K) gAny := by
  intro N L H vs ds dz Q A h e q
  unfold gAny at e
  split at e
  · split at e
    · rename_i bs e1
      cases e
      cases h with
      | cons h t =>
        cases t
        cases h with
        | lst h1 r1 =>
          have z := blsOf_some e1
          subst z
          have v := r1.bls
          subst v
          exact ⟨_, bs, rfl, .of h1, q _ H (.refl H) (.bl _)⟩
    · cases e
  · cases e
def gTuple : GN := fun xs => match xs with
  | [.list ds] => some (.tuple ds)
  | [.tuple ds] => some (.tuple ds)
  | _ => none
def rTupD (K : PySem.W.Frag) : List V → Hp → VK → Prop := fun xs H Q => ∃ p ys, xs = [.ref p] ∧ ((SqL K H p ys ∧ ∀ l, H l = none → Q (.ref l) (upd H l (.tup ys))) ∨ (SqT K H p ys ∧ Q (.ref p) H))
theorem s_tuple : CallS K (rTupD K) gTuple := by
  intro N L H vs ds dz Q A h e q
  unfold gTuple at e
  split at e
  · cases e
    cases h with
    | cons h t =>
      cases t
      cases h with
      | lst h1 r1 => exact ⟨_, _, rfl, .inl ⟨.of h1, fun l hl => q _ _ (Le.new hl) (.tup (.of (A.new hl)) (r1.mono (hd_mono (Le.new hl))))⟩⟩
  · cases e
    cases h with
    | cons h t =>
      cases t
      cases h with
      | tup h1 hh1 r1 => exact ⟨_, _, rfl, .inr ⟨h1, q _ H (.refl H) (.tup hh1 r1)⟩⟩
  · cases e
def CallF (K : PySem.W.Frag) (r : List V → Hp → VK → Prop) (g : List PyData → Option (List PyData)) : Prop := ∀ (N : Addr → Prop) (L : List (Option Addr)) (H : Hp) (vs : List V) (ds : List PyData) (dz : List PyData) (Q : VK), Alloc N L H →
  TpA K H (hd N L H) vs ds → g ds = some dz → (∀ p ws, H p = none → RpA K (hd N L H) ws dz → Q (.ref p) (upd H p (.lst ws))) → r vs H Q
def fCBF (g : List PyData → Option (List PyData)) (fa : A1) : A1 := fun ρ => match fa ρ with
  | none => none
  | some (xs, ρ1) => match g xs with
    | none => none
    | some z => some (z, ρ1)
theorem semF_cb {r : List V → Hp → VK → Prop} {g : List PyData → Option (List PyData)} {t : TA} {f : A1} (ho : CallF K r g) (h : SemA K t f) : SemF K (tCB r t) (fCBF g f) := by
  intro G L ρ σ H Q d ρ' R e q
  unfold fCBF at e
  split at e
  · cases e
  rename_i xs ρ1 e1
  split at e
  · cases e
  rename_i z e2
  cases e
  refine h G L ρ σ H _ _ ρ' R e1 fun vs H1 L1 s1 R1 w1 r1 => ?_
  refine ho G.N L1 H1 vs xs d Q R1.alloc (r1.tp hd_le) e2 fun p ws hp r2 => ?_
  exact q p ws _ L1 s1 (w1.free hp) upd_same (R1.hide hp) (w1.trans ((Le.new hp).ew (L := L1)) s1) (r2.mono (hd_hide hp))
def gList : List PyData → Option (List PyData) := fun xs => match xs with
  | [.list ds] => some ds
  | [.tuple ds] => some ds
  | _ => none
def rListD (K : PySem.W.Frag) : List V → Hp → VK → Prop := fun xs H Q => ∃ p ys, xs = [.ref p] ∧ (SqL K H p ys ∨ SqT K H p ys) ∧ ∀ l, H l = none → Q (.ref l) (upd H l (.lst ys))
theorem sF_list : CallF K (rListD K) gList := by
  intro N L H vs ds dz Q A h e q
  unfold gList at e
  split at e
  · cases e
    cases h with
    | cons h t =>
      cases t
      cases h with
      | lst h1 r1 => exact ⟨_, _, rfl, .inl (.of h1), fun l hl => q l _ hl r1⟩
  · cases e
    cases h with
    | cons h t =>
      cases t
      cases h with
      | tup h1 hh1 r1 => exact ⟨_, _, rfl, .inr h1, fun l hl => q l _ hl r1⟩
  · cases e
def gMin2 : GN := fun xs => match xs with
  | [.int i, .int j] => some (.int (if j < i then j else i))
  | _ => none
def gMax2 : GN := fun xs => match xs with
  | [.int i, .int j] => some (.int (if j > i then j else i))
  | _ => none
theorem s_min2 : CallS K (fun xs H Q => ∃ i j, xs = [.int i, .int j] ∧ Q (.int (if j < i then j else i)) H) gMin2 := by
  intro N L H vs ds dz Q A h e q
  unfold gMin2 at e
  split at e
  · cases e
    cases h with
    | cons h t =>
      cases t with
      | cons h2 t2 =>
        cases t2
        rw [h.int_of, h2.int_of]
        exact ⟨_, _, rfl, q _ H (.refl H) (.int _)⟩
  · cases e
theorem s_max2 : CallS K (fun xs H Q => ∃ i j, xs = [.int i, .int j] ∧ Q (.int (if j > i then j else i)) H) gMax2 := by
  intro N L H vs ds dz Q A h e q
  unfold gMax2 at e
  split at e
  · cases e
    cases h with
    | cons h t =>
      cases t with
      | cons h2 t2 =>
        cases t2
        rw [h.int_of, h2.int_of]
        exact ⟨_, _, rfl, q _ H (.refl H) (.int _)⟩
  · cases e
def gAbs : GN := fun xs => match xs with
  | [.int i] => some (.int (if i < 0 then -i else i))
  | _ => none
theorem s_abs : CallS K (fun xs H Q => ∃ i, xs = [.int i] ∧ Q (.int (if i < 0 then -i else i)) H) gAbs := by
  intro N L H vs ds dz Q A h e q
  unfold gAbs at e
  split at e
  · cases e
    cases h with
    | cons h t =>
      cases t
      rw [h.int_of]
      exact ⟨_, rfl, q _ H (.refl H) (.int _)⟩
  · cases e
def gInt : GN := fun xs => match xs with
  | [.int i] => some (.int i)
  | [.bool k] => some (.int (if k then 1 else 0))
  | _ => none
theorem s_int : CallS K (fun xs H Q => (∃ i, xs = [.int i] ∧ Q (.int i) H) ∨ ∃ k, xs = [.bl k] ∧ Q (.int (if k then 1 else 0)) H) gInt := by
  intro N L H vs ds dz Q A h e q
  unfold gInt at e
  split at e
  · cases e
    cases h with
    | cons h t =>
      cases t
      rw [h.int_of]
      exact .inl ⟨_, rfl, q _ H (.refl H) (.int _)⟩
  · cases e
    cases h with
    | cons h t =>
      cases t
      rw [h.bl_of]
      exact .inr ⟨_, rfl, q _ H (.refl H) (.int _)⟩
  · cases e
def gDivmod : GN := fun xs => match xs with
  | [.int i, .int j] => if 0 < j ∧ j < 1073741824 then some (.tuple [.int (i / j), .int (i % j)]) else none
  | _ => none
theorem s_divmod : CallS K (fun xs H Q => ∃ i j, xs = [.int i, .int j] ∧ CDiv i j ∧ ∀ p, H p = none → Q (.ref p) (upd H p (.tup [.int (i / j), .int (i % j)]))) gDivmod := by
  intro N L H vs ds dz Q A h e q
  unfold gDivmod at e
  split at e
  · split at e
    · rename_i hc
      cases e
      cases h with
      | cons h t =>
        cases t with
        | cons h2 t2 =>
          cases t2
          rw [h.int_of, h2.int_of]
          exact ⟨_, _, rfl, hc, fun p hp => q _ _ (Le.new hp) (.tup (.of (A.new hp)) (.cons (.int _) (.cons (.int _) .nil)))⟩
    · cases e
  · cases e
def gSum : GN := fun xs => match xs with
  | [.list ds] => match intsOf ds with
    | some ns => some (.int ns.sum)
    | none => none
  | _ => none
theorem s_sum : CallS K (rSum K) gSum := by
  intro N L H vs ds dz Q A h e q
  unfold gSum at e
  split at e
  · split at e
    · rename_i bs e1
      cases e
      cases h with
      | cons h t =>
        cases t
        cases h with
        | lst h1 r1 =>
          have z := intsOf_some e1
          subst z
          have v := r1.ints
          subst v
          exact ⟨_, bs, rfl, .of h1, q _ H (.refl H) (.int _)⟩
    · cases e
  · cases e

/-! ### isinstance -/
def tyName : PyData → Option String
  | .none => some "NoneType"
  | .bool _ => some "bool"
  | .int _ => some "int"
  | .str _ => some "str"
  | .list _ => some "list"
  | .tuple _ => some "tuple"
  | .dict [] => some "dict"
  | .dict _ => none
theorem tp_ty {H Hh : Hp} {v : V} {d : PyData} {n : String} (h : Tp K H Hh v d) (e : tyName d = some n) : TyX K H v (.type n) := by
  cases h with
  | non => cases e; exact .base .non
  | bl b => cases e; exact .base (.bl b)
  | int i => cases e; exact .base (.int i)
  | str x => cases e; exact .base (.str x)
  | lst h r => cases e; exact .base (.lst h)
  | tup h hh r =>
    cases e
    rcases h with (h | ⟨o, h⟩) | ⟨o, its, n, h, hc, _⟩
    · exact .base (.tup h)
    · exact .fTuple h
    · exact .kTuple h hc
  | dic h => cases e; exact .base (.dK h)
  | scr h => cases e
/-- isinstance(x, T), T one of int, bool, tuple, list, str -/
def isTy (n T : String) : Bool := match n, T with
  | "bool", "int" => true
  | n, T => n == T
def fIsi (T : String) (fa : D1) : D1 := fun ρ => match fa ρ with
  | none => none
  | some (x, ρ1) => match tyName x with
    | none => none
    | some n => match kitB n T with
      | some b => some (.bool b, ρ1)
      | none => none
theorem sem_isi {ta : TE} {fa : D1} (T : String) (ha : SemE K ta fa) : SemE K (tCB (rIsi K) (tCons ta (tCons (tC (.ty T)) tNil))) (fIsi T fa) := by
  intro G L ρ σ H Q d ρ' R e q
  unfold fIsi at e
  split at e
  · cases e
  rename_i x ρ1 e1
  split at e
  · cases e
  rename_i n e2
  split at e
  · rename_i b e3
    cases e
    refine ha G L ρ σ H _ _ ρ' R e1 fun v H1 L1 s1 R1 w1 r1 => ?_
    exact ⟨v, .ty T, .type n, .type T, b, rfl, .ty T, tp_ty (r1.tp hd_le) e2, kit_ty e3, q _ H1 L1 s1 R1 w1 (.bl b)⟩
  · cases e

/-! ### repr of lists and tuples -/
def gRepr : GN := fun xs => match xs with
  | [d] => match d with
    | .list _ => if d.showable && d.canLay0 && decide (d.depth ≤ 60) && decide (d.shown.length ≤ sizeLine) then some (.str d.shown) else none
    | .tuple _ => if d.showable && d.canLay0 && decide (d.depth ≤ 60) && decide (d.shown.length ≤ sizeLine) then some (.str d.shown) else none
    | _ => none
  | _ => none
def rRepr (K : PySem.W.Frag) : List V → Hp → VK → Prop := fun xs H Q => ∃ a d, xs = [.ref a] ∧ Dp K H (.ref a) d ∧ d.showable = true ∧ d.canLay0 = true ∧ d.depth ≤ 60 ∧ d.shown.length ≤ sizeLine ∧ Q (.str d.shown) H
mutual
theorem noDict : ∀ {d : PyData}, d.canLay0 = true → d.hasDict = false
  | .none, _ => rfl
  | .bool _, _ => rfl
  | .int _, _ => rfl
  | .str _, _ => rfl
  | .list xs, h => by simp only [PyData.hasDict]; exact noDictA (by simpa [PyData.canLay0] using h)
  | .tuple xs, h => by simp only [PyData.hasDict]; exact noDictA (by simpa [PyData.canLay0] using h)
  | .dict _, h => by simp [PyData.canLay0] at h
theorem noDictA : ∀ {d : List PyData}, PyData.canLayAll0 d = true → PyData.hasDictAll d = false
  | [], _ => by simp only [PyData.hasDictAll]
  | x :: xs, h => by
    simp [PyData.canLayAll0] at h
    simp only [PyData.hasDictAll]
    rw [noDict h.1, noDictA h.2]; rfl
end
theorem s_repr : CallS K (rRepr K) gRepr := by
  intro N L H vs ds dz Q A h e q
  unfold gRepr at e
  split at e
  · rename_i d
    cases h with
    | cons h t =>
      cases t
      split at e
      · split at e
        · rename_i hc
          cases e
          simp only [Bool.and_eq_true, decide_eq_true_eq] at hc
          obtain ⟨⟨⟨h1, h2⟩, h3⟩, h4⟩ := hc
          have hd' := h.dp hd_le h2
          cases h with
          | lst h5 h6 => exact ⟨_, _, rfl, hd', h1, h2, h3, h4, q _ H (.refl H) (.str _)⟩
        · cases e
      · split at e
        · rename_i hc
          cases e
          simp only [Bool.and_eq_true, decide_eq_true_eq] at hc
          obtain ⟨⟨⟨h1, h2⟩, h3⟩, h4⟩ := hc
          have hd' := h.dp hd_le h2
          cases h with
          | tup h5 h6 h7 => exact ⟨_, _, rfl, hd', h1, h2, h3, h4, q _ H (.refl H) (.str _)⟩
        · cases e
      · cases e
  · cases e
end
section
variable {X : Cx}
theorem c_repr (c : Cl0 X.A) (hu : X.A.units + 64 < cLine) : CallR X (.builtin "repr") (rRepr X.K) := by
  intro pins s σ H xs us Q I r h
  obtain ⟨a, d, rfl, hd', h1, h2, h3, h4, q⟩ := h
  obtain ⟨u, rfl, ru⟩ := vals1 r
  obtain ⟨as, rd⟩ := Dp.reads I d _ u hd' ru
  cases ru
  refine repr_of_reads' rd h1 (fun z => ?_) c (by omega) (fun _ _ e => e) (fun h' u tk hk => ?_) h4
  · rw [noDict h2] at z; cases z
  · exact ⟨.str d.shown, H, I.kept (t' := tk) hk, ⟨u, rfl⟩, q⟩
theorem c_len : CallR X (.builtin "len") (rLenD X.K) := call_len_seq
theorem c_tuple : CallR X (.type "tuple") (rTupD X.K) := call_tuple_of
theorem c_list : CallR X (.type "list") (rListD X.K) := call_list_of
end
end Dv

/-! Dv: statements, targets, loops. -/
namespace Dv
open PySem PySem.Spec PyProof.Rows L2

/-- what a def hands back: data, or a list that none else holds -/
inductive Ret where
  | pl (d : PyData)
  | fr (ds : List PyData)
inductive Fl where
  | nx
  | rt (r : Ret)
  | bk
  | ct
abbrev S1 := REnv → Option (Fl × REnv)
/-- from one state to a later one -/
structure Gr (L : List (Option Addr)) (H : Hp) (L' : List (Option Addr)) (H' : Hp) : Prop where
  ew : Ew L H H'
  nw : ∀ a, some a ∈ L' → some a ∈ L ∨ H a = none
theorem Gr.refl (L : List (Option Addr)) (H : Hp) : Gr L H L H := ⟨.refl L H, fun _ h => .inl h⟩
theorem Gr.trans {L L1 L2' : List (Option Addr)} {H H1 H2 : Hp} (a : Gr L H L1 H1) (b : Gr L1 H1 L2' H2) : Gr L H L2' H2 where
  ew := ⟨fun c o n e => b.ew.1 c o (fun m => (a.nw c m).elim n fun z => by rw [e] at z; cases z) (a.ew.1 c o n e), fun c o e => by obtain ⟨u, e1⟩ := a.ew.2 c o e; exact b.ew.2 c u e1⟩
  nw := fun c m => (b.nw c m).elim (a.nw c) fun z => .inr (a.ew.free z)
theorem Gr.of {L L' : List (Option Addr)} {H H' : Hp} (w : Ew L H H') (s : LS L' L) : Gr L H L' H' := ⟨w, fun _ m => .inl (s.mem m)⟩
theorem Gr.hd {N : Addr → Prop} {L L' : List (Option Addr)} {H H' : Hp} (g : Gr L H L' H') : Le (Dv.hd N L H) (Dv.hd N L' H') := fun b o h => by
  obtain ⟨h1, h2, h3⟩ := hd_some.mp h
  have hn : some b ∉ L' := fun m => (g.nw b m).elim h2 fun z => by rw [h3] at z; cases z
  exact hd_some.mpr ⟨h1, hn, g.ew.1 b o h2 h3⟩
def EndOk (K : PySem.W.Frag) (G : Ent) (L : List (Option Addr)) (H : Hp) (D : Ends) (ρ' : REnv) : Fl → Prop
  | .nx => ∀ L' σ' H', Rel K G L' ρ' σ' H' → Gr L H L' H' → D.nx σ' H'
  | .bk => ∀ L' σ' H', Rel K G L' ρ' σ' H' → Gr L H L' H' → D.bk σ' H'
  | .ct => ∀ L' σ' H', Rel K G L' ρ' σ' H' → Gr L H L' H' → D.ct σ' H'
  | .rt (.pl d) => ∀ L' σ' H' v, Rel K G L' ρ' σ' H' → Gr L H L' H' → Rp K (hd G.N L' H') v d → D.rt v H'
  | .rt (.fr ds) => ∀ L' σ' H' p vs, Rel K (G.hide p) L' ρ' σ' H' → Gr L H L' H' → H p = none → H' p = some (.lst vs) → RpA K (hd (G.hide p).N L' H') vs ds → D.rt (.ref p) H'
theorem EndOk.le {K : PySem.W.Frag} {G : Ent} {L L1 : List (Option Addr)} {H H1 : Hp} {D : Ends} {ρ' : REnv} {fl : Fl} (h : EndOk K G L H D ρ' fl) (g : Gr L H L1 H1) : EndOk K G L1 H1 D ρ' fl := by
  cases fl with
  | nx => exact fun L' σ' H' R g' => h L' σ' H' R (g.trans g')
  | bk => exact fun L' σ' H' R g' => h L' σ' H' R (g.trans g')
  | ct => exact fun L' σ' H' R g' => h L' σ' H' R (g.trans g')
  | rt r =>
    cases r with
    | pl d => exact fun L' σ' H' v R g' => h L' σ' H' v R (g.trans g')
    | fr ds => exact fun L' σ' H' p vs R g' hp => h L' σ' H' p vs R (g.trans g') (g.ew.free hp)
def SemS (K : PySem.W.Frag) (t : TS) (f : S1) : Prop := ∀ (G : Ent) (L : List (Option Addr)) (ρ : REnv) (σ : L2.St) (H : Hp) (D : Ends) (fl : Fl) (ρ' : REnv),
  Rel K G L ρ σ H → f ρ = some (fl, ρ') → EndOk K G L H D ρ' fl → t D σ H
structure SS (K : PySem.W.Frag) (X : Cx) (st : Stmt) (t : TS) (f : S1) : Prop where
  pe : PS X st t
  sem : SemS K t f
structure SSs (K : PySem.W.Frag) (X : Cx) (st : List Stmt) (t : TS) (f : S1) : Prop where
  pe : PSs X st t
  sem : SemS K t f
section
variable {K : PySem.W.Frag} {te ta tb : TE} {fe fa fb : D1} {tt : TT} {ft : B1} {t u : TS} {f g : S1}
def sNext : S1 := fun ρ => some (.nx, ρ)
theorem sem_next : SemS K tNext sNext := by
  intro G L ρ σ H D fl ρ' R e q
  cases e
  exact q L σ H R (.refl L H)
def sSeq (f g : S1) : S1 := fun ρ => match f ρ with
  | some (.nx, ρ1) => g ρ1
  | o => o
theorem sem_seq (h : SemS K t f) (h' : SemS K u g) : SemS K (tSeq t u) (sSeq f g) := by
  intro G L ρ σ H D fl ρ' R e q
  unfold sSeq at e
  split at e
  · rename_i ρ1 e1
    exact h G L ρ σ H _ .nx ρ1 R e1 fun L1 σ1 H1 R1 g1 => h' G L1 ρ1 σ1 H1 D fl ρ' R1 e (q.le g1)
  · rename_i hne
    refine h G L ρ σ H _ fl ρ' R e ?_
    cases fl with
    | nx => exact absurd e (hne ρ')
    | bk => exact q
    | ct => exact q
    | rt r => cases r <;> exact q
def sBreak : S1 := fun ρ => some (.bk, ρ)
def sCont : S1 := fun ρ => some (.ct, ρ)
theorem sem_break : SemS K tBreak sBreak := by
  intro G L ρ σ H D fl ρ' R e q
  cases e
  exact q L σ H R (.refl L H)
theorem sem_cont : SemS K tCont sCont := by
  intro G L ρ σ H D fl ρ' R e q
  cases e
  exact q L σ H R (.refl L H)
def sNever : S1 := fun _ => none
theorem sem_never : SemS K tNever sNever := by
  intro G L ρ σ H D fl ρ' R e q
  cases e
def sDrop (fe : D1) : S1 := fun ρ => match fe ρ with
  | none => none
  | some (_, ρ1) => some (.nx, ρ1)
theorem sem_drop (h : SemE K te fe) : SemS K (tDrop te) (sDrop fe) := by
  intro G L ρ σ H D fl ρ' R e q
  unfold sDrop at e
  split at e
  · cases e
  rename_i x ρ1 e1
  cases e
  exact h G L ρ σ H _ _ ρ' R e1 fun v H1 L1 s1 R1 w1 r1 => q L1 σ H1 R1 (.of w1 s1)
def sRet (fe : D1) : S1 := fun ρ => match fe ρ with
  | none => none
  | some (d, ρ1) => some (.rt (.pl d), ρ1)
theorem sem_ret (h : SemE K te fe) : SemS K (tRet te) (sRet fe) := by
  intro G L ρ σ H D fl ρ' R e q
  unfold sRet at e
  split at e
  · cases e
  rename_i x ρ1 e1
  cases e
  exact h G L ρ σ H _ _ ρ' R e1 fun v H1 L1 s1 R1 w1 r1 => q L1 σ H1 v R1 (.of w1 s1) r1
def sRetF (fe : A1) : S1 := fun ρ => match fe ρ with
  | none => none
  | some (d, ρ1) => some (.rt (.fr d), ρ1)
theorem sem_retF {fe : A1} (h : SemF K te fe) : SemS K (tRet te) (sRetF fe) := by
  intro G L ρ σ H D fl ρ' R e q
  unfold sRetF at e
  split at e
  · cases e
  rename_i x ρ1 e1
  cases e
  exact h G L ρ σ H _ _ ρ' R e1 fun p vs H1 L1 s1 hp h1 R1 w1 r1 => q L1 σ H1 p vs R1 (.of w1 s1) hp h1 r1
def sRetN : S1 := fun ρ => some (.rt (.pl .none), ρ)
theorem sem_retN : SemS K tRetN sRetN := by
  intro G L ρ σ H D fl ρ' R e q
  cases e
  exact q L σ H .non R (.refl L H) .non
def sIf (ft : B1) (f g : S1) : S1 := fun ρ => match ft ρ with
  | some (true, ρ1) => f ρ1
  | some (false, ρ1) => g ρ1
  | none => none
theorem sem_ifS (h : SemT K tt ft) (h1 : SemS K t f) (h2 : SemS K u g) : SemS K (tIfS tt t u) (sIf ft f g) := by
  intro G L ρ σ H D fl ρ' R e q
  unfold sIf at e
  split at e
  · rename_i ρ1 e1
    refine h G L ρ σ H _ _ ρ1 R e1 fun H1 L1 s1 R1 w1 => ?_
    rw [if_pos rfl]
    exact h1 G L1 ρ1 σ H1 D fl ρ' R1 e (q.le (.of w1 s1))
  · rename_i ρ1 e1
    refine h G L ρ σ H _ _ ρ1 R e1 fun H1 L1 s1 R1 w1 => ?_
    rw [if_neg (by simp)]
    exact h2 G L1 ρ1 σ H1 D fl ρ' R1 e (q.le (.of w1 s1))
  · cases e

/-! ### targets -/
abbrev T1 := PyData → REnv → Option REnv
def SemG (K : PySem.W.Frag) (g : TG) (h : T1) : Prop := ∀ (G : Ent) (L : List (Option Addr)) (ρ : REnv) (σ : L2.St) (H : Hp) (Q : L2.St → Hp → Prop) (v : V) (d : PyData) (ρ' : REnv),
  Rel K G L ρ σ H → Rp K (hd G.N L H) v d → h d ρ = some ρ' → (∀ L' σ' H', Rel K G L' ρ' σ' H' → LS L' L → Ew L H H' → Q σ' H') → g v σ H Q
def hName (i : Nat) : T1 := fun d ρ => some (ρ.set i (some (.pl d)))
theorem sem_name (i : Nat) : SemG K (gName i) (hName i) := by
  intro G L ρ σ H Q v d ρ' R r e q
  cases e
  exact q _ _ H (R.setPl i (r.mono ((Ew.refl L H).hd (LS.set L i)))) (LS.set L i) (.refl L H)
abbrev TN1 := List PyData → REnv → Option REnv
def SemGs (K : PySem.W.Frag) (g : TGs) (h : TN1) : Prop := ∀ (G : Ent) (L : List (Option Addr)) (ρ : REnv) (σ : L2.St) (H : Hp) (Q : L2.St → Hp → Prop) (vs : List V) (ds : List PyData) (ρ' : REnv),
  Rel K G L ρ σ H → RpA K (hd G.N L H) vs ds → h ds ρ = some ρ' → (∀ L' σ' H', Rel K G L' ρ' σ' H' → LS L' L → Ew L H H' → Q σ' H') → g vs σ H Q
def hNil : TN1 := fun ds ρ => match ds with
  | [] => some ρ
  | _ => none
def hCons (h : T1) (k : TN1) : TN1 := fun ds ρ => match ds with
  | d :: r => match h d ρ with
    | none => none
    | some ρ1 => k r ρ1
  | [] => none
theorem sem_gnil : SemGs K gNil hNil := by
  intro G L ρ σ H Q vs ds ρ' R r e q
  unfold hNil at e
  split at e
  · cases e
    cases r
    exact ⟨rfl, q L σ H R (.refl L) (.refl L H)⟩
  · cases e
theorem sem_gcons {g : TG} {gs : TGs} {h : T1} {k : TN1} (a : SemG K g h) (b : SemGs K gs k) : SemGs K (gCons g gs) (hCons h k) := by
  intro G L ρ σ H Q vs ds ρ' R r e q
  unfold hCons at e
  split at e
  · rename_i d rest
    split at e
    · cases e
    rename_i ρ1 e1
    cases r with
    | cons r1 r2 =>
      refine ⟨_, _, rfl, a G L ρ σ H _ _ d ρ1 R r1 e1 fun L1 σ1 H1 R1 s1 w1 => ?_⟩
      exact b G L1 ρ1 σ1 H1 Q _ rest ρ' R1 (r2.mono (w1.hd s1)) e fun L2' σ2 H2 R2 s2 w2 => q L2' σ2 H2 R2 (s2.trans s1) (w1.trans w2 s1)
  · cases e
def hTup (n : Nat) (k : TN1) : T1 := fun d ρ => match d with
  | .tuple ds => if ds.length = n then k ds ρ else none
  | _ => none
theorem sem_gtup {n : Nat} {gs : TGs} {k : TN1} (b : SemGs K gs k) : SemG K (gTup K n gs) (hTup n k) := by
  intro G L ρ σ H Q v d ρ' R r e q
  unfold hTup at e
  split at e
  · split at e
    · rename_i ds hn
      cases r with
      | tup h1 r1 =>
        exact ⟨_, _, rfl, hd_le.t h1, by rw [r1.len]; exact hn, b G L ρ σ H Q _ ds ρ' R r1 e q⟩
    · cases e
  · cases e
/-- one's own list is stored to -/
def hSub (i : Nat) (fi : D1) : T1 := fun d ρ => match ownAt ρ i with
  | none => none
  | some _ => match fi ρ with
    | some (.int k, ρ1) => match ρ1[i]? with
      | some (some x) => match x.lst? with
        | some ds => match ixN ds.length k with
          | some j => some (ρ1.set i (some (x.put (ds.set j d))))
          | none => none
        | none => none
      | _ => none
    | _ => none
theorem sem_gsub (i : Nat) {ti : TE} {fi : D1} (hi : SemE K ti fi) : SemG K (L2.gSub (tVar i) ti rSetL) (hSub i fi) := by
  intro G L ρ σ H Q v d ρ' R r e q
  unfold hSub at e
  split at e
  · cases e
  rename_i ds0 e0
  split at e
  · rename_i k ρ1 e1
    split at e
    · rename_i x e2
      split at e
      · rename_i ds e3
        split at e
        · rename_i j e4
          cases e
          obtain ⟨vo, hv, _⟩ := R.tpOwn e0
          refine ⟨vo, hv, hi G L ρ σ H _ _ ρ1 R e1 fun vi H1 L1 s1 R1 w1 r1 => ?_⟩
          obtain ⟨a, vs, g1, g2, g3, g4⟩ := R1.own e2 e3
          cases slot_same hv g1
          have ma : some a ∈ L1 := List.mem_of_getElem? g2
          have r' := r.mono (w1.hd s1)
          refine ⟨a, vs, k, j, rfl, r1.int_of, g3, by rw [g4.len]; exact e4, ?_⟩
          exact q L1 σ _ (R1.write e2 e3 g2 (g4.set j r')) s1 (w1.trans (Ew.write ma) s1)
        · cases e
      · cases e
    · cases e
  · cases e

/-! ### assignments -/
def sAsg (fe : D1) (h : T1) : S1 := fun ρ => match fe ρ with
  | none => none
  | some (d, ρ1) => match h d ρ1 with
    | none => none
    | some ρ2 => some (.nx, ρ2)
theorem sem_asg {g : TG} {h : T1} (he : SemE K te fe) (hg : SemG K g h) : SemS K (tAsg te g) (sAsg fe h) := by
  intro G L ρ σ H D fl ρ' R e q
  unfold sAsg at e
  split at e
  · cases e
  rename_i d ρ1 e1
  split at e
  · cases e
  rename_i ρ2 e2
  cases e
  refine he G L ρ σ H _ _ ρ1 R e1 fun v H1 L1 s1 R1 w1 r1 => ?_
  exact hg G L1 ρ1 σ H1 _ v d ρ' R1 r1 e2 fun L2' σ2 H2 R2 s2 w2 => q L2' σ2 H2 R2 (.of (w1.trans w2 s1) (s2.trans s1))
/-- a name gets a list of its own -/
def sOwn (fe : A1) (i : Nat) : S1 := fun ρ => match fe ρ with
  | none => none
  | some (ds, ρ1) => some (.nx, ρ1.set i (some (.ow ds)))
theorem sem_own {fe : A1} (he : SemF K te fe) (i : Nat) : SemS K (tAsg te (gName i)) (sOwn fe i) := by
  intro G L ρ σ H D fl ρ' R e q
  unfold sOwn at e
  split at e
  · cases e
  rename_i ds ρ1 e1
  cases e
  refine he G L ρ σ H _ _ ρ1 R e1 fun p vs H1 L1 s1 hp h1 R1 w1 r1 => ?_
  have hf := R.fresh hp
  refine q _ _ H1 (R1.setOw i h1 (fun m => hf.2.1 (s1.mem m)) hf.2.2 hf.1 r1 R.bd) ⟨w1, fun a m => ?_⟩
  rcases mem_set_some m with z | z
  · exact .inl (s1.mem z)
  · rw [z]; exact .inr hp
/-- a, b = e1, e2 -/
def sPar (i j : Nat) (fa : A1) : S1 := fun ρ => match fa ρ with
  | some ([x, y], ρ1) => some (.nx, (ρ1.set i (some (.pl x))).set j (some (.pl y)))
  | _ => none
theorem sem_par (i j : Nat) {ta : TA} {fa : A1} (h : SemA K ta fa) : SemS K (tPar i j ta) (sPar i j fa) := by
  intro G L ρ σ H D fl ρ' R e q
  unfold sPar at e
  split at e
  · rename_i x y ρ1 e1
    cases e
    refine h G L ρ σ H _ _ ρ1 R e1 fun vs H1 L1 s1 R1 w1 r1 => ?_
    cases r1 with
    | cons rx t =>
      cases t with
      | cons ry t =>
        cases t
        have A := R1.setPl i (rx.mono ((Ew.refl L1 H1).hd (LS.set L1 i)))
        have s2 := LS.set (L1.set i none) j
        have B := A.setPl j (ry.mono (((Ew.refl L1 H1).hd (LS.set L1 i)).trans ((Ew.refl _ H1).hd s2)))
        exact ⟨_, _, rfl, q _ _ H1 B (.of w1 ((s2.trans (LS.set L1 i)).trans s1))⟩
  · cases e
/-- a, b = [..], e: a's list its own -/
def sParF (i j : Nat) (fa : A1) (fb : D1) : S1 := fun ρ => match fa ρ with
  | some (ds, ρ1) => match fb ρ1 with
    | some (y, ρ2) => some (.nx, (ρ2.set i (some (.ow ds))).set j (some (.pl y)))
    | none => none
  | none => none
theorem sem_parF (i j : Nat) {fa : A1} (h : SemF K ta fa) (hb : SemE K tb fb) : SemS K (tPar i j (tCons ta (tCons tb tNil))) (sParF i j fa fb) := by
  intro G L ρ σ H D fl ρ' R e q
  unfold sParF at e
  split at e
  · rename_i ds ρ1 e1
    split at e
    · rename_i y ρ2 e2
      cases e
      refine h G L ρ σ H _ _ ρ1 R e1 fun p vs H1 L1 s1 hp h1 R1 w1 r1 => ?_
      have hf := R.fresh hp
      have hl1 : some p ∉ L1 := fun m => hf.2.1 (s1.mem m)
      refine hb (G.hide p) L1 ρ1 σ H1 _ y ρ2 R1 e2 fun v H2 L2' s2 R2 w2 r2 => ?_
      have h2 := w2.1 p _ hl1 h1
      have hl2 : some p ∉ L2' := fun m => hl1 (s2.mem m)
      have A := R2.setOw i h2 hl2 hf.2.2 hf.1 (r1.mono (w2.hd s2)) R.bd
      have m : Le (hd (G.hide p).N L2' H2) (hd G.N (L2'.set i (some p)) H2) := fun b o z => by
        obtain ⟨z1, z2, z3⟩ := hd_some.mp z
        refine hd_some.mpr ⟨fun y => z1 (.inl y), fun y => ?_, z3⟩
        rcases mem_set_some y with x | x
        · exact z2 x
        · exact z1 (.inr x)
      have s3 := LS.set (L2'.set i (some p)) j
      have B := A.setPl j (r2.mono (m.trans ((Ew.refl _ H2).hd s3)))
      refine ⟨_, _, rfl, q _ _ H2 B ⟨w1.trans w2 s1, fun a mm => ?_⟩⟩
      rcases mem_set_some (s3.mem mm) with z | z
      · exact .inl (s1.mem (s2.mem z))
      · rw [z]; exact .inr hp
    · cases e
  · cases e
/-- name op= e -/
def sAug (g : G2) (i : Nat) (fe : D1) : S1 := fun ρ => match ρ[i]? with
  | some (some (.pl x)) => match fe ρ with
    | none => none
    | some (y, ρ1) => match g x y with
      | none => none
      | some z => some (.nx, ρ1.set i (some (.pl z)))
  | _ => none
theorem sem_aug {r : R2} {g : G2} (ho : OpS K r g) (i : Nat) (he : SemE K te fe) : SemS K (tAug i te r) (sAug g i fe) := by
  intro G L ρ σ H D fl ρ' R e q
  unfold sAug at e
  split at e
  · rename_i x e0
    split at e
    · cases e
    rename_i y ρ1 e1
    split at e
    · cases e
    rename_i z e2
    cases e
    obtain ⟨vx, h1, rx⟩ := R.get e0
    refine ⟨vx, h1, he G L ρ σ H _ _ ρ1 R e1 fun v H1 L1 s1 R1 w1 r1 => ?_⟩
    refine ho G.N L1 H1 vx v x y z _ R1.alloc ((rx.mono (w1.hd s1)).tp hd_le) (r1.tp hd_le) e2 fun vz H2 le rz => ?_
    have R2 := R1.mono le
    exact q _ _ H2 (R2.setPl i (rz.mono ((Ew.refl L1 H2).hd (LS.set L1 i)))) (.of (w1.trans (le.ew (L := L1)) s1) ((LS.set L1 i).trans s1))
  · cases e
/-- xs.append(e) of one's own list -/
def sApp (i : Nat) (fe : D1) : S1 := fun ρ => match ownAt ρ i with
  | none => none
  | some _ => match fe ρ with
    | none => none
    | some (d, ρ1) => match ρ1[i]? with
      | some (some x) => match x.lst? with
        | some ds => if ds.length < sizeLine then some (.nx, ρ1.set i (some (x.put (ds ++ [d])))) else none
        | none => none
      | _ => none
theorem sem_app (i : Nat) (he : SemE K te fe) : SemS K (tDrop (tBM K "list" rAppend (tVar i) (tCons te tNil))) (sApp i fe) := by
  intro G L ρ σ H D fl ρ' R e q
  unfold sApp at e
  split at e
  · cases e
  rename_i ds0 e0
  split at e
  · cases e
  rename_i d ρ1 e1
  split at e
  · rename_i x e2
    split at e
    · rename_i ds e3
      split at e
      · rename_i hz
        cases e
        obtain ⟨x0, f1, f2⟩ := ownAt_some e0
        obtain ⟨a0, vs0, g1, g2, g3, g4⟩ := R.own f1 f2
        refine ⟨_, g1, .inl ⟨rfl, _, .of g3⟩, he G L ρ σ H _ _ ρ1 R e1 fun v H1 L1 s1 R1 w1 r1 => ?_⟩
        obtain ⟨a, vs, k1, k2, k3, k4⟩ := R1.own e2 e3
        cases slot_same g1 k1
        have ma : some a0 ∈ L1 := List.mem_of_getElem? k2
        refine ⟨a0, vs, v, rfl, rfl, k3, by rw [k4.len]; exact hz, ?_⟩
        exact q L1 σ _ (R1.write e2 e3 k2 (k4.snoc r1)) (.of (w1.trans (Ew.write ma) s1) s1)
      · cases e
    · cases e
  · cases e
end
end Dv

/-! Dv: what is walked, for, list comprehensions. -/
namespace Dv
open PySem PySem.Spec PyProof.Rows L2

/-- J walks over the data ds while what Hh knows stands -/
def IG (K : PySem.W.Frag) (Hh : Hp) (J : It) (ds : List PyData) : Prop := ∀ (N : Addr → Prop) (L : List (Option Addr)) (H : Hp), Le Hh (hd N L H) → Alloc N L H →
  J.stop ds.length H ∧ ∀ (i : Nat) d, ds[i]? = some d → J.go i H ∧ ∀ x H', J.yld i H x H' → Le H H' ∧ Rp K (hd N L H') x d
def SemI (K : PySem.W.Frag) (wi : TI) (f : A1) : Prop := ∀ (G : Ent) (L : List (Option Addr)) (ρ : REnv) (σ : L2.St) (H : Hp) (R : It → Hp → Prop) (ds : List PyData) (ρ' : REnv),
  Rel K G L ρ σ H → f ρ = some (ds, ρ') →
  (∀ J H' L', LS L' L → Rel K G L' ρ' σ H' → Ew L H H' → IG K (hd G.N L' H') J ds → R J H') → wi σ H R
/-- the items of a sequence -/
def itemsOf : PyData → Option (List PyData)
  | .list ds => some ds
  | .tuple ds => some ds
  | .dict [(.none, .list ds)] => some ds
  | _ => none
def fItems (fa : D1) : A1 := fun ρ => match fa ρ with
  | none => none
  | some (x, ρ1) => match itemsOf x with
    | none => none
    | some ds => some (ds, ρ1)
def iSeq (K : PySem.W.Frag) (tl : TE) : TI := fun σ H R => tl σ H fun x H1 => ∃ a, x = .ref a ∧ (((∃ xs, SqL K H1 a xs) ∧ R (Itl K a) H1) ∨ ((∃ xs, SqT K H1 a xs) ∧ R (Itt K a) H1))
section
variable {X : Cx} {tg : Expr}
theorem pi_seq {l : Expr} {tl : TE} (hl : PE X l tl) : PI X tg l (iSeq X.K tl) := by
  constructor
  intro pins s σ H R I h
  refine thn (hl.run pins s σ H _ I h) ?_
  rintro v s1 ⟨x, H1, I1, r1, a, rfl, q⟩
  cases r1
  have fp : ∀ b ∈ [s1.heap.objs.size], FpOk X pins H1 b := fun b hb => by
    have e : b = s1.heap.objs.size := by simpa using hb
    rw [e]
    exact I1.fpOk (Nat.le_refl _) (I1.hok.fresh (Nat.le_refl _))
  rcases q with ⟨⟨xs, hq⟩, q⟩ | ⟨⟨xs, hq⟩, q⟩
  · obtain ⟨its, rv, p, hz⟩ := I1.list hq
    exact wpAny_pyIter_list p.isList ⟨_, [s1.heap.objs.size], _, _, H1, rfl, I1.kept (t' := s1.toks) fun b o e => Heap.get?_push_of_some _ e, turn_list a _, ⟨_, Heap.get?_push_size _ rfl, rfl, rfl⟩, fp, q⟩
  · obtain ⟨its, rv, p, hz⟩ := I1.tuple hq
    exact wpAny_pyIter_tuple (show s1.heap.IsTuple a its.toArray from p) ⟨_, [s1.heap.objs.size], _, _, H1, rfl, I1.kept (t' := s1.toks) fun b o e => Heap.get?_push_of_some _ e, turn_tuple a _, ⟨_, Heap.get?_push_size _ rfl, rfl, rfl⟩, fp, q⟩
end
section
variable {K : PySem.W.Frag} {tl : TE} {fa : D1}
theorem ig_list {Hh : Hp} {a : Addr} {xs : List V} {ds : List PyData} (h : ∀ H, Le Hh H → SqL K H a xs) (hu : ∀ H ys, Le Hh H → SqL K H a ys → ys = xs) (r : RpA K Hh xs ds) : IG K Hh (Itl K a) ds := by
  intro N L H le A
  have hs := h H (le.trans hd_le)
  refine ⟨⟨xs, hs, by rw [r.len]; exact Nat.le_refl _⟩, fun i d e => ?_⟩
  obtain ⟨v, hv, rv⟩ := r.get e
  refine ⟨⟨xs, v, hs, hv⟩, fun x H' y => ?_⟩
  obtain ⟨rfl, y⟩ := y
  have := y xs hs
  rw [hv] at this
  cases this
  exact ⟨.refl _, rv.mono le⟩
theorem sem_iseq (h : SemE K tl fa) : SemI K (iSeq K tl) (fItems fa) := by
  intro G L ρ σ H R ds ρ' Re e q
  unfold fItems at e
  split at e
  · cases e
  rename_i x ρ1 e1
  split at e
  · cases e
  rename_i ds' e2
  cases e
  refine h G L ρ σ H _ _ ρ' Re e1 fun v H1 L1 s1 R1 w1 r1 => ?_
  unfold itemsOf at e2
  split at e2
  · cases e2
    cases r1 with
    | lst h1 r1 =>
      rename_i a xs
      refine ⟨a, rfl, .inl ⟨⟨xs, .of (hd_le _ _ h1)⟩, q _ H1 L1 s1 R1 w1 ?_⟩⟩
      intro N L H' le A
      have hs : SqL K H' a xs := .of (hd_le _ _ (le _ _ h1))
      refine ⟨⟨xs, hs, by rw [r1.len]; exact Nat.le_refl _⟩, fun i d e => ?_⟩
      obtain ⟨v, hv, rv⟩ := r1.get e
      refine ⟨⟨xs, v, hs, hv⟩, fun x H'' y => ?_⟩
      obtain ⟨rfl, y⟩ := y
      have := y xs hs
      rw [hv] at this
      cases this
      exact ⟨.refl _, rv.mono le⟩
  · cases e2
    cases r1 with
    | tup h1 r1 =>
      rename_i a xs
      refine ⟨a, rfl, .inr ⟨⟨xs, hd_le.t h1⟩, q _ H1 L1 s1 R1 w1 ?_⟩⟩
      intro N L H' le A
      have hs : SqT K H' a xs := hd_le.t (le.t h1)
      refine ⟨⟨xs, hs, by rw [r1.len]; exact Nat.le_refl _⟩, fun i d e => ?_⟩
      obtain ⟨v, hv, rv⟩ := r1.get e
      refine ⟨⟨xs, v, hs, hv⟩, fun x H'' y => ?_⟩
      obtain ⟨rfl, y⟩ := y
      have := y xs hs
      rw [hv] at this
      cases this
      exact ⟨.refl _, rv.mono le⟩
  · cases e2
    generalize hg : PyData.dict [(.none, .list ds)] = dd at r1
    cases r1 <;> try (cases hg; done)
    rename_i a ns h1
    cases hg
    have r1 : RpA K (hd G.N L1 H1) (ns.map V.int) (ns.map .int) := RpA.of_ints ns
    refine ⟨a, rfl, .inl ⟨⟨_, hd_le.l h1⟩, q _ H1 L1 s1 R1 w1 ?_⟩⟩
    intro N L H' le A
    have hs : SqL K H' a (ns.map V.int) := hd_le.l (le.l h1)
    refine ⟨⟨_, hs, by simp⟩, fun i d e => ?_⟩
    obtain ⟨v, hv, rv⟩ := r1.get e
    refine ⟨⟨_, v, hs, hv⟩, fun x H'' y => ?_⟩
    obtain ⟨rfl, y⟩ := y
    have := y _ hs
    rw [hv] at this
    cases this
    exact ⟨.refl _, rv.mono le⟩
  · cases e2
/-- the ints of a range -/
def rangeD (lo : Int) (n : Nat) : List PyData := (List.range n).map fun (i : Nat) => .int (lo + (i : Int))
theorem rangeD_length (lo : Int) (n : Nat) : (rangeD lo n).length = n := by simp [rangeD]
theorem rangeD_get (lo : Int) (n i : Nat) (d : PyData) (h : (rangeD lo n)[i]? = some d) : i < n ∧ d = .int (lo + (i : Int)) := by
  unfold rangeD at h
  rw [List.getElem?_map] at h
  by_cases hi : i < n
  · rw [List.getElem?_range hi] at h
    cases h
    exact ⟨hi, rfl⟩
  · rw [List.getElem?_eq_none (by simp; omega)] at h
    cases h
theorem ig_range {Hh : Hp} {lo : Int} {n : Nat} : IG K Hh (Itr lo n) (rangeD lo n) := by
  intro N L H le A
  refine ⟨by rw [rangeD_length]; exact Nat.le_refl _, fun i d e => ?_⟩
  obtain ⟨h1, rfl⟩ := rangeD_get lo n i d e
  refine ⟨h1, fun x H' y => ?_⟩
  obtain ⟨rfl, rfl⟩ := y
  exact ⟨.refl _, .int _⟩
def okR (i : Int) : Bool := decide (-(2 ^ 62) ≤ i) && decide (i < 2 ^ 62)
def fRng1 (fa : A1) : A1 := fun ρ => match fa ρ with
  | some ([.int j], ρ1) => if okR j then some (rangeD 0 j.toNat, ρ1) else none
  | _ => none
def fRng2 (fa : A1) : A1 := fun ρ => match fa ρ with
  | some ([.int i, .int j], ρ1) => if okR i && okR j then some (rangeD i (j - i).toNat, ρ1) else none
  | _ => none
theorem sem_rng1 {ta : TA} {f : A1} (h : SemA K ta f) : SemI K (iRng1 ta) (fRng1 f) := by
  intro G L ρ σ H R ds ρ' Re e q
  unfold fRng1 at e
  split at e
  · rename_i j ρ1 e1
    split at e
    · rename_i hj
      cases e
      unfold okR at hj
      simp only [Bool.and_eq_true, decide_eq_true_eq] at hj
      refine h G L ρ σ H _ _ ρ' Re e1 fun vs H1 L1 s1 R1 w1 r1 => ?_
      cases r1 with
      | cons r t =>
        cases t
        rw [r.int_of]
        exact ⟨j, rfl, hj.1, hj.2, q _ H1 L1 s1 R1 w1 ig_range⟩
    · cases e
  · cases e
theorem sem_rng2 {ta : TA} {f : A1} (h : SemA K ta f) : SemI K (iRng2 ta) (fRng2 f) := by
  intro G L ρ σ H R ds ρ' Re e q
  unfold fRng2 at e
  split at e
  · rename_i i j ρ1 e1
    split at e
    · rename_i hj
      cases e
      unfold okR at hj
      simp only [Bool.and_eq_true, decide_eq_true_eq] at hj
      refine h G L ρ σ H _ _ ρ' Re e1 fun vs H1 L1 s1 R1 w1 r1 => ?_
      cases r1 with
      | cons r t =>
        cases t with
        | cons r2 t =>
          cases t
          rw [r.int_of, r2.int_of]
          exact ⟨i, j, rfl, ⟨hj.1.1, hj.1.2, hj.2.1, hj.2.2⟩, q _ H1 L1 s1 R1 w1 ig_range⟩
    · cases e
  · cases e

/-! ### for -/
def loopF (h : T1) (fb : S1) : List PyData → REnv → Option (Fl × REnv)
  | [], ρ => some (.nx, ρ)
  | d :: ds, ρ => match h d ρ with
    | none => none
    | some ρ1 => match fb ρ1 with
      | some (.nx, ρ2) => loopF h fb ds ρ2
      | some (.ct, ρ2) => loopF h fb ds ρ2
      | some (.bk, ρ2) => some (.nx, ρ2)
      | some (.rt r, ρ2) => some (.rt r, ρ2)
      | none => none
def sFor (fi : A1) (h : T1) (fb : S1) : S1 := fun ρ => match fi ρ with
  | none => none
  | some (ds, ρ1) => loopF h fb ds ρ1
theorem sem_for {wi : TI} {fi : A1} {g : TG} {h : T1} {tb : TS} {fb : S1} (hi : SemI K wi fi) (hg : SemG K g h) (hb : SemS K tb fb) : SemS K (tFor wi g tb) (sFor fi h fb) := by
  intro G L ρ σ H D fl ρ' R e q
  unfold sFor at e
  split at e
  · cases e
  rename_i ds ρ1 e1
  refine hi G L ρ σ H _ ds ρ1 R e1 fun J H1 L1 s1 R1 w1 ig => ?_
  have q1 := q.le (.of w1 s1)
  refine ⟨fun i m σ' H' => m = ds.length - i ∧ i ≤ ds.length ∧ ∃ L' ρ2, Rel K G L' ρ2 σ' H' ∧ Gr L1 H1 L' H' ∧ loopF h fb (ds.drop i) ρ2 = some (fl, ρ'), ⟨ds.length, by simp, Nat.zero_le _, L1, ρ1, R1, .refl _ _, e⟩, ?_⟩
  rintro i m σ2 H2 ⟨rfl, hi, L2', ρ2, R2, g2, e2⟩
  obtain ⟨st, go⟩ := ig G.N L2' H2 g2.hd R2.alloc
  by_cases hlt : i < ds.length
  · have hd : ds.drop i = ds[i] :: ds.drop (i + 1) := List.drop_eq_getElem_cons hlt
    rw [hd] at e2
    unfold loopF at e2
    split at e2
    · cases e2
    rename_i ρ3 e3
    obtain ⟨go1, go2⟩ := go i ds[i] (List.getElem?_eq_getElem hlt)
    refine .inr ⟨go1, fun σ' H' => ∃ L' ρ4, Rel K G L' ρ4 σ' H' ∧ Gr L1 H1 L' H' ∧ loopF h fb (ds.drop (i + 1)) ρ4 = some (fl, ρ'), fun σ' H' ⟨L', ρ4, z⟩ => ⟨ds.length - (i + 1), by omega, rfl, hlt, L', ρ4, z⟩, fun x H' y => ?_⟩
    obtain ⟨le, rx⟩ := go2 x H' y
    refine hg G L2' ρ2 σ2 H' _ x _ ρ3 (R2.mono le) rx e3 fun L3 σ3 H3 R3 s3 w3 => ?_
    have g3 : Gr L1 H1 L3 H3 := g2.trans (.of (le.ew.trans w3 (.refl _)) s3)
    split at e2
    · rename_i ρ4 e4
      exact hb G L3 ρ3 σ3 H3 _ .nx ρ4 R3 e4 fun L4 σ4 H4 R4 g4 => ⟨L4, ρ4, R4, g3.trans g4, e2⟩
    · rename_i ρ4 e4
      exact hb G L3 ρ3 σ3 H3 _ .ct ρ4 R3 e4 fun L4 σ4 H4 R4 g4 => ⟨L4, ρ4, R4, g3.trans g4, e2⟩
    · rename_i ρ4 e4
      cases e2
      exact hb G L3 ρ3 σ3 H3 _ .bk ρ' R3 e4 fun L4 σ4 H4 R4 g4 => q1 L4 σ4 H4 R4 (g3.trans g4)
    · rename_i r ρ4 e4
      cases e2
      refine hb G L3 ρ3 σ3 H3 _ (.rt r) ρ' R3 e4 ?_
      cases r with
      | pl d => exact fun L4 σ4 H4 v R4 g4 rv => q1 L4 σ4 H4 v R4 (g3.trans g4) rv
      | fr es => exact fun L4 σ4 H4 p vs R4 g4 hp => q1 L4 σ4 H4 p vs R4 (g3.trans g4) (g3.ew.free hp)
    · cases e2
  · have hi' : i = ds.length := by omega
    subst hi'
    rw [List.drop_length] at e2
    cases e2
    exact .inl ⟨st, q1 L2' σ2 H2 R2 g2⟩

/-! ### list comprehensions -/
/-- behind a comprehension: the block's own names are as they were -/
def restR (ρ0 ρ : REnv) : List Nat → REnv
  | [] => ρ
  | v :: vs => (restR ρ0 ρ vs).set v (match ρ0[v]? with | some (some (.pl d)) => some (.pl d) | _ => none)
theorem restR_length (ρ0 ρ : REnv) : ∀ vs : List Nat, (restR ρ0 ρ vs).length = ρ.length
  | [] => rfl
  | v :: vs => by unfold restR; rw [List.length_set, restR_length ρ0 ρ vs]
theorem restR_some {ρ0 ρ : REnv} {i : Nat} {x : PV} : ∀ {vs : List Nat}, (restR ρ0 ρ vs)[i]? = some (some x) → (i ∈ vs ∧ ∃ d, x = .pl d ∧ ρ0[i]? = some (some (.pl d))) ∨ (i ∉ vs ∧ ρ[i]? = some (some x))
  | [], h => .inr ⟨by simp, h⟩
  | v :: vs, h => by
    unfold restR at h
    by_cases hi : v = i
    · subst hi
      by_cases hv : v < (restR ρ0 ρ vs).length
      · rw [List.getElem?_set_self hv] at h
        have h := Option.some.inj h
        split at h
        · rename_i d e
          cases h
          exact .inl ⟨by simp, d, rfl, e⟩
        · cases h
      · rw [List.getElem?_eq_none (by simpa using hv)] at h; cases h
    · rw [List.getElem?_set_ne hi] at h
      rcases restR_some h with ⟨h1, h2⟩ | ⟨h1, h2⟩
      · exact .inl ⟨List.mem_cons_of_mem _ h1, h2⟩
      · exact .inr ⟨by simp only [List.mem_cons, not_or]; exact ⟨fun e => hi e.symm, h1⟩, h2⟩
theorem Rel.rest {G0 G : Ent} {L L' : List (Option Addr)} {ρ0 ρ : REnv} {σ : L2.St} {H H' : Hp} {vs : List Nat} (R0 : Rel K G0 L ρ0 σ H) (R : Rel K G L' ρ (wipe σ vs) H') (w : Le (hd G0.N L H) (hd G.N L' H')) (s : LS L' L) : Rel K G L' (restR ρ0 ρ vs) σ H' where
  ln := by rw [restR_length, R.ln, wipe_length]
  lL := by rw [R.lL, wipe_length]
  at_ := fun i x h => by
    rcases restR_some h with ⟨_, d, rfl, h2⟩ | ⟨h1, h2⟩
    · obtain ⟨v, l, g1, g2, g3⟩ := R0.at_ i _ h2
      obtain ⟨rfl, g4⟩ := g3
      refine ⟨v, none, g1, ?_, rfl, g4.mono w⟩
      have hi : i < L'.length := by rw [s.1]; exact (List.getElem?_eq_some_iff.mp g2).1
      cases e : L'[i] with
      | none => rw [List.getElem?_eq_getElem hi, e]
      | some a =>
        have := s.2 i a (by rw [List.getElem?_eq_getElem hi, e])
        rw [g2] at this; cases this
    · obtain ⟨v, l, g1, g2, g3⟩ := R.at_ i x h2
      exact ⟨v, l, by rw [← wipe_out h1]; exact g1, g2, g3⟩
  inj := R.inj
  lt := R.lt
  fr := R.fr
  nd := R.nd
  bd := R.bd
  lo := R.lo
def compF (h : T1) (ft : B1) (fe : D1) (vs : List Nat) : List PyData → List PyData → REnv → Option (List PyData × REnv)
  | [], acc, ρ => some (acc, ρ)
  | d :: ds, acc, ρ => match h d ρ with
    | none => none
    | some ρ1 => match ft ρ1 with
      | some (true, ρ2) => match fe ρ2 with
        | some (y, ρ3) => compF h ft fe vs ds (acc ++ [y]) (wipeR ρ3 vs)
        | none => none
      | some (false, ρ2) => compF h ft fe vs ds acc (wipeR ρ2 vs)
      | none => none
def fLc (fi : A1) (h : T1) (ft : B1) (fe : D1) (vs : List Nat) : A1 := fun ρ => match fi ρ with
  | none => none
  | some (ds, ρ1) => if ds.length ≤ sizeLine then match compF h ft fe vs ds [] (wipeR ρ1 vs) with
    | none => none
    | some (acc, ρ2) => some (acc, restR ρ1 ρ2 vs)
    else none
def fYes : B1 := fun ρ => some (true, ρ)
theorem sem_yes : SemT K tYes fYes := by
  intro G L ρ σ H Q d ρ' R e q
  cases e
  exact q H L (.refl L) R (.refl L H)
/-- a target whose names are all among vs -/
def GIn (g : TG) (vs : List Nat) : Prop := ∀ v σ H (Q : L2.St → Hp → Prop), g v σ H (fun σ' H' => wipe σ' vs = wipe σ vs → Q σ' H') → g v σ H fun σ' H' => wipe σ' vs = wipe σ vs ∧ Q σ' H'
theorem wipe_set {σ : L2.St} {i : Nat} {x : Option V} : ∀ {vs : List Nat}, i ∈ vs → wipe (σ.set i x) vs = wipe σ vs
  | v :: vs, h => by
    unfold wipe
    by_cases hi : i = v
    · subst hi
      by_cases hm : i ∈ vs
      · rw [wipe_set hm]
      · have key : ∀ ws : List Nat, i ∉ ws → wipe (σ.set i x) ws = (wipe σ ws).set i x := fun ws => by
          induction ws with
          | nil => intro _; rfl
          | cons w ws ih =>
            intro hw
            simp only [List.mem_cons, not_or] at hw
            unfold wipe
            rw [ih hw.2, List.set_comm _ _ hw.1]
        rw [key vs hm, List.set_set]
    · have hm : i ∈ vs := by rcases List.mem_cons.mp h with e | e; exact absurd e hi; exact e
      rw [wipe_set hm]
theorem gin_name {i : Nat} {vs : List Nat} (h : i ∈ vs) : GIn (gName i) vs := fun v σ H Q q => ⟨wipe_set h, q (wipe_set h)⟩
theorem gin_two {i j n : Nat} {vs : List Nat} (hi : i ∈ vs) (hj : j ∈ vs) : GIn (gTup K n (gCons (gName i) (gCons (gName j) gNil))) vs := fun v σ H Q q => by
  obtain ⟨a, xs, e1, e2, e3, x, r, e4, y, r2, e5, e6, q⟩ := q
  have e : wipe ((σ.set i (some x)).set j (some y)) vs = wipe σ vs := by rw [wipe_set hj, wipe_set hi]
  exact ⟨a, xs, e1, e2, e3, x, r, e4, y, r2, e5, e6, e, q e⟩
theorem gin_three {i j k n : Nat} {vs : List Nat} (hi : i ∈ vs) (hj : j ∈ vs) (hk : k ∈ vs) : GIn (gTup K n (gCons (gName i) (gCons (gName j) (gCons (gName k) gNil)))) vs := fun v σ H Q q => by
  obtain ⟨a, xs, e1, e2, e3, x, r, e4, y, r2, e5, z, r3, e7, e6, q⟩ := q
  have e : wipe (((σ.set i (some x)).set j (some y)).set k (some z)) vs = wipe σ vs := by rw [wipe_set hk, wipe_set hj, wipe_set hi]
  exact ⟨a, xs, e1, e2, e3, x, r, e4, y, r2, e5, z, r3, e7, e6, e, q e⟩
theorem wipe_in {σ : L2.St} {i : Nat} : ∀ {vs : List Nat}, i ∈ vs → i < σ.length → (wipe σ vs)[i]? = some none
  | v :: vs, h, hl => by
    unfold wipe
    by_cases hi : v = i
    · subst hi
      rw [List.getElem?_set_self (by rw [wipe_length]; exact hl)]
    · rw [List.getElem?_set_ne hi]
      exact wipe_in (by rcases List.mem_cons.mp h with e | e; exact absurd e.symm hi; exact e) hl
theorem wipe_wipe (σ : L2.St) (vs : List Nat) : wipe (wipe σ vs) vs = wipe σ vs := by
  apply List.ext_getElem?
  intro i
  by_cases hi : i ∈ vs
  · by_cases hl : i < σ.length
    · rw [wipe_in hi (by rw [wipe_length]; exact hl), wipe_in hi hl]
    · rw [List.getElem?_eq_none (by rw [wipe_length, wipe_length]; omega), List.getElem?_eq_none (by rw [wipe_length]; omega)]
  · rw [wipe_out hi]
theorem Rel.wr {G : Ent} {L : List (Option Addr)} {ρ : REnv} {σ : L2.St} {H : Hp} (R : Rel K G L ρ σ H) {p : Addr} {o : HO} (hN : G.N p) (hl : some p ∉ L) (h0 : G.H0 p = none) : Rel K G L ρ σ (upd H p o) where
  ln := R.ln
  lL := R.lL
  at_ := fun i x h => by
    obtain ⟨v, l, g1, g2, g3⟩ := R.at_ i x h
    refine ⟨v, l, g1, g2, g3.mono (N' := G.N) (fun b u e => ?_) (fun a vs m e => ?_) rfl rfl (fun _ => g2) fun _ _ z => z⟩
    · obtain ⟨h1, h2, h3⟩ := hd_some.mp e
      have hb : b ≠ p := fun z => h1 (by rw [z]; exact hN)
      exact hd_some.mpr ⟨h1, h2, by rw [upd_ne hb]; exact h3⟩
    · have hb : a ≠ p := fun z => hl (by rw [← z]; exact m)
      rw [upd_ne hb]; exact e
  inj := R.inj
  lt := fun a m => by
    have hb : a ≠ p := fun z => hl (by rw [← z]; exact m)
    rw [upd_ne hb]; exact R.lt a m
  fr := fun b u n e => by
    have hb : b ≠ p := fun z => by rw [z, h0] at e; cases e
    rw [upd_ne hb]; exact R.fr b u n e
  nd := fun b n => by
    by_cases hb : b = p
    · rw [hb]; exact ⟨_, upd_same⟩
    · rw [upd_ne hb]; exact R.nd b n
  bd := R.bd
  lo := R.lo
theorem hd_wr {N : Addr → Prop} {L : List (Option Addr)} {H : Hp} {p : Addr} {o : HO} (hN : N p) : Le (hd N L H) (hd N L (upd H p o)) := fun b u e => by
  obtain ⟨h1, h2, h3⟩ := hd_some.mp e
  have hb : b ≠ p := fun z => h1 (by rw [z]; exact hN)
  exact hd_some.mpr ⟨h1, h2, by rw [upd_ne hb]; exact h3⟩
/-- the word of a comprehension's loop -/
def CompI (K : PySem.W.Frag) (G : Ent) (D : Addr) (L1 : List (Option Addr)) (H1 : Hp) (σ : L2.St) (h : T1) (ft : B1) (fe : D1) (vs : List Nat) (ds d : List PyData) (ρ2 : REnv) (i : Nat) (H' : Hp) : Prop :=
  ∃ L' ρ3 a av, LS L' L1 ∧ Rel K (G.hide D) L' ρ3 (wipe σ vs) H' ∧ Ew L1 H1 H' ∧ H' D = some (.lst av) ∧ a.length ≤ i ∧ RpA K (hd (G.hide D).N L' H') av a ∧ compF h ft fe vs (ds.drop i) a ρ3 = some (d, ρ2)
theorem sem_lc {wi : TI} {fi : A1} {g : TG} {h : T1} {tt : TT} {ft : B1} {te : TE} {fe : D1} (vs : List Nat) (hi : SemI K wi fi) (hg : SemG K g h) (hv : GIn g vs) (ht : SemT K tt ft) (he : SemE K te fe) :
    SemF K (tLc wi g tt te vs) (fLc fi h ft fe vs) := by
  intro G L ρ σ H Q d ρ' R e q
  unfold fLc at e
  split at e
  · cases e
  rename_i ds ρ1 e1
  split at e
  · rename_i hz
    split at e
    · cases e
    rename_i acc ρ2 e2
    cases e
    refine hi G L ρ σ H _ ds ρ1 R e1 fun J H1 L1 s1 R1 w1 ig => fun D hD => ?_
    have fD := R1.fresh hD
    have R1h : Rel K (G.hide D) L1 ρ1 σ (upd H1 D (.lst [])) := R1.hide hD
    have N0 : (G.hide D).N D := .inr rfl
    -- what the walk knows stays, D apart
    have keep : ∀ {L' : List (Option Addr)} {H' : Hp}, LS L' L1 → Ew L1 H1 H' → Le (hd G.N L1 H1) (hd (G.hide D).N L' H') := fun s w b o z => by
      obtain ⟨z1, z2, z3⟩ := hd_some.mp z
      refine hd_some.mpr ⟨fun y => y.elim z1 fun y => ?_, fun m => z2 (s.mem m), w.1 b o z2 z3⟩
      subst y
      rw [hD] at z3; cases z3
    refine ⟨fun i m H' => m = ds.length - i ∧ i ≤ ds.length ∧ CompI K G D L1 H1 σ h ft fe vs ds d ρ2 i H',
      ⟨ds.length, by simp, Nat.zero_le _, L1, wipeR ρ1 vs, [], [], .refl _, R1h.wiped vs, (Le.new hD).ew, upd_same, Nat.le_refl _, .nil, e2⟩, ?_⟩
    rintro i m H2 ⟨rfl, hi, L2', ρ3, a, av, s2, R2, w2, hDa, hal, ra, e3⟩
    have hDl : some D ∉ L2' := fun m => fD.2.1 (s2.mem m)
    obtain ⟨st, go⟩ := ig (G.hide D).N L2' H2 (keep s2 w2) R2.alloc
    by_cases hlt : i < ds.length
    · have hdd : ds.drop i = ds[i] :: ds.drop (i + 1) := List.drop_eq_getElem_cons hlt
      rw [hdd] at e3
      unfold compF at e3
      split at e3
      · cases e3
      rename_i ρ4 e4
      obtain ⟨go1, go2⟩ := go i ds[i] (List.getElem?_eq_getElem hlt)
      refine .inr ⟨go1, CompI K G D L1 H1 σ h ft fe vs ds d ρ2 (i + 1), fun H' z => ⟨ds.length - (i + 1), by omega, rfl, hlt, z⟩, fun x H3 y => ?_⟩
      obtain ⟨le, rx⟩ := go2 x H3 y
      have R3 := R2.mono le
      -- behind the element: append
      have app : ∀ {L5 : List (Option Addr)} {ρ5 : REnv} {σ2 : L2.St} {H5 : Hp} {v : V} {dy : PyData}, LS L5 L2' → Rel K (G.hide D) L5 ρ5 σ2 H5 → Ew L2' H2 H5 → wipe σ2 vs = wipe σ vs → Rp K (hd (G.hide D).N L5 H5) v dy →
          compF h ft fe vs (ds.drop (i + 1)) (a ++ [dy]) (wipeR ρ5 vs) = some (d, ρ2) → ∃ acc, H5 D = some (.lst acc) ∧ acc.length < sizeLine ∧ CompI K G D L1 H1 σ h ft fe vs ds d ρ2 (i + 1) (upd H5 D (.lst (acc ++ [v]))) := fun {L5 ρ5 σ2 H5 v dy} s5 R5 w5 ew rv ec => by
        have hD5 := w5.1 D _ hDl hDa
        have hl5 : some D ∉ L5 := fun m => hDl (s5.mem m)
        refine ⟨av, hD5, by rw [ra.len]; omega, L5, wipeR ρ5 vs, a ++ [dy], av ++ [v], s5.trans s2, ?_, ?_, upd_same, by simp; omega, ?_, ec⟩
        · have R6 := (R5.wiped vs).wr (o := .lst (av ++ [v])) N0 hl5 fD.2.2
          rw [ew] at R6
          exact R6
        · have w6 := w2.trans w5 s2
          refine ⟨fun b o n z => ?_, fun b o z => ?_⟩
          · rw [upd_ne (ne_of_none z hD)]; exact w6.1 b o n z
          · rw [upd_ne (ne_of_none z hD)]; exact w6.2 b o z
        · exact ((ra.mono (w5.hd s5)).snoc rv).mono (hd_wr N0)
      have skip : ∀ {L5 : List (Option Addr)} {ρ5 : REnv} {σ2 : L2.St} {H5 : Hp}, LS L5 L2' → Rel K (G.hide D) L5 ρ5 σ2 H5 → Ew L2' H2 H5 → wipe σ2 vs = wipe σ vs →
          compF h ft fe vs (ds.drop (i + 1)) a (wipeR ρ5 vs) = some (d, ρ2) → CompI K G D L1 H1 σ h ft fe vs ds d ρ2 (i + 1) H5 := fun {L5 ρ5 σ2 H5} s5 R5 w5 ew ec => by
        refine ⟨L5, wipeR ρ5 vs, a, av, s5.trans s2, ?_, w2.trans w5 s2, w5.1 D _ hDl hDa, by omega, ra.mono (w5.hd s5), ec⟩
        have R6 := R5.wiped vs
        rw [ew] at R6
        exact R6
      -- the whole turn, told with the slots' word
      have fin := hv x (wipe σ vs) H3 (fun σ2 H4 => tt σ2 H4 fun b H5 => if b = true then te σ2 H5 fun y H6 => ∃ acc, H6 D = some (.lst acc) ∧ acc.length < sizeLine ∧ CompI K G D L1 H1 σ h ft fe vs ds d ρ2 (i + 1) (upd H6 D (.lst (acc ++ [y]))) else CompI K G D L1 H1 σ h ft fe vs ds d ρ2 (i + 1) H5)
      rw [wipe_wipe] at fin
      refine fin (hg (G.hide D) L2' ρ3 (wipe σ vs) H3 _ x ds[i] ρ4 R3 rx e4 fun L4 σ4 H4 R4 s4 w4 ew => ?_)
      · have w24 : Ew L2' H2 H4 := (le.ew (L := L2')).trans w4 (.refl _)
        split at e3
        · rename_i ρ5 e5
          split at e3
          · rename_i dy ρ6 e6
            refine ht (G.hide D) L4 ρ4 σ4 H4 _ _ ρ5 R4 e5 fun H5 L5 s5 R5 w5 => ?_
            rw [if_pos rfl]
            refine he (G.hide D) L5 ρ5 σ4 H5 _ dy ρ6 R5 e6 fun v H6 L6 s6 R6 w6 r6 => ?_
            exact app ((s6.trans s5).trans s4) R6 (w24.trans (w5.trans w6 s5) s4) ew r6 e3
          · cases e3
        · rename_i ρ5 e5
          refine ht (G.hide D) L4 ρ4 σ4 H4 _ _ ρ5 R4 e5 fun H5 L5 s5 R5 w5 => ?_
          rw [if_neg (by simp)]
          exact skip (s5.trans s4) R5 (w24.trans w5 s4) ew e3
        · cases e3
    · have hi' : i = ds.length := by omega
      subst hi'
      rw [List.drop_length] at e3
      cases e3
      exact .inl ⟨st, q D av H2 L2' (s2.trans s1) (w1.free hD) hDa (Rel.rest R1 R2 (keep s2 w2) s2) (w1.trans w2 s1) ra⟩
  · cases e
end
end Dv

/-! Dv: defs as functions of data, their calls. -/
namespace Dv
open PySem PySem.Spec PyProof.Rows L2

/-- a def: from its arguments to what it hands back, and what the lists handed in hold then -/
abbrev Fn := List PV → Option (Ret × List (Option (List PyData)))
def ArgOk (K : PySem.W.Frag) (N : Addr → Prop) (H : Hp) (a : Option Addr) (v : V) : PV → Prop
  | .pl d => a = none ∧ Rp K (hd N [] H) v d
  | .rf ds => ∃ p vs, v = .ref p ∧ a = some p ∧ N p ∧ H p = some (.lst vs) ∧ RpA K (hd N [] H) vs ds
  | .ow _ => False
def RetOk (K : PySem.W.Frag) (N : Addr → Prop) (H H' : Hp) (v : V) : Ret → Prop
  | .pl d => Rp K (hd N [] H') v d
  | .fr ds => ∃ p vs, v = .ref p ∧ H p = none ∧ H' p = some (.lst vs) ∧ RpA K (hd (fun b => N b ∨ b = p) [] H') vs ds
/-- what holds behind the call -/
structure After (K : PySem.W.Frag) (N : Addr → Prop) (as : List (Option Addr)) (outs : List (Option (List PyData))) (H H' : Hp) : Prop where
  keep : ∀ b o, some b ∉ as → H b = some o → H' b = some o
  there : ∀ b o, H b = some o → ∃ o', H' b = some o'
  out : ∀ (i : Nat) p ds, as[i]? = some (some p) → outs[i]? = some (some ds) → ∃ vs, H' p = some (.lst vs) ∧ RpA K (hd N [] H') vs ds
def spF (K : PySem.W.Frag) (n : Nat) (F : Fn) : Sp := fun vs H Q _ => ∃ (N : Addr → Prop) (as : List (Option Addr)) (xs : List PV) (r : Ret) (outs : List (Option (List PyData))),
  F xs = some (r, outs) ∧ xs.length = n ∧ vs.length = n ∧ as.length = n ∧
  (∀ (i : Nat) x, xs[i]? = some x → ∃ a v, as[i]? = some a ∧ vs[i]? = some v ∧ ArgOk K N H a v x) ∧
  (∀ (i j : Nat) a, as[i]? = some (some a) → as[j]? = some (some a) → i = j) ∧ (∀ b, N b → ∃ o, H b = some o) ∧ (∀ a, some a ∈ as → N a) ∧
  ∀ v H', After K N as outs H H' → RetOk K N H H' v r → Q v H'
theorem spF_len {K : PySem.W.Frag} {n : Nat} {F : Fn} {vs : List V} {H : Hp} {Q : VK} {E : XK} (h : spF K n F vs H Q E) : vs.length = n := by
  obtain ⟨N, as, xs, r, outs, _, _, h, _⟩ := h
  exact h

/-- what the slots of the lists handed in hold -/
def outsR (ρ : REnv) : List PV → List (Option (List PyData)) → Nat → List (Option (List PyData))
  | [], acc, _ => acc
  | .rf _ :: r, acc, i => outsR ρ r (acc ++ [match ρ[i]? with | some (some (.rf ds)) => some ds | _ => none]) (i + 1)
  | _ :: r, acc, i => outsR ρ r (acc ++ [none]) (i + 1)
def outsOf (ρ : REnv) (xs : List PV) : List (Option (List PyData)) := xs.mapIdx fun i x => match x with
  | .rf _ => match ρ[i]? with
    | some (some (.rf ds)) => some ds
    | _ => none
  | _ => none
/-- a def's function, by its body's: m slots in all -/
def fnOf (m : Nat) (f : S1) : Fn := fun xs => match f (xs.map some ++ List.replicate (m - xs.length) none) with
  | some (.nx, ρ) => some (.pl .none, outsOf ρ xs)
  | some (.rt r, ρ) => some (r, outsOf ρ xs)
  | _ => none
section
variable {P : Program} {w : World} {K : PySem.W.Frag} {mg : Str → Option Value} {base : Heap}
theorem rel_start {N : Addr → Prop} {as : List (Option Addr)} {xs : List PV} {vs : List V} {H : Hp} {m : Nat} (h1 : xs.length = vs.length) (h2 : as.length = vs.length) (hm : vs.length ≤ m)
    (ha : ∀ (i : Nat) x, xs[i]? = some x → ∃ a v, as[i]? = some a ∧ vs[i]? = some v ∧ ArgOk K N H a v x)
    (hi : ∀ (i j : Nat) a, as[i]? = some (some a) → as[j]? = some (some a) → i = j) (hN : ∀ b, N b → ∃ o, H b = some o) (hA : ∀ a, some a ∈ as → N a) :
    Rel K ⟨N, as, H⟩ (as ++ List.replicate (m - vs.length) none) (xs.map some ++ List.replicate (m - xs.length) none) (vs.map some ++ List.replicate (m - vs.length) none) H := by
  have hL : ∀ (i : Nat) a, (as ++ List.replicate (m - vs.length) none)[i]? = some (some a) → as[i]? = some (some a) := fun i a h => by
    by_cases hlt : i < as.length
    · rwa [List.getElem?_append_left hlt] at h
    · rw [List.getElem?_append_right (by omega), List.getElem?_replicate] at h
      split at h <;> cases h
  have hM : ∀ a, some a ∈ as ++ List.replicate (m - vs.length) none → some a ∈ as := fun a h => by
    obtain ⟨i, e⟩ := List.mem_iff_getElem?.mp h
    exact List.mem_of_getElem? (hL i a e)
  have le : Le (hd N [] H) (hd N (as ++ List.replicate (m - vs.length) none) H) := fun b o e => by
    obtain ⟨z1, z2, z3⟩ := hd_some.mp e
    exact hd_some.mpr ⟨z1, fun m => z1 (hA b (hM b m)), z3⟩
  refine ⟨by simp; omega, by simp; omega, fun i x h => ?_, fun i j a e1 e2 => hi i j a (hL i a e1) (hL j a e2), fun a h => hN a (hA a (hM a h)), fun b o _ e => e, hN, hA, fun a h => .inr (hM a h)⟩
  have hlt : i < xs.length := by
    by_cases hlt : i < xs.length
    · exact hlt
    · rw [List.getElem?_append_right (by simp; omega), List.getElem?_replicate] at h
      split at h <;> cases h
  rw [List.getElem?_append_left (by simpa using hlt), List.getElem?_map] at h
  cases e : xs[i]? with
  | none => rw [e] at h; cases h
  | some y =>
    rw [e] at h
    cases h
    obtain ⟨a, v, g1, g2, g3⟩ := ha i x e
    refine ⟨v, a, ?_, ?_, ?_⟩
    · rw [List.getElem?_append_left (by simp; omega), List.getElem?_map, g2]; rfl
    · rw [List.getElem?_append_left (by omega)]; exact g1
    · cases x with
      | pl d => exact ⟨g3.1, g3.2.mono le⟩
      | rf ds => obtain ⟨p, vs', k1, k2, k3, k4, k5⟩ := g3; exact ⟨p, vs', k1, k2, by rw [g1, k2], k4, k5.mono le⟩
      | ow ds => exact g3.elim
theorem outsOf_get {ρ : REnv} {xs : List PV} {i : Nat} {ds : List PyData} (h : (outsOf ρ xs)[i]? = some (some ds)) : ρ[i]? = some (some (.rf ds)) := by
  unfold outsOf at h
  rw [List.getElem?_mapIdx] at h
  cases e : xs[i]? with
  | none => rw [e] at h; cases h
  | some x =>
    rw [e] at h
    cases x with
    | pl d => cases h
    | ow d => cases h
    | rf d =>
      simp only [Option.map_some, Option.some.injEq] at h
      split at h
      · rename_i es e2; rw [e2]; cases h; rfl
      · cases h
theorem after_of {N : Addr → Prop} {as : List (Option Addr)} {xs : List PV} {H H' : Hp} {L' : List (Option Addr)} {ρ' : REnv} {σ' : L2.St} {N2 : Addr → Prop} (R : Rel K ⟨N2, as, H⟩ L' ρ' σ' H') (hn : ∀ b, N b → N2 b) (ew : ∀ b o, H b = some o → ∃ o', H' b = some o') : After K N as (outsOf ρ' xs) H H' where
  keep := fun b o n e => R.fr b o n e
  there := ew
  out := fun i p ds h1 h2 => by
    obtain ⟨v, l, g1, g2, p', vs, k1, k2, k3, k4, k5⟩ := R.at_ i _ (outsOf_get h2)
    have e : p' = p := by
      have k3' : as[i]? = some (some p') := k3
      rw [h1] at k3'; cases k3'; rfl
    subst e
    exact ⟨vs, k4, k5.mono fun b o z => by
      obtain ⟨z1, z2, z3⟩ := hd_some.mp z
      exact hd_some.mpr ⟨fun y => z1 (hn b y), by simp, z3⟩⟩
/-- THE RULE for a def -/
theorem FnG.byBody {k : Nat} {f : Addr} {qual name : Str} {st : Stmt} {fd : FuncData} {N ps : List Str} {n m : Nat} {fb : S1} (F : L2.Fun K name qual st f fd) (S : FnScope N ps (defScope st)) (hps : ps.length = n) (hm : N.length = m) (hle : n ≤ m)
    (hbody : ∀ (cdv : Value) (A : Around) (out : List Env) (s : Shared) (H : Hp), Cl0 A → Room k (A.deeper (envOfC qual (defScope st) s.heap.objs.size f cdv)) →
      ∃ t, SSs K (cxOf CX0 P w K mg base N qual (defScope st) f cdv A out s H E0).nox (defBody st) t fb) :
    FnG P w K mg base (k + 1) f fd ps (spF K n (fnOf m fb)) := by
  refine FnG.of F S (fun vs H Q E h => by rw [hps]; exact spF_len h) fun cdv A out s H vs Q c hr h => ?_
  obtain ⟨Nn, as, xs, r, outs, e, l1, l2, l3, ha, hi, hN, hA, q⟩ := h
  obtain ⟨t, ht⟩ := hbody cdv A out s H c hr
  have hst : L2.start N vs = vs.map some ++ List.replicate (m - vs.length) none := by unfold L2.start; rw [hm]
  refine ⟨t, ht.pe.nox, ?_⟩
  rw [hst]
  have R := rel_start (K := K) (m := m) (by omega) (by omega) (by omega) ha hi hN hA
  unfold fnOf at e
  have z : ∀ {L' : List (Option Addr)} {H' : Hp}, Le (hd Nn L' H') (hd Nn [] H') := fun b o y => by
    obtain ⟨z1, z2, z3⟩ := hd_some.mp y
    exact hd_some.mpr ⟨z1, by simp, z3⟩
  split at e
  · rename_i ρ' e1
    cases e
    exact ht.sem _ _ _ _ H _ .nx ρ' R e1 fun L' σ' H' R' g => q .non H' (after_of R' (fun _ h => h) g.ew.2) .non
  · rename_i r' ρ' e1
    cases e
    refine ht.sem _ _ _ _ H _ (.rt r) ρ' R e1 ?_
    cases r with
    | pl d => exact fun L' σ' H' v R' g rv => q v H' (after_of R' (fun _ h => h) g.ew.2) (rv.mono z)
    | fr ds =>
      refine fun L' σ' H' p vs' R' g hp h1 rv => q (.ref p) H' (after_of (N2 := fun b => Nn b ∨ b = p) R' (fun _ h => .inl h) g.ew.2) ⟨p, vs', rfl, hp, h1, rv.mono fun b o y => ?_⟩
      obtain ⟨z1, z2, z3⟩ := hd_some.mp y
      exact hd_some.mpr ⟨z1, by simp, z3⟩
  · cases e
end

/-! ### calls -/
/-- arguments: data, a list of one's own handed in (the slot), a new list handed in -/
inductive Ag where
  | pl (d : PyData)
  | by (i : Nat)
abbrev G1 := REnv → Option (List Ag × REnv)
def AgOk (K : PySem.W.Frag) (G : Ent) (L : List (Option Addr)) (σ : L2.St) (H : Hp) (v : V) : Ag → Prop
  | .pl d => Rp K (hd G.N L H) v d
  | .by i => σ[i]? = some (some v)
inductive AgsOk (K : PySem.W.Frag) (G : Ent) (L : List (Option Addr)) (σ : L2.St) (H : Hp) : List V → List Ag → Prop
  | nil : AgsOk K G L σ H [] []
  | cons {v : V} {vs : List V} {a : Ag} {as : List Ag} (h : AgOk K G L σ H v a) (t : AgsOk K G L σ H vs as) : AgsOk K G L σ H (v :: vs) (a :: as)
def SemC (K : PySem.W.Frag) (t : TA) (f : G1) : Prop := ∀ (G : Ent) (L : List (Option Addr)) (ρ : REnv) (σ : L2.St) (H : Hp) (Q : List V → Hp → Prop) (as : List Ag) (ρ' : REnv),
  Rel K G L ρ σ H → f ρ = some (as, ρ') →
  (∀ vs H' L', LS L' L → Rel K G L' ρ' σ H' → Ew L H H' → AgsOk K G L' σ H' vs as → Q vs H') → t σ H Q
structure SC (K : PySem.W.Frag) (X : Cx) (es : List Expr) (t : TA) (f : G1) : Prop where
  pe : PA X es t
  sem : SemC K t f
  len : ∀ ρ as ρ1, f ρ = some (as, ρ1) → as.length = es.length
section
variable {K : PySem.W.Frag} {te : TE} {fe : D1} {tr : TA} {fr : G1}
def aNil : G1 := fun ρ => some ([], ρ)
def aCons (fe : D1) (fr : G1) : G1 := fun ρ => match fe ρ with
  | none => none
  | some (d, ρ1) => match fr ρ1 with
    | none => none
    | some (as, ρ2) => some (.pl d :: as, ρ2)
def aBy (i : Nat) (fr : G1) : G1 := fun ρ => match ownAt ρ i with
  | none => none
  | some _ => match fr ρ with
    | none => none
    | some (as, ρ2) => some (.by i :: as, ρ2)
theorem sem_anil : SemC K tNil aNil := by
  intro G L ρ σ H Q as ρ' R e q
  cases e
  exact q [] H L (.refl L) R (.refl L H) .nil
theorem sem_acons (he : SemE K te fe) (hr : SemC K tr fr) : SemC K (tCons te tr) (aCons fe fr) := by
  intro G L ρ σ H Q as ρ' R e q
  unfold aCons at e
  split at e
  · cases e
  rename_i d ρ1 e1
  split at e
  · cases e
  rename_i as' ρ2 e2
  cases e
  refine he G L ρ σ H _ d ρ1 R e1 fun v H1 L1 s1 R1 w1 r1 => ?_
  refine hr G L1 ρ1 σ H1 _ as' ρ' R1 e2 fun vs H2 L2' s2 R2 w2 r2 => ?_
  exact q (v :: vs) H2 L2' (s2.trans s1) R2 (w1.trans w2 s1) (.cons (r1.mono (w2.hd s2)) r2)
theorem sem_aby (i : Nat) (hr : SemC K tr fr) : SemC K (tCons (tVar i) tr) (aBy i fr) := by
  intro G L ρ σ H Q as ρ' R e q
  unfold aBy at e
  split at e
  · cases e
  rename_i ds e0
  split at e
  · cases e
  rename_i as' ρ2 e2
  cases e
  obtain ⟨v, hv, _⟩ := R.tpOwn e0
  refine ⟨v, hv, hr G L ρ σ H _ as' ρ' R e2 fun vs H2 L2' s2 R2 w2 r2 => ?_⟩
  exact q (v :: vs) H2 L2' s2 R2 w2 (.cons (show AgOk K G L2' σ H2 v (.by i) from hv) r2)
/-- the arguments as the callee sees them -/
def toPV (ρ : REnv) : List Ag → Option (List PV)
  | [] => some []
  | .pl d :: r => match toPV ρ r with
    | some xs => some (.pl d :: xs)
    | none => none
  | .by i :: r => match ownAt ρ i with
    | some ds => match toPV ρ r with
      | some xs => some (.rf ds :: xs)
      | none => none
    | none => none
/-- at most one list is handed in -/
def oneBy : List Ag → Bool
  | [] => true
  | .pl _ :: r => oneBy r
  | .by _ :: r => r.all fun a => match a with | .pl _ => true | .by _ => false
/-- the slots behind the call -/
def setOuts (ρ : REnv) : List Ag → List (Option (List PyData)) → Option REnv
  | [], _ => some ρ
  | .pl _ :: r, _ :: os => setOuts ρ r os
  | .by i :: r, some ds :: os => match ρ[i]? with
    | some (some x) => setOuts (ρ.set i (some (x.put ds))) r os
    | _ => none
  | _, _ => none
def fCall (F : Fn) (fa : G1) : REnv → Option (Ret × REnv) := fun ρ => match fa ρ with
  | none => none
  | some (as, ρ1) => if oneBy as then match toPV ρ1 as with
    | none => none
    | some xs => match F xs with
      | none => none
      | some (r, outs) => match setOuts ρ1 as outs with
        | none => none
        | some ρ2 => some (r, ρ2)
    else none
def fCallE (F : Fn) (fa : G1) : D1 := fun ρ => match fCall F fa ρ with
  | some (.pl d, ρ1) => some (d, ρ1)
  | some (.fr ds, ρ1) => some (.list ds, ρ1)
  | none => none
def isPl : Ag → Bool
  | .pl _ => true
  | .by _ => false
theorem oneBy_split : ∀ {as : List Ag}, oneBy as = true → as.all isPl = true ∨ ∃ pre i post, as = pre ++ .by i :: post ∧ pre.all isPl = true ∧ post.all isPl = true
  | [], _ => .inl rfl
  | .pl d :: r, h => by
    rcases oneBy_split (as := r) h with h1 | ⟨pre, i, post, rfl, h2, h3⟩
    · exact .inl (by simp [isPl, h1])
    · exact .inr ⟨.pl d :: pre, i, post, rfl, by simp [isPl, h2], h3⟩
  | .by i :: r, h => by
    refine .inr ⟨[], i, r, rfl, rfl, ?_⟩
    unfold oneBy at h
    rw [List.all_eq_true] at h ⊢
    intro a ha
    have := h a ha
    cases a with
    | pl d => rfl
    | «by» j => exact this
theorem setOuts_pl : ∀ {as : List Ag} {outs : List (Option (List PyData))} {ρ ρ' : REnv}, as.all isPl = true → setOuts ρ as outs = some ρ' → ρ' = ρ
  | [], _, _, _, _, h => by cases h; rfl
  | .pl d :: r, o :: os, ρ, ρ', ha, h => setOuts_pl (as := r) (by simpa [isPl] using ha) h
  | .pl d :: r, [], ρ, ρ', ha, h => by cases h
  | .by i :: r, _, _, _, ha, _ => by simp [isPl] at ha
theorem setOuts_one : ∀ {pre : List Ag} {i : Nat} {post : List Ag} {outs : List (Option (List PyData))} {ρ ρ' : REnv}, pre.all isPl = true → post.all isPl = true → setOuts ρ (pre ++ .by i :: post) outs = some ρ' →
    ∃ ds x, outs[pre.length]? = some (some ds) ∧ ρ[i]? = some (some x) ∧ ρ' = ρ.set i (some (x.put ds))
  | [], i, post, [], _, _, _, _, h => by cases h
  | [], i, post, none :: os, _, _, _, _, h => by cases h
  | [], i, post, some ds :: os, ρ, ρ', _, hp, h => by
    unfold setOuts at h
    simp only [List.nil_append] at h
    split at h
    · rename_i x e
      exact ⟨ds, x, rfl, e, setOuts_pl hp h⟩
    · cases h
  | .pl d :: pre, i, post, [], _, _, _, _, h => by cases h
  | .pl d :: pre, i, post, o :: os, ρ, ρ', hq, hp, h => by
    obtain ⟨ds, x, h1, h2, h3⟩ := setOuts_one (pre := pre) (by simpa [isPl] using hq) hp h
    exact ⟨ds, x, by simpa using h1, h2, h3⟩
  | .by j :: pre, _, _, _, _, _, hq, _, _ => by simp [isPl] at hq
/-- the addresses of the lists handed in -/
def adrs (L : List (Option Addr)) : List Ag → List (Option Addr)
  | [] => []
  | .pl _ :: r => none :: adrs L r
  | .by i :: r => (L[i]?).join :: adrs L r
theorem adrs_len (L : List (Option Addr)) : ∀ as : List Ag, (adrs L as).length = as.length
  | [] => rfl
  | .pl _ :: r => by simp [adrs, adrs_len L r]
  | .by _ :: r => by simp [adrs, adrs_len L r]
theorem adrs_mem {L : List (Option Addr)} {a : Addr} : ∀ {as : List Ag}, some a ∈ adrs L as → some a ∈ L
  | .pl _ :: r, h => by simp [adrs] at h; exact adrs_mem h
  | .by i :: r, h => by
    simp [adrs] at h
    rcases h with h | h
    · cases e : L[i]? with
      | none => rw [e] at h; cases h
      | some o => rw [e] at h; cases o with
        | none => cases h
        | some b => cases h; exact List.mem_of_getElem? e
    · exact adrs_mem h
theorem adrs_pl {L : List (Option Addr)} : ∀ {as : List Ag}, as.all isPl = true → ∀ (i : Nat) a, (adrs L as)[i]? ≠ some (some a)
  | [], _, i, a, h => by simp [adrs] at h
  | .pl _ :: r, hp, 0, a, h => by simp [adrs] at h
  | .pl _ :: r, hp, i + 1, a, h => adrs_pl (as := r) (by simpa [isPl] using hp) i a (by simpa [adrs] using h)
  | .by i :: r, hp, _, _, _ => by simp [isPl] at hp
theorem adrs_one {L : List (Option Addr)} : ∀ {pre : List Ag} {i : Nat} {post : List Ag}, pre.all isPl = true → post.all isPl = true → ∀ (j : Nat) a, (adrs L (pre ++ .by i :: post))[j]? = some (some a) → j = pre.length ∧ L[i]? = some (some a)
  | [], i, post, _, hp, 0, a, h => by
    simp [adrs] at h
    cases e : L[i]? with
    | none => rw [e] at h; cases h
    | some o => rw [e] at h; cases o with
      | none => cases h
      | some b => cases h; exact ⟨rfl, rfl⟩
  | [], i, post, _, hp, j + 1, a, h => absurd (by simpa [adrs] using h) (adrs_pl hp j a)
  | .pl d :: pre, i, post, hq, hp, 0, a, h => by simp [adrs] at h
  | .pl d :: pre, i, post, hq, hp, j + 1, a, h => by
    obtain ⟨h1, h2⟩ := adrs_one (pre := pre) (by simpa [isPl] using hq) hp j a (by simpa [adrs] using h)
    exact ⟨by simp [h1], h2⟩
  | .by j :: pre, _, _, hq, _, _, _, _ => by simp [isPl] at hq
theorem args_ok {G : Ent} {L : List (Option Addr)} {ρ : REnv} {σ : L2.St} {H : Hp} (R : Rel K G L ρ σ H) : ∀ {as : List Ag} {vs : List V} {xs : List PV}, AgsOk K G L σ H vs as → toPV ρ as = some xs →
    xs.length = vs.length ∧ as.length = vs.length ∧ ∀ (i : Nat) x, xs[i]? = some x → ∃ a v, (adrs L as)[i]? = some a ∧ vs[i]? = some v ∧ ArgOk K (fun b => G.N b ∨ some b ∈ L) H a v x
  | [], _, xs, .nil, e => by cases e; exact ⟨rfl, rfl, fun i x h => by simp at h⟩
  | .pl d :: r, _, xs, .cons h t, e => by
    unfold toPV at e
    split at e
    · rename_i ys e1
      cases e
      obtain ⟨h1, h2, h3⟩ := args_ok R t e1
      refine ⟨by simp [h1], by simp [h2], fun i x hx => ?_⟩
      cases i with
      | zero =>
        simp at hx
        subst hx
        refine ⟨none, _, rfl, rfl, rfl, Rp.mono (fun b o z => ?_) (show Rp K (hd G.N L H) _ d from h)⟩
        obtain ⟨z1, z2, z3⟩ := hd_some.mp z
        exact hd_some.mpr ⟨fun y => y.elim z1 z2, by simp, z3⟩
      | succ i => simpa [adrs] using h3 i x (by simpa using hx)
    · cases e
  | .by j :: r, _, xs, .cons h t, e => by
    unfold toPV at e
    split at e
    · rename_i ds e0
      split at e
      · rename_i ys e1
        cases e
        obtain ⟨h1, h2, h3⟩ := args_ok R t e1
        refine ⟨by simp [h1], by simp [h2], fun i x hx => ?_⟩
        cases i with
        | zero =>
          simp at hx
          subst hx
          obtain ⟨y, f1, f2⟩ := ownAt_some e0
          obtain ⟨a, us, g1, g2, g3, g4⟩ := R.own f1 f2
          have hv := slot_same h g1
          subst hv
          refine ⟨some a, .ref a, by simp [adrs, g2], rfl, a, us, rfl, rfl, .inr (List.mem_of_getElem? g2), g3, g4.mono fun b o z => ?_⟩
          obtain ⟨z1, z2, z3⟩ := hd_some.mp z
          exact hd_some.mpr ⟨fun y => y.elim z1 z2, by simp, z3⟩
        | succ i => simpa [adrs] using h3 i x (by simpa using hx)
      · cases e
    · cases e
/-- behind a call: the slots by what came out -/
theorem Rel.called {G : Ent} {L : List (Option Addr)} {ρ ρ' : REnv} {σ : L2.St} {H H' : Hp} {as : List Ag} {outs : List (Option (List PyData))} (R : Rel K G L ρ σ H) (h1 : oneBy as = true) (h2 : setOuts ρ as outs = some ρ')
    (hl : ∀ i, .by i ∈ as → ∃ ds, ownAt ρ i = some ds) (af : After K (fun b => G.N b ∨ some b ∈ L) (adrs L as) outs H H') : Rel K G L ρ' σ H' ∧ Ew L H H' := by
  have ew : Ew L H H' := ⟨fun b o n e => af.keep b o (fun m => n (adrs_mem m)) e, af.there⟩
  refine ⟨?_, ew⟩
  rcases oneBy_split h1 with hp | ⟨pre, i, post, rfl, hq, hp⟩
  · rw [setOuts_pl hp h2]
    refine R.mono fun b o e => af.keep b o (fun m => ?_) e
    obtain ⟨j, hj⟩ := List.mem_iff_getElem?.mp m
    exact adrs_pl hp j b hj
  · obtain ⟨ds', x, o1, o2, rfl⟩ := setOuts_one hq hp h2
    obtain ⟨ds, e0⟩ := hl i (by simp)
    obtain ⟨y, f1, f2⟩ := ownAt_some e0
    rw [o2] at f1
    cases f1
    obtain ⟨a, us, g1, g2, g3, g4⟩ := R.own o2 f2
    have ha : (adrs L (pre ++ .by i :: post))[pre.length]? = some (some a) := by
      have : ∀ pre : List Ag, (adrs L (pre ++ .by i :: post))[pre.length]? = some (L[i]?).join := fun pre => by
        induction pre with
        | nil => rfl
        | cons c pre ih => cases c <;> simpa [adrs] using ih
      rw [this pre, g2]; rfl
    obtain ⟨ws, k1, k2⟩ := af.out pre.length a ds' ha o1
    have key : ∀ b o, b ≠ a → H b = some o → H' b = some o := fun b o hb e => af.keep b o (fun m => by
      obtain ⟨j, hj⟩ := List.mem_iff_getElem?.mp m
      obtain ⟨_, hj2⟩ := adrs_one hq hp j b hj
      rw [g2] at hj2
      cases hj2
      exact hb rfl) e
    have le : Le H (upd H' a (.lst us)) := fun b o e => by
      by_cases hb : b = a
      · subst hb; rw [g3] at e; cases e; exact upd_same
      · rw [upd_ne hb]; exact key b o hb e
    have ma : some a ∈ L := List.mem_of_getElem? g2
    have R2 := (R.mono le).write (vs' := ws) (ds' := ds') o2 f2 g2 (k2.mono fun b o z => by
      obtain ⟨z1, z2, z3⟩ := hd_some.mp z
      have hb : b ≠ a := fun y => z1 (by rw [y]; exact .inr ma)
      exact hd_some.mpr ⟨fun y => z1 (.inl y), fun y => z1 (.inr y), by rw [upd_ne hb]; exact z3⟩)
    have e : upd (upd H' a (.lst us)) a (.lst ws) = H' := by
      rw [upd_upd]
      funext b
      by_cases hb : b = a
      · subst hb; rw [upd_same, k1]
      · rw [upd_ne hb]
    rw [e] at R2
    exact R2
theorem toPV_by : ∀ {ρ : REnv} {as : List Ag} {xs : List PV}, toPV ρ as = some xs → ∀ i, .by i ∈ as → ∃ ds, ownAt ρ i = some ds
  | ρ, .pl d :: r, xs, e, i, h => by
    unfold toPV at e
    split at e
    · rename_i ys e1
      exact toPV_by e1 i (by simpa using h)
    · cases e
  | ρ, .by j :: r, xs, e, i, h => by
    unfold toPV at e
    split at e
    · rename_i ds e0
      split at e
      · rename_i ys e1
        rcases List.mem_cons.mp h with z | z
        · cases z; exact ⟨ds, e0⟩
        · exact toPV_by e1 i z
      · cases e
    · cases e
theorem sem_call {n : Nat} {F : Fn} {t : TA} {fa : G1} (h : SemC K t fa) {G : Ent} {L : List (Option Addr)} {ρ ρ' : REnv} {σ : L2.St} {H : Hp} {r : Ret} {Q : VK} (R : Rel K G L ρ σ H) (hn : ∀ as ρ1, fa ρ = some (as, ρ1) → as.length = n) (e : fCall F fa ρ = some (r, ρ'))
    (q : ∀ v H' L', LS L' L → Rel K G L' ρ' σ H' → Ew L H H' → (match r with
      | .pl d => Rp K (hd G.N L' H') v d
      | .fr ds => ∃ p vs, v = .ref p ∧ H p = none ∧ H' p = some (.lst vs) ∧ some p ∉ L' ∧ RpA K (hd (G.hide p).N L' H') vs ds) → Q v H') :
    t σ H fun vs H1 => spF K n F vs H1 Q E0 := by
  unfold fCall at e
  split at e
  · cases e
  rename_i as ρ1 e1
  split at e
  · rename_i ho
    split at e
    · cases e
    rename_i xs e2
    split at e
    · cases e
    rename_i r' outs e3
    split at e
    · cases e
    rename_i ρ2 e4
    cases e
    refine h G L ρ σ H _ as ρ1 R e1 fun vs H1 L1 s1 R1 w1 ao => ?_
    obtain ⟨l1, l2, l3⟩ := args_ok R1 ao e2
    have hl := hn as ρ1 e1
    refine ⟨fun b => G.N b ∨ some b ∈ L1, adrs L1 as, xs, r, outs, e3, by omega, by omega, by rw [adrs_len]; exact hl, l3, fun i j a h1 h2 => ?_, R1.alloc, fun a m => .inr (adrs_mem m), fun v H' af ro => ?_⟩
    · rcases oneBy_split ho with hp | ⟨pre, k, post, rfl, hq, hp⟩
      · exact absurd h1 (adrs_pl hp i a)
      · rw [(adrs_one hq hp i a h1).1, (adrs_one hq hp j a h2).1]
    · obtain ⟨R2, w2⟩ := R1.called ho e4 (toPV_by e2) af
      refine q v H' L1 s1 R2 (w1.trans w2 s1) ?_
      cases r with
      | pl d =>
        refine Rp.mono (fun b o z => ?_) ro
        obtain ⟨z1, z2, z3⟩ := hd_some.mp z
        exact hd_some.mpr ⟨fun y => z1 (.inl y), fun y => z1 (.inr y), z3⟩
      | fr ds =>
        obtain ⟨p, ws, rfl, k1, k2, k3⟩ := ro
        have fp := R1.fresh k1
        refine ⟨p, ws, rfl, w1.free k1, k2, fp.2.1, k3.mono fun b o z => ?_⟩
        obtain ⟨z1, z2, z3⟩ := hd_some.mp z
        exact hd_some.mpr ⟨fun y => z1 (y.elim (fun y => .inl (.inl y)) .inr), fun y => z1 (.inl (.inr y)), z3⟩
  · cases e

theorem sem_callE {n : Nat} {F : Fn} {t : TA} {fa : G1} (h : SemC K t fa) (hn : ∀ ρ as ρ1, fa ρ = some (as, ρ1) → as.length = n) :
    SemE K (fun σ H Q => t σ H fun vs H1 => spF K n F vs H1 Q E0) (fCallE F fa) := by
  intro G L ρ σ H Q d ρ' R e q
  unfold fCallE at e
  split at e
  · rename_i d' ρ1 e1
    cases e
    exact sem_call h R (hn ρ) e1 fun v H' L' s R' w r => q v H' L' s R' w r
  · rename_i ds ρ1 e1
    cases e
    refine sem_call h R (hn ρ) e1 fun v H' L' s R' w ⟨p, vs, ev, hp, h1, hl, r⟩ => ?_
    subst ev
    have hf := R.fresh hp
    exact q _ H' L' s R' w (.lst (hd_some.mpr ⟨hf.1, hl, h1⟩) (r.mono hd_unhide))
  · cases e
/-- a call that hands back a new list, with data alone -/
def fCallF (F : Fn) (fa : G1) : A1 := fun ρ => match fa ρ with
  | none => none
  | some (as, ρ1) => if as.all isPl then match toPV ρ1 as with
    | none => none
    | some xs => match F xs with
      | some (.fr ds, _) => some (ds, ρ1)
      | _ => none
    else none
theorem sem_callF {n : Nat} {F : Fn} {t : TA} {fa : G1} (h : SemC K t fa) (hn : ∀ ρ as ρ1, fa ρ = some (as, ρ1) → as.length = n) :
    SemF K (fun σ H Q => t σ H fun vs H1 => spF K n F vs H1 Q E0) (fCallF F fa) := by
  intro G L ρ σ H Q d ρ' R e q
  unfold fCallF at e
  split at e
  · cases e
  rename_i as ρ1 e1
  split at e
  · rename_i hp
    split at e
    · cases e
    rename_i xs e2
    split at e
    · rename_i ds outs e3
      cases e
      refine h G L ρ σ H _ as ρ' R e1 fun vs H1 L1 s1 R1 w1 ao => ?_
      obtain ⟨l1, l2, l3⟩ := args_ok R1 ao e2
      have hl := hn ρ as ρ' e1
      refine ⟨fun b => G.N b ∨ some b ∈ L1, adrs L1 as, xs, .fr d, outs, e3, by omega, by omega, by rw [adrs_len]; exact hl, l3, fun i j a h1 h2 => absurd h1 (adrs_pl hp i a), R1.alloc, fun a m => .inr (adrs_mem m), fun v H' af ro => ?_⟩
      obtain ⟨p, ws, rfl, k1, k2, k3⟩ := ro
      have le : Le (upd H1 p (.lst ws)) H' := fun b o z => by
        by_cases hb : b = p
        · subst hb; rw [upd_same] at z; cases z; exact k2
        · rw [upd_ne hb] at z
          refine af.keep b o (fun m => ?_) z
          obtain ⟨j, hj⟩ := List.mem_iff_getElem?.mp m
          exact adrs_pl hp j b hj
      have le1 : Le H1 H' := (Le.new k1).trans le
      refine q p ws H' L1 s1 (w1.free k1) k2 ((R1.hide k1).mono le) (w1.trans (le1.ew (L := L1)) s1) (k3.mono fun b o z => ?_)
      obtain ⟨z1, z2, z3⟩ := hd_some.mp z
      exact hd_some.mpr ⟨fun y => z1 (y.elim (fun y => .inl (.inl y)) .inr), fun y => z1 (.inl (.inr y)), z3⟩
    · cases e
  · cases e
/-- a new list handed in -/
def fTmp (F : Fn) (fe : A1) : REnv → Option (Ret × REnv) := fun ρ => match fe ρ with
  | none => none
  | some (ds, ρ1) => match F [.rf ds] with
    | none => none
    | some (r, _) => some (r, ρ1)
def fTmpE (F : Fn) (fe : A1) : D1 := fun ρ => match fTmp F fe ρ with
  | some (.pl d, ρ1) => some (d, ρ1)
  | _ => none
theorem sem_tmpE {F : Fn} {fe : A1} (h : SemF K te fe) : SemE K (fun σ H Q => tCons te tNil σ H fun vs H1 => spF K 1 F vs H1 Q E0) (fTmpE F fe) := by
  intro G L ρ σ H Q d ρ' R e q
  unfold fTmpE at e
  split at e
  · rename_i d' ρ1 e1
    cases e
    unfold fTmp at e1
    split at e1
    · cases e1
    rename_i ds ρ2 e2
    split at e1
    · cases e1
    rename_i r outs e3
    cases e1
    refine h G L ρ σ H _ ds ρ' R e2 fun p vs H1 L1 s1 hp h1 R1 w1 r1 => ?_
    have hf := R.fresh hp
    have hl : some p ∉ L1 := fun m => hf.2.1 (s1.mem m)
    refine ⟨fun b => (G.N b ∨ b = p) ∨ some b ∈ L1, [some p], [.rf ds], .pl d, outs, e3, rfl, rfl, rfl, fun i x hx => ?_, fun i j a a1 a2 => ?_, fun b z => ?_, fun a m => ?_, fun v H' af ro => ?_⟩
    · cases i with
      | zero =>
        simp at hx
        subst hx
        exact ⟨some p, .ref p, rfl, rfl, p, vs, rfl, rfl, .inl (.inr rfl), h1, r1.mono fun b o z => by
          obtain ⟨z1, z2, z3⟩ := hd_some.mp z
          exact hd_some.mpr ⟨fun y => y.elim z1 z2, by simp, z3⟩⟩
      | succ i => simp at hx
    · cases i with
      | zero => cases j with
        | zero => rfl
        | succ j => simp at a2
      | succ i => simp at a1
    · exact R1.alloc b z
    · simp at m; subst m; exact .inl (.inr rfl)
    · obtain ⟨o, ho⟩ := af.there p _ h1
      have le : Le H1 (upd H' p (.lst vs)) := fun b u e => by
        by_cases hb : b = p
        · subst hb; rw [h1] at e; cases e; exact upd_same
        · rw [upd_ne hb]
          exact af.keep b u (by simp only [List.mem_cons, Option.some.injEq, List.not_mem_nil, or_false]; exact hb) e
      have R2 := (R1.mono le).wr (p := p) (o := o) (.inr rfl) hl hf.2.2
      have e : upd (upd H' p (.lst vs)) p o = H' := by
        rw [upd_upd]
        funext b
        by_cases hb : b = p
        · subst hb; rw [upd_same, ho]
        · rw [upd_ne hb]
      rw [e] at R2
      have w2 : Ew L H H' := ⟨fun b u n z => af.keep b u (by simp only [List.mem_cons, Option.some.injEq, List.not_mem_nil, or_false]; exact ne_of_none z hp) (w1.1 b u n z), fun b u z => by
        obtain ⟨u2, z2⟩ := w1.2 b u z
        exact af.there b u2 z2⟩
      refine q v H' L1 s1 (R2.unhide R.bd) w2 (Rp.mono (fun b o z => ?_) ro)
      obtain ⟨z1, z2, z3⟩ := hd_some.mp z
      exact hd_some.mpr ⟨fun y => z1 (.inl (.inl y)), fun y => z1 (.inr y), z3⟩
  · cases e
end

/-! ### by keywords -/
def pick {α : Type} (perm : List Nat) (l : List α) : List α := perm.filterMap fun i => l[i]?
theorem pick_vals : ∀ (perm : List Nat) {vs : List V} {us : List Value}, Vals vs us → Vals (pick perm vs) (pick perm us)
  | [], _, _, _ => .nil
  | i :: r, vs, us, h => by
    unfold pick
    rw [List.filterMap_cons, List.filterMap_cons]
    cases e : vs[i]? with
    | none =>
      rw [h.none_of e]
      exact pick_vals r h
    | some v =>
      obtain ⟨u, h1, h2⟩ := h.get e
      rw [h1]
      exact .cons h2 (pick_vals r h)
theorem pick_rp {K : PySem.W.Frag} {H : Hp} : ∀ (perm : List Nat) {vs : List V} {ds : List PyData}, RpA K H vs ds → RpA K H (pick perm vs) (pick perm ds)
  | [], _, _, _ => .nil
  | i :: r, vs, ds, h => by
    unfold pick
    rw [List.filterMap_cons, List.filterMap_cons]
    cases e : ds[i]? with
    | none =>
      have : vs[i]? = none := by
        rw [List.getElem?_eq_none_iff] at e ⊢
        rw [h.len]; exact e
      rw [this]
      exact pick_rp r h
    | some d =>
      obtain ⟨v, h1, h2⟩ := h.get e
      rw [h1]
      exact .cons h2 (pick_rp r h)
theorem pe_callK {X : Cx} {k : Nat} {f : Addr} {fd : FuncData} {ps ks : List Str} {sp : Sp} {x : Str} {p pos : Pos} {kws : List Keyword} {tk : TA} (perm : List Nat)
    (F : FnG X.prog X.w X.K X.mg X.base k f fd ps sp) (c : Cl0 X.A) (hr : Room k X.A) (hg : Gl X x) (hm : X.mg x = some (.ref f)) (hk : PySem.W.keepIn X.K (.ref f) = true)
    (hb : ∀ (s : Shared) (us : List Value), us.length = ks.length → BindsTo s fd ⟨[], ks.zip us⟩ (ps.zip (pick perm us))) (ha : PK X kws tk)
    (hall : (backToKw pos (keywordEach kws X.env)).all (·.1.isSome) = true := by rfl) (hks : (backToKw pos (keywordEach kws X.env)).filterMap (·.1) = ks := by rfl)
    (hdb : (x == ("__debug__" : Str)) = false := by decide)
    (hpl : ((backTo pos (starEach [] X.env)).any (·.1) || (backToKw pos (keywordEach kws X.env)).any (·.1.isNone)) = false := by rfl) :
    PE X (.Call (.Name x p) [] kws pos) (fun σ H Q => tk σ H fun zs H1 => zs.length = ks.length ∧ sp (pick perm zs) H1 Q E0) := by
  constructor
  intro pins s σ H Q I h
  refine wpAny_Call_Name_kw (ld_glob I hg hm (PySem.W.callWith_KW0 (h₀ := X.base) I.ok.mod.kin hk hall (thn (ha.run pos pins s σ H _ I h) ?_) hpl) hdb)
  rintro us s1 ⟨zs, H1, I1, r, hz, q⟩
  refine ⟨I1.kIn, ?_⟩
  rw [hks]
  refine wpAny_call (codeAny_mono (F.go X.A X.stack s1 H1 ⟨[], ks.zip us⟩ (pick perm us) (pick perm zs) Q c hr I1.env0 (hb s1 us (by rw [← r.length]; exact hz)) (pick_vals perm r) q) fun re s' hq => ?_)
  obtain ⟨u, rfl, ep⟩ := FnG.ends I1 hq
  exact ep
def fCallK (F : Fn) (perm : List Nat) (m : Nat) (fk : A1) : D1 := fun ρ => match fk ρ with
  | none => none
  | some (ds, ρ1) => if ds.length = m then match F ((pick perm ds).map .pl) with
    | some (.pl d, _) => some (d, ρ1)
    | some (.fr es, _) => some (.list es, ρ1)
    | none => none
    else none
theorem sem_callK {K : PySem.W.Frag} {tk : TA} {fk : A1} {n m : Nat} {F : Fn} (perm : List Nat) (h : SemA K tk fk) (hp : ∀ ds : List PyData, ds.length = m → (pick perm ds).length = n) :
    SemE K (fun σ H Q => tk σ H fun zs H1 => zs.length = m ∧ spF K n F (pick perm zs) H1 Q E0) (fCallK F perm m fk) := by
  intro G L ρ σ H Q d ρ' R e q
  unfold fCallK at e
  split at e
  · cases e
  rename_i ds ρ1 e1
  split at e
  · rename_i hm
    have go : ∀ (r : Ret) (outs : List (Option (List PyData))) (ρ2 : REnv), F ((pick perm ds).map .pl) = some (r, outs) → ρ2 = ρ1 → (match r with | .pl d' => d' = d | .fr es => .list es = d) → ρ1 = ρ' → tk σ H fun zs H1 => zs.length = m ∧ spF K n F (pick perm zs) H1 Q E0 := by
      rintro r outs ρ2 e2 rfl er rfl
      refine h G L ρ σ H _ ds ρ2 R e1 fun vs H1 L1 s1 R1 w1 r1 => ⟨by rw [r1.len]; exact hm, ?_⟩
      have rp := pick_rp perm r1
      have hlen := hp ds hm
      refine ⟨fun b => G.N b ∨ some b ∈ L1, List.replicate n none, (pick perm ds).map .pl, r, outs, e2, by simp [hlen], by rw [rp.len, hlen], by simp, fun i x hx => ?_, fun i j a h1 h2 => ?_, R1.alloc, fun a m => ?_, fun v H' af ro => ?_⟩
      · rw [List.getElem?_map] at hx
        cases e3 : (pick perm ds)[i]? with
        | none => rw [e3] at hx; cases hx
        | some dd =>
          rw [e3] at hx
          cases hx
          obtain ⟨v, g1, g2⟩ := rp.get e3
          have hi : i < n := by rw [← hlen]; exact (List.getElem?_eq_some_iff.mp e3).1
          refine ⟨none, v, by rw [List.getElem?_replicate, if_pos hi], g1, rfl, g2.mono fun b o z => ?_⟩
          obtain ⟨z1, z2, z3⟩ := hd_some.mp z
          exact hd_some.mpr ⟨fun y => y.elim z1 z2, by simp, z3⟩
      · rw [List.getElem?_replicate] at h1
        split at h1 <;> cases h1
      · simp at m
      · have le : Le H1 H' := fun b o z => af.keep b o (by simp) z
        have w2 : Ew L H H' := w1.trans (le.ew (L := L1)) s1
        cases r with
        | pl d' =>
          cases er
          refine q v H' L1 s1 (R1.mono le) w2 (Rp.mono (fun b o z => ?_) ro)
          obtain ⟨z1, z2, z3⟩ := hd_some.mp z
          exact hd_some.mpr ⟨fun y => z1 (.inl y), fun y => z1 (.inr y), z3⟩
        | fr es =>
          cases er
          obtain ⟨p, ws, rfl, k1, k2, k3⟩ := ro
          have fp := R1.fresh k1
          refine q _ H' L1 s1 (R1.mono le) w2 (.lst (hd_some.mpr ⟨fp.1, fp.2.1, k2⟩) (k3.mono fun b o z => ?_))
          obtain ⟨z1, z2, z3⟩ := hd_some.mp z
          exact hd_some.mpr ⟨fun y => z1 (.inl (.inl y)), fun y => z1 (.inl (.inr y)), z3⟩
    split at e
    · rename_i d' outs e2
      cases e
      exact go _ outs ρ' e2 rfl rfl rfl
    · rename_i es outs e2
      cases e
      exact go _ outs ρ' e2 rfl rfl rfl
    · cases e
  · cases e
end Dv

/-! Dv: in, reversed slices, tuples of ranges, comprehensions of two clauses. -/
namespace Dv
open PySem PySem.Spec PyProof.Rows L2

section
variable {K : PySem.W.Frag}
/-! ### in, not in -/
def gInL (neg : Bool) : G2 := fun x y => match y with
  | .list ds => if SeqAt.shaped x && SeqAt.shaped (.list ds) then some (.bool (if neg then !ds.any fun z => PyData.eqv z x else ds.any fun z => PyData.eqv z x)) else none
  | _ => none
theorem s_inL : OpS K (rInD K) (gInL false) := by
  intro N L H x y dx dy dz Q A hx hy e q
  unfold gInL at e
  split at e
  · split at e
    · rename_i ds h
      cases e
      simp only [Bool.and_eq_true] at h
      exact ⟨dx, ds, hx.dp hd_le (SeqAt.canLay_of_shaped h.1), hy.dp hd_le (SeqAt.canLay_of_shaped h.2), h.1, h.2, q _ H (.refl H) (.bl _)⟩
    · cases e
  · cases e
theorem s_notInL : OpS K (rNotInD K) (gInL true) := by
  intro N L H x y dx dy dz Q A hx hy e q
  unfold gInL at e
  split at e
  · split at e
    · rename_i ds h
      cases e
      simp only [Bool.and_eq_true] at h
      exact ⟨dx, ds, hx.dp hd_le (SeqAt.canLay_of_shaped h.1), hy.dp hd_le (SeqAt.canLay_of_shaped h.2), h.1, h.2, q _ H (.refl H) (.bl _)⟩
    · cases e
  · cases e
def gInT (neg : Bool) : G2 := fun x y => match x, y with
  | .int i, .tuple ds => match intsOf ds with
    | some ns => some (.bool (if neg then !(ns.any fun n => n == i) else ns.any fun n => n == i))
    | none => none
  | _, _ => none
theorem inV_ints (i : Int) : ∀ ns : List Int, inV (.int i) (ns.map V.int) = ns.any fun n => n == i
  | [] => rfl
  | n :: ns => by
    have := inV_ints i ns
    unfold inV at this ⊢
    rw [List.map_cons, List.any_cons, this, List.any_cons]
    rfl
theorem flat_ints : ∀ ns : List Int, (ns.map V.int).all flatV = true
  | [] => rfl
  | n :: ns => by rw [List.map_cons, List.all_cons, flat_ints ns]; rfl
theorem s_inT (neg : Bool) : OpS K (rIn K neg) (gInT neg) := by
  intro N L H x y dx dy dz Q A hx hy e q
  unfold gInT at e
  split at e
  · split at e
    · rename_i i ds ns e1
      cases e
      have z := intsOf_some e1
      subst z
      have hx' := hx.int_of
      subst hx'
      cases hy with
      | tup h1 hh1 r1 =>
        have v := r1.ints
        subst v
        refine ⟨_, _, rfl, .inr h1, rfl, flat_ints ns, ?_⟩
        rw [inV_ints]
        exact q _ H (.refl H) (.bl _)
    · cases e
  · cases e
def gIn : G2 := gOr (gInT false) (gInL false)
def gNotIn : G2 := gOr (gInT true) (gInL true)
def rInA (K : PySem.W.Frag) : R2 := fun x y H Q => rIn K false x y H Q ∨ rInD K x y H Q
def rNotInA (K : PySem.W.Frag) : R2 := fun x y H Q => rIn K true x y H Q ∨ rNotInD K x y H Q
theorem s_in : OpS K (rInA K) gIn := ops_or (s_inT false) s_inL
theorem s_notIn : OpS K (rNotInA K) gNotIn := ops_or (s_inT true) s_notInL
theorem o_in {X : Cx} (hu : X.A.units + 65 < cLine) : OpR X (compareOp .In) (rInA X.K) := op_in_seq.or (op_inD hu)
theorem o_notIn {X : Cx} (hu : X.A.units + 65 < cLine) : OpR X (compareOp .NotIn) (rNotInA X.K) := op_notIn_seq.or (op_notInD hu)

/-! ### tuple(range(..)) -/
def SemR (K : PySem.W.Frag) (t : L2.St → Hp → (Int → Int → Hp → Prop) → Prop) (f : REnv → Option ((Int × Int) × REnv)) : Prop := ∀ (G : Ent) (L : List (Option Addr)) (ρ : REnv) (σ : L2.St) (H : Hp) (Q : Int → Int → Hp → Prop) (a b : Int) (ρ' : REnv),
  Rel K G L ρ σ H → f ρ = some ((a, b), ρ') → (∀ H' L', LS L' L → Rel K G L' ρ' σ H' → Ew L H H' → Q a b H') → t σ H Q
def fRg1 (fa : D1) : REnv → Option ((Int × Int) × REnv) := fun ρ => match fa ρ with
  | some (.int n, ρ1) => some ((0, n), ρ1)
  | _ => none
def fRg2 (fa fb : D1) : REnv → Option ((Int × Int) × REnv) := fun ρ => match fa ρ with
  | some (.int i, ρ1) => match fb ρ1 with
    | some (.int j, ρ2) => some ((i, j), ρ2)
    | _ => none
  | _ => none
theorem sem_rg1 {ta : TE} {fa : D1} (h : SemE K ta fa) : SemR K (tRg1 ta) (fRg1 fa) := by
  intro G L ρ σ H Q a b ρ' R e q
  unfold fRg1 at e
  split at e
  · rename_i n ρ1 e1
    cases e
    exact h G L ρ σ H _ _ ρ' R e1 fun v H1 L1 s1 R1 w1 r1 => ⟨_, r1.int_of, q H1 L1 s1 R1 w1⟩
  · cases e
theorem sem_rg2 {ta tb : TE} {fa fb : D1} (h : SemE K ta fa) (h2 : SemE K tb fb) : SemR K (tRg2 ta tb) (fRg2 fa fb) := by
  intro G L ρ σ H Q a b ρ' R e q
  unfold fRg2 at e
  split at e
  · rename_i i ρ1 e1
    split at e
    · rename_i j ρ2 e2
      cases e
      exact h.two h2 R e1 e2 fun x y H1 L1 s1 R1 w1 r1 r2 => ⟨_, _, r1.int_of, r2.int_of, q H1 L1 s1 R1 w1⟩
    · cases e
  · cases e
def okRg (a b : Int) : Bool := decide (-(2 ^ 62) ≤ a ∧ a < 2 ^ 62 ∧ -(2 ^ 62) ≤ b ∧ b < 2 ^ 62 ∧ (b - a).toNat ≤ 2 ^ 24)
theorem rgV_eq (a b : Int) : rgV a b = ((List.range (b - a).toNat).map fun (i : Nat) => a + (i : Int)).map V.int := by
  unfold rgV
  rw [List.map_map]
  rfl
theorem rangeD_ints (lo : Int) (n : Nat) : rangeD lo n = ((List.range n).map fun (i : Nat) => lo + (i : Int)).map .int := by
  unfold rangeD
  rw [List.map_map]
  rfl
def fTupR (f : REnv → Option ((Int × Int) × REnv)) : D1 := fun ρ => match f ρ with
  | some ((a, b), ρ1) => if okRg a b then some (.tuple (rangeD a (b - a).toNat), ρ1) else none
  | none => none
theorem sem_tupR {t : L2.St → Hp → (Int → Int → Hp → Prop) → Prop} {f : REnv → Option ((Int × Int) × REnv)} (h : SemR K t f) : SemE K (tTupRg t) (fTupR f) := by
  intro G L ρ σ H Q d ρ' R e q
  unfold fTupR at e
  split at e
  · rename_i a b ρ1 e1
    split at e
    · rename_i hc
      cases e
      refine h G L ρ σ H _ a b ρ' R e1 fun H1 L1 s1 R1 w1 => ⟨(of_decide_eq_true hc : -(2 ^ 62) ≤ a ∧ a < 2 ^ 62 ∧ -(2 ^ 62) ≤ b ∧ b < 2 ^ 62 ∧ (b - a).toNat ≤ 2 ^ 24), fun p hp => ?_⟩
      have le : Le H1 (upd H1 p (.tup (rgV a b))) := Le.new hp
      refine q _ _ L1 s1 (R1.mono le) (w1.trans (le.ew (L := L1)) s1) ?_
      rw [rangeD_ints]
      refine .tup (.of (R1.alloc.new hp)) ?_
      rw [rgV_eq]
      exact RpA.of_ints _
    · cases e
  · cases e
def fLstR (f : REnv → Option ((Int × Int) × REnv)) : A1 := fun ρ => match f ρ with
  | some ((a, b), ρ1) => if okRg a b then some (rangeD a (b - a).toNat, ρ1) else none
  | none => none
theorem semF_lstR {t : L2.St → Hp → (Int → Int → Hp → Prop) → Prop} {f : REnv → Option ((Int × Int) × REnv)} (h : SemR K t f) : SemF K (tLstRg t) (fLstR f) := by
  intro G L ρ σ H Q d ρ' R e q
  unfold fLstR at e
  split at e
  · rename_i a b ρ1 e1
    split at e
    · rename_i hc
      cases e
      refine h G L ρ σ H _ a b ρ' R e1 fun H1 L1 s1 R1 w1 => ⟨(of_decide_eq_true hc : -(2 ^ 62) ≤ a ∧ a < 2 ^ 62 ∧ -(2 ^ 62) ≤ b ∧ b < 2 ^ 62 ∧ (b - a).toNat ≤ 2 ^ 24), fun p hp => ?_⟩
      refine q p _ _ L1 s1 (w1.free hp) upd_same (R1.hide hp) (w1.trans ((Le.new hp).ew (L := L1)) s1) ?_
      rw [rangeD_ints, rgV_eq]
      exact RpA.of_ints _
    · cases e
  · cases e

/-! ### xs[::-1], of a list or a tuple -/
def gRev : PyData → Option PyData := fun x => match x with
  | .list ds => some (.list ds.reverse)
  | .tuple ds => some (.tuple ds.reverse)
  | _ => none
/-- a new object each time (a tuple's own may come back where that is the same) -/
def rRev (K : PySem.W.Frag) : V → Hp → VK → Prop := fun x H Q => ∃ a xs, x = .ref a ∧ ((SqL K H a xs ∧ ∀ p, H p = none → Q (.ref p) (upd H p (.lst xs.reverse))) ∨ (SqT K H a xs ∧ ∀ p, H p = none → Q (.ref p) (upd H p (.tup xs.reverse))))
theorem s_rev : UnS K (rRev K) gRev := by
  intro N L H x dx dz Q A hx e q
  unfold gRev at e
  split at e
  · cases e
    cases hx with
    | lst h1 r1 => exact ⟨_, _, rfl, .inl ⟨.of h1, fun p hp => q _ _ (Le.new hp) (.lst (A.new hp) (r1.reverse.mono (hd_mono (Le.new hp))))⟩⟩
  · cases e
    cases hx with
    | tup h1 hh1 r1 => exact ⟨_, _, rfl, .inr ⟨h1, fun p hp => q _ _ (Le.new hp) (.tup (.of (A.new hp)) (r1.reverse.mono (hd_mono (Le.new hp))))⟩⟩
  · cases e

/-! ### {} -/
def fDic : D1 := fun ρ => some (.dict [], ρ)
theorem sem_dic {t : TE} (h : ∀ σ H Q, (∀ d, H d = none → Q (.ref d) (upd H d (.dK []))) → t σ H Q) : SemE K t fDic := by
  intro G L ρ σ H Q d ρ' R e q
  cases e
  refine h σ H Q fun p hp => ?_
  exact q _ _ L (.refl L) (R.mono (Le.new hp)) ((Le.new hp).ew (L := L)) (.dic (R.alloc.new hp))
end

section
variable {prog : Program} {w : World} {A : Around} {E : Value → Shared → Prop} {s : Shared}
theorem back_pick (xs : List Value) : ((List.range xs.length).filterMap fun (k : Nat) => xs.toArray[(((xs.length : Int) - 1) + (k : Int) * (-1)).toNat]?) = xs.reverse := by
  have e : ∀ k, k < xs.length → xs.toArray[(((xs.length : Int) - 1) + (k : Int) * (-1)).toNat]? = xs.reverse[k]? := fun k hk => by
    have h1 : (((xs.length : Int) - 1) + (k : Int) * (-1)).toNat = xs.length - 1 - k := by omega
    rw [h1, List.getElem?_reverse hk]
    simp
  have e2 : ∀ n, n ≤ xs.length → ((List.range n).filterMap fun (k : Nat) => xs.toArray[(((xs.length : Int) - 1) + (k : Int) * (-1)).toNat]?) = xs.reverse.take n := fun n => by
    induction n with
    | zero => intro _; rfl
    | succ n ih =>
      intro hn
      rw [List.range_succ, List.filterMap_append, ih (by omega), List.take_add_one]
      congr 1
      rw [List.filterMap_cons, e n (by omega)]
      cases hq : xs.reverse[n]? <;> rfl
  rw [e2 xs.length (Nat.le_refl _)]
  exact List.take_of_length_le (by simp)
theorem back_applied {sl : Addr} {vl vu vs : Value} {n : Nat} {Q : Int × Int × Nat → Shared → Prop} (hs : s.heap.IsSliceOf sl vl vu vs) (pl : IsPart vl none) (pu : IsPart vu none) (ps : IsPart vs (some (-1)))
    (h : Q ((n : Int) - 1, -1, n) s) : wpAny (model prog w) A (Builtin.Slice.sliceApplied (.ref sl) (pure (n : Int))) Q E s := by
  obtain ⟨os, a1, a2, a3⟩ := id hs
  cases pl
  cases pu
  cases ps with
  | int i t =>
  unfold Builtin.Slice.sliceApplied
  unfold Builtin.Slice.sliceFields
  have f3 : ∀ R : Value × Value × Value → Shared → Prop, R (Value.none, Value.none, Value.int (-1) t) s → wpAny (model prog w) A (Builtin.Slice.sliceFields (.ref sl)) R E s := fun R hR => by
    unfold Builtin.Slice.sliceFields
    refine wpAny_bind (wpAny_field a1 a3 (x := .none) rfl ?_)
    refine wpAny_bind (wpAny_field a1 a3 (x := .none) rfl ?_)
    exact wpAny_bind (wpAny_field a1 a3 (x := .int (-1) t) rfl (wpAny_pure hR))
  refine wpAny_bind (f3 _ (wpAny_bind (HT.slicePart_ (.int (-1) t) ?_)))
  show wpAny _ _ (if ((-1 : Int) == 0) = true then _ else _) _ _ s
  rw [if_neg (by decide)]
  refine wpAny_bind (HT.slicePart_ .none ?_)
  refine wpAny_bind (HT.slicePart_ .none ?_)
  refine wpAny_bind (wpAny_pure ?_)
  have e1 : Builtin.Slice.sliceAdjust none none (-1) (n : Int) = ((n : Int) - 1, -1) := rfl
  have e2 : Builtin.Slice.slicePlaces ((n : Int) - 1) (-1) (-1) = n := by
    unfold Builtin.Slice.slicePlaces
    rw [if_neg (by decide)]
    by_cases h0 : n = 0
    · subst h0; rfl
    · rw [if_pos (by omega)]
      have : ((n : Int) - 1 - -1 - 1) / - -1 + 1 = n := by
        rw [show (- -1 : Int) = 1 by decide, Int.ediv_one]; omega
      rw [this]; omega
  show wpAny _ _ (match Builtin.Slice.sliceAdjust none none (-1) (n : Int) with | (lo, hi) => pure (lo, (-1 : Int), Builtin.Slice.slicePlaces lo hi (-1))) _ _ s
  rw [e1]
  show wpAny _ _ (pure ((n : Int) - 1, (-1 : Int), Builtin.Slice.slicePlaces ((n : Int) - 1) (-1) (-1))) _ _ s
  rw [e2]
  exact wpAny_pure h
theorem back_tuple {t sl : Addr} {xs : List Value} {vl vu vs : Value} {Q : Value → Shared → Prop} (ht : IsTup s.heap t xs.toArray) (hs : s.heap.IsSliceOf sl vl vu vs) (pl : IsPart vl none) (pu : IsPart vu none) (ps : IsPart vs (some (-1)))
    (h : Q (.ref s.heap.objs.size) { s with heap := s.heap.push { cls := .type "tuple", data := .seq xs.reverse.toArray } }) (hz : xs.length ≤ sizeLine) : wpAny (model prog w) A (getItem (.ref t) (.ref sl)) Q E s := by
  obtain ⟨os, a1, a2, a3⟩ := id hs
  have hT : s.TypeIs (.ref sl) "slice" := ⟨os, a1, a2⟩
  have fit : sizeOk (.seq xs.reverse.toArray) := by
    show xs.reverse.toArray.size ≤ sizeLine
    rw [List.size_toArray, List.length_reverse]; exact hz
  have core : ∀ R : Value → Shared → Prop, R (.ref s.heap.objs.size) { s with heap := s.heap.push { cls := .type "tuple", data := .seq xs.reverse.toArray } } → wpAny (model prog w) A (call (.builtin "tuple.__getitem__") [.ref t, .ref sl]) R E s := fun R h => by
    refine wpAny_call_entry PyProof.Rows.slot_tuple_getitem ht.typeIs entry_tuple_getitem ?_ (args_tuple_getitem _ _)
    show wpAny _ _ (Builtin.Tuple.tupleItemsOf (.ref t) >>= _) _ _ s
    refine wpAny_bind (tupleItemsOf_ ht (wpAny_bind (wpAny_typeOf hT ?_)))
    rw [if_pos (by decide)]
    have hsz : xs.toArray.size = xs.length := by simp
    refine wpAny_bind ?_
    show wpAny _ _ (Builtin.Slice.sliceApplied (.ref sl) (pure ((xs.toArray.size : Nat) : Int))) _ _ s
    rw [hsz]
    refine back_applied hs pl pu ps ?_
    have hno : ¬ ((((xs.length : Int) - 1) == 0 && (-1 : Int) == 1 && xs.length == xs.length) = true) := by
      intro q
      rw [Bool.and_eq_true, Bool.and_eq_true] at q
      exact absurd q.1.2 (by decide)
    show wpAny _ _ (if (((xs.length : Int) - 1) == 0 && (-1 : Int) == 1 && xs.length == xs.toArray.size) = true then _ else _) _ _ s
    rw [hsz, if_neg hno, back_pick]
    first
      | exact wpAny_bind (m := Builtin.Tuple.tupleExact _) (wpAny_newObj_type (wpAny_pure ⟨_, rfl, h⟩) fit)
      | exact wpAny_bind (m := Builtin.Tuple.tupleExact _) (wpAny_newObj_type (wpAny_bind (wpAny_pure (wpAny_pure ⟨_, rfl, h⟩))) fit)
      | exact wpAny_bind (wpAny_bind (m := Builtin.Tuple.tupleExact _) (wpAny_newObj_type (wpAny_pure (wpAny_pure ⟨_, rfl, h⟩)) fit))
      | exact wpAny_bind (wpAny_bind (m := Builtin.Tuple.tupleExact _) (wpAny_newObj_type (wpAny_pure ⟨_, rfl, h⟩) fit))
  unfold getItem
  try with_reducible refine wpAny_holding ?_
  first | refine wpAny_bind (wpAny_pure ?_) | skip
  refine wpAny_bind (wpAny_sequenceKey ht.typeIs (by decide) (wpAny_bind ?_))
  exact wpAny_callSpecial?_slot (name := Str.ofString "__getitem__") ht.typeIs PyProof.Rows.slot_tuple_getitem (core _ (wpAny_pure h))
end
/-- x[::-1], x a list or a tuple -/
theorem pe_rev {X : Cx} {e : Expr} {te : TE} {k : Nat} {p1 p2 p3 pos : Pos} (he : PE X e te) : PE X (.Subscript e (.Slice none none (some (.UnaryOp .USub (.Constant (.int 1) k p1) p2)) p3) pos) (tUn (rRev X.K) te) := by
  constructor
  intro pins s σ H Q I h
  have hst : PO X (some (.UnaryOp .USub (.Constant (.int 1) k p1) p2)) (tPart (tUn (rU fun i => .int (-i)) (tC (.int 1)))) := po_some (pe_un un_neg pe_int)
  refine Subscript_ (thn (he.run pins s σ H _ I h) ?_)
  rintro v s1 ⟨x, H1, I1, r1, a, xs, ex, q⟩
  subst ex
  cases r1
  refine wpAny_Slice (thn (po_none.run pins s1 σ H1 (fun o H2 => o = none ∧ H2 = H1) I1 ⟨rfl, rfl⟩) ?_)
  rintro vl s2 ⟨l, H2, I2, pl, el, e2⟩
  subst el e2
  refine thn (po_none.run pins s2 σ H2 (fun o H3 => o = none ∧ H3 = H2) I2 ⟨rfl, rfl⟩) ?_
  rintro vu s3 ⟨u, H3, I3, pu, eu, e3⟩
  subst eu e3
  refine thn (hst.run pins s3 σ H3 (fun o H4 => o = some (-1) ∧ H4 = H3) I3 ⟨1, rfl, -1, rfl, rfl, rfl⟩) ?_
  rintro vs s4 ⟨o, H4, I4, ps, eo, e4⟩
  subst eo e4
  have I5 : Inv X pins σ H4 { s4 with heap := s4.heap.push { cls := .type "slice", data := .fields #[vl, vu, vs] } } := I4.kept (t' := s4.toks) fun b ob z => Heap.get?_push_of_some _ z
  have new : ∀ {o : HO} {T : String} {its : List Value}, (ObjOk X.prog X.w (upd H4 (s4.heap.push { cls := .type "slice", data := .fields #[vl, vu, vs] }).objs.size o) ((s4.heap.push { cls := .type "slice", data := .fields #[vl, vu, vs] }).push { cls := .type T, data := .seq its.toArray }) (s4.heap.push { cls := .type "slice", data := .fields #[vl, vu, vs] }).objs.size o) →
      (∀ p, H4 p = none → Q (.ref p) (upd H4 p o)) → EP X pins σ Q (.ref (s4.heap.push { cls := .type "slice", data := .fields #[vl, vu, vs] }).objs.size) { s4 with heap := (s4.heap.push { cls := .type "slice", data := .fields #[vl, vu, vs] }).push { cls := .type T, data := .seq its.toArray } } := fun ok q =>
    ⟨.ref _, _, I5.laid (t' := s4.toks) (fun b ob z => Heap.get?_push_of_some _ z) (Nat.le_refl _) ok, rfl, q _ (I5.hok.fresh (Nat.le_refl _))⟩
  rcases q with ⟨hx, q⟩ | ⟨hx, q⟩
  · obtain ⟨its, r, ht, hz⟩ := I5.list hx
    have hlen := r.length
    refine tail_any (ops := [.ref a, .ref s4.heap.objs.size]) ht.isList.typeIs PySem.slot_list_getitem.lookup ?_ (by with_unfolding_all rfl)
    refine wpAny_getItem_list_slice ht.isList (Heap.IsSliceOf.new _ vl vu vs) pl pu ps (by decide) ?_ (by rw [List.size_toArray]; omega)
    rw [PySem.W.krv_pick]
    exact new (o := .lst xs.reverse) ⟨by rw [List.length_reverse]; exact hz, _, 0, r.reverse, Heap.get?_push_size _ rfl⟩ q
  · obtain ⟨its, r, ht, hz⟩ := I5.tuple hx
    have hlen := r.length
    refine tail_any (ops := [.ref a, .ref s4.heap.objs.size]) ht.typeIs PyProof.Rows.slot_tuple_getitem.lookup ?_ (by with_unfolding_all rfl)
    refine back_tuple ht (Heap.IsSliceOf.new _ vl vu vs) pl pu ps ?_ (by omega)
    exact new (o := .tup xs.reverse) ⟨by rw [List.length_reverse]; exact hz, _, r.reverse, _, Heap.get?_push_size _ rfl, rfl, 0, rfl⟩ q
end Dv

/-! Dv: sorted of tuples of ints, of any lengths but 0. -/
namespace Dv
open PySem PySem.Spec PyProof.Rows L2

theorem lexLt_irrefl : ∀ a : List Int, HT.lexLt a a = false
  | [] => rfl
  | x :: xs => by rw [HT.lexLt_cons, if_pos rfl, lexLt_irrefl xs]
theorem lexLt_asym : ∀ {a b : List Int}, HT.lexLt a b = true → HT.lexLt b a = false
  | [], [], h => by cases h
  | [], y :: ys, _ => rfl
  | x :: xs, [], h => by cases h
  | x :: xs, y :: ys, h => by
    rw [HT.lexLt_cons] at h ⊢
    by_cases e : x = y
    · rw [if_pos e] at h
      rw [if_pos e.symm]
      exact lexLt_asym h
    · rw [if_neg e] at h
      rw [if_neg (fun z => e z.symm)]
      have := of_decide_eq_true h
      exact decide_eq_false (by omega)
theorem lexLt_tr : ∀ {a b c : List Int}, HT.lexLt b a = false → HT.lexLt c b = false → HT.lexLt c a = false
  | [], _, [], _, _ => rfl
  | x :: xs, [], _, h, _ => by cases h
  | [], [], z :: zs, _, _ => rfl
  | [], y :: ys, z :: zs, _, _ => rfl
  | x :: xs, y :: ys, [], _, h => by cases h
  | x :: xs, y :: ys, z :: zs, h1, h2 => by
    rw [HT.lexLt_cons] at h1 h2 ⊢
    by_cases e1 : y = x
    · rw [if_pos e1] at h1
      by_cases e2 : z = y
      · rw [if_pos e2] at h2
        rw [if_pos (e2.trans e1)]
        exact lexLt_tr h1 h2
      · rw [if_neg e2] at h2
        rw [if_neg (fun q => e2 (q.trans e1.symm))]
        have := of_decide_eq_false h2
        exact decide_eq_false (by omega)
    · rw [if_neg e1] at h1
      have d1 := of_decide_eq_false h1
      by_cases e2 : z = y
      · rw [if_neg (fun q => e1 (e2.symm.trans q))]
        exact decide_eq_false (by omega)
      · rw [if_neg e2] at h2
        have d2 := of_decide_eq_false h2
        by_cases e3 : z = x
        · omega
        · rw [if_neg e3]
          exact decide_eq_false (by omega)
theorem lexLt_eq : ∀ {a b : List Int}, HT.lexLt a b = false → HT.lexLt b a = false → a = b
  | [], [], _, _ => rfl
  | [], y :: ys, h, _ => by cases h
  | x :: xs, [], _, h => by cases h
  | x :: xs, y :: ys, h1, h2 => by
    rw [HT.lexLt_cons] at h1 h2
    by_cases e : x = y
    · rw [if_pos e] at h1
      rw [if_pos e.symm] at h2
      rw [e, lexLt_eq h1 h2]
    · rw [if_neg e] at h1
      rw [if_neg (fun z => e z.symm)] at h2
      have a1 := of_decide_eq_false h1
      have a2 := of_decide_eq_false h2
      omega
theorem swo_key {α : Type} (k : α → List Int) : SrtO.Swo fun v u => HT.lexLt (k v) (k u) := ⟨fun _ _ h => lexLt_asym h, fun _ _ _ h1 h2 => lexLt_tr h1 h2⟩

section
variable {prog : Program} {w : World} {A : Around} {E : Value → Shared → Prop} {s : Shared}
theorem lex_walk {b fin : Bool} {Q : Bool → Shared → Prop} {xs : List Value} {ns : List Int} (hx : IntsAre xs ns) : ∀ {ys : List Value} {ms : List Int} (i : Nat), IntsAre ys ms → fin = decide (xs.length < ys.length) → Q (HT.lexLt ns ms) s →
    PySem.W.KatLex prog w A b fin Q (xs.zip ys) i s := by
  induction hx with
  | nil =>
    intro ys ms i hy hf h
    cases hy with
    | nil => rw [hf]; exact PySem.W.kat_nil h
    | cons q u hy => rw [hf]; exact PySem.W.kat_nil h
  | @cons p t xs ns hx ih =>
    intro ys ms i hy hf h
    cases hy with
    | nil => rw [hf]; exact PySem.W.kat_nil h
    | @cons q u ys ms hy =>
      show PySem.W.KatLex prog w A b fin Q ((Value.int p t, Value.int q u) :: xs.zip ys) i s
      rw [HT.lexLt_cons] at h
      have hf' : fin = decide (xs.length < ys.length) := by rw [hf]; simp
      refine PySem.W.kat_cons (wpAny_eqBool_int ?_)
      by_cases e : p = q
      · rw [if_pos e] at h
        rw [show (p == q) = true from by rw [e]; exact beq_self_eq_true q]
        exact PySem.W.kat_yes (ih (i + 1) hy hf' h)
      · rw [if_neg e] at h
        rw [show (p == q) = false from beq_eq_false_iff_ne.mpr e]
        exact PySem.W.kat_no (TS.oneLt_ints _ h)
end

/-- rows of ints sorted -/
def sortK (l : List (List Int)) : List (List Int) := l.mergeSort fun a b => !HT.lexLt b a
theorem sortK_perm (l : List (List Int)) : (sortK l).Perm l := List.mergeSort_perm l _
theorem sortK_srt (l : List (List Int)) : (sortK l).Pairwise fun a b => HT.lexLt b a = false := by
  have h := List.pairwise_mergeSort (le := fun a b : List Int => !HT.lexLt b a) (fun a b c h1 h2 => ?_) (fun a b => ?_) l
  · refine h.imp fun {a b} h => ?_
    cases e : HT.lexLt b a with
    | false => rfl
    | true => rw [e] at h; cases h
  · have e1 : HT.lexLt b a = false := by cases e : HT.lexLt b a <;> simp_all
    have e2 : HT.lexLt c b = false := by cases e : HT.lexLt c b <;> simp_all
    rw [lexLt_tr e1 e2]; rfl
  · cases e : HT.lexLt b a with
    | false => rfl
    | true => rw [lexLt_asym e]; rfl
theorem sortK_uniq {a b : List (List Int)} (h : a.Perm b) (hs : a.Pairwise fun x y => HT.lexLt y x = false) : a = sortK b :=
  List.Perm.eq_of_pairwise (fun _ _ _ _ h1 h2 => lexLt_eq h2 h1) hs (sortK_srt b) (h.trans (sortK_perm b).symm)
theorem ok_there {P : Program} {w : World} {H : Hp} {h : Heap} {a : Addr} {o : HO} (x : ObjOk P w H h a o) : ∃ u, h.get? a = some u := by
  cases o with
  | lst _ => obtain ⟨_, _, _, _, z⟩ := x; exact ⟨_, z⟩
  | tup _ => obtain ⟨_, _, _, ⟨z, z2, _⟩⟩ := x; exact ⟨_, z2⟩
  | dK _ => obtain ⟨_, _, _, _, _, _, _, z, _⟩ := x; exact ⟨_, z⟩
  | dT _ => obtain ⟨_, _, _, _, _, _, _, z, _⟩ := x; exact ⟨_, z⟩
  | set _ _ => obtain ⟨_, _, _, _, z, _⟩ := x; exact ⟨_, z⟩
  | ins _ _ _ => obtain ⟨_, _, _, z, _⟩ := x; exact ⟨_, z⟩
  | own _ => exact x
  | xd _ => obtain ⟨_, ⟨_, _, _, z, _⟩, _⟩ := x; exact ⟨_, z⟩
  | rng _ _ => obtain ⟨_, _, _, z⟩ := x; exact ⟨_, z⟩
  | frz _ _ => obtain ⟨z, _⟩ := x; exact ⟨_, z⟩
  | tbl _ => exact ⟨_, (show h.get? a = some _ from x)⟩
  | met _ _ => exact ⟨_, (show h.get? a = some _ from x)⟩
  | ext _ => obtain ⟨_, z, _⟩ := x; exact z
/-- the items of a list or a tuple in a new list, sorted -/
theorem sorted_items {prog : Program} {w : World} {A : Around} {E : Value → Shared → Prop} {s : Shared} {l : Addr} {us : List Value} {T : String} {o : Obj} {n : Nat} {lt : Value → Value → Bool} {Q : Value → Shared → Prop} (O : SrtO.Swo lt) (hT : T = "list" ∨ T = "tuple")
    (ho : s.heap.get? l = some o) (hc : o.cls = .type T) (hd : o.data = .seq us.toArray n) (hz : us.length ≤ sizeLine)
    (cmp : 2 ≤ us.length → ∀ (g : Heap) (a : Addr), g.get? a = some (seqObj "list" us.toArray 0) → (∀ b u, s.heap.get? b = some u → b ≠ a ∧ g.get? b = some u) → SrtO.SortableO prog w A.in1.in1 { s with heap := g } a us lt)
    (fin : ∀ (out : List Value) (p : Addr) (g : Heap) (e : Nat), SrtO.Srtd lt out → SrtO.Stb lt out us → s.heap.get? p = none → (∀ b u, s.heap.get? b = some u → g.get? b = some u) → g.get? p = some (seqObj "list" out.toArray e) → Q (.ref p) { s with heap := g }) :
    wpAny (model prog w) A (call (.builtin "sorted") [.ref l]) Q E s := by
  apply Calls.call_function_entry kind_sorted plain_sorted entry_sorted (args_sorted1 _)
  show wpAny _ A.in1 (Builtin.«sorted» ⟨[.ref l], []⟩) _ _ s
  unfold Builtin.«sorted»
  refine wpAny_bind (m := checkCount "sorted" 1 1 _) (wpAny_pure ?_)
  refine wpAny_bind (wpAny_collect_seq l hT ho hc hd (fun g kg => ?_) (by rw [List.size_toArray]; exact hz))
  refine wpAny_bind (wpAny_newList ?_ hz)
  have at_ : (g.push (seqObj "list" us.toArray 0)).get? g.objs.size = some (seqObj "list" us.toArray 0) := Heap.get?_push_size _ rfl
  have kp : ∀ b u, s.heap.get? b = some u → b ≠ g.objs.size ∧ (g.push (seqObj "list" us.toArray 0)).get? b = some u := fun b u e => ⟨Nat.ne_of_lt (Heap.lt_size (kg b u e)), Heap.get?_push_of_some _ (kg b u e)⟩
  have old : ∀ (out : List Value) b u, s.heap.get? b = some u → (sortedHeap (g.push (seqObj "list" us.toArray 0)) g.objs.size us out.toArray).get? b = some u := fun out b u e => by
    rw [sortedHeap_old (kp b u e).1 (Heap.lt_size (kp b u e).2)]
    exact (kp b u e).2
  have none_ : s.heap.get? g.objs.size = none := by
    cases e : s.heap.get? g.objs.size with
    | none => rfl
    | some u => exact absurd rfl (kp _ u e).1
  show wpAny _ _ _ _ _ { s with heap := g.push (seqObj "list" us.toArray 0) }
  refine wpAny_bind (wpAny_holding (wpAny_call_entry slot_list_sort ⟨_, at_, rfl⟩ entry_list_sort (SrtO.list_sort_ord O at_ hz (fun h2 => cmp h2 _ _ at_ kp) fun out so sb => ⟨_, rfl, ?_⟩) (args_list_sort _)))
  obtain ⟨e, he⟩ := sortedHeap_at (out := out.toArray) at_
  exact wpAny_pure ⟨_, rfl, fin out _ _ e so sb none_ (old out) he⟩
/-- a tuple of these ints, at least one -/
def IsK (K : PySem.W.Frag) (H : Hp) (x : V) (ks : List Int) : Prop := ∃ t, x = .ref t ∧ SqT K H t (ks.map V.int) ∧ ks ≠ []
def rSortTI (K : PySem.W.Frag) : List V → Hp → VK → Prop := fun vs H Q => ∃ (a : Addr) (xs : List V) (kss : List (List Int)) (W : V → List Int → Prop), vs = [.ref a] ∧ (SqL K H a xs ∨ SqT K H a xs) ∧ Paired (fun x ks => IsK K H x ks ∧ W x ks) xs kss ∧
  ∀ p ys, H p = none → Paired W ys (sortK kss) → Q (.ref p) (upd H p (.lst ys))
theorem paired_at {α β : Type} {R : α → β → Prop} : ∀ {l : List α} {m : List β}, Paired R l m → ∀ {i : Nat} {a : α}, l[i]? = some a → ∃ b, m[i]? = some b ∧ R a b
  | _, _, .nil, i, a, h => by simp at h
  | _, _, .cons r t, 0, a, h => by simp at h; subst h; exact ⟨_, rfl, r⟩
  | _, _, .cons r t, i + 1, a, h => by
    obtain ⟨b, h1, h2⟩ := paired_at t (i := i) (by simpa using h)
    exact ⟨b, by simpa using h1, h2⟩
section
variable {X : Cx}
theorem c_sortTI : CallR X (.builtin "sorted") (rSortTI X.K) := by
  intro pins s σ H vs us Q I r h
  obtain ⟨a, xs, kss, W, rfl, hs, hx, q⟩ := h
  obtain ⟨its, T, o, n, rv, hT, ho, hc, hd, hz⟩ : ∃ (its : List Value) (T : String) (o : Obj) (n : Nat), Vals xs its ∧ (T = "list" ∨ T = "tuple") ∧ s.heap.get? a = some o ∧ o.cls = .type T ∧ o.data = .seq its.toArray n ∧ xs.length ≤ sizeLine := by
    rcases hs with hs | hs
    · obtain ⟨its, rv, hl, hz⟩ := I.list hs
      obtain ⟨o, h1, h2, n, h3⟩ := hl.isList
      exact ⟨its, _, o, n, rv, .inl rfl, h1, h2, h3, hz⟩
    · obtain ⟨its, rv, hl, hz⟩ := I.tuple hs
      obtain ⟨o, h1, h2, n, h3⟩ := hl
      exact ⟨its, _, o, n, rv, .inr rfl, h1, h2, h3, hz⟩
  obtain ⟨u, rfl, ru⟩ := vals1 r
  obtain rfl : u = Value.ref a := ru
  have hlen := rv.length
  -- each item, its ints
  have item : ∀ {ws : List V} {vs : List Value} {ks : List (List Int)}, Vals ws vs → Paired (fun x ks => IsK X.K H x ks ∧ W x ks) ws ks → (∀ v, v ∈ vs → ∃ t xs k ks, v = .ref t ∧ IsTup s.heap t xs ∧ IntsAre xs.toList (k :: ks)) ∧ vs.map (TS.intsOf s.heap) = ks ∧ ∀ v, v ∈ vs → ∃ y, RelV y v ∧ W y (TS.intsOf s.heap v) := by
    intro ws vs ks rv hp
    induction rv generalizing ks with
    | nil => cases hp; exact ⟨fun v h => (nomatch h), rfl, fun v h => (nomatch h)⟩
    | @cons y v ws vs ry rt ih =>
      cases hp with
      | @cons _ k _ ks hk ht =>
        obtain ⟨i1, i2, i3⟩ := ih ht
        obtain ⟨⟨t, rfl, hT, hne⟩, hW⟩ := hk
        cases ry
        obtain ⟨its2, r2, p2, _⟩ := I.tuple hT
        have ik : IntsAre its2 k := Vals.ints r2
        have tk : TS.TupInts s.heap (.ref t) k := ⟨t, its2.toArray, rfl, p2, by simpa using ik⟩
        obtain ⟨k0, kr, rfl⟩ : ∃ k0 kr, k = k0 :: kr := by
          cases k with
          | nil => exact absurd rfl hne
          | cons k0 kr => exact ⟨k0, kr, rfl⟩
        refine ⟨fun v hv => ?_, by rw [List.map_cons, i2, tk.ints], fun v hv => ?_⟩
        · rcases List.mem_cons.mp hv with rfl | hv
          · exact ⟨t, its2.toArray, k0, kr, rfl, p2, by simpa using ik⟩
          · exact i1 v hv
        · rcases List.mem_cons.mp hv with rfl | hv
          · exact ⟨.ref t, rfl, by rw [tk.ints]; exact hW⟩
          · exact i3 v hv
  obtain ⟨t1, t2, t3⟩ := item rv hx
  refine sorted_items (lt := fun v u => HT.lexLt (TS.intsOf s.heap v) (TS.intsOf s.heap u)) (swo_key _) hT ho hc hd (by omega) (fun h2 h₁ b hb kp => ?_) fun out p g ep so sb pn kg pg => ?_
  · -- the comparisons
    intro h' keep
    have tup : ∀ v, v ∈ its → ∃ t xs k ks n, v = .ref t ∧ (∃ o, h'.get? t = some o ∧ o.cls = .type "tuple" ∧ o.data = .seq xs n) ∧ IntsAre xs.toList (k :: ks) ∧ TS.intsOf s.heap v = k :: ks := fun v hv => by
      obtain ⟨t, xs', k, ks, rfl, ⟨o, ho, hc, n, hd⟩, hi⟩ := t1 v hv
      refine ⟨t, xs', k, ks, n, rfl, ⟨o, keep t o (fun z => ?_) (kp t o ho).2, hc, hd⟩, hi, TS.TupInts.ints ⟨t, xs', rfl, ⟨o, ho, hc, n, hd⟩, hi⟩⟩
      exact (kp t o ho).1 z
    have firsts : ∀ vs : List Value, (∀ v, v ∈ vs → v ∈ its) → ∃ fs, PySem.W.KatTups h' vs fs ∧ fs.length = vs.length ∧ ∀ f, f ∈ fs → ∃ n t, f = Value.int n t := fun vs => by
      induction vs with
      | nil => exact fun _ => ⟨[], PySem.W.KatTups.nil, rfl, fun f hf => (nomatch hf)⟩
      | cons v vs ih =>
        intro hm
        obtain ⟨fs, f1, f2, f3⟩ := ih fun u hu => hm u (List.mem_cons_of_mem _ hu)
        obtain ⟨t, xs', k, ks, n, rfl, ⟨o, ho, hc, hd⟩, hi, _⟩ := tup v (hm v List.mem_cons_self)
        cases e : xs'.toList with
        | nil => rw [e] at hi; cases hi
        | cons y ys =>
          rw [e] at hi
          cases hi with
          | cons _ tt hi' =>
            refine ⟨.int k tt :: fs, PySem.W.KatTups.cons ho hc hd ?_ f1, by simp [f2], fun f hf => ?_⟩
            · have z := congrArg (fun l : List Value => l[0]?) e
              simpa using z
            · rcases List.mem_cons.mp hf with rfl | hf
              · exact ⟨k, tt, rfl⟩
              · exact f3 f hf
    obtain ⟨fs, f1, f2, f3⟩ := firsts its fun _ h => h
    refine ⟨tuples' true, fun Q' E' hq => ?_, fun p q' hp hq => ?_⟩
    · refine PySem.W.kat_kind (T := .type "int") f1 (by omega) (fun f hf => ?_) (by rfl) ?_
      · obtain ⟨n, t, rfl⟩ := f3 f hf
        exact PySem.W.Looks.now
      · have e : (Value.type "int" != Value.type "tuple") = true := by first | decide +kernel | rfl | decide
        rw [e]
        exact hq
    · obtain ⟨ta, xa, ka, ra, na, ea, ⟨oa, a1, a2, a3⟩, ia, ja⟩ := tup p.1 hp
      obtain ⟨tb, xb, kb, rb, nb, eb, ⟨ob, b1, b2, b3⟩, ib, jb⟩ := tup q'.1 hq
      rw [ea, eb]
      refine PySem.W.kat_lt a1 a3 b1 b3 ?_
      refine lex_walk ia 0 ib (by simp) ⟨rfl, ?_⟩
      show HT.lexLt (ka :: ra) (kb :: rb) = HT.lexLt (TS.intsOf s.heap p.1) (TS.intsOf s.heap q'.1)
      rw [ja, jb]
  · -- the end
    have back : ∀ {l : List Value}, (∀ v, v ∈ l → v ∈ its) → ∃ ys, Vals ys l ∧ Paired W ys (l.map (TS.intsOf s.heap)) := fun {l} => by
      induction l with
      | nil => exact fun _ => ⟨[], .nil, .nil⟩
      | cons v l ih =>
        intro hm
        obtain ⟨ys, y1, y2⟩ := ih fun u hu => hm u (List.mem_cons_of_mem _ hu)
        obtain ⟨y, z2, z3⟩ := t3 v (hm v List.mem_cons_self)
        exact ⟨y :: ys, .cons z2 y1, .cons z3 y2⟩
    obtain ⟨ys, y1, y2⟩ := back fun v hv => sb.perm.mem_iff.mp hv
    have es : out.map (TS.intsOf s.heap) = sortK kss := by
      refine sortK_uniq ?_ ?_
      · rw [← t2]; exact sb.perm.map _
      · exact List.pairwise_map.mpr so
    rw [es] at y2
    have hlo : out.length = its.length := sb.perm.length_eq
    have Hp_ : H p = none := by
      cases q : H p with
      | none => rfl
      | some u =>
        obtain ⟨o', e'⟩ := ok_there (I.hok p u q)
        rw [pn] at e'; cases e'
    exact ⟨.ref p, upd H p (.lst ys), I.laidN (t' := s.toks) kg pn Hp_ ⟨by rw [y1.length]; omega, out, ep, y1, pg⟩, rfl, q p ys Hp_ y2⟩
end
/-- the rows of ints of a row of tuples -/
def rowsOf : List PyData → Option (List (List Int))
  | [] => some []
  | .tuple xs :: r => match intsOf xs with
    | some ns => match rowsOf r with
      | some kss => if ns = [] then none else some (ns :: kss)
      | none => none
    | none => none
  | _ => none
def gSorted : GN := fun xs => match xs with
  | [.list ds] => match rowsOf ds with
    | some kss => some (.list ((sortK kss).map fun ks => .tuple (ks.map .int)))
    | none => none
  | [.tuple ds] => match rowsOf ds with
    | some kss => some (.list ((sortK kss).map fun ks => .tuple (ks.map .int)))
    | none => none
  | _ => none
theorem rows_pair {K : PySem.W.Frag} {H Hh : Hp} (le : Le Hh H) : ∀ {vs : List V} {ds : List PyData} {kss : List (List Int)}, RpA K Hh vs ds → rowsOf ds = some kss → Paired (fun v ks => IsK K H v ks ∧ Rp K Hh v (.tuple (ks.map .int))) vs kss
  | _, [], _, .nil, e => by cases e; exact .nil
  | _, .tuple xs :: r, kss, .cons h t, e => by
    unfold rowsOf at e
    split at e
    · rename_i ns e1
      split at e
      · rename_i ks e2
        split at e
        · cases e
        · rename_i hne
          cases e
          have p1 := rows_pair le t e2
          have z := intsOf_some e1
          subst z
          have h' := h
          cases h with
          | tup h1 r1 =>
            have v := r1.ints
            subst v
            exact .cons ⟨⟨_, rfl, le.t h1, hne⟩, h'⟩ p1
      · cases e
    · cases e
  | _, .none :: r, _, _, e => by cases e
  | _, .bool _ :: r, _, _, e => by cases e
  | _, .int _ :: r, _, _, e => by cases e
  | _, .str _ :: r, _, _, e => by cases e
  | _, .list _ :: r, _, _, e => by cases e
  | _, .dict _ :: r, _, _, e => by cases e
theorem paired_rp {K : PySem.W.Frag} {Hh : Hp} : ∀ {vs : List V} {kss : List (List Int)}, Paired (fun v (ks : List Int) => Rp K Hh v (.tuple (ks.map .int))) vs kss → RpA K Hh vs (kss.map fun ks => .tuple (ks.map .int))
  | _, _, .nil => .nil
  | _, _, .cons h t => .cons h (paired_rp t)
theorem s_sorted {K : PySem.W.Frag} : CallS K (rSortTI K) gSorted := by
  intro N L H vs ds dz Q A h e q
  unfold gSorted at e
  split at e
  · split at e
    · rename_i es kss e1
      cases e
      cases h with
      | cons h t =>
        cases t
        cases h with
        | lst h1 r1 =>
          refine ⟨_, _, kss, fun v ks => Rp K (hd N L H) v (.tuple (ks.map .int)), rfl, .inl (.of h1), rows_pair hd_le r1 e1, fun p ys hp hy => ?_⟩
          exact q _ _ (Le.new hp) (.lst (A.new hp) ((paired_rp hy).mono (hd_mono (Le.new hp))))
    · cases e
  · split at e
    · rename_i es kss e1
      cases e
      cases h with
      | cons h t =>
        cases t
        cases h with
        | tup h1 _ r1 =>
          refine ⟨_, _, kss, fun v ks => Rp K (hd N L H) v (.tuple (ks.map .int)), rfl, .inr h1, rows_pair hd_le r1 e1, fun p ys hp hy => ?_⟩
          exact q _ _ (Le.new hp) (.lst (A.new hp) ((paired_rp hy).mono (hd_mono (Le.new hp))))
    · cases e
  · cases e
end Dv

/-! Dv: list comprehensions of two clauses; while. -/
namespace Dv
open PySem PySem.Spec PyProof.Rows L2

/-- the outer clause's loop: behind its tests the inner one's -/
def comp2F (h : T1) (ft : B1) (fi1 : A1) (h1 : T1) (ft1 : B1) (fe : D1) (vs vs1 : List Nat) : List PyData → List PyData → REnv → Option (List PyData × REnv)
  | [], acc, ρ => some (acc, ρ)
  | d :: ds, acc, ρ => match h d ρ with
    | none => none
    | some ρ1 => match ft ρ1 with
      | some (true, ρ2) => match fi1 ρ2 with
        | some (es, ρ3) => match compF h1 ft1 fe vs1 es acc (wipeR ρ3 vs1) with
          | some (acc', ρ4) => comp2F h ft fi1 h1 ft1 fe vs vs1 ds acc' (wipeR ρ4 vs)
          | none => none
        | none => none
      | some (false, ρ2) => comp2F h ft fi1 h1 ft1 fe vs vs1 ds acc (wipeR ρ2 vs)
      | none => none
def fLc2 (fi : A1) (h : T1) (ft : B1) (fi1 : A1) (h1 : T1) (ft1 : B1) (fe : D1) (vs vs1 : List Nat) : A1 := fun ρ => match fi ρ with
  | none => none
  | some (ds, ρ1) => match comp2F h ft fi1 h1 ft1 fe vs vs1 ds [] (wipeR ρ1 vs) with
    | none => none
    | some (acc, ρ2) => if acc.length ≤ sizeLine then some (acc, restR ρ1 ρ2 vs) else none
theorem compF_len {h : T1} {ft : B1} {fe : D1} {vs : List Nat} : ∀ {ds acc : List PyData} {ρ : REnv} {d : List PyData} {ρ' : REnv}, compF h ft fe vs ds acc ρ = some (d, ρ') → acc.length ≤ d.length
  | [], acc, ρ, d, ρ', e => by cases e; exact Nat.le_refl _
  | x :: ds, acc, ρ, d, ρ', e => by
    unfold compF at e
    split at e
    · cases e
    split at e
    · split at e
      · have := compF_len e
        simp at this
        omega
      · cases e
    · exact compF_len e
    · cases e
theorem comp2F_len {h : T1} {ft : B1} {fi1 : A1} {h1 : T1} {ft1 : B1} {fe : D1} {vs vs1 : List Nat} : ∀ {ds acc : List PyData} {ρ : REnv} {d : List PyData} {ρ' : REnv}, comp2F h ft fi1 h1 ft1 fe vs vs1 ds acc ρ = some (d, ρ') → acc.length ≤ d.length
  | [], acc, ρ, d, ρ', e => by cases e; exact Nat.le_refl _
  | x :: ds, acc, ρ, d, ρ', e => by
    unfold comp2F at e
    split at e
    · cases e
    split at e
    · split at e
      · split at e
        · rename_i e1
          exact Nat.le_trans (compF_len e1) (comp2F_len e)
        · cases e
      · cases e
    · exact comp2F_len e
    · cases e
theorem wipe_sub {σ : L2.St} {vs vs1 : List Nat} (h : ∀ i, i ∈ vs1 → i ∈ vs) : wipe (wipe σ vs1) vs = wipe σ vs := by
  apply List.ext_getElem?
  intro i
  by_cases hi : i ∈ vs
  · by_cases hl : i < σ.length
    · rw [wipe_in hi (by rw [wipe_length]; exact hl), wipe_in hi hl]
    · rw [List.getElem?_eq_none (by rw [wipe_length, wipe_length]; omega), List.getElem?_eq_none (by rw [wipe_length]; omega)]
  · rw [wipe_out hi, wipe_out hi, wipe_out fun z => hi (h i z)]
section
variable {K : PySem.W.Frag}
/-- a comprehension on its way: what is still to come is told by c -/
def CompJ (K : PySem.W.Frag) (G : Ent) (D : Addr) (L1 : List (Option Addr)) (H1 : Hp) (σw : L2.St) (c : List PyData → REnv → Option (List PyData × REnv)) (d : List PyData) (ρ2 : REnv) (L4 : List (Option Addr)) (Hh : Hp) (H' : Hp) : Prop :=
  ∃ L' ρ3 a av, LS L' L1 ∧ LS L' L4 ∧ Rel K (G.hide D) L' ρ3 σw H' ∧ Ew L1 H1 H' ∧ Le Hh (hd (G.hide D).N L' H') ∧ H' D = some (.lst av) ∧ RpA K (hd (G.hide D).N L' H') av a ∧ c a ρ3 = some (d, ρ2)
theorem sem_lc2 {wi wi1 : TI} {fi fi1 : A1} {g g1 : TG} {h h1 : T1} {tt tt1 : TT} {ft ft1 : B1} {te : TE} {fe : D1} (vs vs1 : List Nat) (hsub : ∀ i, i ∈ vs1 → i ∈ vs) (hi : SemI K wi fi) (hg : SemG K g h) (hv : GIn g vs) (ht : SemT K tt ft)
    (hi1 : SemI K wi1 fi1) (hg1 : SemG K g1 h1) (hv1 : GIn g1 vs1) (ht1 : SemT K tt1 ft1) (he : SemE K te fe) : SemF K (tLc2 wi g tt wi1 g1 tt1 te vs vs1) (fLc2 fi h ft fi1 h1 ft1 fe vs vs1) := by
  intro G L ρ σ H Q d ρ' R e q
  unfold fLc2 at e
  split at e
  · cases e
  rename_i ds ρ1 e1
  split at e
  · cases e
  rename_i acc ρ2 e2
  split at e
  · rename_i hz
    cases e
    refine hi G L ρ σ H _ ds ρ1 R e1 fun J H1 L1 s1 R1 w1 ig => fun D hD => ?_
    have fD := R1.fresh hD
    have R1h : Rel K (G.hide D) L1 ρ1 σ (upd H1 D (.lst [])) := R1.hide hD
    have N0 : (G.hide D).N D := .inr rfl
    have keep : ∀ {L' : List (Option Addr)} {H' : Hp}, LS L' L1 → Ew L1 H1 H' → Le (hd G.N L1 H1) (hd (G.hide D).N L' H') := fun s w b o z => by
      obtain ⟨z1, z2, z3⟩ := hd_some.mp z
      refine hd_some.mpr ⟨fun y => y.elim z1 fun y => ?_, fun m => z2 (s.mem m), w.1 b o z2 z3⟩
      subst y
      rw [hD] at z3; cases z3
    -- the whole of it by one word
    let W : Nat → Hp → Prop := fun i H' => CompJ K G D L1 H1 (wipe σ vs) (fun a ρ => comp2F h ft fi1 h1 ft1 fe vs vs1 (ds.drop i) a ρ) d ρ2 L1 (hd G.N L1 H1) H'
    refine ⟨fun i m H' => m = ds.length - i ∧ i ≤ ds.length ∧ W i H',
      ⟨ds.length, by simp, Nat.zero_le _, L1, wipeR ρ1 vs, [], [], .refl _, .refl _, R1h.wiped vs, (Le.new hD).ew, keep (.refl _) (Le.new hD).ew, upd_same, .nil, e2⟩, ?_⟩
    rintro i m H2 ⟨rfl, hi, L2', ρ3, a, av, s2, s2', R2, w2, k2, hDa, ra, e3⟩
    have hDl : some D ∉ L2' := fun m => fD.2.1 (s2.mem m)
    obtain ⟨st, go⟩ := ig (G.hide D).N L2' H2 (keep s2 w2) R2.alloc
    by_cases hlt : i < ds.length
    · have hdd : ds.drop i = ds[i] :: ds.drop (i + 1) := List.drop_eq_getElem_cons hlt
      have e3 : comp2F h ft fi1 h1 ft1 fe vs vs1 (ds.drop i) a ρ3 = some (d, ρ2) := e3
      rw [hdd] at e3
      unfold comp2F at e3
      split at e3
      · cases e3
      rename_i ρ4 e4
      obtain ⟨go1, go2⟩ := go i ds[i] (List.getElem?_eq_getElem hlt)
      refine .inr ⟨go1, W (i + 1), fun H' z => ⟨ds.length - (i + 1), by omega, rfl, hlt, z⟩, fun x H3 y => ?_⟩
      obtain ⟨le, rx⟩ := go2 x H3 y
      have fin := hv x (wipe σ vs) H3 (fun σ2 H4 => tt σ2 H4 fun b H5 => if b = true then wi1 σ2 H5 fun J1 H6 => ∃ W1 : Nat → Nat → Hp → Prop, (∃ m, W1 0 m H6) ∧ ∀ j k H, W1 j k H →
        (J1.stop j H ∧ W (i + 1) H) ∨ (J1.go j H ∧ ∃ Nx1 : Hp → Prop, (∀ H', Nx1 H' → ∃ k', k' < k ∧ W1 (j + 1) k' H') ∧ ∀ x H', J1.yld j H x H' → g1 x (wipe σ2 vs1) H' fun σ3 H5 => wipe σ3 vs1 = wipe σ2 vs1 ∧ tt1 σ3 H5 fun b H6 =>
          if b = true then te σ3 H6 fun y H7 => ∃ acc, H7 D = some (.lst acc) ∧ acc.length < sizeLine ∧ Nx1 (upd H7 D (.lst (acc ++ [y]))) else Nx1 H6) else W (i + 1) H5)
      rw [wipe_wipe] at fin
      refine fin (hg (G.hide D) L2' ρ3 (wipe σ vs) H3 _ x ds[i] ρ4 (R2.mono le) rx e4 fun L4 σ4 H4 R4 s4 w4 ew => ?_)
      have w24 : Ew L2' H2 H4 := (le.ew (L := L2')).trans w4 (.refl _)
      split at e3
      · -- the inner clause
        rename_i ρ5 e5
        split at e3
        · rename_i es ρ6 e6
          split at e3
          · rename_i acc' ρ7 e7
            refine ht (G.hide D) L4 ρ4 σ4 H4 _ _ ρ5 R4 e5 fun H5 L5 s5 R5 w5 => ?_
            rw [if_pos rfl]
            refine hi1 (G.hide D) L5 ρ5 σ4 H5 _ es ρ6 R5 e6 fun J1 H6 L6 s6 R6 w6 ig1 => ?_
            have w26 : Ew L2' H2 H6 := w24.trans (w5.trans w6 s5) s4
            have s26 : LS L6 L2' := (s6.trans s5).trans s4
            have hlen' : acc'.length ≤ sizeLine := Nat.le_trans (comp2F_len e3) hz
            refine ⟨fun j k H' => k = es.length - j ∧ j ≤ es.length ∧ CompJ K G D L1 H1 (wipe σ4 vs1) (fun a ρ => compF h1 ft1 fe vs1 (es.drop j) a ρ) acc' ρ7 L6 (hd (G.hide D).N L6 H6) H',
              ⟨es.length, by simp, Nat.zero_le _, L6, wipeR ρ6 vs1, a, av, s26.trans s2, .refl _, R6.wiped vs1, w2.trans w26 s2, .refl _, w26.1 D _ hDl hDa, ra.mono (w26.hd s26), e7⟩, ?_⟩
            rintro j k H7 ⟨rfl, hj, L7, ρ8, a8, av8, s7, s7', R7, w7, k7, hD7, ra7, e8⟩
            have e8 : compF h1 ft1 fe vs1 (es.drop j) a8 ρ8 = some (acc', ρ7) := e8
            have hDl7 : some D ∉ L7 := fun m => fD.2.1 (s7.mem m)
            obtain ⟨st1, gg⟩ := ig1 (G.hide D).N L7 H7 k7 R7.alloc
            by_cases hltj : j < es.length
            · have hee : es.drop j = es[j] :: es.drop (j + 1) := List.drop_eq_getElem_cons hltj
              rw [hee] at e8
              unfold compF at e8
              split at e8
              · cases e8
              rename_i ρ9 e9
              obtain ⟨gg1, gg2⟩ := gg j es[j] (List.getElem?_eq_getElem hltj)
              refine .inr ⟨gg1, CompJ K G D L1 H1 (wipe σ4 vs1) (fun a ρ => compF h1 ft1 fe vs1 (es.drop (j + 1)) a ρ) acc' ρ7 L6 (hd (G.hide D).N L6 H6), fun H' z => ⟨es.length - (j + 1), by omega, rfl, hltj, z⟩, fun x8 H8 y8 => ?_⟩
              obtain ⟨le8, rx8⟩ := gg2 x8 H8 y8
              have fin1 := hv1 x8 (wipe σ4 vs1) H8 (fun σ3 H5 => tt1 σ3 H5 fun b H6' => if b = true then te σ3 H6' fun y H7 => ∃ acc, H7 D = some (.lst acc) ∧ acc.length < sizeLine ∧ CompJ K G D L1 H1 (wipe σ4 vs1) (fun a ρ => compF h1 ft1 fe vs1 (es.drop (j + 1)) a ρ) acc' ρ7 L6 (hd (G.hide D).N L6 H6) (upd H7 D (.lst (acc ++ [y])))
                else CompJ K G D L1 H1 (wipe σ4 vs1) (fun a ρ => compF h1 ft1 fe vs1 (es.drop (j + 1)) a ρ) acc' ρ7 L6 (hd (G.hide D).N L6 H6) H6')
              rw [wipe_wipe] at fin1
              refine fin1 (hg1 (G.hide D) L7 ρ8 (wipe σ4 vs1) H8 _ x8 es[j] ρ9 (R7.mono le8) rx8 e9 fun L9 σ9 H9 R9 s9 w9 ew9 => ?_)
              have w79 : Ew L7 H7 H9 := (le8.ew (L := L7)).trans w9 (.refl _)
              split at e8
              · rename_i ρa ea
                split at e8
                · rename_i dy ρb eb
                  refine ht1 (G.hide D) L9 ρ9 σ9 H9 _ _ ρa R9 ea fun Ha La sa Ra wa => ?_
                  rw [if_pos rfl]
                  refine he (G.hide D) La ρa σ9 Ha _ dy ρb Ra eb fun v Hb Lb sb Rb wb rb => ?_
                  have wt : Ew L7 H7 Hb := w79.trans (wa.trans wb sa) s9
                  have st7 : LS Lb L7 := (sb.trans sa).trans s9
                  have hDb := wt.1 D _ hDl7 hD7
                  have hlb : some D ∉ Lb := fun m => hDl7 (st7.mem m)
                  have hle := compF_len e8
                  refine ⟨av8, hDb, ?_, Lb, wipeR ρb vs1, a8 ++ [dy], av8 ++ [v], st7.trans s7, st7.trans s7', ?_, ?_, ?_, upd_same, ?_, e8⟩
                  · rw [ra7.len]
                    simp only [List.length_append, List.length_cons, List.length_nil] at hle
                    omega
                  · have R6 := (Rb.wiped vs1).wr (o := .lst (av8 ++ [v])) N0 hlb fD.2.2
                    rw [ew9] at R6
                    exact R6
                  · have w6 := w7.trans wt s7
                    refine ⟨fun b o n z => ?_, fun b o z => ?_⟩
                    · rw [upd_ne (ne_of_none z hD)]; exact w6.1 b o n z
                    · rw [upd_ne (ne_of_none z hD)]; exact w6.2 b o z
                  · exact (k7.trans (wt.hd st7)).trans (hd_wr N0)
                  · exact ((ra7.mono (wt.hd st7)).snoc rb).mono (hd_wr N0)
                · cases e8
              · rename_i ρa ea
                refine ht1 (G.hide D) L9 ρ9 σ9 H9 _ _ ρa R9 ea fun Ha La sa Ra wa => ?_
                rw [if_neg (by simp)]
                have wt : Ew L7 H7 Ha := w79.trans wa s9
                have st7 : LS La L7 := sa.trans s9
                refine ⟨La, wipeR ρa vs1, a8, av8, st7.trans s7, st7.trans s7', ?_, w7.trans wt s7, k7.trans (wt.hd st7), wt.1 D _ hDl7 hD7, ra7.mono (wt.hd st7), e8⟩
                have R6 := Ra.wiped vs1
                rw [ew9] at R6
                exact R6
              · cases e8
            · have hj' : j = es.length := by omega
              subst hj'
              rw [List.drop_length] at e8
              cases e8
              refine .inl ⟨st1, L7, wipeR ρ7 vs, acc', av8, s7, s7, ?_, w7, keep s7 w7, hD7, ra7, e3⟩
              have R8 := R7.wiped vs
              rw [wipe_sub hsub, ew] at R8
              exact R8
          · cases e3
        · cases e3
      · rename_i ρ5 e5
        refine ht (G.hide D) L4 ρ4 σ4 H4 _ _ ρ5 R4 e5 fun H5 L5 s5 R5 w5 => ?_
        rw [if_neg (by simp)]
        have wt : Ew L2' H2 H5 := w24.trans w5 s4
        have st2 : LS L5 L2' := s5.trans s4
        refine ⟨L5, wipeR ρ5 vs, a, av, st2.trans s2, st2.trans s2, ?_, w2.trans wt s2, keep (st2.trans s2) (w2.trans wt s2), wt.1 D _ hDl hDa, ra.mono (wt.hd st2), e3⟩
        have R6 := R5.wiped vs
        rw [ew] at R6
        exact R6
      · cases e3
    · have hi' : i = ds.length := by omega
      subst hi'
      have e3 : comp2F h ft fi1 h1 ft1 fe vs vs1 (ds.drop ds.length) a ρ3 = some (d, ρ2) := e3
      rw [List.drop_length] at e3
      cases e3
      exact .inl ⟨st, q D av H2 L2' (s2.trans s1) (w1.free hD) hDa (Rel.rest R1 R2 (keep s2 w2) s2) (w1.trans w2 s1) ra⟩
  · cases e
end
end Dv

/-! Dv: the rules as one prints them for a def's text. -/
namespace Dv
open PySem PySem.Spec PyProof.Rows L2

section
variable {K : PySem.W.Frag} {X : Cx} {a b c e : Expr} {ta tb tc te : TE} {fa fb fc fe : D1} {pos : Pos}
theorem e_var (i : Nat) {x : Str} (hN : X.N[i]? = some x := by rfl) (hv : Vis X.env.scope x := by first | exact .inl rfl | exact .inr (.inl rfl) | exact .inr (.inr rfl)) (h1 : (x == ("__debug__" : Str)) = false := by decide) (h2 : (x == ("__classdict__" : Str)) = false := by decide) :
    SE K X (.Name x pos) (tVar i) (fVar i) := ⟨pe_var hN hv h1 h2, sem_var i⟩
theorem e_int {i j} : SE K X (.Constant (.int i) j pos) (tC (.int i)) (fC (.int i)) := ⟨pe_int, sem_c fun _ => .int i⟩
theorem e_bl {i j} : SE K X (.Constant (.bool i) j pos) (tC (.bl i)) (fC (.bool i)) := ⟨pe_bl, sem_c fun _ => .bl i⟩
theorem e_non {j} : SE K X (.Constant .none j pos) (tC .non) (fC .none) := ⟨pe_non, sem_c fun _ => .non⟩
theorem e_str {i j} : SE K X (.Constant (.str i) j pos) (tC (.str i)) (fC (.str i)) := ⟨pe_str, sem_c fun _ => .str i⟩
theorem e_op {op : Operator} {r : R2} {g : G2} (s : OpS K r g) (ho : OpR X (binaryOp op) r) (ha : SE K X a ta fa) (hb : SE K X b tb fb) (hK : X.K = K := by rfl) : SE K X (.BinOp a op b pos) (tOp r ta tb) (f2 g fa fb) := by
  subst hK
  exact ⟨pe_op ho ha.pe hb.pe, sem_op s ha.sem hb.sem⟩
theorem e_opL {op : Operator} {r : R2} {g : G2} {i : Nat} (s : OpS K r g) (ho : OpR X (binaryOp op) r) (ha : PE X a (tVar i)) (hb : SE K X b tb fb) (hK : X.K = K := by rfl) : SE K X (.BinOp a op b pos) (tOp r (tVar i) tb) (fOL g i fb) := by
  subst hK
  exact ⟨pe_op ho ha hb.pe, sem_opL s i hb.sem⟩
theorem e_neg (ha : SE K X a ta fa) : SE K X (.UnaryOp .USub a pos) (tUn (rU fun i => .int (-i)) ta) (f1 gNeg fa) := ⟨pe_un un_neg ha.pe, sem_un s_neg ha.sem⟩
theorem e_cmp {op : CmpOp} {r : R2} {g : G2} (s : OpS K r g) (ho : OpR X (compareOp op) r) (ha : SE K X a ta fa) (hb : SE K X b tb fb) (hm : behindInMarks op b = false) (hK : X.K = K := by rfl) : SE K X (.Compare a [op] [b] pos) (tOp r ta tb) (f2 g fa fb) := by
  subst hK
  exact ⟨pe_cmpR ho ha.pe hb.pe hm, sem_op s ha.sem hb.sem⟩
theorem e_cmpR {op : CmpOp} {r : R2} {g : G2} {i : Nat} (s : OpS K r g) (ho : OpR X (compareOp op) r) (ha : SE K X a ta fa) (hb : PE X b (tVar i)) (hm : behindInMarks op b = false) (hK : X.K = K := by rfl) : SE K X (.Compare a [op] [b] pos) (tOp r ta (tVar i)) (fOR g fa i) := by
  subst hK
  exact ⟨pe_cmpR ho ha.pe hb hm, sem_opR s i ha.sem⟩
theorem e_cmpL {op : CmpOp} {r : R2} {g : G2} {i : Nat} (s : OpS K r g) (ho : OpR X (compareOp op) r) (ha : PE X a (tVar i)) (hb : SE K X b tb fb) (hm : behindInMarks op b = false) (hK : X.K = K := by rfl) : SE K X (.Compare a [op] [b] pos) (tOp r (tVar i) tb) (fOL g i fb) := by
  subst hK
  exact ⟨pe_cmpR ho ha hb.pe hm, sem_opL s i hb.sem⟩
theorem e_chain {op op' : CmpOp} {r r' : R2} {g g' : G2} (s : OpS K r g) (ho : OpR X (compareOp op) r) (s' : OpS K r' g') (ho' : OpR X (compareOp op') r') (ha : SE K X a ta fa) (hb : SE K X b tb fb) (hc : SE K X c tc fc)
    (hm : lastMarks [op, op'] [b, c] = false := by with_unfolding_all rfl) (hK : X.K = K := by rfl) : SE K X (.Compare a [op, op'] [b, c] pos) (tChain r r' ta tb tc) (fChain g g' fa fb fc) := by
  subst hK
  exact ⟨pe_chain ho ho' ha.pe hb.pe hc.pe hm, sem_chain s s' ha.sem hb.sem hc.sem⟩
theorem e_one {op : BoolOp} (ha : SE K X a ta fa) : SE K X (.BoolOp op [a] pos) ta fa := ⟨pe_one ha.pe, ha.sem⟩
theorem e_and {rest : List Expr} (ha : SE K X a ta fa) (hb : SE K X (.BoolOp .And (b :: rest) pos) tb fb) : SE K X (.BoolOp .And (a :: b :: rest) pos) (tAndV ta tb) (fAndV fa fb) := ⟨pe_and ha.pe hb.pe, sem_andV ha.sem hb.sem⟩
theorem e_or {rest : List Expr} (ha : SE K X a ta fa) (hb : SE K X (.BoolOp .Or (b :: rest) pos) tb fb) : SE K X (.BoolOp .Or (a :: b :: rest) pos) (tOrV ta tb) (fOrV fa fb) := ⟨pe_or ha.pe hb.pe, sem_orV ha.sem hb.sem⟩
theorem e_not (ha : SE K X a ta fa) : SE K X (.UnaryOp .Not a pos) (tNotV ta) (fNotV fa) := ⟨pe_not ha.pe, sem_notV ha.sem⟩
theorem e_if {t : TT} {ft : B1} (hc : ST K X c t ft) (ha : SE K X a ta fa) (hb : SE K X b tb fb) : SE K X (.IfExp c a b pos) (tIf t ta tb) (fIf ft fa fb) := ⟨pe_ifExp hc.pe ha.pe hb.pe, sem_if hc.sem ha.sem hb.sem⟩
theorem e_ix (ha : SE K X a ta fa) (hb : SE K X b tb fb) (hs : PlainIx b) (hK : X.K = K := by rfl) : SE K X (.Subscript a b pos) (tOp (rIxD K) ta tb) (f2 gIx fa fb) := by
  subst hK
  exact ⟨pe_ix ix_d ha.pe hb.pe hs, sem_op s_ix ha.sem hb.sem⟩
theorem e_ixL {i : Nat} (ha : PE X a (tVar i)) (hb : SE K X b tb fb) (hs : PlainIx b) (hK : X.K = K := by rfl) : SE K X (.Subscript a b pos) (tOp (rIxD K) (tVar i) tb) (fOL gIx i fb) := by
  subst hK
  exact ⟨pe_ix ix_d ha hb.pe hs, sem_opL s_ix i hb.sem⟩
structure SO (K : PySem.W.Frag) (X : Cx) (e : Option Expr) (t : TO) (f : REnv → Option (Option Int × REnv)) : Prop where
  pe : PO X e t
  sem : SemO K t f
theorem o_no : SO K X none tNoPart fNo := ⟨po_none, sem_no⟩
theorem o_part (h : SE K X a ta fa) : SO K X (some a) (tPart ta) (fPart fa) := ⟨po_some h.pe, sem_part h.sem⟩
theorem e_sl {lo hi : Option Expr} {tl th : TO} {fl fh : REnv → Option (Option Int × REnv)} {p2 : Pos} (ha : SE K X a ta fa) (hl : SO K X lo tl fl) (hh : SO K X hi th fh) (hK : X.K = K := by rfl) : SE K X (.Subscript a (.Slice lo hi none p2) pos) (tSl (rSlD K) ta tl th) (fSl fa fl fh) := by
  subst hK
  exact ⟨pe_slice sl_d ha.pe hl.pe hh.pe, sem_sl ha.sem hl.sem hh.sem⟩
theorem e_rev {k : Nat} {p1 p2 p3 : Pos} (ha : SE K X a ta fa) (hK : X.K = K := by rfl) : SE K X (.Subscript a (.Slice none none (some (.UnaryOp .USub (.Constant (.int 1) k p1) p2)) p3) pos) (tUn (rRev K) ta) (f1 gRev fa) := by
  subst hK
  exact ⟨pe_rev ha.pe, sem_un s_rev ha.sem⟩
theorem e_revO {i : Nat} {k : Nat} {p1 p2 p3 : Pos} (ha : PE X a (tVar i)) (hK : X.K = K := by rfl) : SE K X (.Subscript a (.Slice none none (some (.UnaryOp .USub (.Constant (.int 1) k p1) p2)) p3) pos) (tUn (rRev K) (tVar i)) (fOU gRev i) := by
  subst hK
  exact ⟨pe_rev ha, sem_unO s_rev i⟩
/-! argument lists, displays -/
theorem a_nil : SA K X [] tNil fNil := ⟨pa_nil, sem_nil⟩
theorem a_cons {es : List Expr} {t : TA} {f : A1} (ha : SE K X a ta fa) (hr : SA K X es t f) (hs : starEach (a :: es) X.env = (false, eval a X.env) :: starEach es X.env := by rfl) : SA K X (a :: es) (tCons ta t) (fCons fa f) := ⟨pa_cons ha.pe hr.pe hs, sem_cons ha.sem hr.sem⟩
theorem e_tup {es : List Expr} {t : TA} {f : A1} {k} (h : SA K X es t f) : SE K X (.Tuple es k pos) (tTup t) (fTup f) := ⟨pe_tup h.pe, sem_tup h.sem⟩
theorem F_lst {es : List Expr} {t : TA} {f : A1} (h : SA K X es t f) : SF K X (.List es pos) (tLst t) (fLst f) := ⟨pe_lst h.pe, semF_lst h.sem⟩
theorem e_f {f : A1} (h : SF K X e te f) : SE K X e te (fF f) := ⟨h.pe, h.sem.e⟩
theorem F_op {op : Operator} {r : R2} {g : PyData → PyData → Option (List PyData)} (s : OpF K r g) (ho : OpR X (binaryOp op) r) (ha : SE K X a ta fa) (hb : SE K X b tb fb) (hK : X.K = K := by rfl) : SF K X (.BinOp a op b pos) (tOp r ta tb) (f2F g fa fb) := by
  subst hK
  exact ⟨pe_op ho ha.pe hb.pe, semF_op s ha.sem hb.sem⟩
theorem e_dic : SE K X (.Dict [] [] pos) tDNewK fDic := ⟨pe_dnewK, sem_dic fun _ _ _ h => h⟩
/-! built-in calls -/
theorem e_cb {x : Str} {id : String} {p : Pos} {es : List Expr} {t : TA} {f : A1} {r : List V → Hp → VK → Prop} {g : GN} (s : CallS K r g) (hc : CallR X (.builtin id) r) (hg : Gl X x) (hm : X.mg x = none) (hv : bootBuiltins x = some (.builtin id)) (ha : SA K X (a :: es) t f)
    (hn : x ≠ "__name__" := by decide) (hdb : (x == ("__debug__" : Str)) = false := by decide) (he : starEach (a :: es) X.env = (false, eval a X.env) :: starEach es X.env := by rfl) (hpl : (backTo pos (starEach es X.env)).any (·.1) = false := by rfl) (hK : X.K = K := by rfl) :
    SE K X (.Call (.Name x p) (a :: es) [] pos) (tCB r t) (fCB g f) := by
  subst hK
  exact ⟨pe_callB hc hg hm hv ha.pe hn hdb he hpl, sem_cb s ha.sem⟩
theorem e_ct {x : Str} {T : String} {p : Pos} {es : List Expr} {t : TA} {f : A1} {r : List V → Hp → VK → Prop} {g : GN} (s : CallS K r g) (hc : CallR X (.type T) r) (hg : Gl X x) (hm : X.mg x = none) (hv : bootBuiltins x = some (.type T)) (ha : SA K X (a :: es) t f)
    (hn : x ≠ "__name__" := by decide) (hdb : (x == ("__debug__" : Str)) = false := by decide) (he : starEach (a :: es) X.env = (false, eval a X.env) :: starEach es X.env := by rfl) (hpl : (backTo pos (starEach es X.env)).any (·.1) = false := by rfl) (hK : X.K = K := by rfl) :
    SE K X (.Call (.Name x p) (a :: es) [] pos) (tCB r t) (fCB g f) := by
  subst hK
  exact ⟨pe_callTy hc hg hm hv ha.pe hn hdb he hpl, sem_cb s ha.sem⟩
theorem F_ct {x : Str} {T : String} {p : Pos} {es : List Expr} {t : TA} {f : A1} {r : List V → Hp → VK → Prop} {g : List PyData → Option (List PyData)} (s : CallF K r g) (hc : CallR X (.type T) r) (hg : Gl X x) (hm : X.mg x = none) (hv : bootBuiltins x = some (.type T)) (ha : SA K X (a :: es) t f)
    (hn : x ≠ "__name__" := by decide) (hdb : (x == ("__debug__" : Str)) = false := by decide) (he : starEach (a :: es) X.env = (false, eval a X.env) :: starEach es X.env := by rfl) (hpl : (backTo pos (starEach es X.env)).any (·.1) = false := by rfl) (hK : X.K = K := by rfl) :
    SF K X (.Call (.Name x p) (a :: es) [] pos) (tCB r t) (fCBF g f) := by
  subst hK
  exact ⟨pe_callTy hc hg hm hv ha.pe hn hdb he hpl, semF_cb s ha.sem⟩
/-- of one's own list -/
theorem e_cbO {x : Str} {id : String} {p : Pos} {i : Nat} {r : List V → Hp → VK → Prop} {g : GN} (s : CallS K r g) (hc : CallR X (.builtin id) r) (hg : Gl X x) (hm : X.mg x = none) (hv : bootBuiltins x = some (.builtin id)) (ha : PE X a (tVar i))
    (hn : x ≠ "__name__" := by decide) (hdb : (x == ("__debug__" : Str)) = false := by decide) (he : starEach [a] X.env = (false, eval a X.env) :: starEach [] X.env := by rfl) (hpl : (backTo pos (starEach [] X.env)).any (·.1) = false := by rfl) (hK : X.K = K := by rfl) :
    SE K X (.Call (.Name x p) [a] [] pos) (tCB r (tCons (tVar i) tNil)) (fOU (fun y => g [y]) i) := by
  subst hK
  exact ⟨pe_callB hc hg hm hv (pa_cons ha pa_nil he) hn hdb he hpl, sem_cbO s i⟩
theorem e_ctO {x : Str} {T : String} {p : Pos} {i : Nat} {r : List V → Hp → VK → Prop} {g : GN} (s : CallS K r g) (hc : CallR X (.type T) r) (hg : Gl X x) (hm : X.mg x = none) (hv : bootBuiltins x = some (.type T)) (ha : PE X a (tVar i))
    (hn : x ≠ "__name__" := by decide) (hdb : (x == ("__debug__" : Str)) = false := by decide) (he : starEach [a] X.env = (false, eval a X.env) :: starEach [] X.env := by rfl) (hpl : (backTo pos (starEach [] X.env)).any (·.1) = false := by rfl) (hK : X.K = K := by rfl) :
    SE K X (.Call (.Name x p) [a] [] pos) (tCB r (tCons (tVar i) tNil)) (fOU (fun y => g [y]) i) := by
  subst hK
  exact ⟨pe_callTy hc hg hm hv (pa_cons ha pa_nil he) hn hdb he hpl, sem_cbO s i⟩
theorem e_isi {p p2 : Pos} {T : String} (ty : Str) (hg : Gl X "isinstance") (hm : X.mg "isinstance" = none) (hg2 : Gl X ty) (hm2 : X.mg ty = none) (hv2 : bootBuiltins ty = some (.type T)) (ha : SE K X a ta fa) (hn : ty ≠ "__name__" := by decide) (hdb : (ty == ("__debug__" : Str)) = false := by decide)
    (he : starEach [a, .Name ty p2] X.env = (false, eval a X.env) :: starEach [.Name ty p2] X.env := by rfl) (he2 : starEach [.Name ty p2] X.env = (false, eval (.Name ty p2) X.env) :: starEach [] X.env := by rfl) (hpl : (backTo pos (starEach [.Name ty p2] X.env)).any (·.1) = false := by rfl) (hK : X.K = K := by rfl) :
    SE K X (.Call (.Name "isinstance" p) [a, .Name ty p2] [] pos) (tCB (rIsi K) (tCons ta (tCons (tC (.ty T)) tNil))) (fIsi T fa) := by
  subst hK
  exact ⟨pe_callB call_isi hg hm boot_isinstance (pa_cons ha.pe (pa_cons (pe_bltn (v := .ty T) hg2 hm2 hv2 rfl hn hdb) pa_nil he2) he) (by decide) (by decide) he hpl, sem_isi T ha.sem⟩
theorem e_tupR1 {p p2 pos2 : Pos} (hc : X.calm = true) (hg : Gl X "tuple") (hm : X.mg "tuple" = none) (hg2 : Gl X "range") (hm2 : X.mg "range" = none) (ha : SE K X a ta fa) (na : starEach [a] X.env = (false, eval a X.env) :: starEach [] X.env := by rfl)
    (ne : starEach [.Call (.Name "range" p2) [a] [] pos2] X.env = (false, eval (.Call (.Name "range" p2) [a] [] pos2) X.env) :: starEach [] X.env := by rfl) :
    SE K X (.Call (.Name "tuple" p) [.Call (.Name "range" p2) [a] [] pos2] [] pos) (tTupRg (tRg1 ta)) (fTupR (fRg1 fa)) := ⟨pe_tupRg hc hg hm (prg_1 hg2 hm2 ha.pe na) ne, sem_tupR (sem_rg1 ha.sem)⟩
theorem F_lstR1 {p p2 pos2 : Pos} (hc : X.calm = true) (hg : Gl X "list") (hm : X.mg "list" = none) (hg2 : Gl X "range") (hm2 : X.mg "range" = none) (ha : SE K X a ta fa) (na : starEach [a] X.env = (false, eval a X.env) :: starEach [] X.env := by rfl)
    (ne : starEach [.Call (.Name "range" p2) [a] [] pos2] X.env = (false, eval (.Call (.Name "range" p2) [a] [] pos2) X.env) :: starEach [] X.env := by rfl) :
    SF K X (.Call (.Name "list" p) [.Call (.Name "range" p2) [a] [] pos2] [] pos) (tLstRg (tRg1 ta)) (fLstR (fRg1 fa)) := ⟨pe_listRg hc hg hm (prg_1 hg2 hm2 ha.pe na) ne, semF_lstR (sem_rg1 ha.sem)⟩
/-! own calls -/
theorem c_nil : SC K X [] tNil aNil := ⟨pa_nil, sem_anil, fun _ _ _ e => by cases e; rfl⟩
theorem c_cons {es : List Expr} {t : TA} {f : G1} (ha : SE K X a ta fa) (hr : SC K X es t f) (hs : starEach (a :: es) X.env = (false, eval a X.env) :: starEach es X.env := by rfl) : SC K X (a :: es) (tCons ta t) (aCons fa f) := ⟨pa_cons ha.pe hr.pe hs, sem_acons ha.sem hr.sem, fun ρ as ρ1 e => by
  unfold aCons at e
  split at e
  · cases e
  split at e
  · cases e
  rename_i e2
  cases e
  simp [hr.len _ _ _ e2]⟩
theorem c_by {es : List Expr} {t : TA} {f : G1} {i : Nat} (ha : PE X a (tVar i)) (hr : SC K X es t f) (hs : starEach (a :: es) X.env = (false, eval a X.env) :: starEach es X.env := by rfl) : SC K X (a :: es) (tCons (tVar i) t) (aBy i f) := ⟨pa_cons ha hr.pe hs, sem_aby i hr.sem, fun ρ as ρ1 e => by
  unfold aBy at e
  split at e
  · cases e
  split at e
  · cases e
  rename_i e2
  cases e
  simp [hr.len _ _ _ e2]⟩
theorem e_call {k : Nat} {f : Addr} {fd : FuncData} {ps : List Str} {n : Nat} {F : Fn} {x : Str} {p : Pos} {es : List Expr} {t : TA} {fs : G1} (G : FnG X.prog X.w X.K X.mg X.base k f fd ps (spF K n F)) (cl : Cl0 X.A) (hr : Room k X.A) (hg : Gl X x) (hm : X.mg x = some (.ref f)) (hk : PySem.W.keepIn K (.ref f) = true) (hb : Binds K fd ps [])
    (ha : SC K X (a :: es) t fs) (hn : (a :: es).length = n := by rfl) (hdb : (x == ("__debug__" : Str)) = false := by decide) (he : starEach (a :: es) X.env = (false, eval a X.env) :: starEach es X.env := by rfl) (hpl : (backTo pos (starEach es X.env)).any (·.1) = false := by rfl) (hK : X.K = K := by rfl) :
    SE K X (.Call (.Name x p) (a :: es) [] pos) (fun σ H Q => t σ H fun vs H1 => spF K n F vs H1 Q E0) (fCallE F fs) := by
  subst hK
  exact ⟨pe_callG G cl hr hg hm hk hb ha.pe hdb he hpl, sem_callE ha.sem fun ρ as ρ1 e => by rw [ha.len ρ as ρ1 e]; exact hn⟩
theorem e_callTmp {k : Nat} {f : Addr} {fd : FuncData} {ps : List Str} {F : Fn} {x : Str} {p : Pos} {f1 : A1} (G : FnG X.prog X.w X.K X.mg X.base k f fd ps (spF K 1 F)) (cl : Cl0 X.A) (hr : Room k X.A) (hg : Gl X x) (hm : X.mg x = some (.ref f)) (hk : PySem.W.keepIn K (.ref f) = true) (hb : Binds K fd ps [])
    (ha : SF K X a ta f1) (hdb : (x == ("__debug__" : Str)) = false := by decide) (he : starEach [a] X.env = (false, eval a X.env) :: starEach [] X.env := by rfl) (hpl : (backTo pos (starEach [] X.env)).any (·.1) = false := by rfl) (hK : X.K = K := by rfl) :
    SE K X (.Call (.Name x p) [a] [] pos) (fun σ H Q => tCons ta tNil σ H fun vs H1 => spF K 1 F vs H1 Q E0) (fTmpE F f1) := by
  subst hK
  exact ⟨pe_callG G cl hr hg hm hk hb (pa_cons ha.pe pa_nil he) hdb he hpl, sem_tmpE ha.sem⟩
theorem F_call {k : Nat} {f : Addr} {fd : FuncData} {ps : List Str} {n : Nat} {F : Fn} {x : Str} {p : Pos} {es : List Expr} {t : TA} {fs : G1} (G : FnG X.prog X.w X.K X.mg X.base k f fd ps (spF K n F)) (cl : Cl0 X.A) (hr : Room k X.A) (hg : Gl X x) (hm : X.mg x = some (.ref f)) (hk : PySem.W.keepIn K (.ref f) = true) (hb : Binds K fd ps [])
    (ha : SC K X (a :: es) t fs) (hn : (a :: es).length = n := by rfl) (hdb : (x == ("__debug__" : Str)) = false := by decide) (he : starEach (a :: es) X.env = (false, eval a X.env) :: starEach es X.env := by rfl) (hpl : (backTo pos (starEach es X.env)).any (·.1) = false := by rfl) (hK : X.K = K := by rfl) :
    SF K X (.Call (.Name x p) (a :: es) [] pos) (fun σ H Q => t σ H fun vs H1 => spF K n F vs H1 Q E0) (fCallF F fs) := by
  subst hK
  exact ⟨pe_callG G cl hr hg hm hk hb ha.pe hdb he hpl, sem_callF ha.sem fun ρ as ρ1 e => by rw [ha.len ρ as ρ1 e]; exact hn⟩
structure SK (K : PySem.W.Frag) (X : Cx) (kws : List Keyword) (t : TA) (f : A1) : Prop where
  pe : PK X kws t
  sem : SemA K t f
theorem k_nil : SK K X [] tNil fNil := ⟨pk_nil, sem_nil⟩
theorem k_cons {nm : Option Str} {kpos : Pos} {kws : List Keyword} {t : TA} {f : A1} (ha : SE K X a ta fa) (hr : SK K X kws t f) : SK K X (⟨nm, a, kpos⟩ :: kws) (tCons ta t) (fCons fa f) := ⟨pk_cons ha.pe hr.pe, sem_cons ha.sem hr.sem⟩
theorem e_callK {k : Nat} {f : Addr} {fd : FuncData} {ps ks : List Str} {n : Nat} {F : Fn} {x : Str} {p : Pos} {kws : List Keyword} {tk : TA} {fk : A1} (perm : List Nat) (G : FnG X.prog X.w X.K X.mg X.base k f fd ps (spF K n F)) (cl : Cl0 X.A) (hr : Room k X.A) (hg : Gl X x) (hm : X.mg x = some (.ref f)) (hk : PySem.W.keepIn K (.ref f) = true)
    (hb : ∀ (s : Shared) (us : List Value), us.length = ks.length → BindsTo s fd ⟨[], ks.zip us⟩ (ps.zip (pick perm us))) (hp : ∀ ds : List PyData, ds.length = ks.length → (pick perm ds).length = n) (ha : SK K X kws tk fk)
    (hall : (backToKw pos (keywordEach kws X.env)).all (·.1.isSome) = true := by rfl) (hks : (backToKw pos (keywordEach kws X.env)).filterMap (·.1) = ks := by rfl) (hdb : (x == ("__debug__" : Str)) = false := by decide)
    (hpl : ((backTo pos (starEach [] X.env)).any (·.1) || (backToKw pos (keywordEach kws X.env)).any (·.1.isNone)) = false := by rfl) (hK : X.K = K := by rfl) :
    SE K X (.Call (.Name x p) [] kws pos) (fun σ H Q => tk σ H fun zs H1 => zs.length = ks.length ∧ spF K n F (pick perm zs) H1 Q E0) (fCallK F perm ks.length fk) := by
  subst hK
  exact ⟨pe_callK perm G cl hr hg hm hk hb ha.pe hall hks hdb hpl, sem_callK perm ha.sem hp⟩
/-! what is walked -/
structure SI (K : PySem.W.Frag) (X : Cx) (tg e : Expr) (w : TI) (f : A1) : Prop where
  pe : PI X tg e w
  sem : SemI K w f
theorem i_seq {tg : Expr} (h : SE K X a ta fa) (hK : X.K = K := by rfl) : SI K X tg a (iSeq K ta) (fItems fa) := by
  subst hK
  exact ⟨pi_seq h.pe, sem_iseq h.sem⟩
theorem i_rng1 {tg : Expr} {p : Pos} {t : TA} {f : A1} (hg : Gl X "range") (hm : X.mg "range" = none) (h : SA K X [a] t f) (hs : starEach [a] X.env = [(false, eval a X.env)] := by rfl) : SI K X tg (.Call (.Name "range" p) [a] [] pos) (iRng1 t) (fRng1 f) := ⟨pi_range1 hg hm h.pe hs, sem_rng1 h.sem⟩
theorem i_rng2 {tg : Expr} {p : Pos} {t : TA} {f : A1} (hg : Gl X "range") (hm : X.mg "range" = none) (h : SA K X [a, b] t f) (hs : starEach [a, b] X.env = [(false, eval a X.env), (false, eval b X.env)] := by rfl) (hs2 : starEach [b] X.env = [(false, eval b X.env)] := by rfl) :
    SI K X tg (.Call (.Name "range" p) [a, b] [] pos) (iRng2 t) (fRng2 f) := ⟨pi_range2 hg hm h.pe hs hs2, sem_rng2 h.sem⟩
/-! tests -/
theorem t_val (h : SE K X e te fe) (he : ∀ whole, isTrue e X.env whole = (do let v ← whole; standAt e.pos; holding [v] (truthy v)) := by intro _; rfl) : ST K X e (tB te) (fT fe) := ⟨pt_val h.pe he, sem_tB h.sem⟩
theorem t_cmp {op : CmpOp} {r : R2} {g : G2} (s : OpS K r g) (ho : OpR X (compareOp op) r) (ha : SE K X a ta fa) (hb : SE K X b tb fb) (hm : behindInMarks op b = false) (hK : X.K = K := by rfl) : ST K X (.Compare a [op] [b] pos) (tTest (tOp r ta tb)) (fT (f2 g fa fb)) := by
  subst hK
  exact ⟨pt_cmpR ho ha.pe hb.pe hm, sem_tTest (sem_op s ha.sem hb.sem)⟩
theorem t_cmpR {op : CmpOp} {r : R2} {g : G2} {i : Nat} (s : OpS K r g) (ho : OpR X (compareOp op) r) (ha : SE K X a ta fa) (hb : PE X b (tVar i)) (hm : behindInMarks op b = false) (hK : X.K = K := by rfl) : ST K X (.Compare a [op] [b] pos) (tTest (tOp r ta (tVar i))) (fT (fOR g fa i)) := by
  subst hK
  exact ⟨pt_cmpR ho ha.pe hb hm, sem_tTest (sem_opR s i ha.sem)⟩
theorem t_cmpL {op : CmpOp} {r : R2} {g : G2} {i : Nat} (s : OpS K r g) (ho : OpR X (compareOp op) r) (ha : PE X a (tVar i)) (hb : SE K X b tb fb) (hm : behindInMarks op b = false) (hK : X.K = K := by rfl) : ST K X (.Compare a [op] [b] pos) (tTest (tOp r (tVar i) tb)) (fT (fOL g i fb)) := by
  subst hK
  exact ⟨pt_cmpR ho ha hb.pe hm, sem_tTest (sem_opL s i hb.sem)⟩
theorem t_chain {op op' : CmpOp} {r r' : R2} {g g' : G2} (s : OpS K r g) (ho : OpR X (compareOp op) r) (s' : OpS K r' g') (ho' : OpR X (compareOp op') r') (ha : SE K X a ta fa) (hb : SE K X b tb fb) (hc : SE K X c tc fc)
    (hm : lastMarks [op, op'] [b, c] = false := by with_unfolding_all rfl) (hK : X.K = K := by rfl) : ST K X (.Compare a [op, op'] [b, c] pos) (tTest (tChain r r' ta tb tc)) (fT (fChain g g' fa fb fc)) := by
  subst hK
  exact ⟨pt_chain ho ho' ha.pe hb.pe hc.pe hm, sem_tTest (sem_chain s s' ha.sem hb.sem hc.sem)⟩
structure SW (K : PySem.W.Frag) (X : Cx) (e : Expr) (t : TT) (f : B1) : Prop where
  pe : PW X e t
  sem : SemT K t f
section
variable {t u : TT} {ft fu : B1}
theorem t_w (h : SW K X e t ft) : ST K X e t ft := ⟨h.pe.pt, h.sem⟩
theorem w_and1 (h : ST K X a t ft) : SW K X (.BoolOp .And [a] pos) t ft := ⟨pw_and1 h.pe, h.sem⟩
theorem w_or1 (h : ST K X a t ft) : SW K X (.BoolOp .Or [a] pos) t ft := ⟨pw_or1 h.pe, h.sem⟩
theorem w_and {rest : List Expr} (h : ST K X a t ft) (g : SW K X (.BoolOp .And (b :: rest) pos) u fu) : SW K X (.BoolOp .And (a :: b :: rest) pos) (tAnd t u) (fAndT ft fu) := ⟨pw_and h.pe g.pe, sem_andT h.sem g.sem⟩
theorem w_or {rest : List Expr} (h : ST K X a t ft) (g : SW K X (.BoolOp .Or (b :: rest) pos) u fu) : SW K X (.BoolOp .Or (a :: b :: rest) pos) (tOr t u) (fOrT ft fu) := ⟨pw_or h.pe g.pe, sem_orT h.sem g.sem⟩
theorem t_not (h : ST K X a t ft) : ST K X (.UnaryOp .Not a pos) (tNot t) (fNotT ft) := ⟨pt_not h.pe, sem_notT h.sem⟩
/-! targets -/
structure SG (K : PySem.W.Frag) (X : Cx) (e : Expr) (g : TG) (h : T1) : Prop where
  pe : PG X e g
  sem : SemG K g h
theorem g_name {x : Str} (i : Nat) (hN : X.N.Nodup) (hi : X.N[i]? = some x := by rfl) (hx : Loc X.env.scope x := by first | exact .inl rfl | exact .inr rfl) (hf : X.fn x = true ∨ X.env.scope.names.lookup x = some .local := by first | exact .inl rfl | exact .inr rfl) :
    SG K X (.Name x pos) (gName i) (hName i) := ⟨pg_name hN hi hx hf, sem_name i⟩
structure SGs (K : PySem.W.Frag) (X : Cx) (es : List Expr) (g : TGs) (h : TN1) : Prop where
  pe : PGs X es g
  sem : SemGs K g h
theorem gs_nil : SGs K X [] gNil hNil := ⟨pgs_nil, sem_gnil⟩
theorem gs_cons {es : List Expr} {g : TG} {gs : TGs} {h : T1} {k : TN1} (h1 : SG K X e g h) (h2 : SGs K X es gs k) (hs : (assignEach (e :: es) X.env).map (·.2) = assign e X.env :: (assignEach es X.env).map (·.2) := by rfl) : SGs K X (e :: es) (gCons g gs) (hCons h k) := ⟨pgs_cons h1.pe h2.pe hs, sem_gcons h1.sem h2.sem⟩
theorem g_tup {es : List Expr} {k n : Nat} {gs : TGs} {h : TN1} (hc : X.calm = true) (h1 : SGs K X es gs h) (hn : (assignEach es X.env).length = n := by rfl) (hst : (assignEach es X.env).findIdx? (·.1) = none := by rfl) (hK : X.K = K := by rfl) : SG K X (.Tuple es k pos) (gTup K n gs) (hTup n h) := by
  subst hK
  exact ⟨pg_tup hc h1.pe hn hst, sem_gtup h1.sem⟩
theorem g_sub {i : Nat} (hi : SE K X b tb fb) (pg : PE X b tb → PG X (.Subscript a b pos) (L2.gSub (tVar i) tb rSetL)) : SG K X (.Subscript a b pos) (L2.gSub (tVar i) tb rSetL) (hSub i fb) := ⟨pg hi.pe, sem_gsub i hi.sem⟩
end
/-! list comprehensions -/
structure STs (K : PySem.W.Frag) (X : Cx) (ifs : List Expr) (t : TT) (f : B1) : Prop where
  pe : PTs X ifs t
  sem : SemT K t f
theorem ts_nil : STs K X [] tYes fYes := ⟨pts_nil, sem_yes⟩
theorem ts_one {t : TT} {f : B1} (h : ST K X c t f) : STs K X [c] t f := ⟨pts_one h.pe, h.sem⟩
section
variable {elt tg iter tg1 iter1 : Expr} {ifs ifs1 : List Expr} {scope : Scope} {own : List (Str × Nat)} {wi wi1 : TI} {fi fi1 : A1} {g g1 : TG} {h h1 : T1} {tt tt1 : TT} {ft ft1 : B1}
theorem F_lc (hc : X.calm = true) (hN : X.N.Nodup) (hi : SI K X tg iter wi fi) (ok : blkC X.N X.env.scope scope own = true)
    (hg : ∀ (s : Shared) (H : Hp) (C : Addr) (cl : List (Str × Addr)) (fp : List Addr), SG K (X.blk s H scope (compEnvC scope cl C X.env) fp) tg g h) (hv : GIn g (own.map (·.2)))
    (ht : ∀ (s : Shared) (H : Hp) (C : Addr) (cl : List (Str × Addr)) (fp : List Addr), STs K (X.blk s H scope (compEnvC scope cl C X.env) fp) ifs tt ft)
    (he : ∀ (s : Shared) (H : Hp) (C : Addr) (cl : List (Str × Addr)) (fp : List Addr), SE K (X.blk s H scope (compEnvC scope cl C X.env) fp) elt te fe) (hs : ∀ x, foldedSetIterable iter X.env x = pure x := by intro _; rfl) :
    SF K X (.ListComp elt [⟨tg, iter, ifs, 0⟩] scope pos) (tLc wi g tt te (own.map (·.2))) (fLc fi h ft fe (own.map (·.2))) :=
  ⟨pe_lc hc hN hi.pe (blkOk_by ok) (fun s H C cl fp => (hg s H C cl fp).pe) (fun s H C cl fp => (ht s H C cl fp).pe) (fun s H C cl fp => (he s H C cl fp).pe) hs,
    sem_lc _ hi.sem (hg X.s_0 (fun _ => none) 0 [] []).sem hv (ht X.s_0 (fun _ => none) 0 [] []).sem (he X.s_0 (fun _ => none) 0 [] []).sem⟩

theorem F_lc2 {vs1 : List Nat} (hc : X.calm = true) (hN : X.N.Nodup) (hi : SI K X tg iter wi fi) (ok : blkC X.N X.env.scope scope own = true) (hsub : ∀ i, i ∈ vs1 → i ∈ own.map (·.2))
    (hg : ∀ (s : Shared) (H : Hp) (C : Addr) (cl : List (Str × Addr)) (fp : List Addr), SG K (X.blk s H scope (compEnvC scope cl C X.env) fp) tg g h) (hv : GIn g (own.map (·.2)))
    (ht : ∀ (s : Shared) (H : Hp) (C : Addr) (cl : List (Str × Addr)) (fp : List Addr), STs K (X.blk s H scope (compEnvC scope cl C X.env) fp) ifs tt ft)
    (hi1 : ∀ (s : Shared) (H : Hp) (C : Addr) (cl : List (Str × Addr)) (fp : List Addr), SI K (X.blk s H scope (compEnvC scope cl C X.env) fp) tg1 iter1 wi1 fi1)
    (hg1 : ∀ (s : Shared) (H : Hp) (C : Addr) (cl : List (Str × Addr)) (fp : List Addr), SG K (X.blk s H scope (compEnvC scope cl C X.env) fp) tg1 g1 h1) (hv1 : GIn g1 vs1)
    (ht1 : ∀ (s : Shared) (H : Hp) (C : Addr) (cl : List (Str × Addr)) (fp : List Addr), STs K (X.blk s H scope (compEnvC scope cl C X.env) fp) ifs1 tt1 ft1)
    (he : ∀ (s : Shared) (H : Hp) (C : Addr) (cl : List (Str × Addr)) (fp : List Addr), SE K (X.blk s H scope (compEnvC scope cl C X.env) fp) elt te fe) (hs : ∀ x, foldedSetIterable iter X.env x = pure x := by intro _; rfl) (hs1 : ∀ env x, foldedSetIterable iter1 env x = pure x := by intro _ _; rfl) :
    SF K X (.ListComp elt [⟨tg, iter, ifs, 0⟩, ⟨tg1, iter1, ifs1, 0⟩] scope pos) (tLc2 wi g tt wi1 g1 tt1 te (own.map (·.2)) vs1) (fLc2 fi h ft fi1 h1 ft1 fe (own.map (·.2)) vs1) :=
  ⟨pe_lc2 hc hN hi.pe (blkOk_by ok) hsub (fun s H C cl fp => (hg s H C cl fp).pe) (fun s H C cl fp => (ht s H C cl fp).pe) (fun s H C cl fp => (hi1 s H C cl fp).pe) (fun s H C cl fp => (hg1 s H C cl fp).pe) (fun s H C cl fp => (ht1 s H C cl fp).pe) (fun s H C cl fp => (he s H C cl fp).pe) hs hs1,
    sem_lc2 _ vs1 hsub hi.sem (hg X.s_0 (fun _ => none) 0 [] []).sem hv (ht X.s_0 (fun _ => none) 0 [] []).sem (hi1 X.s_0 (fun _ => none) 0 [] []).sem (hg1 X.s_0 (fun _ => none) 0 [] []).sem hv1 (ht1 X.s_0 (fun _ => none) 0 [] []).sem (he X.s_0 (fun _ => none) 0 [] []).sem⟩
/-- name = [..]: the statement's own road -/
theorem s_setLc {y : Str} {py spos : Pos} (i : Nat) (hc : X.calm = true) (hN : X.N.Nodup) (hi : SI K X tg iter wi fi) (ok : blkC X.N X.env.scope scope own = true)
    (hg : ∀ (s : Shared) (H : Hp) (C : Addr) (cl : List (Str × Addr)) (fp : List Addr), SG K (X.blk s H scope (compEnvC scope cl C X.env) fp) tg g h) (hv : GIn g (own.map (·.2)))
    (ht : ∀ (s : Shared) (H : Hp) (C : Addr) (cl : List (Str × Addr)) (fp : List Addr), STs K (X.blk s H scope (compEnvC scope cl C X.env) fp) ifs tt ft)
    (he : ∀ (s : Shared) (H : Hp) (C : Addr) (cl : List (Str × Addr)) (fp : List Addr), SE K (X.blk s H scope (compEnvC scope cl C X.env) fp) elt te fe)
    (hsw : swapsWith (.ListComp elt [⟨tg, iter, ifs, 0⟩] scope pos) (some (.Name y py)) spos.line X.env = pure true)
    (hy : X.N[i]? = some y := by rfl) (hyl : X.env.scope.names.lookup y = some .local := by rfl) (hs : ∀ x, foldedSetIterable iter X.env x = pure x := by intro _; rfl) :
    SS K X (.Assign [.Name y py] (.ListComp elt [⟨tg, iter, ifs, 0⟩] scope pos) spos) (tAsg (tLc wi g tt te (own.map (·.2))) (gName i)) (sAsg (fF (fLc fi h ft fe (own.map (·.2)))) (hName i)) :=
  ⟨ps_setLc hc hN hy hyl hsw hi.pe (blkOk_by ok) (fun s H C cl fp => (hg s H C cl fp).pe) (fun s H C cl fp => (ht s H C cl fp).pe) (fun s H C cl fp => (he s H C cl fp).pe) hs,
    sem_asg (sem_lc _ hi.sem (hg X.s_0 (fun _ => none) 0 [] []).sem hv (ht X.s_0 (fun _ => none) 0 [] []).sem (he X.s_0 (fun _ => none) 0 [] []).sem).e (sem_name i)⟩
theorem s_setLc2 {y : Str} {py spos : Pos} {vs1 : List Nat} (i : Nat) (hc : X.calm = true) (hN : X.N.Nodup) (hi : SI K X tg iter wi fi) (ok : blkC X.N X.env.scope scope own = true) (hsub : ∀ i, i ∈ vs1 → i ∈ own.map (·.2))
    (hg : ∀ (s : Shared) (H : Hp) (C : Addr) (cl : List (Str × Addr)) (fp : List Addr), SG K (X.blk s H scope (compEnvC scope cl C X.env) fp) tg g h) (hv : GIn g (own.map (·.2)))
    (ht : ∀ (s : Shared) (H : Hp) (C : Addr) (cl : List (Str × Addr)) (fp : List Addr), STs K (X.blk s H scope (compEnvC scope cl C X.env) fp) ifs tt ft)
    (hi1 : ∀ (s : Shared) (H : Hp) (C : Addr) (cl : List (Str × Addr)) (fp : List Addr), SI K (X.blk s H scope (compEnvC scope cl C X.env) fp) tg1 iter1 wi1 fi1)
    (hg1 : ∀ (s : Shared) (H : Hp) (C : Addr) (cl : List (Str × Addr)) (fp : List Addr), SG K (X.blk s H scope (compEnvC scope cl C X.env) fp) tg1 g1 h1) (hv1 : GIn g1 vs1)
    (ht1 : ∀ (s : Shared) (H : Hp) (C : Addr) (cl : List (Str × Addr)) (fp : List Addr), STs K (X.blk s H scope (compEnvC scope cl C X.env) fp) ifs1 tt1 ft1)
    (he : ∀ (s : Shared) (H : Hp) (C : Addr) (cl : List (Str × Addr)) (fp : List Addr), SE K (X.blk s H scope (compEnvC scope cl C X.env) fp) elt te fe)
    (hsw : swapsWith (.ListComp elt [⟨tg, iter, ifs, 0⟩, ⟨tg1, iter1, ifs1, 0⟩] scope pos) (some (.Name y py)) spos.line X.env = pure true)
    (hy : X.N[i]? = some y := by rfl) (hyl : X.env.scope.names.lookup y = some .local := by rfl) (hs : ∀ x, foldedSetIterable iter X.env x = pure x := by intro _; rfl) (hs1 : ∀ env x, foldedSetIterable iter1 env x = pure x := by intro _ _; rfl) :
    SS K X (.Assign [.Name y py] (.ListComp elt [⟨tg, iter, ifs, 0⟩, ⟨tg1, iter1, ifs1, 0⟩] scope pos) spos) (tAsg (tLc2 wi g tt wi1 g1 tt1 te (own.map (·.2)) vs1) (gName i)) (sAsg (fF (fLc2 fi h ft fi1 h1 ft1 fe (own.map (·.2)) vs1)) (hName i)) :=
  ⟨ps_setLc2 hc hN hy hyl hsw hi.pe (blkOk_by ok) hsub (fun s H C cl fp => (hg s H C cl fp).pe) (fun s H C cl fp => (ht s H C cl fp).pe) (fun s H C cl fp => (hi1 s H C cl fp).pe) (fun s H C cl fp => (hg1 s H C cl fp).pe) (fun s H C cl fp => (ht1 s H C cl fp).pe) (fun s H C cl fp => (he s H C cl fp).pe) hs hs1,
    sem_asg (sem_lc2 _ vs1 hsub hi.sem (hg X.s_0 (fun _ => none) 0 [] []).sem hv (ht X.s_0 (fun _ => none) 0 [] []).sem (hi1 X.s_0 (fun _ => none) 0 [] []).sem (hg1 X.s_0 (fun _ => none) 0 [] []).sem hv1 (ht1 X.s_0 (fun _ => none) 0 [] []).sem (he X.s_0 (fun _ => none) 0 [] []).sem).e (sem_name i)⟩
end
/-! statements -/
section
variable {st : Stmt} {sts : List Stmt} {t u : TS} {f f' : S1}
theorem ss_nil : SSs K X [] tNext sNext := ⟨pss_nil, sem_next⟩
theorem ss_cons (h : SS K X st t f) (h' : SSs K X sts u f') : SSs K X (st :: sts) (tSeq t u) (sSeq f f') := ⟨pss_cons h.pe h'.pe, sem_seq h.sem h'.sem⟩
theorem ss_one (h : SS K X st t f) : SSs K X [st] t f := ⟨pss_one h.pe, h.sem⟩
theorem s_pass : SS K X (.Pass pos) tNext sNext := ⟨ps_pass, sem_next⟩
theorem s_break : SS K X (.Break pos) tBreak sBreak := ⟨ps_break, sem_break⟩
theorem s_cont : SS K X (.Continue pos) tCont sCont := ⟨ps_continue, sem_cont⟩
theorem s_never : SS K X st tNever sNever := ⟨ps_never, sem_never⟩
theorem s_expr (he : SE K X e te fe) (hs : swapsWith e none pos.line X.env = pure false := by rfl) : SS K X (.Expr e pos) (tDrop te) (sDrop fe) := ⟨ps_expr he.pe hs, sem_drop he.sem⟩
theorem s_ret (he : SE K X e te fe) : SS K X (.Return (some e) pos) (tRet te) (sRet fe) := ⟨ps_ret he.pe, sem_ret he.sem⟩
theorem s_retF {fA : A1} (he : SF K X e te fA) : SS K X (.Return (some e) pos) (tRet te) (sRetF fA) := ⟨ps_ret he.pe, sem_retF he.sem⟩
theorem s_if {tc : TT} {fc : B1} {as bs : List Stmt} (hc : ST K X c tc fc) (ha : SSs K X as t f) (hb : SSs K X bs u f') : SS K X (.If c as bs pos) (tIfS tc t u) (sIf fc f f') := ⟨ps_if hc.pe ha.pe hb.pe, sem_ifS hc.sem ha.sem hb.sem⟩
theorem s_set {x : Str} {pos' : Pos} (i : Nat) (hN : X.N.Nodup) (he : SE K X e te fe) (hi : X.N[i]? = some x := by rfl) (hx : Loc X.env.scope x := by first | exact .inl rfl | exact .inr rfl) (hs : swapsWith e (some (.Name x pos')) pos.line X.env = pure false := by rfl) (hf : X.fn x = true ∨ X.env.scope.names.lookup x = some .local := by first | exact .inl rfl | exact .inr rfl) :
    SS K X (.Assign [.Name x pos'] e pos) (tAsg te (gName i)) (sAsg fe (hName i)) := ⟨ps_set hN hi hx he.pe hs hf, sem_asg he.sem (sem_name i)⟩
theorem s_own {x : Str} {pos' : Pos} {fA : A1} (i : Nat) (hN : X.N.Nodup) (he : SF K X e te fA) (hi : X.N[i]? = some x := by rfl) (hx : Loc X.env.scope x := by first | exact .inl rfl | exact .inr rfl) (hs : swapsWith e (some (.Name x pos')) pos.line X.env = pure false := by rfl) (hf : X.fn x = true ∨ X.env.scope.names.lookup x = some .local := by first | exact .inl rfl | exact .inr rfl) :
    SS K X (.Assign [.Name x pos'] e pos) (tAsg te (gName i)) (sOwn fA i) := ⟨ps_set hN hi hx he.pe hs hf, sem_own he.sem i⟩
theorem s_asg {tg : Expr} {g : TG} {h : T1} (he : SE K X e te fe) (hg : SG K X tg g h) (hs : swapsWithSole [tg] e pos.line X.env = pure false := by rfl) (hw : swappedStores [tg] e X.env = pure none := by rfl) (h1 : (assignEach [tg] X.env).map (·.2) = [assign tg X.env] := by rfl) :
    SS K X (.Assign [tg] e pos) (tAsg te g) (sAsg fe h) := ⟨ps_asg he.pe hg.pe hs hw h1, sem_asg he.sem hg.sem⟩
theorem s_par {x y : Str} {px py pt : Pos} {kt k2 pt2} {ta : TA} {f : A1} (i j : Nat) (hc : X.calm = true) (hN : X.N.Nodup) (ha : SA K X [a, b] ta f) (hij : i ≠ j := by decide) (hi : X.N[i]? = some x := by rfl) (hj : X.N[j]? = some y := by rfl)
    (hx : X.env.scope.names.lookup x = some .local := by rfl) (hy : X.env.scope.names.lookup y = some .local := by rfl) (hw : swappedStores [.Tuple [.Name x px, .Name y py] kt pt] (.Tuple [a, b] k2 pt2) X.env = pure (some [x, y]) := by rfl)
    (hs : swapsWithSole [.Tuple [.Name x px, .Name y py] kt pt] (.Tuple [a, b] k2 pt2) pos.line X.env = pure false := by rfl) :
    SS K X (.Assign [.Tuple [.Name x px, .Name y py] kt pt] (.Tuple [a, b] k2 pt2) pos) (tPar i j ta) (sPar i j f) := ⟨ps_par hc hN hi hj hij hx hy ha.pe hw hs, sem_par i j ha.sem⟩
theorem s_parF {x y : Str} {px py pt : Pos} {kt k2 pt2} {fA : A1} (i j : Nat) (hc : X.calm = true) (hN : X.N.Nodup) (ha : SF K X a ta fA) (hb : SE K X b tb fb) (hij : i ≠ j := by decide) (hi : X.N[i]? = some x := by rfl) (hj : X.N[j]? = some y := by rfl)
    (hx : X.env.scope.names.lookup x = some .local := by rfl) (hy : X.env.scope.names.lookup y = some .local := by rfl) (hw : swappedStores [.Tuple [.Name x px, .Name y py] kt pt] (.Tuple [a, b] k2 pt2) X.env = pure (some [x, y]) := by rfl)
    (hs : swapsWithSole [.Tuple [.Name x px, .Name y py] kt pt] (.Tuple [a, b] k2 pt2) pos.line X.env = pure false := by rfl) (h1 : starEach [a, b] X.env = (false, eval a X.env) :: starEach [b] X.env := by rfl) (h2 : starEach [b] X.env = (false, eval b X.env) :: starEach [] X.env := by rfl) :
    SS K X (.Assign [.Tuple [.Name x px, .Name y py] kt pt] (.Tuple [a, b] k2 pt2) pos) (tPar i j (tCons ta (tCons tb tNil))) (sParF i j fA fb) := ⟨ps_par hc hN hi hj hij hx hy (pa_cons ha.pe (pa_cons hb.pe pa_nil h2) h1) hw hs, sem_parF i j ha.sem hb.sem⟩
theorem s_aug {x : Str} {op : Operator} {r : R2} {g : G2} {pos' : Pos} (i : Nat) (hN : X.N.Nodup) (s : OpS K r g) (ho : OpR X (inplaceOp op) r) (he : SE K X e te fe) (hi : X.N[i]? = some x := by rfl) (hx : Loc X.env.scope x := by first | exact .inl rfl | exact .inr rfl) (hf : X.fn x = true ∨ X.env.scope.names.lookup x = some .local := by first | exact .inl rfl | exact .inr rfl) (hK : X.K = K := by rfl) :
    SS K X (.AugAssign (.Name x pos') op e pos) (tAug i te r) (sAug g i fe) := by
  subst hK
  exact ⟨ps_aug hN hi hx he.pe (fun pins s σ H a b v u Q I r1 r2 h => ho pins s σ H a b v u Q I r1 r2 h) hf, sem_aug s i he.sem⟩
theorem s_app {o : Expr} {apos cpos : Pos} {i : Nat} (ho : PE X o (tVar i)) (he : SE K X e te fe) (hs : swapsWith (.Call (.Attribute o "append" apos) [e] [] cpos) none pos.line X.env = pure false := by rfl)
    (hbase : attributeBase o "append" X.env (eval o X.env) = eval o X.env := by rfl)
    (hfew : ((backTo cpos (starEach [e] X.env)).all (fun x => !x.1) && (backToKw cpos (keywordEach [] X.env)).all (fun x => x.1.isSome) && decide ([e].length + ([] : List Keyword).length + (if ([] : List Keyword).isEmpty then 0 else 1) < 30)) = true := by rfl)
    (hline : (apos.endLine == cpos.line) = true := by rfl) (h1 : starEach [e] X.env = (false, eval e X.env) :: starEach [] X.env := by rfl) (hplain : (backTo cpos (starEach [] X.env)).any (·.1) = false := by rfl) (hK : X.K = K := by rfl) :
    SS K X (.Expr (.Call (.Attribute o "append" apos) [e] [] cpos) pos) (tDrop (tBM K "list" rAppend (tVar i) (tCons te tNil))) (sApp i fe) := by
  subst hK
  exact ⟨ps_expr (pe_bm PySem.F.plainAttrs_list PySem.F.slot_list_append PySem.F.type_list_append mt_append ho (pa_cons he.pe pa_nil h1) hbase hfew hline h1 hplain) hs, sem_app i he.sem⟩
theorem s_for {iter tg : Expr} {body : List Stmt} {wi : TI} {fi : A1} {g : TG} {h : T1} (hp : PassesOwn (model X.prog X.w) X.A X.env X.xe) (hc : X.calm = true) (hi : SI K X tg iter wi fi) (hg : SG K X tg g h) (hb : SSs K X body t f) (hs : ∀ x, foldedSetIterable iter X.env x = pure x := by intro _; rfl) :
    SS K X (.For tg iter body [] pos) (tFor wi g t) (sFor fi h f) := ⟨ps_for hp hc hi.pe hg.pe hb.pe hs, sem_for hi.sem hg.sem hb.sem⟩
end
end
/-- a def that is there, by its name -/
structure Has (P : Program) (w : World) (K : PySem.W.Frag) (mg : Str → Option Value) (base : Heap) (k : Nat) (x : Str) (ps : List Str) (n : Nat) (F : Fn) (kb : FuncData → Prop) : Prop where
  ex : ∃ f fd, FnG P w K mg base k f fd ps (spF K n F) ∧ mg x = some (.ref f) ∧ PySem.W.keepIn K (.ref f) = true ∧ Binds K fd ps [] ∧ kb fd
theorem room65 {A : Around} {k : Nat} (r : Room k A) : A.units + 65 < cLine := by have := r.un; omega
end Dv

/-! Dv: the end of a law's row. -/
namespace Dv
open PySem PySem.Spec PyProof.Rows L2

theorem endG {P : Program} {w : World} {K : PySem.W.Frag} {mg mb : Str → Option Value} {k : Nat} {fa a : Addr} {nm x : Str} {F : Fn} {kb : FuncData → Prop} {s : Shared} {vs : List Value} {ns : List Int}
    (KX : K.In s.heap) (hns : s.heap.Ns mainGlobals mg) (hb : s.heap.Ns builtinsNs mb) (hbb : ∀ x : Str, x ≠ "__name__" → mb x = bootBuiltins x) (hlim : s.heap.NoLimit) (hg : s.gens = #[])
    (ha : s.heap.get? a = some { cls := .type "list", data := .seq vs.toArray }) (hi : IntsAre vs ns) (hl : ns.length ≤ sizeLine) (hr : Room k callerA)
    (hm : mg nm = some (.ref fa)) (GG : ∀ base : Heap, K.In base → base.Ns mainGlobals mg → Has P w K mg base k nm [x] 1 F kb)
    (hF : ∃ outs, F [.pl (.dict [(.none, .list (ns.map .int))])] = some (.pl (.bool true), outs)) :
    codeAny (model P w) callerA (.call (.ref fa) ⟨[.ref a], []⟩) (fun r s' => r = .ok (.ret (.bool true)) ∧ OldK s.heap s'.heap ∧ s'.os = s.os ∧ AllBare s'.gens) s := by
  have rv : Vals (ns.map V.int) vs := vals_ints hi
  obtain ⟨outs, hF⟩ := hF
  -- from any heap that knows the script at most
  have core : ∀ H : Hp, (∀ b, H b = none ∨ ∃ o xs, H b = some (.frz o (.lst xs))) → SqL K H a (ns.map V.int) → HOk P w H s.heap → (∀ b, H b ≠ none → b = a) → (H a ≠ none → K.lookup a = none) →
      codeAny (model P w) callerA (.call (.ref fa) ⟨[.ref a], []⟩) (fun r s' => r = .ok (.ret (.bool true)) ∧ OldK s.heap s'.heap ∧ s'.os = s.os ∧ AllBare s'.gens) s := by
    intro H hO hS hok hA hK
    have out : ∀ {b : Addr} {o : Obj}, s.heap.get? b = some o → b ≠ a → H b = none := fun {b o} e hn => by
      cases q : H b with
      | none => rfl
      | some u => exact absurd (hA b (by rw [q]; exact fun z => by cases z)) hn
    have noDict : ∀ {o : Obj} {es : Array DictEntry} {ep : Nat}, s.heap.get? a = some o → o.data = .dict es ep → False := fun {o es ep} e d => by
      rw [ha] at e
      cases e
      cases (show Data.seq vs.toArray _ = Data.dict es ep from d)
    have ns_ : ∀ {b : Addr} {m : Str → Option Value}, s.heap.Ns b m → (hidT s.heap H).Ns b m := fun {b m} ⟨o, es, ep, e, d, r⟩ => by
      have hn : b ≠ a := fun z => by subst z; exact noDict e d
      exact ⟨o, es, ep, hidT_get e (out e hn), d, r⟩
    have hKb : K.In (hidT s.heap H) := fun b o e => by
      refine hidT_get (KX b o e) ?_
      cases q : H b with
      | none => rfl
      | some u =>
        have e' := hA b (by rw [q]; exact fun z => by cases z)
        subst e'
        rw [hK (by rw [q]; exact fun z => by cases z)] at e
        cases e
    obtain ⟨mc, l1, l2⟩ := hlim
    have hM : Mod K mg (hidT s.heap H) := { kin := hKb, glob := ns_ hns, blt := ⟨mb, ns_ hb, hbb⟩, nolimit := ⟨mc, ns_ l1, l2⟩ }
    have e0 : Env0 P w K mg (hidT s.heap H) callerA [] s H :=
      { frames := rfl, mod := hM, bs := fun b o e => of_hidT e, bsz := Nat.le_of_eq (hidT_size _ _), funs := trivial, frf := (fun b hb => absurd (show b ∈ ([] : List Addr) from hb) (by simp)), hok := hok, bare := .of_eq hg }
    have sp : spF K 1 F [.ref a] H (fun v _ => v = .bl true) E0 := by
      refine ⟨fun _ => False, [none], [.pl (.dict [(.none, .list (ns.map .int))])], .pl (.bool true), outs, hF, rfl, rfl, rfl, fun i x hx => ?_, fun i j c h => ?_, fun b h => h.elim, fun c h => ?_, fun v H' af ro => ?_⟩
      · cases i with
        | zero =>
          simp at hx
          subst hx
          refine ⟨none, .ref a, rfl, rfl, rfl, .scr ?_⟩
          rcases hS with (h | ⟨o, h⟩) | h
          · exact .inl (.inl (hd_some.mpr ⟨fun z => z, by simp, h⟩))
          · exact .inl (.inr ⟨o, hd_some.mpr ⟨fun z => z, by simp, h⟩⟩)
          · exact .inr h
        | succ i => simp at hx
      · cases i with
        | zero => simp at h
        | succ i => simp at h
      · simp at h
      · exact Rp.bl_of ro
    obtain ⟨f1, fd, G1, g1, _, b1, _⟩ := (GG _ hKb (ns_ hns)).ex
    rw [hm] at g1
    cases g1
    have b2 : BindsTo s fd ⟨[.ref a], []⟩ [(x, .ref a)] := b1 s [.ref a] KX rfl
    refine codeAny_mono (G1.go callerA [] s H ⟨[.ref a], []⟩ [.ref a] [.ref a] _ rfl hr e0 b2 (.cons rfl .nil) sp) ?_
    intro r s' h
    rcases r with er | fl
    · exact False.elim h
    · rcases fl with _ | _ | _ | u
      · exact False.elim h
      · exact False.elim h
      · exact False.elim h
      · obtain ⟨v, H', os, bare, un, hok', r', q⟩ := h
        have q' : v = .bl true := q
        subst q'
        obtain rfl : u = Value.bool true := r'
        refine ⟨rfl, OldK.of_keep ?_, os, bare⟩
        intro b o e
        rcases hO b with z | ⟨ob, xs, z⟩
        · exact un.keep b o e z (fun m => by cases (show b ∈ ([] : List Addr) from m)) (by simp)
        · obtain ⟨e1, _⟩ := hok b _ z
          obtain ⟨e2, _⟩ := hok' b _ (un.frzs b ob _ z)
          rw [e] at e1
          cases e1
          exact e2
  have hlen := hi.length
  cases hk : K.lookup a with
  | some o =>
    have e := KX a o hk
    rw [ha] at e
    cases e
    exact core (fun _ => none) (fun _ => .inl rfl) (.inr ⟨_, vs.toArray, _, hk, rfl, rfl, rfl, by rw [List.size_toArray, hlen]; exact hl, by simpa using rv⟩) (fun b u z => nomatch (show (none : Option HO) = some u from z)) (fun b z => absurd rfl z) fun z => absurd rfl z
  | none =>
    let Hs : Hp := fun b => if b = a then some (.frz { cls := .type "list", data := .seq vs.toArray } (.lst (ns.map V.int))) else none
    have hs : Hs a = some (.frz { cls := .type "list", data := .seq vs.toArray } (.lst (ns.map V.int))) := if_pos rfl
    have hn : ∀ b, b ≠ a → Hs b = none := fun b q => if_neg q
    refine core Hs (fun b => ?_) (.inl (.inr ⟨_, hs⟩)) (fun b u z => ?_) (fun b z => ?_) fun _ => hk
    · by_cases q : b = a
      · rw [q]; exact .inr ⟨_, _, hs⟩
      · exact .inl (hn b q)
    · by_cases q : b = a
      · subst q
        rw [hs] at z
        cases z
        exact ⟨ha, by rw [List.length_map]; exact hl, vs, _, rv, ha⟩
      · rw [hn b q] at z; cases z
    · by_cases q : b = a
      · exact q
      · exact absurd (hn b q) z
theorem walkG {l : PySem.W.OpenLaw} {n k : Nat} {q : Program} {loose : List Str} {XP : (Str → Option Value) → Heap → Prop} {YP : World → Heap → Prop} {d : DefRec} {K : Params → PySem.W.Frag} {F : Fn} {kb : FuncData → Prop} {x : Str}
    (hn : l.most = some n) (hn2 : n ≤ sizeLine) (hdf : d.params.defaults = []) (hr : Room k callerA) (hY : ∀ (w : World) (h : Heap), YP w h → (K w.params).In h)
    (hG : ∀ (w : World) (mg : Str → Option Value) (base : Heap), (K w.params).In base → base.Ns mainGlobals mg → Has l.prog w (K w.params) mg base k d.name [x] 1 F kb)
    (hF : ∀ ns : List Int, ns.length ≤ n → ∃ outs, F [.pl (.dict [(.none, .list (ns.map .int))])] = some (.pl (.bool true), outs)) :
    PySem.W.WalkO q loose XP YP l.row.toRowW d [] (fun f vs => PySem.call f vs) := by
  refine Att.attach_call hn hdf ?_
  intro w s₀ s₁ mg mb fa o pm cd doc a vs ns G Y ho hd hcd hmg hobj hints hlen hg
  exact endG (hY w _ Y) G.T.g G.T.b G.T.builtins G.T.nolimit hg hobj hints (Nat.le_trans hlen hn2) hr hmg (hG w mg) (hF ns hlen)
end Dv

/-! Dv: a program of data run step by step. -/
namespace Dv
open PySem
section
variable {ρ ρ1 ρ2 ρ3 ρ4 : REnv} {fa fb fc fe : D1} {ft fu : B1} {f g : S1} {x y z d r : PyData} {b c : Bool}
theorem seqN (e : f ρ = some (.nx, ρ1)) : sSeq f g ρ = g ρ1 := by simp only [sSeq, e]
theorem seqR {r : Ret} (e : f ρ = some (.rt r, ρ1)) : sSeq f g ρ = some (.rt r, ρ1) := by simp only [sSeq, e]
theorem seqB (e : f ρ = some (.bk, ρ1)) : sSeq f g ρ = some (.bk, ρ1) := by simp only [sSeq, e]
theorem ifT (e : ft ρ = some (true, ρ1)) : sIf ft f g ρ = f ρ1 := by simp only [sIf, e]
theorem ifF (e : ft ρ = some (false, ρ1)) : sIf ft f g ρ = g ρ1 := by simp only [sIf, e]
theorem asg (e : fe ρ = some (d, ρ1)) (i : Nat) : sAsg fe (hName i) ρ = some (.nx, ρ1.set i (some (.pl d))) := by simp only [sAsg, e, hName]
theorem asgT {h : T1} (e : fe ρ = some (d, ρ1)) (q : h d ρ1 = some ρ2) : sAsg fe h ρ = some (.nx, ρ2) := by simp only [sAsg, e, q]
theorem ret (e : fe ρ = some (d, ρ1)) : sRet fe ρ = some (.rt (.pl d), ρ1) := by simp only [sRet, e]
theorem retF {fl : A1} {ds : List PyData} (e : fl ρ = some (ds, ρ1)) : sRetF fl ρ = some (.rt (.fr ds), ρ1) := by simp only [sRetF, e]
theorem own_ {fl : A1} {ds : List PyData} (e : fl ρ = some (ds, ρ1)) (i : Nat) : sOwn fl i ρ = some (.nx, ρ1.set i (some (.ow ds))) := by simp only [sOwn, e]
theorem drop_ (e : fe ρ = some (d, ρ1)) : sDrop fe ρ = some (.nx, ρ1) := by simp only [sDrop, e]
theorem par_ {fl : A1} (e : fl ρ = some ([x, y], ρ1)) (i j : Nat) : sPar i j fl ρ = some (.nx, (ρ1.set i (some (.pl x))).set j (some (.pl y))) := by simp only [sPar, e]
theorem parF_ {fl : A1} {ds : List PyData} (e : fl ρ = some (ds, ρ1)) (e2 : fe ρ1 = some (y, ρ2)) (i j : Nat) : sParF i j fl fe ρ = some (.nx, (ρ2.set i (some (.ow ds))).set j (some (.pl y))) := by simp only [sParF, e, e2]
theorem tT (e : fe ρ = some (.bool b, ρ1)) : fT fe ρ = some (b, ρ1) := by simp only [fT, e]
theorem andTt (e : ft ρ = some (true, ρ1)) : fAndT ft fu ρ = fu ρ1 := by simp only [fAndT, e]
theorem andTf (e : ft ρ = some (false, ρ1)) : fAndT ft fu ρ = some (false, ρ1) := by simp only [fAndT, e]
theorem andTb (e : ft ρ = some (b, ρ)) (q : b = true → fu ρ = some (c, ρ)) : fAndT ft fu ρ = some (b && c, ρ) := by
  cases b with
  | true => rw [andTt e, q rfl]; rfl
  | false => rw [andTf e]; rfl
theorem orTt (e : ft ρ = some (true, ρ1)) : fOrT ft fu ρ = some (true, ρ1) := by simp only [fOrT, e]
theorem orTf (e : ft ρ = some (false, ρ1)) : fOrT ft fu ρ = fu ρ1 := by simp only [fOrT, e]
theorem orTb (e : ft ρ = some (b, ρ)) (q : b = false → fu ρ = some (c, ρ)) : fOrT ft fu ρ = some (b || c, ρ) := by
  cases b with
  | true => rw [orTt e]; rfl
  | false => rw [orTf e, q rfl]; rfl
theorem notT_ (e : ft ρ = some (b, ρ1)) : fNotT ft ρ = some (!b, ρ1) := by simp only [fNotT, e]
theorem andVb (e : fa ρ = some (.bool b, ρ)) (q : b = true → fb ρ = some (.bool c, ρ)) : fAndV fa fb ρ = some (.bool (b && c), ρ) := by
  cases b with
  | true => simp only [fAndV, e, q rfl, Bool.true_and]
  | false => simp only [fAndV, e, Bool.false_and]
theorem orVb (e : fa ρ = some (.bool b, ρ)) (q : b = false → fb ρ = some (.bool c, ρ)) : fOrV fa fb ρ = some (.bool (b || c), ρ) := by
  cases b with
  | true => simp only [fOrV, e, Bool.true_or]
  | false => simp only [fOrV, e, q rfl, Bool.false_or]
theorem notV_ (e : fa ρ = some (.bool b, ρ1)) : fNotV fa ρ = some (.bool (!b), ρ1) := by simp only [fNotV, e]
theorem ifVt (e : ft ρ = some (true, ρ1)) : fIf ft fa fb ρ = fa ρ1 := by simp only [fIf, e]
theorem ifVf (e : ft ρ = some (false, ρ1)) : fIf ft fa fb ρ = fb ρ1 := by simp only [fIf, e]
theorem op2 {o : G2} (e1 : fa ρ = some (x, ρ1)) (e2 : fb ρ1 = some (y, ρ2)) (q : o x y = some z) : f2 o fa fb ρ = some (z, ρ2) := by simp only [f2, e1, e2, q]
theorem op1 {o : PyData → Option PyData} (e1 : fa ρ = some (x, ρ1)) (q : o x = some z) : f1 o fa ρ = some (z, ρ1) := by simp only [f1, e1, q]
theorem chainT {o o' : G2} (e1 : fa ρ = some (x, ρ)) (e2 : fb ρ = some (y, ρ)) (e3 : fc ρ = some (z, ρ)) (q1 : o x y = some (.bool b)) (q2 : b = true → o' y z = some (.bool c)) : fChain o o' fa fb fc ρ = some (.bool (b && c), ρ) := by
  cases b with
  | true => simp only [fChain, e1, e2, e3, q1, q2 rfl, Bool.true_and]
  | false => simp only [fChain, e1, e2, q1, Bool.false_and]
theorem nil_ : fNil ρ = some ([], ρ) := rfl
theorem cons_ {fl : A1} {xs : List PyData} (e1 : fa ρ = some (x, ρ1)) (e2 : fl ρ1 = some (xs, ρ2)) : fCons fa fl ρ = some (x :: xs, ρ2) := by simp only [fCons, e1, e2]
theorem one_ (e1 : fa ρ = some (x, ρ1)) : fCons fa fNil ρ = some ([x], ρ1) := by simp only [fCons, e1, fNil]
theorem two_ (e1 : fa ρ = some (x, ρ1)) (e2 : fb ρ1 = some (y, ρ2)) : fCons fa (fCons fb fNil) ρ = some ([x, y], ρ2) := cons_ e1 (one_ e2)
theorem cb_ {o : GN} {fl : A1} {xs : List PyData} (e : fl ρ = some (xs, ρ1)) (q : o xs = some z) : fCB o fl ρ = some (z, ρ1) := by simp only [fCB, e, q]
theorem cb1 {o : GN} (e : fa ρ = some (x, ρ1)) (q : o [x] = some z) : fCB o (fCons fa fNil) ρ = some (z, ρ1) := cb_ (one_ e) q
theorem cb2 {o : GN} (e1 : fa ρ = some (x, ρ1)) (e2 : fb ρ1 = some (y, ρ2)) (q : o [x, y] = some z) : fCB o (fCons fa (fCons fb fNil)) ρ = some (z, ρ2) := cb_ (two_ e1 e2) q
theorem cbF1 {o : List PyData → Option (List PyData)} {zs : List PyData} (e : fa ρ = some (x, ρ1)) (q : o [x] = some zs) : fCBF o (fCons fa fNil) ρ = some (zs, ρ1) := by simp only [fCBF, one_ e, q]
theorem fF_ {fl : A1} {xs : List PyData} (e : fl ρ = some (xs, ρ1)) : fF fl ρ = some (.list xs, ρ1) := by simp only [fF, e]
theorem lst_ {fl : A1} {xs : List PyData} (e : fl ρ = some (xs, ρ1)) (h : xs.length ≤ sizeLine) : fLst fl ρ = some (xs, ρ1) := by simp only [fLst, e, h, if_true]
theorem tup_ {fl : A1} {xs : List PyData} (e : fl ρ = some (xs, ρ1)) (h : xs.length ≤ sizeLine) : fTup fl ρ = some (.tuple xs, ρ1) := by simp only [fTup, e, h, if_true]
theorem items_ {ds : List PyData} (e : fa ρ = some (x, ρ1)) (q : itemsOf x = some ds) : fItems fa ρ = some (ds, ρ1) := by simp only [fItems, e, q]
theorem rng1_ {j : Int} (e : fa ρ = some (.int j, ρ1)) (h : okR j = true) : fRng1 (fCons fa fNil) ρ = some (rangeD 0 j.toNat, ρ1) := by simp only [fRng1, one_ e, h, if_true]
theorem rng2_ {i j : Int} (e : fa ρ = some (.int i, ρ1)) (e2 : fb ρ1 = some (.int j, ρ2)) (h : okR i = true) (h2 : okR j = true) : fRng2 (fCons fa (fCons fb fNil)) ρ = some (rangeD i (j - i).toNat, ρ2) := by simp only [fRng2, two_ e e2, h, h2, Bool.and_self, if_true]
theorem for_ {fl : A1} {h : T1} {ds : List PyData} (e : fl ρ = some (ds, ρ1)) : sFor fl h f ρ = loopF h f ds ρ1 := by simp only [sFor, e]
/-! calls -/
theorem call1 {F : Fn} {o : List (Option (List PyData))} (e : fa ρ = some (x, ρ1)) (q : F [.pl x] = some (.pl r, none :: o)) : fCallE F (aCons fa aNil) ρ = some (r, ρ1) := by
  simp only [fCallE, fCall, aCons, e, aNil, oneBy, toPV, q, setOuts, if_true]
theorem call2 {F : Fn} {o : List (Option (List PyData))} (e : fa ρ = some (x, ρ1)) (e2 : fb ρ1 = some (y, ρ2)) (q : F [.pl x, .pl y] = some (.pl r, none :: none :: o)) : fCallE F (aCons fa (aCons fb aNil)) ρ = some (r, ρ2) := by
  simp only [fCallE, fCall, aCons, e, e2, aNil, oneBy, toPV, q, setOuts, if_true]
theorem callB0 {F : Fn} {i : Nat} {v : PV} {ds ds' : List PyData} {o : List (Option (List PyData))} (ho : ρ[i]? = some (some v)) (hv : v.lst? = some ds) (q : F [.rf ds] = some (.pl r, some ds' :: o)) : fCallE F (aBy i aNil) ρ = some (r, ρ.set i (some (v.put ds'))) := by
  have h1 : ownAt ρ i = some ds := by simp only [ownAt, ho, hv]
  have h2 : oneBy [.by i] = true := rfl
  simp only [fCallE, fCall, aBy, h1, aNil, h2, toPV, q, setOuts, if_true, ho]
theorem callB1 {F : Fn} {i : Nat} {v : PV} {ds ds' : List PyData} {o : List (Option (List PyData))} (ho : ρ[i]? = some (some v)) (hv : v.lst? = some ds) (e : fa ρ = some (x, ρ)) (q : F [.rf ds, .pl x] = some (.pl r, some ds' :: none :: o)) : fCallE F (aBy i (aCons fa aNil)) ρ = some (r, ρ.set i (some (v.put ds'))) := by
  have h1 : ownAt ρ i = some ds := by simp only [ownAt, ho, hv]
  have h2 : oneBy [.by i, .pl x] = true := rfl
  simp only [fCallE, fCall, aBy, h1, aCons, e, aNil, h2, toPV, q, setOuts, if_true, ho]
/-- a def's end -/
theorem fnR {m : Nat} {xs : List PV} {r : Ret} {os : List (Option (List PyData))} (e : f (xs.map some ++ List.replicate (m - xs.length) none) = some (.rt r, ρ1)) (ho : outsOf ρ1 xs = os) : fnOf m f xs = some (r, os) := by simp only [fnOf, e, ho]
theorem fnN {m : Nat} {xs : List PV} {os : List (Option (List PyData))} (e : f (xs.map some ++ List.replicate (m - xs.length) none) = some (.nx, ρ1)) (ho : outsOf ρ1 xs = os) : fnOf m f xs = some (.pl .none, os) := by simp only [fnOf, e, ho]
end
/-! ### comprehensions -/
theorem comp_fm {α : Type} {v : Nat} {ft : B1} {fe : D1} {ρ : REnv} {f : α → PyData} {p : α → Bool} {g : α → PyData} (hw : ∀ x, wipeR (ρ.set v x) [v] = ρ) :
    ∀ (l : List α) (acc : List PyData), (∀ a ∈ l, ft (ρ.set v (some (.pl (f a)))) = some (p a, ρ.set v (some (.pl (f a))))) →
      (∀ a ∈ l, p a = true → fe (ρ.set v (some (.pl (f a)))) = some (g a, ρ.set v (some (.pl (f a))))) →
      compF (hName v) ft fe [v] (l.map f) acc ρ = some (acc ++ (l.filter p).map g, ρ)
  | [], acc, _, _ => by simp [compF]
  | a :: l, acc, h1, h2 => by
    have i1 := h1 a List.mem_cons_self
    have ih := fun acc => comp_fm hw l acc (fun b m => h1 b (List.mem_cons_of_mem _ m)) (fun b m => h2 b (List.mem_cons_of_mem _ m))
    rw [List.map_cons]
    cases hp : p a with
    | false =>
      rw [hp] at i1
      simp [compF, hName, i1, hw, ih, hp]
    | true =>
      rw [hp] at i1
      have i2 := h2 a List.mem_cons_self hp
      simp [compF, hName, i1, i2, hw, ih, hp]
theorem lc_fm {α : Type} {v : Nat} {fi : A1} {ft : B1} {fe : D1} {ρ : REnv} {f : α → PyData} {p : α → Bool} {g : α → PyData} (l : List α) {ds : List PyData} (hd : ds = l.map f) (hi : fi ρ = some (ds, ρ)) (hl : l.length ≤ sizeLine)
    (hw : ∀ x, wipeR ((wipeR ρ [v]).set v x) [v] = wipeR ρ [v]) (hr : restR ρ (wipeR ρ [v]) [v] = ρ)
    (h1 : ∀ a ∈ l, ft ((wipeR ρ [v]).set v (some (.pl (f a)))) = some (p a, (wipeR ρ [v]).set v (some (.pl (f a)))))
    (h2 : ∀ a ∈ l, p a = true → fe ((wipeR ρ [v]).set v (some (.pl (f a)))) = some (g a, (wipeR ρ [v]).set v (some (.pl (f a))))) :
    fLc fi (hName v) ft fe [v] ρ = some ((l.filter p).map g, ρ) := by
  subst hd
  simp [fLc, hi, hl, comp_fm hw l [] h1 h2, hr]
theorem lc_m {α : Type} {v : Nat} {fi : A1} {fe : D1} {ρ : REnv} {f : α → PyData} {g : α → PyData} (l : List α) {ds : List PyData} (hd : ds = l.map f) (hi : fi ρ = some (ds, ρ)) (hl : l.length ≤ sizeLine)
    (hw : ∀ x, wipeR ((wipeR ρ [v]).set v x) [v] = wipeR ρ [v]) (hr : restR ρ (wipeR ρ [v]) [v] = ρ)
    (h2 : ∀ a ∈ l, fe ((wipeR ρ [v]).set v (some (.pl (f a)))) = some (g a, (wipeR ρ [v]).set v (some (.pl (f a))))) :
    fLc fi (hName v) fYes fe [v] ρ = some (l.map g, ρ) := by
  have e := lc_fm (v := v) (fi := fi) (ft := fYes) (fe := fe) (ρ := ρ) (f := f) (p := fun _ => true) (g := g) l hd hi hl hw hr (fun _ _ => rfl) (fun a m _ => h2 a m)
  rwa [List.filter_eq_self.mpr (fun _ _ => rfl)] at e
/-- two clauses, the second one's items by the first one's -/
theorem comp2_fm {α β : Type} {v v1 : Nat} {fi1 : A1} {ft1 : B1} {fe : D1} {ρ : REnv} {f : α → PyData} {m : α → List β} {f1 : α → β → PyData} {p : α → β → Bool} {g : α → β → PyData}
    (hw : ∀ x, wipeR (wipeR (ρ.set v x) [v1]) [v, v1] = ρ) (hw1 : ∀ x y, wipeR ((wipeR (ρ.set v x) [v1]).set v1 y) [v1] = wipeR (ρ.set v x) [v1]) :
    ∀ (l : List α) (acc : List PyData), (∀ a ∈ l, fi1 (ρ.set v (some (.pl (f a)))) = some ((m a).map (f1 a), ρ.set v (some (.pl (f a))))) →
      (∀ a ∈ l, ∀ b ∈ m a, ft1 ((wipeR (ρ.set v (some (.pl (f a)))) [v1]).set v1 (some (.pl (f1 a b)))) = some (p a b, (wipeR (ρ.set v (some (.pl (f a)))) [v1]).set v1 (some (.pl (f1 a b))))) →
      (∀ a ∈ l, ∀ b ∈ m a, p a b = true → fe ((wipeR (ρ.set v (some (.pl (f a)))) [v1]).set v1 (some (.pl (f1 a b)))) = some (g a b, (wipeR (ρ.set v (some (.pl (f a)))) [v1]).set v1 (some (.pl (f1 a b))))) →
      comp2F (hName v) fYes fi1 (hName v1) ft1 fe [v, v1] [v1] (l.map f) acc ρ = some (acc ++ l.flatMap fun a => ((m a).filter (p a)).map (g a), ρ)
  | [], acc, _, _, _ => by simp [comp2F]
  | a :: l, acc, h1, h2, h3 => by
    have ih := fun acc => comp2_fm hw hw1 l acc (fun b q => h1 b (List.mem_cons_of_mem _ q)) (fun b q => h2 b (List.mem_cons_of_mem _ q)) (fun b q => h3 b (List.mem_cons_of_mem _ q))
    have i1 := h1 a List.mem_cons_self
    have i2 := comp_fm (hw1 (some (.pl (f a)))) (m a) acc (h2 a List.mem_cons_self) (h3 a List.mem_cons_self)
    rw [List.map_cons]
    simp [comp2F, hName, fYes, i1, i2, hw, ih]
theorem lc2_fm {α β : Type} {v v1 : Nat} {fi fi1 : A1} {ft1 : B1} {fe : D1} {ρ : REnv} {f : α → PyData} {m : α → List β} {f1 : α → β → PyData} {p : α → β → Bool} {g : α → β → PyData} (l : List α) {ds : List PyData} (hd : ds = l.map f) (hi : fi ρ = some (ds, ρ))
    (hl : (l.flatMap fun a => ((m a).filter (p a)).map (g a)).length ≤ sizeLine) (h0 : wipeR ρ [v, v1] = ρ) (hr : restR ρ ρ [v, v1] = ρ)
    (hw : ∀ x, wipeR (wipeR (ρ.set v x) [v1]) [v, v1] = ρ) (hw1 : ∀ x y, wipeR ((wipeR (ρ.set v x) [v1]).set v1 y) [v1] = wipeR (ρ.set v x) [v1])
    (h1 : ∀ a ∈ l, fi1 (ρ.set v (some (.pl (f a)))) = some ((m a).map (f1 a), ρ.set v (some (.pl (f a)))))
    (h2 : ∀ a ∈ l, ∀ b ∈ m a, ft1 ((wipeR (ρ.set v (some (.pl (f a)))) [v1]).set v1 (some (.pl (f1 a b)))) = some (p a b, (wipeR (ρ.set v (some (.pl (f a)))) [v1]).set v1 (some (.pl (f1 a b)))))
    (h3 : ∀ a ∈ l, ∀ b ∈ m a, p a b = true → fe ((wipeR (ρ.set v (some (.pl (f a)))) [v1]).set v1 (some (.pl (f1 a b)))) = some (g a b, (wipeR (ρ.set v (some (.pl (f a)))) [v1]).set v1 (some (.pl (f1 a b))))) :
    fLc2 fi (hName v) fYes fi1 (hName v1) ft1 fe [v, v1] [v1] ρ = some (l.flatMap fun a => ((m a).filter (p a)).map (g a), ρ) := by
  subst hd
  have e := comp2_fm hw hw1 l [] h1 h2 h3
  rw [List.nil_append] at e
  simp only [fLc2, hi, h0, e, hl, if_true, hr]
theorem bls_map {α : Type} (q : α → Bool) : ∀ l : List α, blsOf (l.map fun a => .bool (q a)) = some (l.map q)
  | [] => rfl
  | a :: l => by simp [blsOf, bls_map q l]
theorem all_map {α : Type} (q : α → Bool) (l : List α) : gAll [.list (l.map fun a => .bool (q a))] = some (.bool (l.all q)) := by
  simp [gAll, bls_map]
theorem any_map {α : Type} (q : α → Bool) (l : List α) : gAny [.list (l.map fun a => .bool (q a))] = some (.bool (l.any q)) := by
  simp [gAny, bls_map]
theorem range_map (lo : Int) (n : Nat) : rangeD lo n = (List.range n).map fun (i : Nat) => .int (lo + (i : Int)) := rfl
theorem sz5 : (100000 : Nat) ≤ sizeLine := by rw [sizeLine_eq]; omega
theorem k5 {n : Nat} (h : n ≤ 100000) : n ≤ sizeLine := Nat.le_trans h sz5
theorem retAll {α : Type} {ρ ρ' : REnv} {fl : A1} {l : List α} {q : α → Bool} (e : fl ρ = some (l.map fun a => .bool (q a), ρ')) : fCB gAll (fCons (fF fl) fNil) ρ = some (.bool (l.all q), ρ') := cb1 (fF_ e) (all_map q l)
theorem retAny {α : Type} {ρ ρ' : REnv} {fl : A1} {l : List α} {q : α → Bool} (e : fl ρ = some (l.map fun a => .bool (q a), ρ')) : fCB gAny (fCons (fF fl) fNil) ρ = some (.bool (l.any q), ρ') := cb1 (fF_ e) (any_map q l)
/-! ### the operations at data -/
theorem oAdd (i j : Int) : gAdd (.int i) (.int j) = some (.int (i + j)) := rfl
theorem oSub (i j : Int) : gSub (.int i) (.int j) = some (.int (i - j)) := rfl
theorem oMulL (i j : Int) (h : small64 i = true) : gMul (.int i) (.int j) = some (.int (i * j)) := by simp [gMul, gOr, gMulI, gI, h]
theorem oMulR (i j : Int) (h : small64 j = true) : gMul (.int i) (.int j) = some (.int (i * j)) := by simp [gMul, gOr, gMulI, gI, h]
theorem oMod (i j : Int) (h : 0 < j) : gMod (.int i) (.int j) = some (.int (i % j)) := by simp [gMod, gI, h]
theorem oDiv (i j : Int) (h : 0 < j ∧ j.natAbs.log2 < 9000) : gDiv (.int i) (.int j) = some (.int (i / j)) := by simp [gDiv, gI, h.1, h.2]
theorem oLt (i j : Int) : gLt (.int i) (.int j) = some (.bool (decide (i < j))) := rfl
theorem oLe (i j : Int) : gLe (.int i) (.int j) = some (.bool (decide (i ≤ j))) := rfl
theorem oGt (i j : Int) : gGt (.int i) (.int j) = some (.bool (decide (j < i))) := rfl
theorem oGe (i j : Int) : gGe (.int i) (.int j) = some (.bool (decide (j ≤ i))) := rfl
theorem oInt (i : Int) : gInt [.int i] = some (.int i) := rfl
theorem oNeg (i : Int) : gNeg (.int i) = some (.int (-i)) := rfl
theorem oCatT (xs ys : List PyData) (h : xs.length + ys.length ≤ sizeLine) : gAdd (.tuple xs) (.tuple ys) = some (.tuple (xs ++ ys)) := by simp [gAdd, gOr, gI, gCatL, gCatT, h]
theorem oCatL (xs ys : List PyData) (h : xs.length + ys.length ≤ sizeLine) : gAdd (.list xs) (.list ys) = some (.list (xs ++ ys)) := by simp [gAdd, gOr, gI, gCatL, gCatT, h]
theorem oIxT (xs : List PyData) (i : Nat) (d : PyData) (h : xs[i]? = some d) : gIx (.tuple xs) (.int i) = some d := by
  have hl : i < xs.length := (List.getElem?_eq_some_iff.mp h).1
  have e : xs[i] = d := (List.getElem?_eq_some_iff.mp h).2
  simp [gIx, L2.atI, L2.ixN, hl, e]
theorem oIxL (xs : List PyData) (i : Nat) (d : PyData) (h : xs[i]? = some d) : gIx (.list xs) (.int i) = some d := by
  have hl : i < xs.length := (List.getElem?_eq_some_iff.mp h).1
  have e : xs[i] = d := (List.getElem?_eq_some_iff.mp h).2
  simp [gIx, L2.atI, L2.ixN, hl, e]
theorem oLenT (xs : List PyData) : gLen [.tuple xs] = some (.int xs.length) := rfl
theorem oLenL (xs : List PyData) : gLen [.list xs] = some (.int xs.length) := rfl
theorem okR_nat {n : Nat} (h : n ≤ 100000) : okR (n : Int) = true := by simp [okR]; omega
theorem okR_int {n : Int} (h : -100000 ≤ n ∧ n ≤ 100000) : okR n = true := by simp [okR]; omega
theorem getD_some {α : Type} {xs : List α} {i : Nat} (z : α) (h : i < xs.length) : xs[i]? = some (xs.getD i z) := by
  rw [List.getElem?_eq_getElem h, List.getD_eq_getElem?_getD, List.getElem?_eq_getElem h]; rfl
theorem oIxT' {xs : List PyData} (i : Nat) (h : i < xs.length) : gIx (.tuple xs) (.int (i : Int)) = some (xs.getD i .none) := oIxT _ _ _ (getD_some _ h)
/-- loops without break or return: by what stands before a round -/
theorem loop_inv {α : Type} {h : T1} {fb : S1} {f : α → PyData} (W : List α → REnv → Prop) (Z : REnv → Prop) (h0 : ∀ ρ, W [] ρ → Z ρ)
    (hs : ∀ a l ρ, W (a :: l) ρ → ∃ ρ1 ρ2, h (f a) ρ = some ρ1 ∧ fb ρ1 = some (.nx, ρ2) ∧ W l ρ2) : ∀ (l : List α) (ρ : REnv), W l ρ → ∃ ρ', loopF h fb (l.map f) ρ = some (.nx, ρ') ∧ Z ρ'
  | [], ρ, w => ⟨ρ, rfl, h0 ρ w⟩
  | a :: l, ρ, w => by
    obtain ⟨ρ1, ρ2, e1, e2, w2⟩ := hs a l ρ w
    obtain ⟨ρ', e, z⟩ := loop_inv W Z h0 hs l ρ2 w2
    exact ⟨ρ', by simp only [List.map_cons, loopF, e1, e2, e], z⟩
end Dv

/-! Dv: zip, enumerate, gcd. -/
namespace Dv
open PySem PySem.Spec PyProof.Rows L2
def zipD : List PyData → List PyData → List PyData
  | x :: xs, y :: ys => .tuple [x, y] :: zipD xs ys
  | _, _ => []
theorem zipD_length : ∀ xs ys : List PyData, (zipD xs ys).length = min xs.length ys.length
  | [], ys => by simp [zipD]
  | x :: xs, [] => by simp [zipD]
  | x :: xs, y :: ys => by simp [zipD, zipD_length xs ys]
theorem zipD_get : ∀ {xs ys : List PyData} {i : Nat} {d : PyData}, (zipD xs ys)[i]? = some d → ∃ x y, xs[i]? = some x ∧ ys[i]? = some y ∧ d = .tuple [x, y]
  | [], ys, i, d, h => by simp [zipD] at h
  | x :: xs, [], i, d, h => by simp [zipD] at h
  | x :: xs, y :: ys, 0, d, h => by simp [zipD] at h; exact ⟨x, y, rfl, rfl, h.symm⟩
  | x :: xs, y :: ys, i + 1, d, h => by
    obtain ⟨a, b, h1, h2, h3⟩ := zipD_get (xs := xs) (ys := ys) (i := i) (by simpa [zipD] using h)
    exact ⟨a, b, by simpa using h1, by simpa using h2, h3⟩
def enumD (i : Nat) : List PyData → List PyData
  | [] => []
  | x :: xs => .tuple [.int i, x] :: enumD (i + 1) xs
theorem enumD_length : ∀ (i : Nat) (xs : List PyData), (enumD i xs).length = xs.length
  | _, [] => rfl
  | i, x :: xs => by simp [enumD, enumD_length (i + 1) xs]
theorem enumD_get : ∀ {k : Nat} {xs : List PyData} {i : Nat} {d : PyData}, (enumD k xs)[i]? = some d → ∃ x, xs[i]? = some x ∧ d = .tuple [.int ((k + i : Nat) : Int), x]
  | k, [], i, d, h => by simp [enumD] at h
  | k, x :: xs, 0, d, h => by simp [enumD] at h; exact ⟨x, rfl, h.symm⟩
  | k, x :: xs, i + 1, d, h => by
    obtain ⟨a, h1, h2⟩ := enumD_get (k := k + 1) (xs := xs) (i := i) (by simpa [enumD] using h)
    exact ⟨a, by simpa using h1, by rw [h2]; congr 4; omega⟩
/-- both lists, or both tuples -/
def fZip (fa : A1) : A1 := fun ρ => match fa ρ with
  | some ([.list xs, .list ys], ρ1) => some (zipD xs ys, ρ1)
  | some ([.tuple xs, .tuple ys], ρ1) => some (zipD xs ys, ρ1)
  | _ => none
def fEnum (fa : A1) : A1 := fun ρ => match fa ρ with
  | some ([.list xs], ρ1) => some (enumD 0 xs, ρ1)
  | _ => none
section
variable {K : PySem.W.Frag}
theorem rp_pair {N : Addr → Prop} {L : List (Option Addr)} {H : Hp} {T : Addr} {x y : V} {dx dy : PyData} (A : Alloc N L H) (hT : H T = none) (rx : Rp K (hd N L H) x dx) (ry : Rp K (hd N L H) y dy) :
    Rp K (hd N L (upd H T (.tup [x, y]))) (.ref T) (.tuple [dx, dy]) :=
  .tup (.of (A.new hT)) (.cons (rx.mono (hd_mono (Le.new hT))) (.cons (ry.mono (hd_mono (Le.new hT))) .nil))
theorem sem_zip {ta : TA} {f : A1} (h : SemA K ta f) : SemI K (RZ.iZipA K ta) (fZip f) := by
  intro G L ρ σ H R ds ρ' Re e q
  unfold fZip at e
  split at e
  · rename_i xs ys ρ1 e1
    cases e
    refine h G L ρ σ H _ _ ρ' Re e1 fun vs H1 L1 s1 R1 w1 r1 => ?_
    cases r1 with
    | cons ra t =>
      cases t with
      | cons rb t =>
        cases t
        cases ra with
        | lst h1 r1 =>
          rename_i a us
          cases rb with
          | lst h2 r2 =>
            rename_i b vs
            refine ⟨a, b, us, vs, rfl, .inl ⟨.of (hd_le _ _ h1), .of (hd_le _ _ h2), q _ H1 L1 s1 R1 w1 ?_⟩⟩
            intro N L H' le A
            have hs1 : SqL K H' a us := .of (hd_le _ _ (le _ _ h1))
            have hs2 : SqL K H' b vs := .of (hd_le _ _ (le _ _ h2))
            refine ⟨⟨us, vs, hs1, hs2, by rw [zipD_length, r1.len, r2.len]; omega⟩, fun i d e => ?_⟩
            obtain ⟨x, y, ex, ey, rfl⟩ := zipD_get e
            obtain ⟨u, hu, ru⟩ := r1.get ex
            obtain ⟨v, hv, rv⟩ := r2.get ey
            refine ⟨⟨us, vs, u, v, hs1, hs2, hu, hv⟩, fun z H'' yl => ?_⟩
            obtain ⟨T, x', y', rfl, hT, rfl, g1, g2⟩ := yl
            have g1 := g1 us hs1
            have g2 := g2 vs hs2
            rw [hu] at g1
            rw [hv] at g2
            cases g1
            cases g2
            exact ⟨Le.new hT, rp_pair A hT (ru.mono le) (rv.mono le)⟩
  · rename_i xs ys ρ1 e1
    cases e
    refine h G L ρ σ H _ _ ρ' Re e1 fun vs H1 L1 s1 R1 w1 r1 => ?_
    cases r1 with
    | cons ra t =>
      cases t with
      | cons rb t =>
        cases t
        cases ra with
        | tup h1 r1 =>
          rename_i a us
          cases rb with
          | tup h2 r2 =>
            rename_i b vs
            refine ⟨a, b, us, vs, rfl, .inr ⟨hd_le.t h1, hd_le.t h2, q _ H1 L1 s1 R1 w1 ?_⟩⟩
            intro N L H' le A
            have hs1 : SqT K H' a us := hd_le.t (le.t h1)
            have hs2 : SqT K H' b vs := hd_le.t (le.t h2)
            refine ⟨⟨us, vs, hs1, hs2, by rw [zipD_length, r1.len, r2.len]; omega⟩, fun i d e => ?_⟩
            obtain ⟨x, y, ex, ey, rfl⟩ := zipD_get e
            obtain ⟨u, hu, ru⟩ := r1.get ex
            obtain ⟨v, hv, rv⟩ := r2.get ey
            refine ⟨⟨us, vs, u, v, hs1, hs2, hu, hv⟩, fun z H'' yl => ?_⟩
            obtain ⟨T, x', y', rfl, hT, rfl, g1, g2⟩ := yl
            have g1 := g1 us hs1
            have g2 := g2 vs hs2
            rw [hu] at g1
            rw [hv] at g2
            cases g1
            cases g2
            exact ⟨Le.new hT, rp_pair A hT (ru.mono le) (rv.mono le)⟩
  · cases e
theorem sem_enum {ta : TA} {f : A1} (h : SemA K ta f) : SemI K (iEnum K ta) (fEnum f) := by
  intro G L ρ σ H R ds ρ' Re e q
  unfold fEnum at e
  split at e
  · rename_i xs ρ1 e1
    cases e
    refine h G L ρ σ H _ _ ρ' Re e1 fun vs H1 L1 s1 R1 w1 r1 => ?_
    cases r1 with
    | cons ra t =>
      cases t
      cases ra with
      | lst h1 r1 =>
        rename_i a us
        refine ⟨a, us, rfl, .of (hd_le _ _ h1), q _ H1 L1 s1 R1 w1 ?_⟩
        intro N L H' le A
        have hs1 : SqL K H' a us := .of (hd_le _ _ (le _ _ h1))
        refine ⟨⟨us, hs1, by rw [enumD_length, r1.len]; exact Nat.le_refl _⟩, fun i d e => ?_⟩
        obtain ⟨x, ex, rfl⟩ := enumD_get e
        obtain ⟨u, hu, ru⟩ := r1.get ex
        refine ⟨⟨us, u, hs1, hu⟩, fun z H'' yl => ?_⟩
        obtain ⟨T, x', rfl, hT, rfl, g1⟩ := yl
        have g1 := g1 us hs1
        rw [hu] at g1
        cases g1
        rw [Nat.zero_add]
        exact ⟨Le.new hT, rp_pair A hT (.int _) (ru.mono le)⟩
  · cases e
/-! gcd -/
def gGcd : GN := fun xs => match xs with
  | [.int a, .int b] => some (.int ((Nat.gcd a.natAbs b.natAbs : Nat) : Int))
  | _ => none
theorem s_gcd : CallS K rGcd gGcd := by
  intro N L H vs ds dz Q A h e q
  unfold gGcd at e
  split at e
  · cases e
    cases h with
    | cons h t =>
      cases t with
      | cons h2 t2 =>
        cases t2
        rw [h.int_of, h2.int_of]
        exact ⟨_, _, rfl, q _ H (.refl H) (.int _)⟩
  · cases e
end
section
variable {K : PySem.W.Frag} {X : Cx} {a b : Expr} {pos : Pos}
theorem i_zip {p tpos : Pos} {elts : List Expr} {kk : Nat} {t : TA} {f : A1} (hg : Gl X "zip") (hm : X.mg "zip" = none) (h : SA K X [a, b] t f) (hs : starEach [a, b] X.env = (false, eval a X.env) :: starEach [b] X.env := by rfl) (hpl : (backTo pos (starEach [b] X.env)).any (·.1) = false := by rfl) (hK : X.K = K := by rfl) :
    SI K X (.Tuple elts kk tpos) (.Call (.Name "zip" p) [a, b] [] pos) (RZ.iZipA K t) (fZip f) := by
  subst hK
  exact ⟨RZ.pi_zipA hg hm h.pe hs hpl, sem_zip h.sem⟩
theorem i_enum {p tpos : Pos} {elts : List Expr} {kk : Nat} {t : TA} {f : A1} (hg : Gl X "enumerate") (hm : X.mg "enumerate" = none) (h : SA K X [a] t f) (hs : starEach [a] X.env = [(false, eval a X.env)] := by rfl) (hK : X.K = K := by rfl) :
    SI K X (.Tuple elts kk tpos) (.Call (.Name "enumerate" p) [a] [] pos) (iEnum K t) (fEnum f) := by
  subst hK
  exact ⟨pi_enum hg hm h.pe hs, sem_enum h.sem⟩
/-- f(..), f a module's name for a function that is built in -/
theorem e_cbf {x : Str} {id : String} {p : Pos} {es : List Expr} {t : TA} {f : A1} {r : List V → Hp → VK → Prop} {g : GN} (s : CallS K r g) (hc : CallR X (.builtin id) r) (hg : Gl X x) (hm : X.mg x = some (.builtin id)) (ha : SA K X (a :: es) t f)
    (hdb : (x == ("__debug__" : Str)) = false := by decide) (he : starEach (a :: es) X.env = (false, eval a X.env) :: starEach es X.env := by rfl) (hpl : (backTo pos (starEach es X.env)).any (·.1) = false := by rfl) (hK : X.K = K := by rfl) :
    SE K X (.Call (.Name x p) (a :: es) [] pos) (tCB r t) (fCB g f) := by
  subst hK
  exact ⟨pe_callBfun hc hg hm ha.pe hdb he hpl, sem_cb s ha.sem⟩
end
end Dv

/-! Dv: while; products of wide ints. -/
namespace Dv
open PySem PySem.Spec PyProof.Rows L2
/-- at most n turns -/
def loopN (ft : B1) (fb : S1) : Nat → REnv → Option (Fl × REnv)
  | 0, _ => none
  | n + 1, ρ => match ft ρ with
    | some (false, ρ1) => some (.nx, ρ1)
    | some (true, ρ1) => match fb ρ1 with
      | some (.nx, ρ2) => loopN ft fb n ρ2
      | some (.ct, ρ2) => loopN ft fb n ρ2
      | some (.bk, ρ2) => some (.nx, ρ2)
      | some (.rt r, ρ2) => some (.rt r, ρ2)
      | none => none
    | none => none
theorem loopN_up (ft : B1) (fb : S1) : ∀ (n : Nat) (ρ : REnv) {x : Fl × REnv}, loopN ft fb n ρ = some x → loopN ft fb (n + 1) ρ = some x
  | 0, ρ, x, h => by cases h
  | n + 1, ρ, x, h => by
    unfold loopN at h ⊢
    split at h
    · exact h
    · split at h
      · exact loopN_up ft fb n _ h
      · exact loopN_up ft fb n _ h
      · exact h
      · exact h
      · cases h
    · cases h
theorem loopN_le {ft : B1} {fb : S1} {n m : Nat} {ρ : REnv} {x : Fl × REnv} (h : loopN ft fb n ρ = some x) (hm : n ≤ m) : loopN ft fb m ρ = some x := by
  obtain ⟨k, rfl⟩ := Nat.exists_eq_add_of_le hm
  clear hm
  induction k with
  | zero => exact h
  | succ k ih => exact loopN_up ft fb (n + k) ρ ih
open Classical in
noncomputable def sWhile (ft : B1) (fb : S1) : S1 := fun ρ => if h : ∃ x, ∃ n, loopN ft fb n ρ = some x then some (choose h) else none
theorem sWhile_of {ft : B1} {fb : S1} {n : Nat} {ρ : REnv} {x : Fl × REnv} (h : loopN ft fb n ρ = some x) : sWhile ft fb ρ = some x := by
  have hx : ∃ x, ∃ n, loopN ft fb n ρ = some x := ⟨x, n, h⟩
  unfold sWhile
  rw [dif_pos hx]
  obtain ⟨m, hm⟩ := Classical.choose_spec hx
  have h1 := loopN_le h (Nat.le_max_left n m)
  have h2 := loopN_le hm (Nat.le_max_right n m)
  rw [h1] at h2
  exact h2.symm
theorem of_sWhile {ft : B1} {fb : S1} {ρ : REnv} {x : Fl × REnv} (h : sWhile ft fb ρ = some x) : ∃ n, loopN ft fb n ρ = some x := by
  unfold sWhile at h
  split at h
  · rename_i hx
    cases h
    exact Classical.choose_spec hx
  · cases h
theorem sem_while {K : PySem.W.Frag} {tc : TT} {ft : B1} {tb : TS} {fb : S1} (hc : SemT K tc ft) (hb : SemS K tb fb) : SemS K (tWhile tc tb) (sWhile ft fb) := by
  intro G L ρ σ H D fl ρ' R e q
  obtain ⟨n, e⟩ := of_sWhile e
  refine ⟨fun m σ' H' => ∃ L' ρ2, Rel K G L' ρ2 σ' H' ∧ Gr L H L' H' ∧ loopN ft fb m ρ2 = some (fl, ρ'), ⟨n, L, ρ, R, .refl _ _, e⟩, ?_⟩
  rintro m σ2 H2 ⟨L2', ρ2, R2, g2, e2⟩
  cases m with
  | zero => cases e2
  | succ m =>
    unfold loopN at e2
    split at e2
    · rename_i ρ1 e3
      cases e2
      refine hc G L2' ρ2 σ2 H2 _ _ ρ' R2 e3 fun H3 L3 s3 R3 w3 => ?_
      rw [if_neg (by simp)]
      exact q L3 σ2 H3 R3 (g2.trans (.of w3 s3))
    · rename_i ρ1 e3
      refine hc G L2' ρ2 σ2 H2 _ _ ρ1 R2 e3 fun H3 L3 s3 R3 w3 => ?_
      have g3 := g2.trans (.of w3 s3)
      rw [if_pos rfl]
      refine ⟨fun σ' H' => ∃ L' ρ4, Rel K G L' ρ4 σ' H' ∧ Gr L H L' H' ∧ loopN ft fb m ρ4 = some (fl, ρ'), fun σ' H' ⟨L', ρ4, z⟩ => ⟨m, Nat.lt_succ_self _, L', ρ4, z⟩, ?_⟩
      split at e2
      · rename_i ρ4 e4
        exact hb G L3 ρ1 σ2 H3 _ .nx ρ4 R3 e4 fun L4 σ4 H4 R4 g4 => ⟨L4, ρ4, R4, g3.trans g4, e2⟩
      · rename_i ρ4 e4
        exact hb G L3 ρ1 σ2 H3 _ .ct ρ4 R3 e4 fun L4 σ4 H4 R4 g4 => ⟨L4, ρ4, R4, g3.trans g4, e2⟩
      · rename_i ρ4 e4
        cases e2
        exact hb G L3 ρ1 σ2 H3 _ .bk ρ' R3 e4 fun L4 σ4 H4 R4 g4 => q L4 σ4 H4 R4 (g3.trans g4)
      · rename_i r ρ4 e4
        cases e2
        refine hb G L3 ρ1 σ2 H3 _ (.rt r) ρ' R3 e4 ?_
        cases r with
        | pl d => exact fun L4 σ4 H4 v R4 g4 rv => q L4 σ4 H4 v R4 (g3.trans g4) rv
        | fr es => exact fun L4 σ4 H4 p vs R4 g4 hp => q L4 σ4 H4 p vs R4 (g3.trans g4) (g3.ew.free hp)
      · cases e2
    · cases e2
theorem s_while {K : PySem.W.Frag} {X : Cx} {c : Expr} {body : List Stmt} {pos : Pos} {tc : TT} {ft : B1} {tb : TS} {fb : S1} (hp : PassesOwn (model X.prog X.w) X.A X.env X.xe) (hc : ST K X c tc ft) (hb : SSs K X body tb fb) : SS K X (.While c body [] pos) (tWhile tc tb) (sWhile ft fb) :=
  ⟨ps_while hp hc.pe hb.pe, sem_while hc.sem hb.sem⟩
/-! products: one small factor, or few bits together -/
def gMulW : G2 := gI fun i j => if decide (i.natAbs.log2 + j.natAbs.log2 < 1000000) then some (.int (i * j)) else none
theorem s_mulWi {K : PySem.W.Frag} : OpS K (rI CMulW fun i j => .int (i * j)) gMulW := ops_I (c := fun i j => decide (i.natAbs.log2 + j.natAbs.log2 < 1000000)) fun i j h => (of_decide_eq_true h : i.natAbs.log2 + j.natAbs.log2 < 1000000)
def rMulA (K : PySem.W.Frag) : R2 := fun x y H Q => rMul K x y H Q ∨ rI CMulW (fun i j => .int (i * j)) x y H Q
def gMulA : G2 := gOr gMul gMulW
theorem o_mulA {X : Cx} : OpR X (binaryOp .Mult) (rMulA X.K) := o_mul.or op_mulW
theorem s_mulA {K : PySem.W.Frag} : OpS K (rMulA K) gMulA := ops_or s_mul s_mulWi
end Dv

/-! Dv: names of the module, lcm, starred displays, list.count, a, b = e, [..]. -/
namespace Dv
open PySem PySem.Spec PyProof.Rows L2
section
variable {K : PySem.W.Frag} {X : Cx} {pos : Pos}
theorem e_gint {x : Str} {i : Int} {t : Tok} (hg : Gl X x) (hm : X.mg x = some (.int i t)) (hd : (x == ("__debug__" : Str)) = false := by decide) : SE K X (.Name x pos) (tC (.int i)) (fC (.int i)) :=
  ⟨pe_glob hg hm ⟨t, rfl⟩ hd, sem_c fun _ => .int i⟩
theorem e_gstr {x y : Str} {t : Tok} (hg : Gl X x) (hm : X.mg x = some (.str y t)) (hd : (x == ("__debug__" : Str)) = false := by decide) : SE K X (.Name x pos) (tC (.str y)) (fC (.str y)) :=
  ⟨pe_glob hg hm ⟨t, rfl⟩ hd, sem_c fun _ => .str y⟩
theorem e_gref {x : Str} {a : Addr} {d : PyData} (r : ∀ H, Rp K H (.ref a) d) (hg : Gl X x) (hm : X.mg x = some (.ref a)) (hd : (x == ("__debug__" : Str)) = false := by decide) : SE K X (.Name x pos) (tC (.ref a)) (fC d) :=
  ⟨pe_glob hg hm rfl hd, sem_c r⟩
end
theorem rp_k2 {K : PySem.W.Frag} {a : Addr} {od : Option Addr} {i j : Int} {t u : Tok} {n : Nat} {sl : Array (Option Value)} (l : K.lookup a = some ⟨.type "tuple", od, .seq #[.int i t, .int j u] n, sl⟩) : ∀ H, Rp K H (.ref a) (.tuple [.int i, .int j]) := fun H =>
  .tup (xs := [.int i, .int j]) (.inr ⟨_, _, n, l, rfl, rfl, by show 2 ≤ 2 ^ 24; omega, .cons ⟨t, rfl⟩ (.cons ⟨u, rfl⟩ .nil)⟩) (.cons (.int i) (.cons (.int j) .nil))
/-! lcm -/
def gLcm : GN := fun xs => match xs with
  | [.int a, .int b] => if decide (a.natAbs.log2 < 13000) && decide (b.natAbs.log2 < 13000) then some (.int ((Nat.lcm a.natAbs b.natAbs : Nat) : Int)) else none
  | _ => none
def rLcm : List V → Hp → VK → Prop := fun vs H Q => ∃ a b : Int, vs = [.int a, .int b] ∧ a.natAbs.log2 < 13000 ∧ b.natAbs.log2 < 13000 ∧ Q (.int ((Nat.lcm a.natAbs b.natAbs : Nat) : Int)) H
theorem log2_mul_lt {a b : Nat} (ha : a.log2 < 13000) (hb : b.log2 < 13000) : (Nat.lcm a b).log2 < 2 ^ 27 := by
  have h1 : a < 2 ^ 13000 := by
    by_cases h : a = 0
    · rw [h]; exact Nat.two_pow_pos _
    · exact (Nat.log2_lt h).mp ha
  have h2 : b < 2 ^ 13000 := by
    by_cases h : b = 0
    · rw [h]; exact Nat.two_pow_pos _
    · exact (Nat.log2_lt h).mp hb
  have h3 : Nat.lcm a b < 2 ^ 26000 := by
    by_cases h : a * b = 0
    · have : Nat.lcm a b = 0 := by rw [Nat.lcm, h, Nat.zero_div]
      rw [this]; exact Nat.two_pow_pos _
    · calc Nat.lcm a b ≤ a * b := Nat.le_of_dvd (Nat.pos_of_ne_zero h) (Nat.lcm_dvd_mul a b)
        _ < 2 ^ 13000 * 2 ^ 13000 := Nat.mul_lt_mul'' h1 h2
        _ = 2 ^ 26000 := by rw [← Nat.pow_add]
  by_cases h : Nat.lcm a b = 0
  · rw [h]; show (0 : Nat).log2 < _; rw [Nat.log2_zero]; exact Nat.two_pow_pos _
  · exact Nat.lt_trans ((Nat.log2_lt h).mpr h3) (by decide)
theorem cr_lcm {X : Cx} : CallR X (.builtin "math.lcm") rLcm := by
  intro pins s σ H vs us Q I r h
  obtain ⟨a, b, rfl, ha, hb, q⟩ := h
  obtain ⟨t, u, rfl⟩ := Vals.int2 r
  have e : Nat.lcm 1 a.natAbs = a.natAbs := Nat.lcm_one_left _
  have hm : ¬(max a.natAbs b.natAbs).log2 / 30 + 1 > 450 := by
    rcases Nat.le_total a.natAbs b.natAbs with h | h
    · rw [Nat.max_eq_right h]; omega
    · rw [Nat.max_eq_left h]; omega
  have hm1 : ¬(max 1 a.natAbs).log2 / 30 + 1 > 450 := by
    rcases Nat.le_total 1 a.natAbs with h | h
    · rw [Nat.max_eq_right h]; omega
    · rw [Nat.max_eq_left h]; decide
  have hz : ((((Nat.lcm 1 a.natAbs).lcm b.natAbs : Nat) : Int)).natAbs.log2 < bitsLine := by
    rw [e, Int.natAbs_natCast]; exact log2_mul_lt ha hb
  have g := PySem.W.mg_run_lcm a t b u hm1 hm hz
  rw [e] at g
  exact call_function_meets PySem.W.MGF.kind_lcm PySem.W.MGF.plain_lcm PySem.W.MGF.entry_lcm (PySem.W.MGF.args_lcm _ _) g.meets ⟨.int _, H, I.tok _, ⟨_, rfl⟩, q⟩
section
variable {K : PySem.W.Frag}
theorem s_lcm : CallS K rLcm gLcm := by
  intro N L H vs ds dz Q A h e q
  unfold gLcm at e
  split at e
  · split at e
    · rename_i hc
      cases e
      cases h with
      | cons h t =>
        cases t with
        | cons h2 t2 =>
          cases t2
          rw [h.int_of, h2.int_of]
          simp only [Bool.and_eq_true, decide_eq_true_eq] at hc
          exact ⟨_, _, rfl, hc.1, hc.2, q _ H (.refl H) (.int _)⟩
    · cases e
  · cases e
/-! [*xs, ..] -/
def fStar (fe : D1) (fr : A1) : A1 := fun ρ => match fe ρ with
  | some (.list xs, ρ1) => match fr ρ1 with
    | some (ys, ρ2) => some (xs ++ ys, ρ2)
    | none => none
  | some (.tuple xs, ρ1) => match fr ρ1 with
    | some (ys, ρ2) => some (xs ++ ys, ρ2)
    | none => none
  | _ => none
theorem sem_star {te : TE} {fe : D1} {tr : TA} {fr : A1} (he : SemE K te fe) (hr : SemA K tr fr) : SemA K (StX.tStar K te tr) (fStar fe fr) := by
  intro G L ρ σ H Q d ρ' R e q
  unfold fStar at e
  split at e
  · rename_i xs ρ1 e1
    split at e
    · rename_i ys ρ2 e2
      cases e
      refine he G L ρ σ H _ _ ρ1 R e1 fun v H1 L1 s1 R1 w1 r1 => ?_
      cases r1 with
      | lst h1 r1 =>
        rename_i a us
        refine ⟨a, us, rfl, .inr (.of (hd_le _ _ h1)), ?_⟩
        refine hr G L1 ρ1 σ H1 _ _ ρ' R1 e2 fun vs H2 L2' s2 R2 w2 r2 => ?_
        exact q (us ++ vs) H2 L2' (s2.trans s1) R2 (w1.trans w2 s1) ((r1.mono (w2.hd s2)).append r2)
    · cases e
  · rename_i xs ρ1 e1
    split at e
    · rename_i ys ρ2 e2
      cases e
      refine he G L ρ σ H _ _ ρ1 R e1 fun v H1 L1 s1 R1 w1 r1 => ?_
      cases r1 with
      | tup h1 r1 =>
        rename_i a us
        refine ⟨a, us, rfl, .inl (hd_le.t h1), ?_⟩
        refine hr G L1 ρ1 σ H1 _ _ ρ' R1 e2 fun vs H2 L2' s2 R2 w2 r2 => ?_
        exact q (us ++ vs) H2 L2' (s2.trans s1) R2 (w1.trans w2 s1) ((r1.mono (w2.hd s2)).append r2)
    · cases e
  · cases e
theorem a_star {X : Cx} {e : Expr} {p : Pos} {te : TE} {fe : D1} {es : List Expr} {t : TA} {f : A1} (he : SE K X e te fe) (hr : SA K X es t f) (hs : starEach (.Starred e p :: es) X.env = (true, eval e X.env) :: starEach es X.env := by rfl) (hK : X.K = K := by rfl) :
    SA K X (.Starred e p :: es) (StX.tStar K te t) (fStar fe f) := by
  subst hK
  exact ⟨StX.pa_star he.pe hr.pe hs, sem_star he.sem hr.sem⟩
/-! xs.count(k) -/
def gCnt : G2 := fun x y => match x, y with
  | .list ds, .int k => match intsOf ds with
    | some ns => some (.int ((ns.count k : Nat) : Int))
    | none => none
  | _, _ => none
theorem sem_cnt {to te : TE} {fo fe : D1} (ho : SemE K to fo) (he : SemE K te fe) : SemE K (tBM K "list" (rCntI K) to (tCons te tNil)) (f2 gCnt fo fe) := by
  intro G L ρ σ H Q d ρ' R e q
  obtain ⟨x, ρ1, y, e1, e2, e3⟩ := f2_some e
  unfold gCnt at e3
  split at e3
  · rename_i ds k
    split at e3
    · rename_i ns en
      cases e3
      have z := intsOf_some en
      subst z
      refine ho G L ρ σ H _ _ ρ1 R e1 fun v H1 L1 s1 R1 w1 r1 => ?_
      cases r1 with
      | lst h1 r1 =>
        rename_i a us
        have eu := r1.ints
        subst eu
        refine ⟨.inl ⟨rfl, _, .of (hd_le _ _ h1)⟩, ?_⟩
        refine he G L1 ρ1 σ H1 _ _ ρ' R1 e2 fun v2 H2 L2' s2 R2 w2 r2 => ?_
        cases r2
        exact ⟨a, ns, k, rfl, rfl, .of (hd_le _ _ (w2.hd s2 _ _ h1)), q _ H2 L2' (s2.trans s1) R2 (w1.trans w2 s1) (.int _)⟩
    · cases e3
  · cases e3
theorem e_cnt {X : Cx} {o e : Expr} {to te : TE} {fo fe : D1} {apos cpos : Pos} (ho : SE K X o to fo) (he : SE K X e te fe)
    (hbase : attributeBase o "count" X.env (eval o X.env) = eval o X.env := by rfl)
    (hfew : ((backTo cpos (starEach [e] X.env)).all (fun x => !x.1) && (backToKw cpos (keywordEach [] X.env)).all (fun x => x.1.isSome) && decide ([e].length + ([] : List Keyword).length + (if ([] : List Keyword).isEmpty then 0 else 1) < 30)) = true := by rfl)
    (hline : (apos.endLine == cpos.line) = true := by rfl) (h1 : starEach [e] X.env = (false, eval e X.env) :: starEach [] X.env := by rfl) (hplain : (backTo cpos (starEach [] X.env)).any (·.1) = false := by rfl) (hK : X.K = K := by rfl) :
    SE K X (.Call (.Attribute o "count" apos) [e] [] cpos) (tBM K "list" (rCntI K) to (tCons te tNil)) (f2 gCnt fo fe) := by
  subst hK
  exact ⟨pe_bm PySem.F.plainAttrs_list PySem.F.slot_list_count PySem.F.type_list_count mt_lcount ho.pe (pa_cons he.pe pa_nil h1) hbase hfew hline h1 hplain, sem_cnt ho.sem he.sem⟩
/-! a, b = e, [..]: b's list its own -/
def sParG (i j : Nat) (fa : D1) (fb : A1) : S1 := fun ρ => match fa ρ with
  | some (x, ρ1) => match fb ρ1 with
    | some (ds, ρ2) => some (.nx, (ρ2.set i (some (.pl x))).set j (some (.ow ds)))
    | none => none
  | none => none
theorem sem_parG (i j : Nat) {ta tb : TE} {fa : D1} {fb : A1} (h : SemE K ta fa) (hb : SemF K tb fb) : SemS K (tPar i j (tCons ta (tCons tb tNil))) (sParG i j fa fb) := by
  intro G L ρ σ H D fl ρ' R e q
  unfold sParG at e
  split at e
  · rename_i x ρ1 e1
    split at e
    · rename_i ds ρ2 e2
      cases e
      refine h G L ρ σ H _ _ ρ1 R e1 fun v H1 L1 s1 R1 w1 r1 => ?_
      refine hb G L1 ρ1 σ H1 _ _ ρ2 R1 e2 fun p vs H2 L2' s2 hp h2 R2 w2 r2 => ?_
      have hf := R1.fresh hp
      have hl2 : some p ∉ L2' := fun m => hf.2.1 (s2.mem m)
      have m0 : Le (hd G.N L1 H1) (hd (G.hide p).N (L2'.set i none) H2) := fun b o z => by
        obtain ⟨z1, z2, z3⟩ := hd_some.mp z
        refine hd_some.mpr ⟨fun y => ?_, fun y => z2 (s2.mem ((LS.set L2' i).mem y)), w2.1 b o z2 z3⟩
        rcases y with y | y
        · exact z1 y
        · rw [y, hp] at z3; cases z3
      have A := R2.setPl i (r1.mono m0)
      have s3 := LS.set L2' i
      have hl3 : some p ∉ L2'.set i none := fun m => hl2 (s3.mem m)
      have B := A.setOw j h2 hl3 hf.2.2 hf.1 (r2.mono ((Ew.refl L2' H2).hd s3)) R.bd
      refine ⟨_, _, rfl, q _ _ H2 B ⟨w1.trans w2 s1, fun a mm => ?_⟩⟩
      rcases mem_set_some mm with z | z
      · exact .inl (s1.mem (s2.mem (s3.mem z)))
      · rw [z]
        cases hH : H p with
        | none => exact .inr rfl
        | some o =>
          exact absurd hH (by
            intro hH
            by_cases hb : some p ∈ L
            · exact absurd hp (by obtain ⟨o', e'⟩ := w1.2 p o hH; rw [e']; simp)
            · have := w1.1 p o hb hH; rw [hp] at this; cases this)
    · cases e
  · cases e
end
section
variable {K : PySem.W.Frag} {X : Cx} {pos : Pos} {a b : Expr} {ta tb : TE} {fa fb : D1}
theorem s_parG {x y : Str} {px py pt : Pos} {kt k2 pt2} {fB : A1} (i j : Nat) (hc : X.calm = true) (hN : X.N.Nodup) (ha : SE K X a ta fa) (hb : SF K X b tb fB) (hij : i ≠ j := by decide) (hi : X.N[i]? = some x := by rfl) (hj : X.N[j]? = some y := by rfl)
    (hx : X.env.scope.names.lookup x = some .local := by rfl) (hy : X.env.scope.names.lookup y = some .local := by rfl) (hw : swappedStores [.Tuple [.Name x px, .Name y py] kt pt] (.Tuple [a, b] k2 pt2) X.env = pure (some [x, y]) := by rfl)
    (hs : swapsWithSole [.Tuple [.Name x px, .Name y py] kt pt] (.Tuple [a, b] k2 pt2) pos.line X.env = pure false := by rfl) (h1 : starEach [a, b] X.env = (false, eval a X.env) :: starEach [b] X.env := by rfl) (h2 : starEach [b] X.env = (false, eval b X.env) :: starEach [] X.env := by rfl) :
    SS K X (.Assign [.Tuple [.Name x px, .Name y py] kt pt] (.Tuple [a, b] k2 pt2) pos) (tPar i j (tCons ta (tCons tb tNil))) (sParG i j fa fB) := ⟨ps_par hc hN hi hj hij hx hy (pa_cons ha.pe (pa_cons hb.pe pa_nil h2) h1) hw hs, sem_parG i j ha.sem hb.sem⟩
/-- a, b = x, y where a name is captured: by way of the pair -/
theorem ps_parC {i j : Nat} {x y : Str} {ta : TA} {px py pt : Pos} {kt k2 pt2} (hc : X.calm = true) (hN : X.N.Nodup) (hi : X.N[i]? = some x) (hj : X.N[j]? = some y)
    (hx : Loc X.env.scope x) (hy : Loc X.env.scope y) (ha : PA X [a, b] ta) (fx : X.fn x = true ∨ X.env.scope.names.lookup x = some .local) (fy : X.fn y = true ∨ X.env.scope.names.lookup y = some .local)
    (hw : swappedStores [.Tuple [.Name x px, .Name y py] kt pt] (.Tuple [a, b] k2 pt2) X.env = pure none)
    (hs : swapsWithSole [.Tuple [.Name x px, .Name y py] kt pt] (.Tuple [a, b] k2 pt2) pos.line X.env = pure false)
    (h1 : (assignEach [.Tuple [.Name x px, .Name y py] kt pt] X.env).map (·.2) = [assign (.Tuple [.Name x px, .Name y py] kt pt) X.env])
    (hn : (assignEach [.Name x px, .Name y py] X.env).length = 2) (hst : (assignEach [.Name x px, .Name y py] X.env).findIdx? (·.1) = none)
    (g1 : (assignEach (.Name x px :: [.Name y py]) X.env).map (·.2) = assign (.Name x px) X.env :: (assignEach [.Name y py] X.env).map (·.2)) (g2 : (assignEach (.Name y py :: []) X.env).map (·.2) = assign (.Name y py) X.env :: (assignEach [] X.env).map (·.2)) :
    PS X (.Assign [.Tuple [.Name x px, .Name y py] kt pt] (.Tuple [a, b] k2 pt2) pos) (tPar i j ta) := by
  refine ⟨fun pins s σ H D I h => ?_⟩
  refine wpAny_Assign_stores (Tuple_ (thn (ha.run _ pins s σ H _ I h) fun us s1 ⟨vs, H1, I1, r1, q1⟩ => ?_)) hs hw
  obtain ⟨v, w, e1, q1⟩ := q1
  subst e1
  obtain ⟨u1, u2, rfl⟩ : ∃ u1 u2, us = [u1, u2] := by
    cases r1 with
    | cons p q =>
      cases q with
      | cons p' q' =>
        cases q'
        exact ⟨_, _, rfl⟩
  refine wpAny_newObj_type ?_ (by show 2 ≤ sizeLine; decide)
  have I2 : Inv X pins σ H1 { s1 with heap := s1.heap.push { cls := .type "tuple", data := .seq [u1, u2].toArray } } := I1.kept (t' := s1.toks) fun b o e => Heap.get?_push_of_some _ e
  rw [h1]
  have P : PGs X [.Name x px, .Name y py] (gCons (gName i) (gCons (gName j) gNil)) := pgs_cons (pg_name hN hi hx fx) (pgs_cons (pg_name hN hj hy fy) pgs_nil g2) g1
  refine assign_Tuple_tuple (items := #[u1, u2]) (I.ok.hd hc) (IsTup.new s1.heap _) (by rw [hn]; rfl) hst fun h' hx' => ?_
  have I3 := I2.kept (h' := h') (t' := s1.toks) fun b o e => hx' b o (Nat.ne_of_lt (Heap.lt_size e)) e
  exact thn (P.run pins _ σ H1 [v, w] _ (fun σ' H' => σ' = (σ.set i (some v)).set j (some w) ∧ H' = H1) I3 r1 ⟨v, [w], rfl, w, [], rfl, rfl, rfl, rfl⟩) fun _ s2 z => by
    obtain ⟨σ2, H2, I4, rfl, rfl⟩ := z
    exact ⟨_, _, I4, q1⟩
theorem s_parGC {x y : Str} {px py pt : Pos} {kt k2 pt2} {fB : A1} (i j : Nat) (hc : X.calm = true) (hN : X.N.Nodup) (ha : SE K X a ta fa) (hb : SF K X b tb fB) (hi : X.N[i]? = some x := by rfl) (hj : X.N[j]? = some y := by rfl)
    (hx : Loc X.env.scope x := by first | exact .inl rfl | exact .inr rfl) (hy : Loc X.env.scope y := by first | exact .inl rfl | exact .inr rfl) (fx : X.fn x = true ∨ X.env.scope.names.lookup x = some .local := by first | exact .inl rfl | exact .inr rfl) (fy : X.fn y = true ∨ X.env.scope.names.lookup y = some .local := by first | exact .inl rfl | exact .inr rfl)
    (hw : swappedStores [.Tuple [.Name x px, .Name y py] kt pt] (.Tuple [a, b] k2 pt2) X.env = pure none := by rfl)
    (hs : swapsWithSole [.Tuple [.Name x px, .Name y py] kt pt] (.Tuple [a, b] k2 pt2) pos.line X.env = pure false := by rfl) (h1 : starEach [a, b] X.env = (false, eval a X.env) :: starEach [b] X.env := by rfl) (h2 : starEach [b] X.env = (false, eval b X.env) :: starEach [] X.env := by rfl)
    (q1 : (assignEach [.Tuple [.Name x px, .Name y py] kt pt] X.env).map (·.2) = [assign (.Tuple [.Name x px, .Name y py] kt pt) X.env] := by rfl)
    (hn : (assignEach [.Name x px, .Name y py] X.env).length = 2 := by rfl) (hst : (assignEach [.Name x px, .Name y py] X.env).findIdx? (·.1) = none := by rfl)
    (g1 : (assignEach (.Name x px :: [.Name y py]) X.env).map (·.2) = assign (.Name x px) X.env :: (assignEach [.Name y py] X.env).map (·.2) := by rfl) (g2 : (assignEach (.Name y py :: []) X.env).map (·.2) = assign (.Name y py) X.env :: (assignEach [] X.env).map (·.2) := by rfl) :
    SS K X (.Assign [.Tuple [.Name x px, .Name y py] kt pt] (.Tuple [a, b] k2 pt2) pos) (tPar i j (tCons ta (tCons tb tNil))) (sParG i j fa fB) := ⟨ps_parC hc hN hi hj hx hy (pa_cons ha.pe (pa_cons hb.pe pa_nil h2) h1) fx fy hw hs q1 hn hst g1 g2, sem_parG i j ha.sem hb.sem⟩
theorem s_parFC {x y : Str} {px py pt : Pos} {kt k2 pt2} {fA : A1} (i j : Nat) (hc : X.calm = true) (hN : X.N.Nodup) (ha : SF K X a ta fA) (hb : SE K X b tb fb) (hi : X.N[i]? = some x := by rfl) (hj : X.N[j]? = some y := by rfl)
    (hx : Loc X.env.scope x := by first | exact .inl rfl | exact .inr rfl) (hy : Loc X.env.scope y := by first | exact .inl rfl | exact .inr rfl) (fx : X.fn x = true ∨ X.env.scope.names.lookup x = some .local := by first | exact .inl rfl | exact .inr rfl) (fy : X.fn y = true ∨ X.env.scope.names.lookup y = some .local := by first | exact .inl rfl | exact .inr rfl)
    (hw : swappedStores [.Tuple [.Name x px, .Name y py] kt pt] (.Tuple [a, b] k2 pt2) X.env = pure none := by rfl)
    (hs : swapsWithSole [.Tuple [.Name x px, .Name y py] kt pt] (.Tuple [a, b] k2 pt2) pos.line X.env = pure false := by rfl) (h1 : starEach [a, b] X.env = (false, eval a X.env) :: starEach [b] X.env := by rfl) (h2 : starEach [b] X.env = (false, eval b X.env) :: starEach [] X.env := by rfl)
    (q1 : (assignEach [.Tuple [.Name x px, .Name y py] kt pt] X.env).map (·.2) = [assign (.Tuple [.Name x px, .Name y py] kt pt) X.env] := by rfl)
    (hn : (assignEach [.Name x px, .Name y py] X.env).length = 2 := by rfl) (hst : (assignEach [.Name x px, .Name y py] X.env).findIdx? (·.1) = none := by rfl)
    (g1 : (assignEach (.Name x px :: [.Name y py]) X.env).map (·.2) = assign (.Name x px) X.env :: (assignEach [.Name y py] X.env).map (·.2) := by rfl) (g2 : (assignEach (.Name y py :: []) X.env).map (·.2) = assign (.Name y py) X.env :: (assignEach [] X.env).map (·.2) := by rfl) :
    SS K X (.Assign [.Tuple [.Name x px, .Name y py] kt pt] (.Tuple [a, b] k2 pt2) pos) (tPar i j (tCons ta (tCons tb tNil))) (sParF i j fA fb) := ⟨ps_parC hc hN hi hj hx hy (pa_cons ha.pe (pa_cons hb.pe pa_nil h2) h1) fx fy hw hs q1 hn hst g1 g2, sem_parF i j ha.sem hb.sem⟩
theorem s_parXC {x y : Str} {px py pt : Pos} {kt k2 pt2} (i j : Nat) (hc : X.calm = true) (hN : X.N.Nodup) (ha : SE K X a ta fa) (hb : SE K X b tb fb) (hi : X.N[i]? = some x := by rfl) (hj : X.N[j]? = some y := by rfl)
    (hx : Loc X.env.scope x := by first | exact .inl rfl | exact .inr rfl) (hy : Loc X.env.scope y := by first | exact .inl rfl | exact .inr rfl) (fx : X.fn x = true ∨ X.env.scope.names.lookup x = some .local := by first | exact .inl rfl | exact .inr rfl) (fy : X.fn y = true ∨ X.env.scope.names.lookup y = some .local := by first | exact .inl rfl | exact .inr rfl)
    (hw : swappedStores [.Tuple [.Name x px, .Name y py] kt pt] (.Tuple [a, b] k2 pt2) X.env = pure none := by rfl)
    (hs : swapsWithSole [.Tuple [.Name x px, .Name y py] kt pt] (.Tuple [a, b] k2 pt2) pos.line X.env = pure false := by rfl) (h1 : starEach [a, b] X.env = (false, eval a X.env) :: starEach [b] X.env := by rfl) (h2 : starEach [b] X.env = (false, eval b X.env) :: starEach [] X.env := by rfl)
    (q1 : (assignEach [.Tuple [.Name x px, .Name y py] kt pt] X.env).map (·.2) = [assign (.Tuple [.Name x px, .Name y py] kt pt) X.env] := by rfl)
    (hn : (assignEach [.Name x px, .Name y py] X.env).length = 2 := by rfl) (hst : (assignEach [.Name x px, .Name y py] X.env).findIdx? (·.1) = none := by rfl)
    (g1 : (assignEach (.Name x px :: [.Name y py]) X.env).map (·.2) = assign (.Name x px) X.env :: (assignEach [.Name y py] X.env).map (·.2) := by rfl) (g2 : (assignEach (.Name y py :: []) X.env).map (·.2) = assign (.Name y py) X.env :: (assignEach [] X.env).map (·.2) := by rfl) :
    SS K X (.Assign [.Tuple [.Name x px, .Name y py] kt pt] (.Tuple [a, b] k2 pt2) pos) (tPar i j (tCons ta (tCons tb tNil))) (sPar i j (fCons fa (fCons fb fNil))) := ⟨ps_parC hc hN hi hj hx hy (pa_cons ha.pe (pa_cons hb.pe pa_nil h2) h1) fx fy hw hs q1 hn hst g1 g2, sem_par i j (sem_cons ha.sem (sem_cons hb.sem sem_nil))⟩
end
end Dv

/-! Dv: tuples of ints of any lengths sorted; sorted(set(..)); places and counts in lists of data. -/
namespace Dv
open PySem PySem.Spec PyProof.Rows L2
section
variable {prog : Program} {w : World} {A : Around} {E : Value → Shared → Prop} {s : Shared}
theorem tup_oneLt {f : Bool} {a b : Value} {ks ms : List Int} {Q : Bool → Shared → Prop} (ta : TS.TupInts s.heap a ks) (tb : TS.TupInts s.heap b ms) (hu : A.units < cLine) (hq : Q (HT.lexLt ks ms) s) : wpAny (model prog w) A (oneLt' f a b) Q E s := by
  obtain ⟨t, xs, rfl, ht, it⟩ := ta
  obtain ⟨u, ys, rfl, hu', iu⟩ := tb
  rw [oneLt'_eq]
  cases f with
  | false =>
    simp only [Bool.false_eq_true, if_false]
    exact wpAny_bind (show wpAny (model prog w) A (richCompare .Lt (.ref t) (.ref u)) _ E s from HT.lt_tupInts ht hu' it iu hu (wpAny_truthy_bool hq))
  | true =>
    simp only [if_true]
    obtain ⟨⟨cls, dd, data, sl⟩, ho, hc, n, hd⟩ := ht
    obtain ⟨⟨cls2, dd2, data2, sl2⟩, ho2, hc2, n2, hd2⟩ := hu'
    simp only at hc hd hc2 hd2
    subst hc hd hc2 hd2
    refine wpAny_bind (wpAny_cRoomFor hu ?_)
    refine wpAny_bind (wpAny_callSpecialIfBound?_slot (T := "tuple") ⟨_, ho, rfl⟩ PySem.F.slot_tuple_lt (call_meets PySem.F.slot_tuple_lt ⟨_, ho, rfl⟩ PySem.F.entry_tuple_lt (PySem.F.args_tuple_lt_2 _ _) (HT.tuple_lt_ints t u xs ys n n2 dd dd2 sl sl2 ks ms it iu) ⟨ho, ho2, ?_⟩))
    exact wpAny_truthy_bool hq
def TupKind (κ : SortKind) : Prop := κ = tuples' true ∨ κ = general' ∨ κ = oneType'
theorem tups_cmp {κ : SortKind} (hk : TupKind κ) {a b : Value} {ks ms : List Int} {Q : Bool → Shared → Prop} (ta : TS.TupInts s.heap a ks) (tb : TS.TupInts s.heap b ms) (hu : A.units < cLine) (hq : Q (HT.lexLt ks ms) s) : wpAny (model prog w) A (keyLt' κ a b) Q E s := by
  rcases hk with rfl | rfl | rfl
  · obtain ⟨t, xs, rfl, ⟨o, ho, _, n, hd⟩, it⟩ := ta
    obtain ⟨u, ys, rfl, ⟨o2, ho2, _, n2, hd2⟩, iu⟩ := tb
    exact PySem.W.kat_lt ho hd ho2 hd2 (lex_walk it 0 iu (by simp) hq)
  · exact tup_oneLt (f := false) ta tb hu hq
  · exact tup_oneLt (f := true) ta tb hu hq
end
section
variable {M : Model} {A : Around} {s : Shared}
theorem firsts_any : ∀ {vs : List Value}, (∀ v ∈ vs, ∃ ks, TS.TupInts s.heap v ks) → ∃ fos : List (Option Value), fos.length = vs.length ∧ (∀ f, some f ∈ fos → ∃ n t, f = Value.int n t) ∧ ∀ (Q : List (Option Value) → Shared → Prop) (E : Value → Shared → Prop), Q fos s → wpAny M A (vs.mapM firstOfTuple') Q E s
  | [], _ => ⟨[], rfl, fun f h => (nomatch h), fun Q E h => by rw [List.mapM_nil]; exact wpAny_pure h⟩
  | v :: vs, t => by
    obtain ⟨fos, h1, h2, h3⟩ := firsts_any fun u m => t u (List.mem_cons_of_mem _ m)
    obtain ⟨ks, a, xs, rfl, ⟨o, ho, hc, n, hd⟩, hi⟩ := t v List.mem_cons_self
    refine ⟨xs[0]? :: fos, by simp [h1], fun f hf => ?_, fun Q E hq => ?_⟩
    · rcases List.mem_cons.mp hf with e | hf
      · have e2 : xs.toList[0]? = some f := by rw [Array.getElem?_toList]; exact e.symm
        cases hx : xs.toList with
        | nil => rw [hx] at e2; cases e2
        | cons y ys =>
          rw [hx] at hi e2
          cases hi with
          | cons k tt _ => cases e2; exact ⟨k, tt, rfl⟩
      · exact h2 f hf
    · rw [List.mapM_cons]
      refine wpAny_bind ?_
      rw [PySem.W.kas_first_eq]
      refine wpAny_bind (PySem.W.Looks.here (show PySem.W.Looks M s.heap (typeOf (.ref a)) o.cls from (PySem.W.Looks.ld ho).andThen .now) ?_)
      rw [hc, if_neg (by first | decide | simp)]
      refine wpAny_bind (listItems_at ho hd (wpAny_pure ?_))
      exact wpAny_bind (h3 (fun bs s' => wpAny M A (pure (xs[0]? :: bs)) Q E s') E (wpAny_pure hq))
theorem all_some {α : Type} : ∀ {l : List (Option α)}, (l.toArray.all fun x => x.isSome) = true → ∃ fs : List α, l = fs.map some
  | [], _ => ⟨[], rfl⟩
  | none :: l, h => by simp at h
  | some x :: l, h => by
    obtain ⟨fs, rfl⟩ := all_some (l := l) (by simpa using h)
    exact ⟨x :: fs, rfl⟩
theorem tups_kind {vs : List Value} (t : ∀ v ∈ vs, ∃ ks, TS.TupInts s.heap v ks) (h2 : 2 ≤ vs.length) : ∃ κ, TupKind κ ∧ ∀ (Q : SortKind → Shared → Prop) (E : Value → Shared → Prop), Q κ s → wpAny M A (keyKind' vs.toArray) Q E s := by
  obtain ⟨fos, f1, f2, f3⟩ := firsts_any (M := M) (A := A) t
  by_cases ha : (fos.toArray.all fun x => x.isSome) = true
  · obtain ⟨fs, rfl⟩ := all_some ha
    refine ⟨tuples' true, .inl rfl, fun Q E hq => ?_⟩
    obtain ⟨f₁, fr, rfl⟩ : ∃ f₁ fr, fs = f₁ :: fr := by
      cases fs with
      | nil => simp at f1; omega
      | cons f₁ fr => exact ⟨f₁, fr, rfl⟩
    rw [PyProof.Rows.kat_kind_eq, List.mapM_toArray, map_eq_pure_bind]
    refine wpAny_bind (wpAny_bind (f3 _ _ (wpAny_pure ?_)))
    rw [if_pos ha]
    refine wpAny_bind (wpAny_rule ?_)
    have hfm : (((f₁ :: fr).map some).toArray.filterMap id) = (f₁ :: fr).toArray := by simp
    rw [hfm, oneTypeOnly'_eq, List.mapM_toArray, map_eq_pure_bind]
    refine wpAny_bind (wpAny_bind (wpAny_bind (PySem.W.kas_mapM (r := Value.type "int") _ (fun v hv Q' hq' => ?_) (wpAny_pure ?_))))
    · obtain ⟨n, tk, rfl⟩ := f2 v (List.mem_map.mpr ⟨v, hv, rfl⟩)
      exact (PySem.W.Looks.now (M := M)).here hq'
    · have hT2 : (Value.type "int" == Value.type "int") = true := by rfl
      have hall2 : ((List.map (fun _ => Value.type "int") (f₁ :: fr)).toArray.all fun x => x == Value.type "int") = true := by
        simp only [List.all_toArray, List.all_map, List.all_eq_true]
        intro _ _
        exact hT2
      have h0 : (List.map (fun _ => Value.type "int") (f₁ :: fr)).toArray[0]? = some (Value.type "int") := by simp
      rw [h0]
      simp only [hall2, if_true]
      refine wpAny_pure (wpAny_pure ?_)
      have e : (Option.any (fun x => x != Value.type "tuple") (some (Value.type "int"))) = true := by first | decide +kernel | rfl | decide
      rw [e]
      exact hq
  · by_cases hf : ((fos.toArray[0]?.bind id).isSome) = true
    · refine ⟨general', .inr (.inl rfl), fun Q E hq => ?_⟩
      rw [PyProof.Rows.kat_kind_eq, List.mapM_toArray, map_eq_pure_bind]
      refine wpAny_bind (wpAny_bind (f3 _ _ (wpAny_pure ?_)))
      rw [if_neg ha, if_pos hf]
      exact wpAny_pure hq
    · refine ⟨oneType', .inr (.inr rfl), fun Q E hq => ?_⟩
      rw [PyProof.Rows.kat_kind_eq, List.mapM_toArray, map_eq_pure_bind]
      refine wpAny_bind (wpAny_bind (f3 _ _ (wpAny_pure ?_)))
      rw [if_neg ha, if_neg hf, oneTypeOnly'_eq, List.mapM_toArray, map_eq_pure_bind]
      refine wpAny_bind (wpAny_bind (wpAny_bind (PySem.W.kas_mapM (r := Value.type "tuple") _ (fun v hv Q' hq' => ?_) (wpAny_pure ?_))))
      · obtain ⟨ks, a, xs, rfl, ⟨o, ho, hc, n, hd⟩, hi⟩ := t v hv
        rw [← hc] at hq'
        exact PySem.W.Looks.here (show PySem.W.Looks M s.heap (typeOf (.ref a)) o.cls from (PySem.W.Looks.ld ho).andThen .now) hq'
      · obtain ⟨v₁, vr, rfl⟩ : ∃ v₁ vr, vs = v₁ :: vr := by
          cases vs with
          | nil => simp at h2
          | cons v₁ vr => exact ⟨v₁, vr, rfl⟩
        have hT2 : (Value.type "tuple" == Value.type "tuple") = true := by rfl
        have hall2 : ((List.map (fun _ => Value.type "tuple") (v₁ :: vr)).toArray.all fun x => x == Value.type "tuple") = true := by
          simp only [List.all_toArray, List.all_map, List.all_eq_true]
          intro _ _
          exact hT2
        have h0 : (List.map (fun _ => Value.type "tuple") (v₁ :: vr)).toArray[0]? = some (Value.type "tuple") := by simp
        rw [h0]
        simp only [hall2, if_true]
        exact wpAny_pure (wpAny_pure hq)
end
section
variable {prog : Program} {w : World} {A : Around} {s : Shared}
theorem tups_sortable {its : List Value} (t1 : ∀ v ∈ its, ∃ ks, TS.TupInts s.heap v ks) (h2 : 2 ≤ its.length) (hu : A.units < cLine) {h₁ : Heap} {a : Addr} (kp : ∀ b u, s.heap.get? b = some u → b ≠ a ∧ h₁.get? b = some u) :
    SrtO.SortableO prog w A { s with heap := h₁ } a its fun v u => HT.lexLt (TS.intsOf s.heap v) (TS.intsOf s.heap u) := by
  intro h' keep
  have tup : ∀ v ∈ its, ∃ ks, TS.TupInts h' v ks ∧ TS.intsOf s.heap v = ks := fun v hv => by
    obtain ⟨ks, t, xs, rfl, ⟨o, ho, hc, n, hd⟩, hi⟩ := t1 v hv
    exact ⟨ks, ⟨t, xs, rfl, ⟨o, keep t o (kp t o ho).1 (kp t o ho).2, hc, n, hd⟩, hi⟩, TS.TupInts.ints ⟨t, xs, rfl, ⟨o, ho, hc, n, hd⟩, hi⟩⟩
  obtain ⟨κ, k1, k2⟩ := tups_kind (M := model prog w) (A := A) (s := { s with heap := h' }) (vs := its) (fun v hv => by obtain ⟨ks, h, _⟩ := tup v hv; exact ⟨ks, h⟩) h2
  refine ⟨κ, k2, fun p q hp hq => ?_⟩
  obtain ⟨ka, ta, ea⟩ := tup p.1 hp
  obtain ⟨kb, tb, eb⟩ := tup q.1 hq
  refine tups_cmp k1 (s := { s with heap := h' }) ta tb hu ⟨rfl, ?_⟩
  show HT.lexLt ka kb = HT.lexLt (TS.intsOf s.heap p.1) (TS.intsOf s.heap q.1)
  rw [ea, eb]
end
/-- a tuple of these ints -/
def IsKA (K : PySem.W.Frag) (H : Hp) (x : V) (ks : List Int) : Prop := ∃ t, x = .ref t ∧ SqT K H t (ks.map V.int)
def rSortTA (K : PySem.W.Frag) : List V → Hp → VK → Prop := fun vs H Q => ∃ (a : Addr) (xs : List V) (kss : List (List Int)) (W : V → List Int → Prop), vs = [.ref a] ∧ (SqL K H a xs ∨ SqT K H a xs) ∧ Paired (fun x ks => IsKA K H x ks ∧ W x ks) xs kss ∧
  ∀ p ys, H p = none → Paired W ys (sortK kss) → Q (.ref p) (upd H p (.lst ys))
section
variable {X : Cx}
/-- each item, its ints -/
theorem ka_items {pins : List (Addr × Obj)} {s : Shared} {σ : L2.St} {H : Hp} (I : Inv X pins σ H s) {W : V → List Int → Prop} : ∀ {ws : List V} {vs : List Value} {ks : List (List Int)}, Vals ws vs → Paired (fun x ks => IsKA X.K H x ks ∧ W x ks) ws ks →
    (∀ v, v ∈ vs → ∃ k, TS.TupInts s.heap v k) ∧ vs.map (TS.intsOf s.heap) = ks ∧ ∀ v, v ∈ vs → ∃ y, RelV y v ∧ W y (TS.intsOf s.heap v) := by
  intro ws vs ks rv hp
  induction rv generalizing ks with
  | nil => cases hp; exact ⟨fun v h => (nomatch h), rfl, fun v h => (nomatch h)⟩
  | @cons y v ws vs ry rt ih =>
    cases hp with
    | @cons _ k _ ks hk ht =>
      obtain ⟨i1, i2, i3⟩ := ih ht
      obtain ⟨⟨t, rfl, hT⟩, hW⟩ := hk
      cases ry
      obtain ⟨its2, r2, p2, _⟩ := I.tuple hT
      have ik : IntsAre its2 k := Vals.ints r2
      have tk : TS.TupInts s.heap (.ref t) k := ⟨t, its2.toArray, rfl, p2, by simpa using ik⟩
      refine ⟨fun v hv => ?_, by rw [List.map_cons, i2, tk.ints], fun v hv => ?_⟩
      · rcases List.mem_cons.mp hv with rfl | hv
        · exact ⟨k, tk⟩
        · exact i1 v hv
      · rcases List.mem_cons.mp hv with rfl | hv
        · exact ⟨.ref t, rfl, by rw [tk.ints]; exact hW⟩
        · exact i3 v hv
theorem back_ka {s : Shared} {W : V → List Int → Prop} {its : List Value} (t3 : ∀ v, v ∈ its → ∃ y, RelV y v ∧ W y (TS.intsOf s.heap v)) : ∀ {l : List Value}, (∀ v, v ∈ l → v ∈ its) → ∃ ys, Vals ys l ∧ Paired W ys (l.map (TS.intsOf s.heap)) := fun {l} => by
  induction l with
  | nil => exact fun _ => ⟨[], .nil, .nil⟩
  | cons v l ih =>
    intro hm
    obtain ⟨ys, y1, y2⟩ := ih fun u hu => hm u (List.mem_cons_of_mem _ hu)
    obtain ⟨y, z2, z3⟩ := t3 v (hm v List.mem_cons_self)
    exact ⟨y :: ys, .cons z2 y1, .cons z3 y2⟩
theorem c_sortTA (hu : X.A.units + 64 < cLine) : CallR X (.builtin "sorted") (rSortTA X.K) := by
  intro pins s σ H vs us Q I r h
  obtain ⟨a, xs, kss, W, rfl, hs, hx, q⟩ := h
  obtain ⟨its, T, o, n, rv, hT, ho, hc, hd, hz⟩ : ∃ (its : List Value) (T : String) (o : Obj) (n : Nat), Vals xs its ∧ (T = "list" ∨ T = "tuple") ∧ s.heap.get? a = some o ∧ o.cls = .type T ∧ o.data = .seq its.toArray n ∧ xs.length ≤ sizeLine := by
    rcases hs with hs | hs
    · obtain ⟨its, rv, hl, hz⟩ := I.list hs
      obtain ⟨o, h1, h2, n, h3⟩ := hl.isList
      exact ⟨its, _, o, n, rv, .inl rfl, h1, h2, h3, hz⟩
    · obtain ⟨its, rv, hl, hz⟩ := I.tuple hs
      obtain ⟨o, h1, h2, n, h3⟩ := hl
      exact ⟨its, _, o, n, rv, .inr rfl, h1, h2, h3, hz⟩
  obtain ⟨u, rfl, ru⟩ := vals1 r
  obtain rfl : u = Value.ref a := ru
  have hlen := rv.length
  obtain ⟨t1, t2, t3⟩ := ka_items I rv hx
  refine sorted_items (lt := fun v u => HT.lexLt (TS.intsOf s.heap v) (TS.intsOf s.heap u)) (swo_key _) hT ho hc hd (by omega) (fun h2 h₁ b hb kp => tups_sortable (A := X.A.in1.in1) t1 h2 (show X.A.units + 1 + 1 < cLine by omega) kp) fun out p g ep so sb pn kg pg => ?_
  obtain ⟨ys, y1, y2⟩ := back_ka t3 (l := out) fun v hv => sb.perm.mem_iff.mp hv
  have es : out.map (TS.intsOf s.heap) = sortK kss := by
    refine sortK_uniq ?_ ?_
    · rw [← t2]; exact sb.perm.map _
    · exact List.pairwise_map.mpr so
  rw [es] at y2
  have hlo : out.length = its.length := sb.perm.length_eq
  have Hp_ : H p = none := by
    cases q : H p with
    | none => rfl
    | some u =>
      obtain ⟨o', e'⟩ := ok_there (I.hok p u q)
      rw [pn] at e'; cases e'
  exact ⟨.ref p, upd H p (.lst ys), I.laidN (t' := s.toks) kg pn Hp_ ⟨by rw [y1.length]; omega, out, ep, y1, pg⟩, rfl, q p ys Hp_ y2⟩
/-- sorted(..) of a set of tuples of ints -/
def rSortSet (K : PySem.W.Frag) (P : Program) (w : World) : List V → Hp → VK → Prop := fun vs H Q => ∃ (a : Addr) (L : List (Addr × List Int)), vs = [V.ref a] ∧ H a = some (SetTO P w a L) ∧ (∀ p ∈ L, SqT K H p.1 (p.2.map V.int)) ∧
  ∀ (M : List (Addr × List Int)) (p : Addr), (∀ q ∈ M, q ∈ L) → (M.map (·.2)).Perm (L.map (·.2)) → (L.map (·.2)).Nodup → (M.map (·.2)).Pairwise (fun q r => HT.lexLt r q = false) → H p = none → Q (.ref p) (upd H p (.lst (M.map fun q => V.ref q.1)))
theorem refs_in {L : List (Addr × List Int)} : ∀ {vs : List Value}, (∀ v ∈ vs, v ∈ L.map fun q => Value.ref q.1) → ∃ M : List (Addr × List Int), vs = M.map (fun q => Value.ref q.1) ∧ ∀ q ∈ M, q ∈ L
  | [], _ => ⟨[], rfl, by simp⟩
  | v :: vs, h => by
    obtain ⟨M, e, h2⟩ := refs_in (vs := vs) fun u m => h u (List.mem_cons_of_mem _ m)
    obtain ⟨q, hq, eq⟩ := List.mem_map.mp (h v List.mem_cons_self)
    refine ⟨q :: M, by rw [List.map_cons, ← e, eq], fun r hr => ?_⟩
    rcases List.mem_cons.mp hr with rfl | hr
    · exact hq
    · exact h2 r hr
theorem c_sortSet (hc : X.calm = true) (hu : X.A.units + 64 < cLine) : CallR X (.builtin "sorted") (rSortSet X.K X.prog X.w) := by
  intro pins s σ H vs us Q I r h
  obtain ⟨a, L, rfl, ha, hk, q⟩ := h
  obtain ⟨es, ep, t, R⟩ := ((I.hok a _ ha).1 : SetT0 X.prog X.w s.heap a L).full fun p hp => I.isT (hk p hp)
  rw [Vals.ref1 r]
  obtain ⟨o, ho, hex, hd⟩ := R.ob
  have few := R.few
  have sz := R.size
  apply Calls.call_function_entry kind_sorted plain_sorted entry_sorted (args_sorted1 _)
  unfold Builtin.«sorted»
  refine wpAny_bind (m := checkCount "sorted" 1 1 _) (wpAny_pure ?_)
  refine wpAny_bind (collect_set (A := X.A.in1) (I.ok.hd hc) ⟨o, ho, hex.1, hd⟩ R.fits (by unfold scanBound; omega) R.tab.ris R.led fun s1 out0 k1 z1 g1 o1 pm => ?_)
  have er : es.toList.map (·.2) = L.map fun q => Value.ref q.1 := by
    rw [R.rows]
    unfold L2.rowsOf
    rw [List.map_map]
    rfl
  rw [er] at pm
  have hl0 : out0.length = L.length := by rw [pm.length_eq, List.length_map]
  have hline : out0.length ≤ sizeLine := by rw [sizeLine_eq]; omega
  have ti : ∀ p ∈ L, TS.TupInts s1.heap (.ref p.1) p.2 := fun p hp => tupInts_of (P := X.prog) (w := X.w) (isT_keep (R.tup p hp) fun b u e => k1 b u e)
  have t1 : ∀ v ∈ out0, ∃ ks, TS.TupInts s1.heap v ks := fun v hv => by
    obtain ⟨p, hp, rfl⟩ := List.mem_map.mp (pm.mem_iff.mp hv)
    exact ⟨p.2, ti p hp⟩
  refine wpAny_bind (wpAny_newList ?_ hline)
  have at_ : (s1.heap.push (seqObj "list" out0.toArray 0)).get? s1.heap.objs.size = some (seqObj "list" out0.toArray 0) := Heap.get?_push_size _ rfl
  have kp : ∀ b u, s1.heap.get? b = some u → b ≠ s1.heap.objs.size ∧ (s1.heap.push (seqObj "list" out0.toArray 0)).get? b = some u := fun b u e => ⟨Nat.ne_of_lt (Heap.lt_size e), Heap.get?_push_of_some _ e⟩
  refine wpAny_bind (wpAny_holding (wpAny_call_entry slot_list_sort ⟨_, at_, rfl⟩ entry_list_sort (SrtO.list_sort_ord (swo_key (TS.intsOf s1.heap)) at_ hline (fun h2 => tups_sortable (A := X.A.in1.in1) t1 h2 (show X.A.units + 1 + 1 < cLine by omega) kp) fun out so sb => ⟨_, rfl, ?_⟩) (args_list_sort _)))
  obtain ⟨e, he⟩ := sortedHeap_at (out := out.toArray) at_
  obtain ⟨M, eM, hM⟩ := refs_in (L := L) (vs := out) fun v hv => pm.mem_iff.mp (sb.perm.mem_iff.mp hv)
  have keys : out.map (TS.intsOf s1.heap) = M.map (·.2) := by
    rw [eM, List.map_map]
    exact List.map_congr_left fun p hp => (ti p (hM p hp)).ints
  have keysL : (L.map fun q => Value.ref q.1).map (TS.intsOf s1.heap) = L.map (·.2) := by
    rw [List.map_map]
    exact List.map_congr_left fun p hp => (ti p hp).ints
  have old : ∀ b u, s.heap.get? b = some u → (sortedHeap (s1.heap.push (seqObj "list" out0.toArray 0)) s1.heap.objs.size out0 out.toArray).get? b = some u := fun b u e => by
    have q1 := k1 b u e
    rw [sortedHeap_old (kp b u q1).1 (Heap.lt_size (kp b u q1).2)]
    exact (kp b u q1).2
  have hn : H s1.heap.objs.size = none := I.hok.fresh z1
  have hlen : (M.map fun q => V.ref q.1).length ≤ sizeLine := by
    have : M.length = out.length := by rw [eM, List.length_map]
    rw [List.length_map, this, sb.perm.length_eq]; exact hline
  have hv : Vals (M.map fun q => V.ref q.1) out := by rw [eM]; exact vals_of_refs M
  refine wpAny_pure ⟨_, rfl, .ref s1.heap.objs.size, upd H s1.heap.objs.size (.lst (M.map fun q => V.ref q.1)), ?_, rfl, q M _ hM ?_ R.nd ?_ hn⟩
  · have hok : HOk X.prog X.w (upd H s1.heap.objs.size (.lst (M.map fun q => V.ref q.1))) (sortedHeap (s1.heap.push (seqObj "list" out0.toArray 0)) s1.heap.objs.size out0 out.toArray) := I.hok.laid old z1 ⟨hlen, out, e, hv, he⟩
    have bare : AllBare s1.gens := by rw [g1]; exact I.bare
    exact I.call' (ch := []) o1 (Un.laid old z1 hn) hok bare (fun _ z => nomatch z)
  · rw [← keys, ← keysL]
    exact (sb.perm.trans pm).map _
  · rw [← keys]
    exact List.pairwise_map.mpr so
end
end Dv

/-! Dv: sorted(set(..)), count and index over data. -/
namespace Dv
open PySem PySem.Spec PyProof.Rows L2
def dedup : List (List Int) → List (List Int)
  | [] => []
  | x :: xs => if x ∈ xs then dedup xs else x :: dedup xs
theorem mem_dedup : ∀ {l : List (List Int)} {x : List Int}, x ∈ dedup l ↔ x ∈ l
  | [], x => by simp [dedup]
  | y :: l, x => by
    unfold dedup
    by_cases h : y ∈ l
    · rw [if_pos h, mem_dedup, List.mem_cons]
      exact ⟨.inr, fun z => z.elim (fun e => e ▸ h) id⟩
    · rw [if_neg h, List.mem_cons, List.mem_cons, mem_dedup]
theorem nodup_dedup : ∀ l : List (List Int), (dedup l).Nodup
  | [] => List.nodup_nil
  | y :: l => by
    unfold dedup
    by_cases h : y ∈ l
    · rw [if_pos h]; exact nodup_dedup l
    · rw [if_neg h]; exact List.nodup_cons.mpr ⟨fun z => h (mem_dedup.mp z), nodup_dedup l⟩
theorem dedup_len : ∀ l : List (List Int), (dedup l).length ≤ l.length
  | [] => Nat.le_refl _
  | y :: l => by
    unfold dedup
    have := dedup_len l
    split
    · rw [List.length_cons]; omega
    · rw [List.length_cons, List.length_cons]; omega
/-- rows of ints, some may be empty -/
def rowsA : List PyData → Option (List (List Int))
  | [] => some []
  | .tuple xs :: r => match intsOf xs with
    | some ns => match rowsA r with
      | some kss => some (ns :: kss)
      | none => none
    | none => none
  | _ => none
theorem rowsA_map : ∀ kss : List (List Int), rowsA (kss.map fun ks => .tuple (ks.map .int)) = some kss
  | [] => rfl
  | k :: kss => by
    rw [List.map_cons]
    unfold rowsA
    rw [intsOf_map, rowsA_map kss]
def gSSet : PyData → Option PyData := fun x => match x with
  | .list ds => match rowsA ds with
    | some kss => if kss.length < 64 then some (.list ((sortK (dedup kss)).map fun ks => .tuple (ks.map .int))) else none
    | none => none
  | _ => none
theorem keyed {K : PySem.W.Frag} {H : Hp} : ∀ {vs : List V} {ds : List PyData} {kss : List (List Int)}, RpA K H vs ds → rowsA ds = some kss → ∃ ks : List (Addr × List Int), vs = ks.map (fun p => V.ref p.1) ∧ kss = ks.map (·.2) ∧ ∀ p ∈ ks, SqT K H p.1 (p.2.map V.int)
  | _, [], _, .nil, e => by cases e; exact ⟨[], rfl, rfl, by simp⟩
  | _, .tuple xs :: r, kss, .cons h t, e => by
    unfold rowsA at e
    split at e
    · rename_i ns e1
      split at e
      · rename_i ks0 e2
        cases e
        obtain ⟨ks, rfl, rfl, h3⟩ := keyed t e2
        have z := intsOf_some e1
        subst z
        cases h with
        | tup h1 r1 =>
          rename_i a us
          have v := r1.ints
          subst v
          refine ⟨(a, ns) :: ks, rfl, rfl, fun p hp => ?_⟩
          rcases List.mem_cons.mp hp with rfl | hp
          · exact h1
          · exact h3 p hp
      · cases e
    · cases e
  | _, .none :: r, _, _, e => by simp [rowsA] at e
  | _, .bool _ :: r, _, _, e => by simp [rowsA] at e
  | _, .int _ :: r, _, _, e => by simp [rowsA] at e
  | _, .str _ :: r, _, _, e => by simp [rowsA] at e
  | _, .list _ :: r, _, _, e => by simp [rowsA] at e
  | _, .dict _ :: r, _, _, e => by simp [rowsA] at e
theorem rp_keyed {K : PySem.W.Frag} {H : Hp} : ∀ {M : List (Addr × List Int)}, (∀ p ∈ M, SqT K H p.1 (p.2.map V.int)) → RpA K H (M.map fun p => V.ref p.1) ((M.map (·.2)).map fun ks => .tuple (ks.map .int))
  | [], _ => .nil
  | p :: M, h => .cons (.tup (h p List.mem_cons_self) (.of_ints p.2)) (rp_keyed fun q m => h q (List.mem_cons_of_mem _ m))
section
variable {K : PySem.W.Frag} {P : Program} {w : World}
theorem sem_sset {te : TE} {fe : D1} (he : SemE K te fe) : SemE K (tCB (rSortSet K P w) (tCons (tCB (rSetOfT K P w) (tCons te tNil)) tNil)) (f1 gSSet fe) := by
  intro G L ρ σ H Q d ρ' R e q
  unfold f1 at e
  split at e
  · cases e
  rename_i x ρ1 e1
  split at e
  · cases e
  rename_i z e2
  cases e
  unfold gSSet at e2
  split at e2
  · rename_i ds
    split at e2
    · rename_i kss e3
      split at e2
      · rename_i hl
        cases e2
        refine he G L ρ σ H _ _ ρ' R e1 fun v H1 L1 s1 R1 w1 r1 => ?_
        cases r1 with
        | lst h1 r1 =>
          rename_i a us
          obtain ⟨ks, rfl, rfl, hk⟩ := keyed r1 e3
          refine ⟨a, ks, rfl, .of (hd_le _ _ h1), fun p hp => hd_le.t (hk p hp), by simpa using hl, fun s S hs hS1 hS2 => ?_⟩
          have le1 : Le H1 (upd H1 s (SetTO P w s S)) := Le.new hs
          refine ⟨s, S, rfl, upd_same, fun p hp => le1.t (hd_le.t (hk p (hS1 p hp))), fun M p hM pm nd srt hp => ?_⟩
          have le2 := Le.new (o := .lst (M.map fun q => V.ref q.1)) hp
          have le : Le H1 (upd (upd H1 s (SetTO P w s S)) p (.lst (M.map fun q => V.ref q.1))) := le1.trans le2
          have keys : M.map (·.2) = sortK (dedup (ks.map (·.2))) := by
            refine sortK_uniq (pm.trans ?_) srt
            refine (List.perm_ext_iff_of_nodup nd (nodup_dedup _)).mpr fun k => ?_
            rw [mem_dedup]
            constructor
            · intro hk
              obtain ⟨p, hp, rfl⟩ := List.mem_map.mp hk
              exact List.mem_map.mpr ⟨p, hS1 p hp, rfl⟩
            · intro hk
              obtain ⟨p, hp, rfl⟩ := List.mem_map.mp hk
              exact hS2 p hp
          have R2 := (R1.mono le1)
          rw [← keys] at q
          exact q _ _ L1 s1 (R1.mono le) (w1.trans (le.ew (L := L1)) s1) (.lst (R2.alloc.new hp) (rp_keyed fun p hp => (hd_mono le).t (hk p (hS1 p (hM p hp)))))
      · cases e2
    · cases e2
  · cases e2
end
theorem e_sset {K : PySem.W.Frag} {X : Cx} {e : Expr} {te : TE} {fe : D1} {p p2 pos2 pos : Pos} (hc : X.calm = true) (hu : X.A.units + 65 < cLine) (hg : Gl X "sorted") (hm : X.mg "sorted" = none) (hg2 : Gl X "set") (hm2 : X.mg "set" = none) (he : SE K X e te fe)
    (h1 : starEach [e] X.env = (false, eval e X.env) :: starEach [] X.env := by rfl) (h2 : starEach [.Call (.Name "set" p2) [e] [] pos2] X.env = (false, eval (.Call (.Name "set" p2) [e] [] pos2) X.env) :: starEach [] X.env := by rfl) (q1 : (backTo pos2 (starEach [] X.env)).any (·.1) = false := by rfl) (q2 : (backTo pos (starEach [] X.env)).any (·.1) = false := by rfl) (hK : X.K = K := by rfl) :
    SE K X (.Call (.Name "sorted" p) [.Call (.Name "set" p2) [e] [] pos2] [] pos) (tCB (rSortSet K X.prog X.w) (tCons (tCB (rSetOfT K X.prog X.w) (tCons te tNil)) tNil)) (f1 gSSet fe) := by
  subst hK
  exact ⟨pe_callB (c_sortSet hc (by omega)) hg hm (by rfl) (pa_cons (pe_callTy (cr_setOfT hc (by omega)) hg2 hm2 (by rfl) (pa_cons he.pe pa_nil h1) (by decide) (by decide) h1 q1) pa_nil h2) (by decide) (by decide) h2 q2, sem_sset he.sem⟩
/-! ### xs.count(d), xs.index(d), d data -/
def gCntD : G2 := fun x y => match x with
  | .list ds => if SeqAt.shaped (.list ds) && SeqAt.shaped y then some (.int (((ds.countP fun z => PyData.eqv z y) : Nat) : Int)) else none
  | _ => none
def gIndex : G2 := fun x y => match x with
  | .list ds => if SeqAt.shaped (.list ds) && SeqAt.shaped y then (match ds.findIdx? fun z => PyData.eqv z y with
    | some j => some (.int ((j : Nat) : Int))
    | none => none) else none
  | _ => none
def rCntD (K : PySem.W.Frag) : V → List V → Hp → VK → Prop := fun x xs H Q => ∃ (a : Addr) (y : V) (d : PyData) (ds : List PyData), x = V.ref a ∧ xs = [y] ∧ Dp K H (V.ref a) (.list ds) ∧ Dp K H y d ∧ SeqAt.shaped (.list ds) = true ∧ SeqAt.shaped d = true ∧ Q (.int (((ds.countP fun z => PyData.eqv z d) : Nat) : Int)) H
section
variable {X : Cx}
theorem mt_cntD (hu : X.A.units + 65 < cLine) : MtR X "list.count" (rCntD X.K) := by
  intro pins s σ H x xs v us Q I rx rxs h
  obtain ⟨a, y, d, ds, rfl, rfl, hl, hy, sl, sd, q⟩ := h
  cases rx
  obtain ⟨u, rfl, ru⟩ := rxs.one
  obtain ⟨bs, rd⟩ := Dp.reads I d y u hy ru
  have lay := SeqAt.canLay_of_shaped sl
  have room : X.A.units + 1 + min (PyData.depthAll ds) d.depth < cLine := room_in_shaped sd hu
  cases hl with
  | lst hs ha =>
    obtain ⟨its, rv, ⟨⟨cls, dd, data, slots⟩, n, ho, hc, _, hdt⟩, _⟩ := I.list hs
    simp only at hc hdt
    subst hc hdt
    obtain ⟨as, ra⟩ := Dp.readsAll I ds _ its ha rv
    have em : its.map (SeqAt.readOf s.heap) = ds := SeqAt.readsAll_map ds its as lay ra
    have ec : its.toArray.toList.countP (fun z => PyData.eqv (SeqAt.readOf s.heap z) d) = ds.countP fun z => PyData.eqv z d := by
      rw [← em, List.countP_map]
      rfl
    refine call_meets PySem.F.slot_list_count ⟨_, ho, rfl⟩ PySem.F.entry_list_count (PySem.F.args_list_count_2 _ _)
      (SeqAt.list_countAt a its.toArray n dd slots u fun z => PyData.eqv (SeqAt.readOf s.heap z) d) ⟨ho, SeqAt.items_eqAt (vs := its.toArray) (by simpa using ra) rd lay (SeqAt.canLay_of_shaped sd) room, ?_⟩
    refine ⟨.int _, H, I.tok _, ⟨s.toks, ?_⟩, q⟩
    rw [ec]
end
section
variable {K : PySem.W.Frag}
/-- a method of a list with one argument, by what is read -/
theorem sem_mt1 {r : V → List V → Hp → VK → Prop} {g : G2} {to te : TE} {fo fe : D1} (hg : ∀ {x y z : PyData}, g x y = some z → ∃ ds, x = .list ds) (hr : ∀ (N : Addr → Prop) (L : List (Option Addr)) (H : Hp) (a : Addr) (us : List V) (ds : List PyData) (v : V) (y z : PyData) (Q : VK), Alloc N L H → hd N L H a = some (.lst us) → RpA K (hd N L H) us ds → Rp K (hd N L H) v y → g (.list ds) y = some z → (∀ v H', Le H H' → Rp K (hd N L H') v z → Q v H') → r (.ref a) [v] H Q)
    (ho : SemE K to fo) (he : SemE K te fe) : SemE K (tBM K "list" r to (tCons te tNil)) (f2 g fo fe) := by
  intro G L ρ σ H Q d ρ' R e q
  obtain ⟨x, ρ1, y, e1, e2, e3⟩ := f2_some e
  obtain ⟨ds, rfl⟩ := hg e3
  refine ho G L ρ σ H _ _ ρ1 R e1 fun v H1 L1 s1 R1 w1 r1 => ?_
  cases r1 with
  | lst h1 r1 =>
    rename_i a us
    refine ⟨.inl ⟨rfl, _, .of (hd_le _ _ h1)⟩, ?_⟩
    refine he G L1 ρ1 σ H1 _ _ ρ' R1 e2 fun v2 H2 L2' s2 R2 w2 r2 => ?_
    refine hr G.N L2' H2 a us ds v2 y d Q R2.alloc (w2.hd s2 _ _ h1) (r1.mono (w2.hd s2)) r2 e3 fun v H' le rv => ?_
    exact q v H' L2' (s2.trans s1) (R2.mono le) ((w1.trans w2 s1).trans (le.ew (L := L2')) (s2.trans s1)) rv
theorem lay_of {d : PyData} (h : SeqAt.shaped d = true) : d.canLay0 = true := SeqAt.canLay_of_shaped h
theorem sem_cntD {to te : TE} {fo fe : D1} (ho : SemE K to fo) (he : SemE K te fe) : SemE K (tBM K "list" (rCntD K) to (tCons te tNil)) (f2 gCntD fo fe) := by
  refine sem_mt1 (fun {x y z} h => ?_) (fun N L H a us ds v y z Q A h1 r1 r2 e q => ?_) ho he
  · unfold gCntD at h
    split at h
    · exact ⟨_, rfl⟩
    · cases h
  · simp only [gCntD] at e
    split at e
    · rename_i hs
      cases e
      rw [Bool.and_eq_true] at hs
      exact ⟨a, v, y, ds, rfl, rfl, (Rp.lst h1 r1 : Rp K (hd N L H) (.ref a) (.list ds)).mono hd_le |>.dp (lay_of hs.1), (r2.mono hd_le).dp (lay_of hs.2), hs.1, hs.2, q _ H (.refl H) (.int _)⟩
    · cases e
theorem sem_index {to te : TE} {fo fe : D1} (ho : SemE K to fo) (he : SemE K te fe) : SemE K (tBM K "list" (rIndexD K) to (tCons te tNil)) (f2 gIndex fo fe) := by
  refine sem_mt1 (fun {x y z} h => ?_) (fun N L H a us ds v y z Q A h1 r1 r2 e q => ?_) ho he
  · unfold gIndex at h
    split at h
    · exact ⟨_, rfl⟩
    · cases h
  · simp only [gIndex] at e
    split at e
    · rename_i hs
      split at e
      · rename_i j hj
        cases e
        rw [Bool.and_eq_true] at hs
        obtain ⟨j1, j2, j3⟩ := List.findIdx?_eq_some_iff_getElem.mp hj
        refine ⟨a, v, y, ds, j, ds[j], rfl, rfl, (Rp.lst h1 r1 : Rp K (hd N L H) (.ref a) (.list ds)).mono hd_le |>.dp (lay_of hs.1), (r2.mono hd_le).dp (lay_of hs.2), hs.1, hs.2, List.getElem?_eq_getElem j1, j2, fun m z' hm hz => ?_, q _ H (.refl H) (.int _)⟩
        obtain ⟨m1, rfl⟩ := List.getElem?_eq_some_iff.mp hz
        have := j3 m hm
        simpa using this
      · cases e
    · cases e
end
section
variable {K : PySem.W.Frag} {X : Cx} {o e : Expr} {to te : TE} {fo fe : D1} {apos cpos : Pos}
theorem e_cntD (hu : X.A.units + 65 < cLine) (ho : SE K X o to fo) (he : SE K X e te fe)
    (hbase : attributeBase o "count" X.env (eval o X.env) = eval o X.env := by rfl)
    (hfew : ((backTo cpos (starEach [e] X.env)).all (fun x => !x.1) && (backToKw cpos (keywordEach [] X.env)).all (fun x => x.1.isSome) && decide ([e].length + ([] : List Keyword).length + (if ([] : List Keyword).isEmpty then 0 else 1) < 30)) = true := by rfl)
    (hline : (apos.endLine == cpos.line) = true := by rfl) (h1 : starEach [e] X.env = (false, eval e X.env) :: starEach [] X.env := by rfl) (hplain : (backTo cpos (starEach [] X.env)).any (·.1) = false := by rfl) (hK : X.K = K := by rfl) :
    SE K X (.Call (.Attribute o "count" apos) [e] [] cpos) (tBM K "list" (rCntD K) to (tCons te tNil)) (f2 gCntD fo fe) := by
  subst hK
  exact ⟨pe_bm PySem.F.plainAttrs_list PySem.F.slot_list_count PySem.F.type_list_count (mt_cntD hu) ho.pe (pa_cons he.pe pa_nil h1) hbase hfew hline h1 hplain, sem_cntD ho.sem he.sem⟩
theorem e_index (hu : X.A.units + 65 < cLine) (ho : SE K X o to fo) (he : SE K X e te fe)
    (hbase : attributeBase o "index" X.env (eval o X.env) = eval o X.env := by rfl)
    (hfew : ((backTo cpos (starEach [e] X.env)).all (fun x => !x.1) && (backToKw cpos (keywordEach [] X.env)).all (fun x => x.1.isSome) && decide ([e].length + ([] : List Keyword).length + (if ([] : List Keyword).isEmpty then 0 else 1) < 30)) = true := by rfl)
    (hline : (apos.endLine == cpos.line) = true := by rfl) (h1 : starEach [e] X.env = (false, eval e X.env) :: starEach [] X.env := by rfl) (hplain : (backTo cpos (starEach [] X.env)).any (·.1) = false := by rfl) (hK : X.K = K := by rfl) :
    SE K X (.Call (.Attribute o "index" apos) [e] [] cpos) (tBM K "list" (rIndexD K) to (tCons te tNil)) (f2 gIndex fo fe) := by
  subst hK
  exact ⟨pe_bm PySem.F.plainAttrs_list PySem.F.slot_list_index PySem.F.type_list_index (mt_indexD hu) ho.pe (pa_cons he.pe pa_nil h1) hbase hfew hline h1 hplain, sem_index ho.sem he.sem⟩
end
end Dv

/-! Dv: a, b, c = e, [..], [..]; targets ((a, b), c). -/
namespace Dv
open PySem PySem.Spec PyProof.Rows L2
def tPar3 (i j k : Nat) (ta : TA) : TS := fun D σ H => ta σ H fun vs H1 => ∃ u v w, vs = [u, v, w] ∧ D.nx (((σ.set i (some u)).set j (some v)).set k (some w)) H1
/-- three names, stored from the left by way of the tuple -/
structure Par3 (X : Cx) (x y z : Str) (px py pz pt : Pos) (kt : Nat) : Prop where
  w1 : (assignEach [.Tuple [.Name x px, .Name y py, .Name z pz] kt pt] X.env).map (·.2) = [assign (.Tuple [.Name x px, .Name y py, .Name z pz] kt pt) X.env]
  w2 : (assignEach [.Name x px, .Name y py, .Name z pz] X.env).length = 3
  w3 : (assignEach [.Name x px, .Name y py, .Name z pz] X.env).findIdx? (·.1) = none
  g1 : (assignEach (.Name x px :: [.Name y py, .Name z pz]) X.env).map (·.2) = assign (.Name x px) X.env :: (assignEach [.Name y py, .Name z pz] X.env).map (·.2)
  g2 : (assignEach (.Name y py :: [.Name z pz]) X.env).map (·.2) = assign (.Name y py) X.env :: (assignEach [.Name z pz] X.env).map (·.2)
  g3 : (assignEach (.Name z pz :: []) X.env).map (·.2) = assign (.Name z pz) X.env :: (assignEach [] X.env).map (·.2)
section
variable {X : Cx} {i j k : Nat} {x y z : Str} {a b c : Expr} {ta : TA} {px py pz pt pos : Pos} {kt : Nat} {k2 pt2}
theorem ps_par3C (hc : X.calm = true) (hN : X.N.Nodup) (hi : X.N[i]? = some x) (hj : X.N[j]? = some y) (hk : X.N[k]? = some z) (hx : Loc X.env.scope x) (hy : Loc X.env.scope y) (hz : Loc X.env.scope z) (ha : PA X [a, b, c] ta)
    (fx : X.fn x = true ∨ X.env.scope.names.lookup x = some .local) (fy : X.fn y = true ∨ X.env.scope.names.lookup y = some .local) (fz : X.fn z = true ∨ X.env.scope.names.lookup z = some .local)
    (hw : swappedStores [.Tuple [.Name x px, .Name y py, .Name z pz] kt pt] (.Tuple [a, b, c] k2 pt2) X.env = pure none) (hs : swapsWithSole [.Tuple [.Name x px, .Name y py, .Name z pz] kt pt] (.Tuple [a, b, c] k2 pt2) pos.line X.env = pure false)
    (W : Par3 X x y z px py pz pt kt) : PS X (.Assign [.Tuple [.Name x px, .Name y py, .Name z pz] kt pt] (.Tuple [a, b, c] k2 pt2) pos) (tPar3 i j k ta) := by
  refine ⟨fun pins s σ H D I h => wpAny_Assign_stores (Tuple_ (thn (ha.run _ pins s σ H _ I h) fun us s1 ⟨vs, H1, I1, r1, q1⟩ => ?_)) hs hw⟩
  obtain ⟨u, v, w, rfl, q1⟩ := q1
  obtain ⟨u1, u2, u3, rfl⟩ : ∃ u1 u2 u3, us = [u1, u2, u3] := by
    cases r1 with
    | cons _ q =>
      cases q with
      | cons _ q =>
        cases q with
        | cons _ q => cases q; exact ⟨_, _, _, rfl⟩
  have J : Inv X pins σ H1 { s1 with heap := s1.heap.push { cls := .type "tuple", data := .seq [u1, u2, u3].toArray } } := I1.kept (t' := s1.toks) fun m o e => Heap.get?_push_of_some _ e
  have T : PGs X [.Name x px, .Name y py, .Name z pz] (gCons (gName i) (gCons (gName j) (gCons (gName k) gNil))) := pgs_cons (pg_name hN hi hx fx) (pgs_cons (pg_name hN hj hy fy) (pgs_cons (pg_name hN hk hz fz) pgs_nil W.g3) W.g2) W.g1
  refine wpAny_newObj_type ?_ (show 3 ≤ sizeLine by decide)
  rw [W.w1]
  refine assign_Tuple_tuple (items := #[u1, u2, u3]) (I.ok.hd hc) (IsTup.new s1.heap _) (by rw [W.w2]; rfl) W.w3 fun h' keep => ?_
  have J2 := J.kept (h' := h') (t' := s1.toks) fun m o e => keep m o (Nat.ne_of_lt (Heap.lt_size e)) e
  refine thn (T.run pins _ σ H1 [u, v, w] _ (fun σ' H' => σ' = ((σ.set i (some u)).set j (some v)).set k (some w) ∧ H' = H1) J2 r1 ⟨u, [v, w], rfl, v, [w], rfl, w, [], rfl, rfl, rfl, rfl⟩) fun _ s2 z => ?_
  obtain ⟨_, _, J3, rfl, rfl⟩ := z
  exact ⟨_, _, J3, q1⟩
end
def sPar3 (i j k : Nat) (fa : D1) (fb fc : A1) : S1 := fun ρ => match fa ρ with
  | some (x, ρ1) => match fb ρ1 with
    | some (ds, ρ2) => match fc ρ2 with
      | some (es, ρ3) => some (.nx, ((ρ3.set i (some (.pl x))).set j (some (.ow ds))).set k (some (.ow es)))
      | none => none
    | none => none
  | none => none
section
variable {K : PySem.W.Frag}
theorem sem_par3 (i j k : Nat) (hjk : j ≠ k) {ta tb tc : TE} {fa : D1} {fb fc : A1} (h : SemE K ta fa) (hb : SemF K tb fb) (hc : SemF K tc fc) : SemS K (tPar3 i j k (tCons ta (tCons tb (tCons tc tNil)))) (sPar3 i j k fa fb fc) := by
  intro G L ρ σ H D fl ρ' R e q
  unfold sPar3 at e
  split at e
  · rename_i x ρ1 e1
    split at e
    · rename_i ds ρ2 e2
      split at e
      · rename_i es ρ3 e3
        cases e
        refine h G L ρ σ H _ _ ρ1 R e1 fun v H1 L1 s1 R1 w1 r1 => ?_
        refine hb G L1 ρ1 σ H1 _ _ ρ2 R1 e2 fun p vs H2 L2' s2 hp h2 R2 w2 r2 => ?_
        have fp := R1.fresh hp
        have np2 : some p ∉ L2' := fun m => fp.2.1 (s2.mem m)
        refine hc (G.hide p) L2' ρ2 σ H2 _ _ ρ3 R2 e3 fun o us H3 L3 s3 ho h3 R3 w3 r3 => ?_
        have fo := R2.fresh ho
        have no3 : some o ∉ L3 := fun m => fo.2.1 (s3.mem m)
        have np3 : some p ∉ L3 := fun m => np2 (s3.mem m)
        have hp3 : H3 p = some (.lst vs) := w3.1 p _ np2 h2
        have hop : o ≠ p := fun e => by rw [e, h2] at ho; cases ho
        have si := LS.set L3 i
        have mo : ∀ {N : Addr → Prop} {Ha Hb : Hp} {La Lb : List (Option Addr)}, Le (hd N La Ha) (hd N La Ha) := fun b o h => h
        -- what the first one is, with both lists hidden
        have m1 : Le (hd G.N L1 H1) (hd ((G.hide p).hide o).N (L3.set i none) H3) := fun b u z => by
          obtain ⟨z1, z2, z3⟩ := hd_some.mp z
          have z4 : H2 b = some u := w2.1 b u z2 z3
          have z5 : H3 b = some u := w3.1 b u (fun m => z2 (s2.mem m)) z4
          refine hd_some.mpr ⟨fun y => ?_, fun y => z2 (s2.mem (s3.mem (si.mem y))), z5⟩
          rcases y with (y | y) | y
          · exact z1 y
          · rw [y, hp] at z3; cases z3
          · rw [y, ho] at z4; cases z4
        have A := R3.setPl i (r1.mono m1)
        have r3' : RpA K (hd ((G.hide p).hide o).N (L3.set i none) H3) us es := r3.mono ((Ew.refl L3 H3).hd si)
        have B := A.setOw k h3 (fun m => no3 (si.mem m)) (show (G.hide p).H0 o = none from fo.2.2) fo.1 r3' (fun b hb => .inl (R.bd b hb))
        have r2' : RpA K (hd (G.hide p).N ((L3.set i none).set k (some o)) H3) vs ds := r2.mono fun b u z => by
          obtain ⟨z1, z2, z3⟩ := hd_some.mp z
          refine hd_some.mpr ⟨z1, fun y => ?_, w3.1 b u z2 z3⟩
          rcases mem_set_some y with y | y
          · exact z2 (s3.mem (si.mem y))
          · rw [y, ho] at z3; cases z3
        have np4 : some p ∉ (L3.set i none).set k (some o) := fun m => by
          rcases mem_set_some m with m | m
          · exact np3 (si.mem m)
          · exact hop m.symm
        have C := B.setOw j hp3 np4 fp.2.2 fp.1 r2' R.bd
        rw [List.set_comm (l := L3.set i none) _ _ (Ne.symm hjk), List.set_comm (l := List.set ρ3 i (some (.pl x))) _ _ (Ne.symm hjk), List.set_comm (l := List.set σ i (some v)) _ _ (Ne.symm hjk)] at C
        refine ⟨_, _, _, rfl, q _ _ H3 C ⟨(w1.trans w2 s1).trans w3 (s2.trans s1), fun b mm => ?_⟩⟩
        have back : ∀ {u : Addr}, H1 u = none → H u = none := fun {u} hu => by
          cases hH : H u with
          | none => rfl
          | some o' => obtain ⟨o2, e2⟩ := w1.2 u o' hH; rw [hu] at e2; cases e2
        have back2 : ∀ {u : Addr}, H2 u = none → H1 u = none := fun {u} hu => by
          cases hH : H1 u with
          | none => rfl
          | some o' => obtain ⟨o2, e2⟩ := w2.2 u o' hH; rw [hu] at e2; cases e2
        rcases mem_set_some mm with z | z
        · rcases mem_set_some z with z | z
          · exact .inl (s1.mem (s2.mem (s3.mem (si.mem z))))
          · rw [z]; exact .inr (back hp)
        · rw [z]; exact .inr (back (back2 ho))
      · cases e
    · cases e
  · cases e
theorem gin_p21 {i j k n m : Nat} {vs : List Nat} (hi : i ∈ vs) (hj : j ∈ vs) (hk : k ∈ vs) : GIn (gTup K n (gCons (gTup K m (gCons (gName i) (gCons (gName j) gNil))) (gCons (gName k) gNil))) vs := fun v σ H Q q => by
  obtain ⟨a, xs, e1, e2, e3, x, r, e4, a2, xs2, f1, f2, f3, y, r2, f4, z, r3, f5, f6, t, r4, e7, e8, q⟩ := q
  have e : wipe (((σ.set i (some y)).set j (some z)).set k (some t)) vs = wipe σ vs := by rw [wipe_set hk, wipe_set hj, wipe_set hi]
  exact ⟨a, xs, e1, e2, e3, x, r, e4, a2, xs2, f1, f2, f3, y, r2, f4, z, r3, f5, f6, t, r4, e7, e8, e, q e⟩
end
section
variable {K : PySem.W.Frag} {X : Cx} {pos : Pos} {a b c : Expr} {ta tb tc : TE} {fa : D1}
theorem s_par3C {x y z : Str} {px py pz pt : Pos} {kt : Nat} {k2 pt2} {fB fC : A1} (i j k : Nat) (hc : X.calm = true) (hN : X.N.Nodup) (ha : SE K X a ta fa) (hb : SF K X b tb fB) (hd : SF K X c tc fC) (hjk : j ≠ k := by decide) (hi : X.N[i]? = some x := by rfl) (hj : X.N[j]? = some y := by rfl) (hk : X.N[k]? = some z := by rfl)
    (hx : Loc X.env.scope x := by first | exact .inl rfl | exact .inr rfl) (hy : Loc X.env.scope y := by first | exact .inl rfl | exact .inr rfl) (hz : Loc X.env.scope z := by first | exact .inl rfl | exact .inr rfl) (fx : X.fn x = true ∨ X.env.scope.names.lookup x = some .local := by first | exact .inl rfl | exact .inr rfl) (fy : X.fn y = true ∨ X.env.scope.names.lookup y = some .local := by first | exact .inl rfl | exact .inr rfl) (fz : X.fn z = true ∨ X.env.scope.names.lookup z = some .local := by first | exact .inl rfl | exact .inr rfl)
    (hw : swappedStores [.Tuple [.Name x px, .Name y py, .Name z pz] kt pt] (.Tuple [a, b, c] k2 pt2) X.env = pure none := by rfl) (hs : swapsWithSole [.Tuple [.Name x px, .Name y py, .Name z pz] kt pt] (.Tuple [a, b, c] k2 pt2) pos.line X.env = pure false := by rfl)
    (W : Par3 X x y z px py pz pt kt := by exact ⟨rfl, rfl, rfl, rfl, rfl, rfl⟩)
    (h1 : starEach [a, b, c] X.env = (false, eval a X.env) :: starEach [b, c] X.env := by rfl) (h2 : starEach [b, c] X.env = (false, eval b X.env) :: starEach [c] X.env := by rfl) (h3 : starEach [c] X.env = (false, eval c X.env) :: starEach [] X.env := by rfl) :
    SS K X (.Assign [.Tuple [.Name x px, .Name y py, .Name z pz] kt pt] (.Tuple [a, b, c] k2 pt2) pos) (tPar3 i j k (tCons ta (tCons tb (tCons tc tNil)))) (sPar3 i j k fa fB fC) :=
  ⟨ps_par3C hc hN hi hj hk hx hy hz (pa_cons ha.pe (pa_cons hb.pe (pa_cons hd.pe pa_nil h3) h2) h1) fx fy fz hw hs W, sem_par3 i j k hjk ha.sem hb.sem hd.sem⟩
end
end Dv

/-! Dv: lists of one's own lent to an expression that only reads them. -/
namespace Dv
open PySem PySem.Spec PyProof.Rows L2
mutual
/-- no list in it -/
def noL : PyData → Bool
  | .none => true
  | .bool _ => true
  | .int _ => true
  | .str _ => true
  | .tuple xs => noLs xs
  | .list _ => false
  | .dict _ => false
def noLs : List PyData → Bool
  | [] => true
  | x :: xs => noL x && noLs xs
end
section
variable {K : PySem.W.Frag} {A B : Hp}
mutual
theorem Rp.carry (h : ∀ b o, A b = some o → (∀ vs, o ≠ .lst vs) → B b = some o) : ∀ {v : V} {d : PyData}, Rp K A v d → noL d = true → Rp K B v d
  | _, _, .non, _ => .non
  | _, _, .bl b, _ => .bl b
  | _, _, .int i, _ => .int i
  | _, _, .str x, _ => .str x
  | _, _, .lst _ _, e => by simp [noL] at e
  | _, _, .tup (ds := ds) q r, e => .tup (by
      rcases q with (q | ⟨o, q⟩) | q
      · exact .inl (.inl (h _ _ q fun vs z => by cases z))
      · exact .inl (.inr ⟨o, h _ _ q fun vs z => by cases z⟩)
      · exact .inr q) (r.carry h (by simpa [noL] using e))
  | _, _, .dic _, e => by simp [noL] at e
  | _, _, .scr _, e => by simp [noL] at e
theorem RpA.carry (h : ∀ b o, A b = some o → (∀ vs, o ≠ .lst vs) → B b = some o) : ∀ {vs : List V} {ds : List PyData}, RpA K A vs ds → noLs ds = true → RpA K B vs ds
  | _, _, .nil, _ => .nil
  | _, _, .cons (d := d) (ds := ds) r t, e => by
    have e' : noL d = true ∧ noLs ds = true := by simpa [noLs] using e
    exact .cons (r.carry h e'.1) (t.carry h e'.2)
end
end
def openV : Option PV → Option PV
  | some (.pl d) => some (.pl d)
  | some (.ow ds) => some (.pl (.list ds))
  | some (.rf ds) => some (.pl (.list ds))
  | none => none
def openR (ρ : REnv) : REnv := List.map openV ρ
theorem openV_pl (d : PyData) : openV (some (.pl d)) = some (.pl d) := rfl
theorem openV_ow (ds : List PyData) : openV (some (.ow ds)) = some (.pl (.list ds)) := rfl
theorem openV_rf (ds : List PyData) : openV (some (.rf ds)) = some (.pl (.list ds)) := rfl
theorem openV_none : openV none = none := rfl
theorem openV_junk (j : Option PyData) : openV (j.map PV.pl) = j.map PV.pl := by cases j <;> rfl
section
variable {K : PySem.W.Frag} {G : Ent} {L : List (Option Addr)} {ρ : REnv} {σ : L2.St} {H : Hp}
/-- a list that is lent -/
def Lent (ρ : REnv) (σ : L2.St) (H : Hp) (a : Addr) : Prop := ∃ vs, H a = some (.lst vs) ∧ ∃ (i : Nat) (ds : List PyData), σ[i]? = some (some (.ref a)) ∧ (ρ[i]? = some (some (.ow ds)) ∨ ρ[i]? = some (some (.rf ds)))
/-- all lists as data, what else was hidden stays so -/
def lendE (G : Ent) (L : List (Option Addr)) (ρ : REnv) (σ : L2.St) (H : Hp) : Ent := ⟨fun b => (G.N b ∨ some b ∈ L) ∧ ¬ Lent ρ σ H b, [], H⟩
def nones (L : List (Option Addr)) : List (Option Addr) := L.map fun _ => none
theorem not_nones {a : Addr} : some a ∉ nones L := fun h => by obtain ⟨_, _, e⟩ := List.mem_map.mp h; cases e
theorem nones_get {i : Nat} (h : i < L.length) : (nones L)[i]? = some none := by
  unfold nones
  rw [List.getElem?_map, List.getElem?_eq_getElem h]; rfl
theorem lend_le : Le (hd G.N L H) (hd (lendE G L ρ σ H).N (nones L) H) := fun b o h => by
  obtain ⟨h1, h2, h3⟩ := hd_some.mp h
  exact hd_some.mpr ⟨fun z => z.1.elim h1 h2, not_nones, h3⟩
theorem Rel.lend (R : Rel K G L ρ σ H) : Rel K (lendE G L ρ σ H) (nones L) (openR ρ) σ H where
  ln := by unfold openR; rw [List.length_map]; exact R.ln
  lL := by unfold nones; rw [List.length_map]; exact R.lL
  at_ := fun i x h => by
    unfold openR at h
    rw [List.getElem?_map] at h
    cases e : ρ[i]? with
    | none => rw [e] at h; cases h
    | some y =>
      rw [e] at h
      cases y with
      | none => cases h
      | some p =>
        obtain ⟨v, l, h1, h2, h3⟩ := R.at_ i p e
        have hi : i < L.length := (List.getElem?_eq_some_iff.mp h2).1
        refine ⟨v, none, h1, nones_get hi, ?_⟩
        cases p with
        | pl d => cases h; exact ⟨rfl, h3.2.mono lend_le⟩
        | ow ds =>
          cases h
          obtain ⟨a, vs, rfl, rfl, q3, q4, q5⟩ := h3
          exact ⟨rfl, .lst (hd_some.mpr ⟨fun z => z.2 ⟨vs, q4, i, ds, h1, .inl e⟩, not_nones, q4⟩) (q5.mono lend_le)⟩
        | rf ds =>
          cases h
          obtain ⟨a, vs, rfl, rfl, q3, q4, q5⟩ := h3
          exact ⟨rfl, .lst (hd_some.mpr ⟨fun z => z.2 ⟨vs, q4, i, ds, h1, .inr e⟩, not_nones, q4⟩) (q5.mono lend_le)⟩
  inj := fun i j a h _ => absurd (List.mem_of_getElem? h) not_nones
  lt := fun a h => absurd h not_nones
  fr := fun b o _ h => h
  nd := fun b h => h.1.elim (R.nd b) (R.lt b)
  bd := fun b h => nomatch h
  lo := fun a h => absurd h not_nones
/-- what was read of lent lists, once they are taken back -/
theorem lend_back (R : Rel K G L ρ σ H) {H' : Hp} {L' : List (Option Addr)} (s : LS L' (nones L)) (w : Ew (nones L) H H') {v : V} {d : PyData} (r : Rp K (hd (lendE G L ρ σ H).N L' H') v d) (e : noL d = true) : Le H H' ∧ Rp K (hd G.N L H') v d := by
  have le : Le H H' := fun b o h => w.1 b o not_nones h
  refine ⟨le, r.carry (fun b o h hn => ?_) e⟩
  obtain ⟨h1, h2, h3⟩ := hd_some.mp h
  have nl : ¬ Lent ρ σ H b := fun ⟨vs, q, _⟩ => by
    have := le b _ q
    rw [h3] at this
    cases this
    exact hn vs rfl
  exact hd_some.mpr ⟨fun z => h1 ⟨.inl z, nl⟩, fun z => h1 ⟨.inr z, nl⟩, h3⟩
/-- f over lent lists -/
def fBor (f : D1) : D1 := fun ρ => match f (openR ρ) with
  | some (d, _) => if noL d then some (d, ρ) else none
  | none => none
theorem sem_bor {te : TE} {f : D1} (h : SemE K te f) : SemE K te (fBor f) := by
  intro G L ρ σ H Q d ρ' R e q
  unfold fBor at e
  split at e
  · rename_i x ρ2 e1
    split at e
    · rename_i hn
      cases e
      refine h _ _ _ σ H _ _ ρ2 R.lend e1 fun v H' L' s R' w r => ?_
      obtain ⟨le, r'⟩ := lend_back R s w r hn
      exact q v H' L (.refl L) (R.mono le) (le.ew (L := L)) r'
    · cases e
  · cases e
end
theorem e_bor {K : PySem.W.Frag} {X : Cx} {e : Expr} {te : TE} {f : D1} (h : SE K X e te f) : SE K X e te (fBor f) := ⟨h.pe, sem_bor h.sem⟩
section
variable {K : PySem.W.Frag} {X : Cx} {pos : Pos} {te : TE} {fe : D1}
variable {elt tg iter tg1 iter1 : Expr} {ifs ifs1 : List Expr} {scope : Scope} {own : List (Str × Nat)} {wi wi1 : TI} {fi fi1 : A1} {g g1 : TG} {h h1 : T1} {tt tt1 : TT} {ft ft1 : B1}
/-- name = [..], the name's own list -/
theorem s_setLcO {y : Str} {py spos : Pos} (i : Nat) (hc : X.calm = true) (hN : X.N.Nodup) (hi : SI K X tg iter wi fi) (ok : blkC X.N X.env.scope scope own = true)
    (hg : ∀ (s : Shared) (H : Hp) (C : Addr) (cl : List (Str × Addr)) (fp : List Addr), SG K (X.blk s H scope (compEnvC scope cl C X.env) fp) tg g h) (hv : GIn g (own.map (·.2)))
    (ht : ∀ (s : Shared) (H : Hp) (C : Addr) (cl : List (Str × Addr)) (fp : List Addr), STs K (X.blk s H scope (compEnvC scope cl C X.env) fp) ifs tt ft)
    (he : ∀ (s : Shared) (H : Hp) (C : Addr) (cl : List (Str × Addr)) (fp : List Addr), SE K (X.blk s H scope (compEnvC scope cl C X.env) fp) elt te fe)
    (hsw : swapsWith (.ListComp elt [⟨tg, iter, ifs, 0⟩] scope pos) (some (.Name y py)) spos.line X.env = pure true)
    (hy : X.N[i]? = some y := by rfl) (hyl : X.env.scope.names.lookup y = some .local := by rfl) (hs : ∀ x, foldedSetIterable iter X.env x = pure x := by intro _; rfl) :
    SS K X (.Assign [.Name y py] (.ListComp elt [⟨tg, iter, ifs, 0⟩] scope pos) spos) (tAsg (tLc wi g tt te (own.map (·.2))) (gName i)) (sOwn (fLc fi h ft fe (own.map (·.2))) i) :=
  ⟨ps_setLc hc hN hy hyl hsw hi.pe (blkOk_by ok) (fun s H C cl fp => (hg s H C cl fp).pe) (fun s H C cl fp => (ht s H C cl fp).pe) (fun s H C cl fp => (he s H C cl fp).pe) hs,
    sem_own (sem_lc _ hi.sem (hg X.s_0 (fun _ => none) 0 [] []).sem hv (ht X.s_0 (fun _ => none) 0 [] []).sem (he X.s_0 (fun _ => none) 0 [] []).sem) i⟩
theorem s_setLc2O {y : Str} {py spos : Pos} {vs1 : List Nat} (i : Nat) (hc : X.calm = true) (hN : X.N.Nodup) (hi : SI K X tg iter wi fi) (ok : blkC X.N X.env.scope scope own = true) (hsub : ∀ i, i ∈ vs1 → i ∈ own.map (·.2))
    (hg : ∀ (s : Shared) (H : Hp) (C : Addr) (cl : List (Str × Addr)) (fp : List Addr), SG K (X.blk s H scope (compEnvC scope cl C X.env) fp) tg g h) (hv : GIn g (own.map (·.2)))
    (ht : ∀ (s : Shared) (H : Hp) (C : Addr) (cl : List (Str × Addr)) (fp : List Addr), STs K (X.blk s H scope (compEnvC scope cl C X.env) fp) ifs tt ft)
    (hi1 : ∀ (s : Shared) (H : Hp) (C : Addr) (cl : List (Str × Addr)) (fp : List Addr), SI K (X.blk s H scope (compEnvC scope cl C X.env) fp) tg1 iter1 wi1 fi1)
    (hg1 : ∀ (s : Shared) (H : Hp) (C : Addr) (cl : List (Str × Addr)) (fp : List Addr), SG K (X.blk s H scope (compEnvC scope cl C X.env) fp) tg1 g1 h1) (hv1 : GIn g1 vs1)
    (ht1 : ∀ (s : Shared) (H : Hp) (C : Addr) (cl : List (Str × Addr)) (fp : List Addr), STs K (X.blk s H scope (compEnvC scope cl C X.env) fp) ifs1 tt1 ft1)
    (he : ∀ (s : Shared) (H : Hp) (C : Addr) (cl : List (Str × Addr)) (fp : List Addr), SE K (X.blk s H scope (compEnvC scope cl C X.env) fp) elt te fe)
    (hsw : swapsWith (.ListComp elt [⟨tg, iter, ifs, 0⟩, ⟨tg1, iter1, ifs1, 0⟩] scope pos) (some (.Name y py)) spos.line X.env = pure true)
    (hy : X.N[i]? = some y := by rfl) (hyl : X.env.scope.names.lookup y = some .local := by rfl) (hs : ∀ x, foldedSetIterable iter X.env x = pure x := by intro _; rfl) (hs1 : ∀ env x, foldedSetIterable iter1 env x = pure x := by intro _ _; rfl) :
    SS K X (.Assign [.Name y py] (.ListComp elt [⟨tg, iter, ifs, 0⟩, ⟨tg1, iter1, ifs1, 0⟩] scope pos) spos) (tAsg (tLc2 wi g tt wi1 g1 tt1 te (own.map (·.2)) vs1) (gName i)) (sOwn (fLc2 fi h ft fi1 h1 ft1 fe (own.map (·.2)) vs1) i) :=
  ⟨ps_setLc2 hc hN hy hyl hsw hi.pe (blkOk_by ok) hsub (fun s H C cl fp => (hg s H C cl fp).pe) (fun s H C cl fp => (ht s H C cl fp).pe) (fun s H C cl fp => (hi1 s H C cl fp).pe) (fun s H C cl fp => (hg1 s H C cl fp).pe) (fun s H C cl fp => (ht1 s H C cl fp).pe) (fun s H C cl fp => (he s H C cl fp).pe) hs hs1,
    sem_own (sem_lc2 _ vs1 hsub hi.sem (hg X.s_0 (fun _ => none) 0 [] []).sem hv (ht X.s_0 (fun _ => none) 0 [] []).sem (hi1 X.s_0 (fun _ => none) 0 [] []).sem (hg1 X.s_0 (fun _ => none) 0 [] []).sem hv1 (ht1 X.s_0 (fun _ => none) 0 [] []).sem (he X.s_0 (fun _ => none) 0 [] []).sem) i⟩
end
end Dv

/-! Dv: sums of tuples. -/
namespace Dv
open PySem PySem.Spec PyProof.Rows L2
def rSumA (K : PySem.W.Frag) : List V → Hp → VK → Prop := fun vs H Q => rSum K vs H Q ∨ ∃ (a : Addr) (ns : List Int), vs = [V.ref a] ∧ SqT K H a (ns.map V.int) ∧ Q (.int ns.sum) H
theorem cr_sumA {X : Cx} (hc : X.calm = true) : CallR X (.builtin "sum") (rSumA X.K) := by
  intro pins s σ H vs us Q I r h
  rcases h with h | h
  · exact cr_sum hc pins s σ H vs us Q I r h
  · obtain ⟨a, ns, rfl, hs, q⟩ := h
    obtain ⟨its, rv, ht, _⟩ := I.tuple hs
    rw [Vals.ref1 r]
    have hi : IntsAre its ns := rv.ints
    obtain ⟨xs, e⟩ := hi.allInts.items
    have hn : numsOf (intItems xs).toList = ns := by rw [← e]; exact hi.numsOf
    rw [nums_intItems] at hn
    rw [e] at ht
    refine PySem.W.ktm_sumG (I.ok.hd hc) ht fun h' tk t' hk => ?_
    rw [preSum_eq, List.take_of_length_le (by simp), hn]
    exact ⟨.int _, H, I.kept hk, ⟨_, rfl⟩, q⟩
def gSumA : GN := fun xs => match xs with
  | [.list ds] => match intsOf ds with
    | some ns => some (.int ns.sum)
    | none => none
  | [.tuple ds] => match intsOf ds with
    | some ns => some (.int ns.sum)
    | none => none
  | _ => none
theorem s_sumA {K : PySem.W.Frag} : CallS K (rSumA K) gSumA := by
  intro N L H vs ds dz Q A h e q
  unfold gSumA at e
  split at e
  · split at e
    · rename_i bs e1
      cases e
      cases h with
      | cons h t =>
        cases t
        cases h with
        | lst h1 r1 =>
          have z := intsOf_some e1
          subst z
          have v := r1.ints
          subst v
          exact .inl ⟨_, bs, rfl, .of h1, q _ H (.refl H) (.int _)⟩
    · cases e
  · split at e
    · rename_i bs e1
      cases e
      cases h with
      | cons h t =>
        cases t
        cases h with
        | tup h1 _ r1 =>
          have z := intsOf_some e1
          subst z
          have v := r1.ints
          subst v
          exact .inr ⟨_, bs, rfl, h1, q _ H (.refl H) (.int _)⟩
    · cases e
  · cases e
end Dv

/-! Dv: a = b = e. -/
namespace Dv
open PySem PySem.Spec PyProof.Rows L2
def sAsg2T (fe : D1) (i j : Nat) : S1 := fun ρ => match fe ρ with
  | none => none
  | some (d, ρ1) => some (.nx, (ρ1.set i (some (.pl d))).set j (some (.pl d)))
section
variable {K : PySem.W.Frag} {X : Cx} {pos : Pos} {e : Expr} {te : TE} {fe : D1}
theorem sem_asg2T (i j : Nat) (he : SemE K te fe) : SemS K (tAsg2 te (gName i) (gName j)) (sAsg2T fe i j) := by
  intro G L ρ σ H D fl ρ' R e q
  unfold sAsg2T at e
  split at e
  · cases e
  rename_i d ρ1 e1
  cases e
  refine he G L ρ σ H _ _ ρ1 R e1 fun v H1 L1 s1 R1 w1 r1 => ?_
  have A := R1.setPl i (r1.mono ((Ew.refl L1 H1).hd (LS.set L1 i)))
  have s2 := LS.set (L1.set i none) j
  have B := A.setPl j (r1.mono (((Ew.refl L1 H1).hd (LS.set L1 i)).trans ((Ew.refl _ H1).hd s2)))
  exact q _ _ H1 B (.of w1 ((s2.trans (LS.set L1 i)).trans s1))
theorem s_asg2T {x y : Str} {px py : Pos} (i j : Nat) (hN : X.N.Nodup) (he : SE K X e te fe) (hi : X.N[i]? = some x := by rfl) (hj : X.N[j]? = some y := by rfl) (hx : Loc X.env.scope x := by first | exact .inl rfl | exact .inr rfl) (hy : Loc X.env.scope y := by first | exact .inl rfl | exact .inr rfl)
    (fx : X.fn x = true ∨ X.env.scope.names.lookup x = some .local := by first | exact .inl rfl | exact .inr rfl) (fy : X.fn y = true ∨ X.env.scope.names.lookup y = some .local := by first | exact .inl rfl | exact .inr rfl)
    (ha : (assignEach [.Name x px, .Name y py] X.env).map (·.2) = [assign (.Name x px) X.env, assign (.Name y py) X.env] := by rfl) (hw : swappedStores [.Name x px, .Name y py] e X.env = pure none := by rfl) :
    SS K X (.Assign [.Name x px, .Name y py] e pos) (tAsg2 te (gName i) (gName j)) (sAsg2T fe i j) := ⟨ps_asg2 he.pe (pg_name hN hi hx fx) (pg_name hN hj hy fy) ha hw, sem_asg2T i j he.sem⟩
/-- an own list becomes a value ahead of a statement -/
def sFrz (i : Nat) (f : S1) : S1 := fun ρ => match ρ[i]? with
  | some (some (.ow ds)) => f (ρ.set i (some (.pl (.list ds))))
  | _ => none
theorem sem_frz {t : TS} {f : S1} (i : Nat) (h : SemS K t f) : SemS K t (sFrz i f) := by
  intro G L ρ σ H D fl ρ' R e q
  unfold sFrz at e
  split at e
  · rename_i ds hd
    obtain ⟨a, h1, R2, r⟩ := R.moveOw hd
    exact h G _ _ σ H D fl ρ' R2 e (q.le (Gr.of (.refl L H) (LS.set L i)))
  · cases e
theorem s_frz {st : Stmt} {t : TS} {f : S1} (i : Nat) (h : SS K X st t f) : SS K X st t (sFrz i f) := ⟨h.pe, sem_frz i h.sem⟩
end
end Dv

/-! Dv: xs[i] op= e, xs one's own list. -/
namespace Dv
open PySem PySem.Spec PyProof.Rows L2
section
variable {K : PySem.W.Frag} {X : Cx} {pos : Pos}
theorem get_list : PGet X (rIxL X.K) := by
  intro pins s σ H o i ov iv Q I ro ri h
  obtain ⟨p, xs, k, z, rfl, rfl, hq, he, q⟩ := h
  cases ro
  obtain ⟨t, rfl⟩ := ri
  obtain ⟨its, r, pl, hz⟩ := I.list hq
  obtain ⟨j, h1, h2, h3, h4, h5⟩ := atI_get he
  obtain ⟨w, ew, rw'⟩ := r.get h2
  have hl := r.length
  have hn := line63
  have fin : EP X pins σ Q w s := ⟨z, H, I, rw', q⟩
  by_cases h0 : 0 ≤ k
  · have hj : k.toNat = j := by
      rw [seqIndex_of h0 h5] at h1
      exact Option.some.inj h1
    exact wpAny_getItem_list pl.isList h0 (by omega) (by rw [hj]; simpa using ew) fin
  · have hj : (k + (its.toArray.size : Int)).toNat = j := by
      rw [seqIndex_neg (by omega) h4] at h1
      rw [List.size_toArray, ← hl]
      exact Option.some.inj h1
    exact wpAny_getItem_list_neg pl.isList (by omega) (by rw [List.size_toArray] <;> omega) (by omega) (by rw [hj]; simpa using ew) fin
/-- xs[i] op= e: the old item, e, the new item -/
def sAugS (g : G2) (i : Nat) (fi fe : D1) : S1 := fun ρ => match ownAt ρ i with
  | none => none
  | some _ => match fi ρ with
    | some (.int k, ρ1) => match ρ1[i]? with
      | some (some x) => match x.lst? with
        | some ds => match L2.atI ds k with
          | some d => match fe ρ1 with
            | some (y, ρ2) => match ρ2[i]? with
              | some (some x2) => match x2.lst? with
                | some es => match ixN es.length k with
                  | some j => match g d y with
                    | some z => some (.nx, ρ2.set i (some (x2.put (es.set j z))))
                    | none => none
                  | none => none
                | none => none
              | _ => none
            | none => none
          | none => none
        | none => none
      | _ => none
    | _ => none
theorem sem_augS {r : R2} {g : G2} {ti te : TE} {fi fe : D1} (i : Nat) (s : OpS K r g) (hi : SemE K ti fi) (he : SemE K te fe) : SemS K (tAugS (tVar i) ti te (rIxL K) r rSetL) (sAugS g i fi fe) := by
  intro G L ρ σ H D fl ρ' R e q
  unfold sAugS at e
  split at e
  · cases e
  rename_i ds0 e0
  split at e
  · rename_i k ρ1 e1
    split at e
    · rename_i x e2
      split at e
      · rename_i ds e3
        split at e
        · rename_i d e4
          split at e
          · rename_i y ρ2 e5
            split at e
            · rename_i x2 e6
              split at e
              · rename_i es e7
                split at e
                · rename_i j e8
                  split at e
                  · rename_i z e9
                    cases e
                    obtain ⟨vo, hv, _⟩ := R.tpOwn e0
                    refine ⟨vo, hv, hi G L ρ σ H _ _ ρ1 R e1 fun vi H1 L1 s1 R1 w1 r1 => ?_⟩
                    obtain ⟨a, vs, g1, g2, g3, g4⟩ := R1.own e2 e3
                    cases slot_same hv g1
                    obtain ⟨v, hv1, rv⟩ := g4.atI e4
                    refine ⟨a, vs, k, v, rfl, r1.int_of, .of g3, hv1, ?_⟩
                    refine he G L1 ρ1 σ H1 _ _ ρ2 R1 e5 fun vy H2 L2' s2 R2 w2 r2 => ?_
                    have rv2 := rv.mono (w2.hd s2)
                    refine s G.N L2' H2 v vy d y z _ R2.alloc (rv2.tp hd_le) (r2.tp hd_le) e9 fun vz H3 le rz => ?_
                    have R3 := R2.mono le
                    obtain ⟨a', vs', p1, p2, p3, p4⟩ := R3.own e6 e7
                    cases slot_same g1 p1
                    have ma : some a ∈ L2' := List.mem_of_getElem? p2
                    refine ⟨a, vs', k, j, rfl, r1.int_of, p3, by rw [p4.len]; exact e8, ?_⟩
                    have W : Ew L2' H2 (upd H3 a (.lst (vs'.set j vz))) := (le.ew (L := L2')).trans (Ew.write ma) (.refl L2')
                    exact q L2' σ _ (R3.write e6 e7 p2 (p4.set j rz)) (.of ((w1.trans w2 s1).trans W (s2.trans s1)) (s2.trans s1))
                  · cases e
                · cases e
              · cases e
            · cases e
          · cases e
        · cases e
      · cases e
    · cases e
  · cases e
theorem s_augS {o i' e : Expr} {op : Operator} {r : R2} {g : G2} {ti te : TE} {fi fe : D1} {tpos : Pos} (i : Nat) (s : OpS K r g) (ho : OpR X (inplaceOp op) r) (hv : PE X o (tVar i)) (hi : SE K X i' ti fi) (he : SE K X e te fe) (hK : X.K = K := by rfl)
    (ha : ∀ ov iv new, augStore i' ov iv new = (do holding [new, ov, iv] (setItem ov iv new); release [new, ov, iv] []; pure .next) := by intros; rfl) :
    SS K X (.AugAssign (.Subscript o i' tpos) op e pos) (tAugS (tVar i) ti te (rIxL K) r rSetL) (sAugS g i fi fe) := by
  subst hK
  exact ⟨ps_augS hv hi.pe get_list he.pe (fun pins s σ H a b v u Q I r1 r2 h => ho pins s σ H a b v u Q I r1 r2 h) set_list ha, sem_augS i s hi.sem he.sem⟩
end
end Dv

/-! Dv: math.comb. -/
namespace Dv
open PySem PySem.Spec PyProof.Rows L2
def gComb : GN := fun xs => match xs with
  | [.int a, .int b] => if decide (0 ≤ a ∧ 0 ≤ b ∧ a ≤ 9000) then some (.int (PySem.W.mcComb a b)) else none
  | _ => none
def rComb : List V → Hp → VK → Prop := fun vs H Q => ∃ a b : Int, vs = [.int a, .int b] ∧ (0 ≤ a ∧ 0 ≤ b ∧ a ≤ 9000) ∧ Q (.int (PySem.W.mcComb a b)) H
theorem cr_comb {X : Cx} : CallR X (.builtin "math.comb") rComb := by
  intro pins s σ H vs us Q I r h
  obtain ⟨a, b, rfl, h, q⟩ := h
  obtain ⟨t, u, rfl⟩ := Vals.int2 r
  have g := PySem.W.mc_gives_comb t u h.1 h.2.1 (by omega) (.inr (by omega : a ≤ 18000))
  exact call_function_meets PySem.W.MGF.kind_comb PySem.W.MGF.plain_comb PySem.W.MGF.entry_comb (PySem.W.MGF.args_comb _ _) g.meets ⟨.int _, H, I.tok _, ⟨_, rfl⟩, q⟩
theorem s_comb {K : PySem.W.Frag} : CallS K rComb gComb := by
  intro N L H vs ds dz Q A h e q
  unfold gComb at e
  split at e
  · split at e
    · rename_i hc
      cases e
      cases h with
      | cons h t =>
        cases t with
        | cons h2 t2 =>
          cases t2
          rw [h.int_of, h2.int_of]
          exact ⟨_, _, rfl, of_decide_eq_true hc, q _ H (.refl H) (.int _)⟩
    · cases e
  · cases e
end Dv

/-! Dw: direct code of a def's function. -/
namespace Dv
open PySem
/-- f at ρ is what o says, and leaves ρ' -/
def Ev {α : Type} (f : REnv → Option (α × REnv)) (ρ ρ' : REnv) (o : Option α) : Prop := ∀ d, o = some d → f ρ = some (d, ρ')
/-- the same with a list that changes on the way -/
def EvS {α S : Type} (f : REnv → Option (α × REnv)) (ρ : REnv) (m : Option (α × S)) (E : S → REnv) : Prop := ∀ d s, m = some (d, s) → f ρ = some (d, E s)
/-- at most the line; no road for the kernel -/
noncomputable def fits : Nat → Bool := Classical.choose (⟨fun n => decide (n ≤ sizeLine), fun _ => rfl⟩ : ∃ f : Nat → Bool, ∀ n, f n = decide (n ≤ sizeLine))
theorem fits_eq (n : Nat) : fits n = decide (n ≤ sizeLine) := Classical.choose_spec (⟨fun n => decide (n ≤ sizeLine), fun _ => rfl⟩ : ∃ f : Nat → Bool, ∀ n, f n = decide (n ≤ sizeLine)) n
theorem fits_le {n : Nat} (h : fits n = true) : n ≤ sizeLine := by rw [fits_eq] at h; exact of_decide_eq_true h
theorem le_fits {n : Nat} (h : n ≤ sizeLine) : fits n = true := by rw [fits_eq]; exact decide_eq_true h
def tB (o : Option PyData) : Option Bool := o.bind fun d => match d with
  | .bool b => some b
  | _ => none
def tBd (d : PyData) : Option Bool := match d with
  | .bool b => some b
  | _ => none
def andO (a b : Option PyData) : Option PyData := a.bind fun d => match d with
  | .bool true => b
  | .bool false => some (.bool false)
  | _ => none
def orO (a b : Option PyData) : Option PyData := a.bind fun d => match d with
  | .bool true => some (.bool true)
  | .bool false => b
  | _ => none
def notO (a : Option PyData) : Option PyData := a.bind fun d => match d with
  | .bool b => some (.bool (!b))
  | _ => none
def andT (a b : Option Bool) : Option Bool := a.bind fun x => if x then b else some false
def orT (a b : Option Bool) : Option Bool := a.bind fun x => if x then some true else b
def isi (T : String) (d : PyData) : Option PyData := match tyName d with
  | none => none
  | some n => match L2.kitB n T with
    | some b => some (.bool b)
    | none => none
noncomputable def tupO (xs : List PyData) : Option PyData := if fits xs.length then some (.tuple xs) else none
noncomputable def lstO (xs : List PyData) : Option (List PyData) := if fits xs.length then some xs else none
def rngO (j : PyData) : Option (List PyData) := match j with
  | .int j => if okR j then some (rangeD 0 j.toNat) else none
  | _ => none
def rng2O (i j : PyData) : Option (List PyData) := match i, j with
  | .int i, .int j => if okR i && okR j then some (rangeD i (j - i).toNat) else none
  | _, _ => none
def partO (d : PyData) : Option (Option Int) := match d with
  | .int i => some (some i)
  | _ => none
def un2 (d : PyData) : Option (PyData × PyData) := match d with
  | .tuple [a, b] => some (a, b)
  | _ => none
def un3 (d : PyData) : Option (PyData × PyData × PyData) := match d with
  | .tuple [a, b, c] => some (a, b, c)
  | _ => none
def un2s : List PyData → Option (List (PyData × PyData))
  | [] => some []
  | d :: ds => (un2 d).bind fun p => (un2s ds).bind fun ps => some (p :: ps)
def un3s : List PyData → Option (List (PyData × PyData × PyData))
  | [] => some []
  | d :: ds => (un3 d).bind fun p => (un3s ds).bind fun ps => some (p :: ps)
abbrev tup2 (p : PyData × PyData) : PyData := .tuple [p.1, p.2]
abbrev tup3 (p : PyData × PyData × PyData) : PyData := .tuple [p.1, p.2.1, p.2.2]
theorem un2_some {d : PyData} {p : PyData × PyData} (h : un2 d = some p) : d = tup2 p := by
  unfold un2 at h; split at h <;> cases h; rfl
theorem un3_some {d : PyData} {p : PyData × PyData × PyData} (h : un3 d = some p) : d = tup3 p := by
  unfold un3 at h; split at h <;> cases h; rfl
theorem un2s_some : ∀ {ds : List PyData} {ps : List (PyData × PyData)}, un2s ds = some ps → ds = ps.map tup2
  | [], ps, h => by cases h; rfl
  | d :: ds, ps, h => by
    simp only [un2s, Option.bind_eq_some_iff] at h
    obtain ⟨p, h1, qs, h2, h3⟩ := h
    cases h3
    rw [List.map_cons, ← un2s_some h2, ← un2_some h1]
theorem un3s_some : ∀ {ds : List PyData} {ps : List (PyData × PyData × PyData)}, un3s ds = some ps → ds = ps.map tup3
  | [], ps, h => by cases h; rfl
  | d :: ds, ps, h => by
    simp only [un3s, Option.bind_eq_some_iff] at h
    obtain ⟨p, h1, qs, h2, h3⟩ := h
    cases h3
    rw [List.map_cons, ← un3s_some h2, ← un3_some h1]
theorem un2s_map {α : Type} (f g : α → PyData) : ∀ l : List α, un2s (l.map fun a => .tuple [f a, g a]) = some (l.map fun a => (f a, g a))
  | [] => rfl
  | a :: l => by simp [un2s, un2, un2s_map f g l]
/-! comprehensions -/
def lcf {α β : Type} (t : α → Option Bool) (e : α → Option β) : List α → Option (List β)
  | [] => some []
  | a :: l => (t a).bind fun b => if b then (e a).bind fun y => (lcf t e l).bind fun ys => some (y :: ys) else lcf t e l
def lcm' {α β : Type} (e : α → Option β) : List α → Option (List β)
  | [] => some []
  | a :: l => (e a).bind fun y => (lcm' e l).bind fun ys => some (y :: ys)
/-- [e for a in xs if t] -/
noncomputable def lcO {α β : Type} (t : α → Option Bool) (e : α → Option β) (xs : List α) : Option (List β) := if fits xs.length then lcf t e xs else none
noncomputable def lmO {α β : Type} (e : α → Option β) (xs : List α) : Option (List β) := if fits xs.length then lcm' e xs else none
def lc2f {α β γ : Type} (t : α → Option Bool) (i : α → Option (List β)) (t1 : α → β → Option Bool) (e : α → β → Option γ) : List α → Option (List γ)
  | [] => some []
  | a :: l => (t a).bind fun b => if b then (i a).bind fun ds => (lcf (t1 a) (e a) ds).bind fun ys => (lc2f t i t1 e l).bind fun zs => some (ys ++ zs) else lc2f t i t1 e l
noncomputable def lc2O {α β γ : Type} (t : α → Option Bool) (i : α → Option (List β)) (t1 : α → β → Option Bool) (e : α → β → Option γ) (xs : List α) : Option (List γ) := (lc2f t i t1 e xs).bind fun zs => if fits zs.length then some zs else none
/-- with a list that changes -/
def lcfS {α β S : Type} (t : α → S → Option (Bool × S)) (e : α → S → Option (β × S)) : List α → S → Option (List β × S)
  | [], s => some ([], s)
  | a :: l, s => (t a s).bind fun p => if p.1 then (e a p.2).bind fun q => (lcfS t e l q.2).bind fun r => some (q.1 :: r.1, r.2) else lcfS t e l p.2
noncomputable def lcOS {α β S : Type} (t : α → S → Option (Bool × S)) (e : α → S → Option (β × S)) (xs : List α) (s : S) : Option (List β × S) := if fits xs.length then lcfS t e xs s else none
section
variable {ρ ρ1 ρ2 ρ3 : REnv} {fa fb fc fe : D1} {ft fu : B1} {a b c : Option PyData} {ta tb : Option Bool} {la : A1} {l : Option (List PyData)}
theorem ev_var (i : Nat) {d : PyData} (h : ρ[i]? = some (some (.pl d)) := by rfl) : Ev (fVar i) ρ ρ (some d) := fun x e => by cases e; simp only [fVar, h]
/-- moved -/
theorem ev_mv (i : Nat) {ds : List PyData} (h : ρ[i]? = some (some (.ow ds)) := by rfl) : Ev (fVar i) ρ (ρ.set i (some (.pl (.list ds)))) (some (.list ds)) := fun x e => by cases e; simp only [fVar, h]
theorem ev_c (d : PyData) : Ev (fC d) ρ ρ (some d) := fun x e => by cases e; rfl
theorem ev_1 {g : PyData → Option PyData} (ha : Ev fa ρ ρ1 a) : Ev (f1 g fa) ρ ρ1 (a.bind fun x => g x) := fun z h => by
  obtain ⟨x, h1, h2⟩ := Option.bind_eq_some_iff.mp h
  simp only [f1, ha x h1, h2]
theorem ev_2 {g : G2} (ha : Ev fa ρ ρ1 a) (hb : Ev fb ρ1 ρ2 b) : Ev (f2 g fa fb) ρ ρ2 (a.bind fun x => b.bind fun y => g x y) := fun z h => by
  obtain ⟨x, h1, h2⟩ := Option.bind_eq_some_iff.mp h
  obtain ⟨y, h3, h4⟩ := Option.bind_eq_some_iff.mp h2
  simp only [f2, ha x h1, hb y h3, h4]
theorem ev_2F {g : PyData → PyData → Option (List PyData)} (ha : Ev fa ρ ρ1 a) (hb : Ev fb ρ1 ρ2 b) : Ev (f2F g fa fb) ρ ρ2 (a.bind fun x => b.bind fun y => g x y) := fun z h => by
  obtain ⟨x, h1, h2⟩ := Option.bind_eq_some_iff.mp h
  obtain ⟨y, h3, h4⟩ := Option.bind_eq_some_iff.mp h2
  simp only [f2F, ha x h1, hb y h3, h4]
theorem ev_OL {g : G2} (i : Nat) {ds : List PyData} (hb : Ev fb ρ ρ b) (h0 : ownAt ρ i = some ds := by rfl) : Ev (fOL g i fb) ρ ρ (b.bind fun y => g (.list ds) y) := fun z h => by
  obtain ⟨y, h3, h4⟩ := Option.bind_eq_some_iff.mp h
  simp only [fOL, h0, hb y h3, h4]
theorem ev_OR {g : G2} (i : Nat) {ds : List PyData} (hb : Ev fb ρ ρ b) (h0 : ownAt ρ i = some ds := by rfl) : Ev (fOR g fb i) ρ ρ (b.bind fun y => g y (.list ds)) := fun z h => by
  obtain ⟨y, h3, h4⟩ := Option.bind_eq_some_iff.mp h
  simp only [fOR, h0, hb y h3, h4]
theorem ev_OU {g : PyData → Option PyData} (i : Nat) {ds : List PyData} (h0 : ownAt ρ i = some ds := by rfl) : Ev (fOU g i) ρ ρ (g (.list ds)) := fun z h => by
  simp only [fOU, h0, h]
theorem ev_nil : Ev fNil ρ ρ (some []) := fun x e => by cases e; rfl
theorem ev_cons (ha : Ev fa ρ ρ1 a) (hl : Ev la ρ1 ρ2 l) : Ev (fCons fa la) ρ ρ2 (a.bind fun x => l.bind fun xs => some (x :: xs)) := fun z h => by
  obtain ⟨x, h1, h2⟩ := Option.bind_eq_some_iff.mp h
  obtain ⟨y, h3, h4⟩ := Option.bind_eq_some_iff.mp h2
  cases h4
  simp only [fCons, ha x h1, hl y h3]
theorem ev_tup (hl : Ev la ρ ρ1 l) : Ev (fTup la) ρ ρ1 (l.bind fun xs => tupO xs) := fun z h => by
  obtain ⟨y, h3, h4⟩ := Option.bind_eq_some_iff.mp h
  unfold tupO at h4
  split at h4 <;> cases h4
  rename_i hz
  simp only [fTup, hl y h3, fits_le hz, if_true]
theorem ev_lst (hl : Ev la ρ ρ1 l) : Ev (fLst la) ρ ρ1 (l.bind fun xs => lstO xs) := fun z h => by
  obtain ⟨y, h3, h4⟩ := Option.bind_eq_some_iff.mp h
  unfold lstO at h4
  split at h4 <;> cases h4
  rename_i hz
  simp only [fLst, hl z h3, fits_le hz, if_true]
theorem ev_f (hl : Ev la ρ ρ1 l) : Ev (fF la) ρ ρ1 (l.bind fun xs => some (.list xs)) := fun z h => by
  obtain ⟨y, h3, h4⟩ := Option.bind_eq_some_iff.mp h
  cases h4
  simp only [fF, hl y h3]
theorem ev_T (ha : Ev fa ρ ρ1 a) : Ev (fT fa) ρ ρ1 (a.bind fun d => tBd d) := fun z h => by
  obtain ⟨y, h3, h4⟩ := Option.bind_eq_some_iff.mp h
  unfold tBd at h4
  split at h4 <;> cases h4
  simp only [fT, ha _ h3]
theorem ev_andT (ha : Ev ft ρ ρ ta) (hb : Ev fu ρ ρ tb) : Ev (fAndT ft fu) ρ ρ (ta.bind fun x => if x then tb else some false) := fun z h => by
  obtain ⟨y, h3, h4⟩ := Option.bind_eq_some_iff.mp h
  cases y with
  | true => simp only [if_true] at h4; simp only [fAndT, ha _ h3, hb _ h4]
  | false => simp at h4; subst h4; simp only [fAndT, ha _ h3]
theorem ev_orT (ha : Ev ft ρ ρ ta) (hb : Ev fu ρ ρ tb) : Ev (fOrT ft fu) ρ ρ (ta.bind fun x => if x then some true else tb) := fun z h => by
  obtain ⟨y, h3, h4⟩ := Option.bind_eq_some_iff.mp h
  cases y with
  | true => simp at h4; subst h4; simp only [fOrT, ha _ h3]
  | false => simp only [Bool.false_eq_true, if_false] at h4; simp only [fOrT, ha _ h3, hb _ h4]
theorem ev_notT (ha : Ev ft ρ ρ1 ta) : Ev (fNotT ft) ρ ρ1 (ta.bind fun x => some (!x)) := fun z h => by
  obtain ⟨y, h3, h4⟩ := Option.bind_eq_some_iff.mp h
  cases h4
  simp only [fNotT, ha _ h3]
theorem ev_andV (ha : Ev fa ρ ρ a) (hb : Ev fb ρ ρ b) : Ev (fAndV fa fb) ρ ρ (andO a b) := fun z h => by
  obtain ⟨y, h3, h4⟩ := Option.bind_eq_some_iff.mp h
  split at h4
  · simp only [fAndV, ha _ h3, hb _ h4]
  · cases h4; simp only [fAndV, ha _ h3]
  · cases h4
theorem ev_orV (ha : Ev fa ρ ρ a) (hb : Ev fb ρ ρ b) : Ev (fOrV fa fb) ρ ρ (orO a b) := fun z h => by
  obtain ⟨y, h3, h4⟩ := Option.bind_eq_some_iff.mp h
  split at h4
  · cases h4; simp only [fOrV, ha _ h3]
  · simp only [fOrV, ha _ h3, hb _ h4]
  · cases h4
theorem ev_notV (ha : Ev fa ρ ρ1 a) : Ev (fNotV fa) ρ ρ1 (notO a) := fun z h => by
  obtain ⟨y, h3, h4⟩ := Option.bind_eq_some_iff.mp h
  split at h4
  · cases h4; simp only [fNotV, ha _ h3]
  · cases h4
theorem ev_if (ht : Ev ft ρ ρ ta) (ha : Ev fa ρ ρ a) (hb : Ev fb ρ ρ b) : Ev (fIf ft fa fb) ρ ρ (ta.bind fun x => if x then a else b) := fun z h => by
  obtain ⟨y, h3, h4⟩ := Option.bind_eq_some_iff.mp h
  cases y with
  | true => simp only [if_true] at h4; simp only [fIf, ht _ h3, ha _ h4]
  | false => simp only [Bool.false_eq_true, if_false] at h4; simp only [fIf, ht _ h3, hb _ h4]
theorem ev_chain {g g' : G2} (ha : Ev fa ρ ρ a) (hb : Ev fb ρ ρ b) (hc : Ev fc ρ ρ c) : Ev (fChain g g' fa fb fc) ρ ρ (a.bind fun x => b.bind fun y => andO (g x y) (c.bind fun z => g' y z)) := fun z h => by
  obtain ⟨x, h1, h2⟩ := Option.bind_eq_some_iff.mp h
  obtain ⟨y, h3, h4⟩ := Option.bind_eq_some_iff.mp h2
  obtain ⟨u, h5, h6⟩ := Option.bind_eq_some_iff.mp h4
  split at h6
  · obtain ⟨w, h7, h8⟩ := Option.bind_eq_some_iff.mp h6
    simp only [fChain, ha _ h1, hb _ h3, h5, hc _ h7, h8]
  · cases h6; simp only [fChain, ha _ h1, hb _ h3, h5]
  · cases h6
theorem ev_no : Ev fNo ρ ρ (some none) := fun x e => by cases e; rfl
theorem ev_part (ha : Ev fa ρ ρ1 a) : Ev (fPart fa) ρ ρ1 (a.bind fun d => partO d) := fun z h => by
  obtain ⟨y, h3, h4⟩ := Option.bind_eq_some_iff.mp h
  unfold partO at h4
  split at h4 <;> cases h4
  simp only [fPart, ha _ h3]
theorem ev_sl {fl fh : REnv → Option (Option Int × REnv)} {lo hi : Option (Option Int)} (ha : Ev fa ρ ρ1 a) (hl : Ev fl ρ1 ρ2 lo) (hh : Ev fh ρ2 ρ3 hi) : Ev (fSl fa fl fh) ρ ρ3 (a.bind fun x => lo.bind fun i => hi.bind fun j => gSl x i j) := fun z h => by
  obtain ⟨x, h1, h2⟩ := Option.bind_eq_some_iff.mp h
  obtain ⟨y, h3, h4⟩ := Option.bind_eq_some_iff.mp h2
  obtain ⟨u, h5, h6⟩ := Option.bind_eq_some_iff.mp h4
  simp only [fSl, ha _ h1, hl _ h3, hh _ h5, h6]
theorem ev_cb {g : GN} (hl : Ev la ρ ρ1 l) : Ev (fCB g la) ρ ρ1 (l.bind fun xs => g xs) := fun z h => by
  obtain ⟨y, h3, h4⟩ := Option.bind_eq_some_iff.mp h
  simp only [fCB, hl _ h3, h4]
theorem ev_cbF {g : List PyData → Option (List PyData)} (hl : Ev la ρ ρ1 l) : Ev (fCBF g la) ρ ρ1 (l.bind fun xs => g xs) := fun z h => by
  obtain ⟨y, h3, h4⟩ := Option.bind_eq_some_iff.mp h
  simp only [fCBF, hl _ h3, h4]
theorem ev_isi (T : String) (ha : Ev fa ρ ρ1 a) : Ev (fIsi T fa) ρ ρ1 (a.bind fun d => isi T d) := fun z h => by
  obtain ⟨y, h3, h4⟩ := Option.bind_eq_some_iff.mp h
  unfold isi at h4
  split at h4
  · cases h4
  rename_i n e
  split at h4
  · rename_i b e2
    cases h4
    simp only [fIsi, ha _ h3, e, e2]
  · cases h4
theorem ev_items (ha : Ev fa ρ ρ1 a) : Ev (fItems fa) ρ ρ1 (a.bind fun d => itemsOf d) := fun z h => by
  obtain ⟨y, h3, h4⟩ := Option.bind_eq_some_iff.mp h
  simp only [fItems, ha _ h3, h4]
theorem ev_yes : Ev fYes ρ ρ (some true) := fun x e => by cases e; rfl
theorem ev_dic : Ev fDic ρ ρ (some (.dict [])) := fun x e => by cases e; rfl
theorem ev_rng1 (ha : Ev fa ρ ρ1 a) : Ev (fRng1 (fCons fa fNil)) ρ ρ1 (a.bind fun d => rngO d) := fun z h => by
  obtain ⟨y, h3, h4⟩ := Option.bind_eq_some_iff.mp h
  unfold rngO at h4
  split at h4
  · split at h4 <;> cases h4
    rename_i hz
    exact rng1_ (ha _ h3) hz
  · cases h4
theorem ev_rng2 (ha : Ev fa ρ ρ1 a) (hb : Ev fb ρ1 ρ2 b) : Ev (fRng2 (fCons fa (fCons fb fNil))) ρ ρ2 (a.bind fun i => b.bind fun j => rng2O i j) := fun z h => by
  obtain ⟨x, h1, h2⟩ := Option.bind_eq_some_iff.mp h
  obtain ⟨y, h3, h4⟩ := Option.bind_eq_some_iff.mp h2
  unfold rng2O at h4
  split at h4
  · split at h4 <;> cases h4
    rename_i hz
    simp only [Bool.and_eq_true] at hz
    exact rng2_ (ha _ h1) (hb _ h3) hz.1 hz.2
  · cases h4
end
end Dv

/-! Dw: direct code: comprehensions, expressions with a list that changes. -/
namespace Dv
open PySem
def rsl (x : Option (Option PV)) : Option PV := match x with
  | some (some (.pl d)) => some (.pl d)
  | _ => none
theorem restR_nil (ρ0 ρ : REnv) : restR ρ0 ρ [] = ρ := rfl
theorem restR_cons (ρ0 ρ : REnv) (v : Nat) (vs : List Nat) : restR ρ0 ρ (v :: vs) = (restR ρ0 ρ vs).set v (rsl ρ0[v]?) := rfl
theorem rsl_junk (j : Option PyData) : rsl (some (j.map PV.pl)) = j.map PV.pl := by cases j <;> rfl
theorem rsl_pl (d : PyData) : rsl (some (some (.pl d))) = some (.pl d) := rfl
theorem rsl_none : rsl (some none) = none := rfl
section
variable {ρ ρ1 ρ2 ρ3 : REnv} {fa fb fc fe : D1} {ft fu : B1} {a b c : Option PyData} {ta tb : Option Bool} {la fi : A1} {l : Option (List PyData)}
def rgO (i j : Int) : Option (List PyData) := if okRg i j then some (rangeD i (j - i).toNat) else none
def tupR (d : PyData) : Option PyData := match d with
  | .int n => if okRg 0 n then some (.tuple (rangeD 0 (n - 0).toNat)) else none
  | _ => none
def lstR (d : PyData) : Option (List PyData) := match d with
  | .int n => if okRg 0 n then some (rangeD 0 (n - 0).toNat) else none
  | _ => none
theorem ev_tupR (ha : Ev fa ρ ρ1 a) : Ev (fTupR (fRg1 fa)) ρ ρ1 (a.bind fun d => tupR d) := fun z h => by
  obtain ⟨y, h3, h4⟩ := Option.bind_eq_some_iff.mp h
  unfold tupR at h4
  split at h4
  · split at h4 <;> cases h4
    rename_i hz
    simp only [fTupR, fRg1, ha _ h3, hz, if_true]
  · cases h4
theorem ev_lstR (ha : Ev fa ρ ρ1 a) : Ev (fLstR (fRg1 fa)) ρ ρ1 (a.bind fun d => lstR d) := fun z h => by
  obtain ⟨y, h3, h4⟩ := Option.bind_eq_some_iff.mp h
  unfold lstR at h4
  split at h4
  · split at h4 <;> cases h4
    rename_i hz
    simp only [fLstR, fRg1, ha _ h3, hz, if_true]
  · cases h4
/-! comprehensions -/
theorem comp_gen {α : Type} {h : T1} {vs : List Nat} {ρv : REnv} (D : α → PyData) (B : α → REnv) {t : α → Option Bool} {e : α → Option PyData} (hb : ∀ a, h (D a) ρv = some (B a)) (hw : ∀ a, wipeR (B a) vs = ρv)
    (ht : ∀ a, Ev ft (B a) (B a) (t a)) (he : ∀ a, Ev fe (B a) (B a) (e a)) : ∀ (xs : List α) (acc ys : List PyData), lcf t e xs = some ys → compF h ft fe vs (xs.map D) acc ρv = some (acc ++ ys, ρv)
  | [], acc, ys, q => by cases q; simp [compF]
  | x :: xs, acc, ys, q => by
    simp only [lcf] at q
    obtain ⟨b, h1, h2⟩ := Option.bind_eq_some_iff.mp q
    cases b with
    | true =>
      simp only [if_true] at h2
      obtain ⟨y, h3, h4⟩ := Option.bind_eq_some_iff.mp h2
      obtain ⟨zs, h5, h6⟩ := Option.bind_eq_some_iff.mp h4
      cases h6
      have ih := comp_gen D B hb hw ht he xs (acc ++ [y]) zs h5
      simp only [List.map_cons, compF, hb, ht x true h1, he x y h3, hw, ih, List.append_assoc, List.singleton_append]
    | false =>
      simp only [Bool.false_eq_true, if_false] at h2
      have ih := comp_gen D B hb hw ht he xs acc ys h2
      simp only [List.map_cons, compF, hb, ht x false h1, hw, ih]
theorem lcm_lcf {α β : Type} (e : α → Option β) : ∀ xs, lcf (fun _ => some true) e xs = lcm' e xs
  | [] => rfl
  | x :: xs => by simp only [lcf, lcm', Option.bind_some, if_true, lcm_lcf e xs]
theorem lc_gen {α : Type} {h : T1} {vs : List Nat} (D : α → PyData) (B : α → REnv) {t : α → Option Bool} {e : α → Option PyData} (hi : Ev fi ρ ρ1 l) (U : List PyData → Option (List α)) (hU : ∀ ds xs, U ds = some xs → ds = xs.map D)
    (hb : ∀ a, h (D a) (wipeR ρ1 vs) = some (B a)) (hw : ∀ a, wipeR (B a) vs = wipeR ρ1 vs) (hr : restR ρ1 (wipeR ρ1 vs) vs = ρ1)
    (ht : ∀ a, Ev ft (B a) (B a) (t a)) (he : ∀ a, Ev fe (B a) (B a) (e a)) : Ev (fLc fi h ft fe vs) ρ ρ1 (l.bind fun ds => (U ds).bind fun xs => lcO t e xs) := fun z q => by
  obtain ⟨ds, h1, h2⟩ := Option.bind_eq_some_iff.mp q
  obtain ⟨xs, h3, h4⟩ := Option.bind_eq_some_iff.mp h2
  have hd := hU _ _ h3
  subst hd
  unfold lcO at h4
  split at h4
  · rename_i hz
    have := comp_gen D B hb hw ht he xs [] z h4
    replace hz := fits_le hz
    simp only [fLc, hi _ h1, List.length_map, hz, if_true, this, List.nil_append, hr]
  · cases h4
/-- [e for x in xs if t] -/
theorem ev_lcf {v : Nat} {t : PyData → Option Bool} {e : PyData → Option PyData} (hi : Ev fi ρ ρ1 l)
    (ht : ∀ a, Ev ft ((wipeR ρ1 [v]).set v (some (.pl a))) ((wipeR ρ1 [v]).set v (some (.pl a))) (t a)) (he : ∀ a, Ev fe ((wipeR ρ1 [v]).set v (some (.pl a))) ((wipeR ρ1 [v]).set v (some (.pl a))) (e a))
    (hw : ∀ a : PyData, wipeR ((wipeR ρ1 [v]).set v (some (.pl a))) [v] = wipeR ρ1 [v] := by intro _; rfl) (hr : restR ρ1 (wipeR ρ1 [v]) [v] = ρ1 := by first | rfl | (simp only [restR_cons, restR_nil, List.getElem?_cons_succ, List.getElem?_cons_zero, rsl_junk, rsl_pl, rsl_none]; rfl) | (simp only [restR_cons, restR_nil, wipeR, List.set_cons_succ, List.set_cons_zero, List.getElem?_cons_succ, List.getElem?_cons_zero, rsl_junk, rsl_pl, rsl_none])) :
    Ev (fLc fi (hName v) ft fe [v]) ρ ρ1 (l.bind fun ds => lcO t e ds) := fun z q =>
  lc_gen (ft := ft) (fe := fe) (h := hName v) (fun a : PyData => a) (fun a => (wipeR ρ1 [v]).set v (some (.pl a))) hi some (fun ds xs h => by cases h; simp) (fun _ => rfl) hw hr ht he z q
theorem ev_lcm {v : Nat} {e : PyData → Option PyData} (hi : Ev fi ρ ρ1 l)
    (he : ∀ a, Ev fe ((wipeR ρ1 [v]).set v (some (.pl a))) ((wipeR ρ1 [v]).set v (some (.pl a))) (e a))
    (hw : ∀ a : PyData, wipeR ((wipeR ρ1 [v]).set v (some (.pl a))) [v] = wipeR ρ1 [v] := by intro _; rfl) (hr : restR ρ1 (wipeR ρ1 [v]) [v] = ρ1 := by first | rfl | (simp only [restR_cons, restR_nil, List.getElem?_cons_succ, List.getElem?_cons_zero, rsl_junk, rsl_pl, rsl_none]; rfl) | (simp only [restR_cons, restR_nil, wipeR, List.set_cons_succ, List.set_cons_zero, List.getElem?_cons_succ, List.getElem?_cons_zero, rsl_junk, rsl_pl, rsl_none])) :
    Ev (fLc fi (hName v) fYes fe [v]) ρ ρ1 (l.bind fun ds => lmO e ds) := fun z q =>
  ev_lcf (t := fun _ => some true) (e := e) hi (fun _ => ev_yes) he hw hr z (by simpa only [lcO, lmO, lcm_lcf] using q)
/-- [e for x, y in xs if t] -/
theorem ev_lcf2 {v w : Nat} {vs : List Nat} {t : PyData × PyData → Option Bool} {e : PyData × PyData → Option PyData} (hi : Ev fi ρ ρ1 l)
    (ht : ∀ p : PyData × PyData, Ev ft (((wipeR ρ1 vs).set v (some (.pl p.1))).set w (some (.pl p.2))) (((wipeR ρ1 vs).set v (some (.pl p.1))).set w (some (.pl p.2))) (t p)) (he : ∀ p : PyData × PyData, Ev fe (((wipeR ρ1 vs).set v (some (.pl p.1))).set w (some (.pl p.2))) (((wipeR ρ1 vs).set v (some (.pl p.1))).set w (some (.pl p.2))) (e p))
    (hw : ∀ a b : PyData, wipeR (((wipeR ρ1 vs).set v (some (.pl a))).set w (some (.pl b))) vs = wipeR ρ1 vs := by intro _ _; rfl) (hr : restR ρ1 (wipeR ρ1 vs) vs = ρ1 := by first | rfl | (simp only [restR_cons, restR_nil, List.getElem?_cons_succ, List.getElem?_cons_zero, rsl_junk, rsl_pl, rsl_none]; rfl) | (simp only [restR_cons, restR_nil, wipeR, List.set_cons_succ, List.set_cons_zero, List.getElem?_cons_succ, List.getElem?_cons_zero, rsl_junk, rsl_pl, rsl_none])) :
    Ev (fLc fi (hTup 2 (hCons (hName v) (hCons (hName w) hNil))) ft fe vs) ρ ρ1 (l.bind fun ds => (un2s ds).bind fun ps => lcO t e ps) := fun z q =>
  lc_gen (ft := ft) (fe := fe) (h := hTup 2 (hCons (hName v) (hCons (hName w) hNil))) tup2 (fun p => ((wipeR ρ1 vs).set v (some (.pl p.1))).set w (some (.pl p.2))) hi un2s (fun ds xs h => un2s_some h) (fun _ => rfl) (fun p => hw p.1 p.2) hr ht he z q
theorem ev_lcm2 {v w : Nat} {vs : List Nat} {e : PyData × PyData → Option PyData} (hi : Ev fi ρ ρ1 l)
    (he : ∀ p : PyData × PyData, Ev fe (((wipeR ρ1 vs).set v (some (.pl p.1))).set w (some (.pl p.2))) (((wipeR ρ1 vs).set v (some (.pl p.1))).set w (some (.pl p.2))) (e p))
    (hw : ∀ a b : PyData, wipeR (((wipeR ρ1 vs).set v (some (.pl a))).set w (some (.pl b))) vs = wipeR ρ1 vs := by intro _ _; rfl) (hr : restR ρ1 (wipeR ρ1 vs) vs = ρ1 := by first | rfl | (simp only [restR_cons, restR_nil, List.getElem?_cons_succ, List.getElem?_cons_zero, rsl_junk, rsl_pl, rsl_none]; rfl) | (simp only [restR_cons, restR_nil, wipeR, List.set_cons_succ, List.set_cons_zero, List.getElem?_cons_succ, List.getElem?_cons_zero, rsl_junk, rsl_pl, rsl_none])) :
    Ev (fLc fi (hTup 2 (hCons (hName v) (hCons (hName w) hNil))) fYes fe vs) ρ ρ1 (l.bind fun ds => (un2s ds).bind fun ps => lmO e ps) := fun z q =>
  ev_lcf2 (t := fun _ => some true) (e := e) hi (fun _ => ev_yes) he hw hr z (by simpa only [lcO, lmO, lcm_lcf] using q)
theorem ev_lcf3 {v w u : Nat} {vs : List Nat} {t : PyData × PyData × PyData → Option Bool} {e : PyData × PyData × PyData → Option PyData} (hi : Ev fi ρ ρ1 l)
    (ht : ∀ p : PyData × PyData × PyData, Ev ft ((((wipeR ρ1 vs).set v (some (.pl p.1))).set w (some (.pl p.2.1))).set u (some (.pl p.2.2))) ((((wipeR ρ1 vs).set v (some (.pl p.1))).set w (some (.pl p.2.1))).set u (some (.pl p.2.2))) (t p)) (he : ∀ p : PyData × PyData × PyData, Ev fe ((((wipeR ρ1 vs).set v (some (.pl p.1))).set w (some (.pl p.2.1))).set u (some (.pl p.2.2))) ((((wipeR ρ1 vs).set v (some (.pl p.1))).set w (some (.pl p.2.1))).set u (some (.pl p.2.2))) (e p))
    (hw : ∀ a b c : PyData, wipeR ((((wipeR ρ1 vs).set v (some (.pl a))).set w (some (.pl b))).set u (some (.pl c))) vs = wipeR ρ1 vs := by intro _ _ _; rfl) (hr : restR ρ1 (wipeR ρ1 vs) vs = ρ1 := by first | rfl | (simp only [restR_cons, restR_nil, List.getElem?_cons_succ, List.getElem?_cons_zero, rsl_junk, rsl_pl, rsl_none]; rfl) | (simp only [restR_cons, restR_nil, wipeR, List.set_cons_succ, List.set_cons_zero, List.getElem?_cons_succ, List.getElem?_cons_zero, rsl_junk, rsl_pl, rsl_none])) :
    Ev (fLc fi (hTup 3 (hCons (hName v) (hCons (hName w) (hCons (hName u) hNil)))) ft fe vs) ρ ρ1 (l.bind fun ds => (un3s ds).bind fun ps => lcO t e ps) := fun z q =>
  lc_gen (ft := ft) (fe := fe) (h := hTup 3 (hCons (hName v) (hCons (hName w) (hCons (hName u) hNil)))) tup3 (fun p => (((wipeR ρ1 vs).set v (some (.pl p.1))).set w (some (.pl p.2.1))).set u (some (.pl p.2.2))) hi un3s (fun ds xs h => un3s_some h) (fun _ => rfl) (fun p => hw p.1 p.2.1 p.2.2) hr ht he z q
/-! two clauses -/
theorem comp2_gen {α β : Type} {h h1 : T1} {vs vs1 : List Nat} {fi1 : A1} {ft1 : B1} {ρv : REnv} (D : α → PyData) (B : α → REnv) (D1 : β → PyData) (B1 : α → β → REnv) {t : α → Option Bool} {l1 : α → Option (List PyData)} (U1 : List PyData → Option (List β)) (hU1 : ∀ ds xs, U1 ds = some xs → ds = xs.map D1)
    {t1 : α → β → Option Bool} {e : α → β → Option PyData} (hb : ∀ a, h (D a) ρv = some (B a)) (hw : ∀ a, wipeR (B a) vs = ρv) (hw1 : ∀ a, wipeR (wipeR (B a) vs1) vs = ρv)
    (ht : ∀ a, Ev ft (B a) (B a) (t a)) (hi1 : ∀ a, Ev fi1 (B a) (B a) (l1 a)) (hb1 : ∀ a b, h1 (D1 b) (wipeR (B a) vs1) = some (B1 a b)) (hw2 : ∀ a b, wipeR (B1 a b) vs1 = wipeR (B a) vs1)
    (ht1 : ∀ a b, Ev ft1 (B1 a b) (B1 a b) (t1 a b)) (he : ∀ a b, Ev fe (B1 a b) (B1 a b) (e a b)) : ∀ (xs : List α) (acc ys : List PyData), lc2f t (fun a => (l1 a).bind U1) t1 e xs = some ys → comp2F h ft fi1 h1 ft1 fe vs vs1 (xs.map D) acc ρv = some (acc ++ ys, ρv)
  | [], acc, ys, q => by cases q; simp [comp2F]
  | x :: xs, acc, ys, q => by
    simp only [lc2f] at q
    obtain ⟨b, h1, h2⟩ := Option.bind_eq_some_iff.mp q
    cases b with
    | true =>
      simp only [if_true] at h2
      obtain ⟨es, h3, h4⟩ := Option.bind_eq_some_iff.mp h2
      obtain ⟨ds, h5, h6⟩ := Option.bind_eq_some_iff.mp h3
      obtain ⟨zs, h7, h8⟩ := Option.bind_eq_some_iff.mp h4
      obtain ⟨us, h9, h10⟩ := Option.bind_eq_some_iff.mp h8
      cases h10
      have hd := hU1 _ _ h6
      subst hd
      have c1 := comp_gen D1 (B1 x) (hb1 x) (hw2 x) (ht1 x) (he x) es acc zs h7
      have ih := comp2_gen D B D1 B1 U1 hU1 hb hw hw1 ht hi1 hb1 hw2 ht1 he xs (acc ++ zs) us h9
      simp only [List.map_cons, comp2F, hb, ht x true h1, hi1 x _ h5, c1, hw1, ih, List.append_assoc]
    | false =>
      simp only [Bool.false_eq_true, if_false] at h2
      have ih := comp2_gen D B D1 B1 U1 hU1 hb hw hw1 ht hi1 hb1 hw2 ht1 he xs acc ys h2
      simp only [List.map_cons, comp2F, hb, ht x false h1, hw, ih]
theorem lc2_gen {α β : Type} {h h1 : T1} {vs vs1 : List Nat} {fi1 : A1} {ft1 : B1} (D : α → PyData) (B : α → REnv) (U : List PyData → Option (List α)) (hU : ∀ ds xs, U ds = some xs → ds = xs.map D) (D1 : β → PyData) (B1 : α → β → REnv) {t : α → Option Bool} {l1 : α → Option (List PyData)} (U1 : List PyData → Option (List β)) (hU1 : ∀ ds xs, U1 ds = some xs → ds = xs.map D1)
    {t1 : α → β → Option Bool} {e : α → β → Option PyData} (hi : Ev fi ρ ρ1 l) (hb : ∀ a, h (D a) (wipeR ρ1 vs) = some (B a)) (hw : ∀ a, wipeR (B a) vs = wipeR ρ1 vs) (hw1 : ∀ a, wipeR (wipeR (B a) vs1) vs = wipeR ρ1 vs)
    (ht : ∀ a, Ev ft (B a) (B a) (t a)) (hi1 : ∀ a, Ev fi1 (B a) (B a) (l1 a)) (hb1 : ∀ a b, h1 (D1 b) (wipeR (B a) vs1) = some (B1 a b)) (hw2 : ∀ a b, wipeR (B1 a b) vs1 = wipeR (B a) vs1)
    (ht1 : ∀ a b, Ev ft1 (B1 a b) (B1 a b) (t1 a b)) (he : ∀ a b, Ev fe (B1 a b) (B1 a b) (e a b)) (hr : restR ρ1 (wipeR ρ1 vs) vs = ρ1) :
    Ev (fLc2 fi h ft fi1 h1 ft1 fe vs vs1) ρ ρ1 (l.bind fun ds => (U ds).bind fun xs => lc2O t (fun a => (l1 a).bind U1) t1 e xs) := fun z q => by
  obtain ⟨ds, h1, h2⟩ := Option.bind_eq_some_iff.mp q
  obtain ⟨xs, h3, h4⟩ := Option.bind_eq_some_iff.mp h2
  have hd := hU _ _ h3
  subst hd
  unfold lc2O at h4
  obtain ⟨zs, h5, h6⟩ := Option.bind_eq_some_iff.mp h4
  split at h6
  · rename_i hz
    cases h6
    have := comp2_gen D B D1 B1 U1 hU1 hb hw hw1 ht hi1 hb1 hw2 ht1 he xs [] z h5
    simp only [fLc2, hi _ h1, this, List.nil_append, fits_le hz, if_true, hr]
  · cases h6
/-! by values of the bound names: n: one name, p: two names -/
abbrev bn (v : Nat) (ρ : REnv) (a : PyData) : REnv := ρ.set v (some (.pl a))
abbrev bp (v w : Nat) (ρ : REnv) (p : PyData × PyData) : REnv := (ρ.set v (some (.pl p.1))).set w (some (.pl p.2))
theorem ev_lc2nn {v w : Nat} {vs : List Nat} {fi1 : A1} {ft1 : B1} {t : PyData → Option Bool} {l1 : PyData → Option (List PyData)} {t1 e} (hi : Ev fi ρ ρ1 l)
    (ht : ∀ a, Ev ft (bn v (wipeR ρ1 vs) a) (bn v (wipeR ρ1 vs) a) (t a)) (hi1 : ∀ a, Ev fi1 (bn v (wipeR ρ1 vs) a) (bn v (wipeR ρ1 vs) a) (l1 a))
    (ht1 : ∀ a b, Ev ft1 (bn w (wipeR (bn v (wipeR ρ1 vs) a) [w]) b) (bn w (wipeR (bn v (wipeR ρ1 vs) a) [w]) b) (t1 a b)) (he : ∀ a b, Ev fe (bn w (wipeR (bn v (wipeR ρ1 vs) a) [w]) b) (bn w (wipeR (bn v (wipeR ρ1 vs) a) [w]) b) (e a b))
    (hw : ∀ a : PyData, wipeR (bn v (wipeR ρ1 vs) a) vs = wipeR ρ1 vs := by intro _; rfl) (hw1 : ∀ a : PyData, wipeR (wipeR (bn v (wipeR ρ1 vs) a) [w]) vs = wipeR ρ1 vs := by intro _; rfl) (hw2 : ∀ a b : PyData, wipeR (bn w (wipeR (bn v (wipeR ρ1 vs) a) [w]) b) [w] = wipeR (bn v (wipeR ρ1 vs) a) [w] := by intro _ _; rfl) (hr : restR ρ1 (wipeR ρ1 vs) vs = ρ1 := by first | rfl | (simp only [restR_cons, restR_nil, List.getElem?_cons_succ, List.getElem?_cons_zero, rsl_junk, rsl_pl, rsl_none]; rfl) | (simp only [restR_cons, restR_nil, wipeR, List.set_cons_succ, List.set_cons_zero, List.getElem?_cons_succ, List.getElem?_cons_zero, rsl_junk, rsl_pl, rsl_none])) :
    Ev (fLc2 fi (hName v) ft fi1 (hName w) ft1 fe vs [w]) ρ ρ1 (l.bind fun ds => lc2O t (fun a => (l1 a).bind some) t1 e ds) := fun z q =>
  lc2_gen (h := hName v) (h1 := hName w) (fun a : PyData => a) (bn v (wipeR ρ1 vs)) some (fun ds xs h => by cases h; simp) (fun a : PyData => a) (fun a => bn w (wipeR (bn v (wipeR ρ1 vs) a) [w])) some (fun ds xs h => by cases h; simp) hi (fun _ => rfl) hw hw1 ht hi1 (fun _ _ => rfl) hw2 ht1 he hr z q
theorem ev_lc2np {v w u : Nat} {vs vs1 : List Nat} {fi1 : A1} {ft1 : B1} {t : PyData → Option Bool} {l1 : PyData → Option (List PyData)} {t1 e} (hi : Ev fi ρ ρ1 l)
    (ht : ∀ a, Ev ft (bn v (wipeR ρ1 vs) a) (bn v (wipeR ρ1 vs) a) (t a)) (hi1 : ∀ a, Ev fi1 (bn v (wipeR ρ1 vs) a) (bn v (wipeR ρ1 vs) a) (l1 a))
    (ht1 : ∀ a (p : PyData × PyData), Ev ft1 (bp w u (wipeR (bn v (wipeR ρ1 vs) a) vs1) p) (bp w u (wipeR (bn v (wipeR ρ1 vs) a) vs1) p) (t1 a p)) (he : ∀ a (p : PyData × PyData), Ev fe (bp w u (wipeR (bn v (wipeR ρ1 vs) a) vs1) p) (bp w u (wipeR (bn v (wipeR ρ1 vs) a) vs1) p) (e a p))
    (hw : ∀ a : PyData, wipeR (bn v (wipeR ρ1 vs) a) vs = wipeR ρ1 vs := by intro _; rfl) (hw1 : ∀ a : PyData, wipeR (wipeR (bn v (wipeR ρ1 vs) a) vs1) vs = wipeR ρ1 vs := by intro _; rfl) (hw2 : ∀ (a : PyData) (p : PyData × PyData), wipeR (bp w u (wipeR (bn v (wipeR ρ1 vs) a) vs1) p) vs1 = wipeR (bn v (wipeR ρ1 vs) a) vs1 := by intro _ _; rfl) (hr : restR ρ1 (wipeR ρ1 vs) vs = ρ1 := by first | rfl | (simp only [restR_cons, restR_nil, List.getElem?_cons_succ, List.getElem?_cons_zero, rsl_junk, rsl_pl, rsl_none]; rfl) | (simp only [restR_cons, restR_nil, wipeR, List.set_cons_succ, List.set_cons_zero, List.getElem?_cons_succ, List.getElem?_cons_zero, rsl_junk, rsl_pl, rsl_none])) :
    Ev (fLc2 fi (hName v) ft fi1 (hTup 2 (hCons (hName w) (hCons (hName u) hNil))) ft1 fe vs vs1) ρ ρ1 (l.bind fun ds => lc2O t (fun a => (l1 a).bind un2s) t1 e ds) := fun z q =>
  lc2_gen (h := hName v) (h1 := hTup 2 (hCons (hName w) (hCons (hName u) hNil))) (fun a : PyData => a) (bn v (wipeR ρ1 vs)) some (fun ds xs h => by cases h; simp) tup2 (fun a => bp w u (wipeR (bn v (wipeR ρ1 vs) a) vs1)) un2s (fun ds xs h => un2s_some h) hi (fun _ => rfl) hw hw1 ht hi1 (fun _ _ => rfl) hw2 ht1 he hr z q
theorem ev_lc2pn {v w u : Nat} {vs : List Nat} {fi1 : A1} {ft1 : B1} {t : PyData × PyData → Option Bool} {l1 : PyData × PyData → Option (List PyData)} {t1 e} (hi : Ev fi ρ ρ1 l)
    (ht : ∀ a, Ev ft (bp v w (wipeR ρ1 vs) a) (bp v w (wipeR ρ1 vs) a) (t a)) (hi1 : ∀ a, Ev fi1 (bp v w (wipeR ρ1 vs) a) (bp v w (wipeR ρ1 vs) a) (l1 a))
    (ht1 : ∀ a b, Ev ft1 (bn u (wipeR (bp v w (wipeR ρ1 vs) a) [u]) b) (bn u (wipeR (bp v w (wipeR ρ1 vs) a) [u]) b) (t1 a b)) (he : ∀ a b, Ev fe (bn u (wipeR (bp v w (wipeR ρ1 vs) a) [u]) b) (bn u (wipeR (bp v w (wipeR ρ1 vs) a) [u]) b) (e a b))
    (hw : ∀ a : PyData × PyData, wipeR (bp v w (wipeR ρ1 vs) a) vs = wipeR ρ1 vs := by intro _; rfl) (hw1 : ∀ a : PyData × PyData, wipeR (wipeR (bp v w (wipeR ρ1 vs) a) [u]) vs = wipeR ρ1 vs := by intro _; rfl) (hw2 : ∀ (a : PyData × PyData) (b : PyData), wipeR (bn u (wipeR (bp v w (wipeR ρ1 vs) a) [u]) b) [u] = wipeR (bp v w (wipeR ρ1 vs) a) [u] := by intro _ _; rfl) (hr : restR ρ1 (wipeR ρ1 vs) vs = ρ1 := by first | rfl | (simp only [restR_cons, restR_nil, List.getElem?_cons_succ, List.getElem?_cons_zero, rsl_junk, rsl_pl, rsl_none]; rfl) | (simp only [restR_cons, restR_nil, wipeR, List.set_cons_succ, List.set_cons_zero, List.getElem?_cons_succ, List.getElem?_cons_zero, rsl_junk, rsl_pl, rsl_none])) :
    Ev (fLc2 fi (hTup 2 (hCons (hName v) (hCons (hName w) hNil))) ft fi1 (hName u) ft1 fe vs [u]) ρ ρ1 (l.bind fun ds => (un2s ds).bind fun ps => lc2O t (fun a => (l1 a).bind some) t1 e ps) := fun z q =>
  lc2_gen (h := hTup 2 (hCons (hName v) (hCons (hName w) hNil))) (h1 := hName u) tup2 (bp v w (wipeR ρ1 vs)) un2s (fun ds xs h => un2s_some h) (fun a : PyData => a) (fun a => bn u (wipeR (bp v w (wipeR ρ1 vs) a) [u])) some (fun ds xs h => by cases h; simp) hi (fun _ => rfl) hw hw1 ht hi1 (fun _ _ => rfl) hw2 ht1 he hr z q
theorem ev_lc2pp {v w u x : Nat} {vs vs1 : List Nat} {fi1 : A1} {ft1 : B1} {t : PyData × PyData → Option Bool} {l1 : PyData × PyData → Option (List PyData)} {t1 e} (hi : Ev fi ρ ρ1 l)
    (ht : ∀ a, Ev ft (bp v w (wipeR ρ1 vs) a) (bp v w (wipeR ρ1 vs) a) (t a)) (hi1 : ∀ a, Ev fi1 (bp v w (wipeR ρ1 vs) a) (bp v w (wipeR ρ1 vs) a) (l1 a))
    (ht1 : ∀ a b, Ev ft1 (bp u x (wipeR (bp v w (wipeR ρ1 vs) a) vs1) b) (bp u x (wipeR (bp v w (wipeR ρ1 vs) a) vs1) b) (t1 a b)) (he : ∀ a b, Ev fe (bp u x (wipeR (bp v w (wipeR ρ1 vs) a) vs1) b) (bp u x (wipeR (bp v w (wipeR ρ1 vs) a) vs1) b) (e a b))
    (hw : ∀ a : PyData × PyData, wipeR (bp v w (wipeR ρ1 vs) a) vs = wipeR ρ1 vs := by intro _; rfl) (hw1 : ∀ a : PyData × PyData, wipeR (wipeR (bp v w (wipeR ρ1 vs) a) vs1) vs = wipeR ρ1 vs := by intro _; rfl) (hw2 : ∀ (a b : PyData × PyData), wipeR (bp u x (wipeR (bp v w (wipeR ρ1 vs) a) vs1) b) vs1 = wipeR (bp v w (wipeR ρ1 vs) a) vs1 := by intro _ _; rfl) (hr : restR ρ1 (wipeR ρ1 vs) vs = ρ1 := by first | rfl | (simp only [restR_cons, restR_nil, List.getElem?_cons_succ, List.getElem?_cons_zero, rsl_junk, rsl_pl, rsl_none]; rfl) | (simp only [restR_cons, restR_nil, wipeR, List.set_cons_succ, List.set_cons_zero, List.getElem?_cons_succ, List.getElem?_cons_zero, rsl_junk, rsl_pl, rsl_none])) :
    Ev (fLc2 fi (hTup 2 (hCons (hName v) (hCons (hName w) hNil))) ft fi1 (hTup 2 (hCons (hName u) (hCons (hName x) hNil))) ft1 fe vs vs1) ρ ρ1 (l.bind fun ds => (un2s ds).bind fun ps => lc2O t (fun a => (l1 a).bind un2s) t1 e ps) := fun z q =>
  lc2_gen (h := hTup 2 (hCons (hName v) (hCons (hName w) hNil))) (h1 := hTup 2 (hCons (hName u) (hCons (hName x) hNil))) tup2 (bp v w (wipeR ρ1 vs)) un2s (fun ds xs h => un2s_some h) tup2 (fun a => bp u x (wipeR (bp v w (wipeR ρ1 vs) a) vs1)) un2s (fun ds xs h => un2s_some h) hi (fun _ => rfl) hw hw1 ht hi1 (fun _ _ => rfl) hw2 ht1 he hr z q
end
end Dv

/-! Dw: direct code: calls, expressions with a list that changes. -/
namespace Dv
open PySem
theorem obind {α β : Type} {a : Option α} {k : α → Option β} {z : β} (h : (a.bind k) = some z) : ∃ x, a = some x ∧ k x = some z := Option.bind_eq_some_iff.mp h
section
variable {ρ ρ1 ρ2 ρ3 : REnv} {fa fb fc fe : D1} {ft fu : B1} {a b c : Option PyData} {ta tb : Option Bool} {la fi : A1} {l : Option (List PyData)} {F : Fn}
theorem evs_call0   {v : List PyData → Option (PyData × List PyData)} {i : Nat} {x : PV} {ws : List PyData} {E : List PyData → REnv}  (hv : ∀  p, v ws  = some p → F [.rf ws] = some (.pl p.1, [some p.2])) (g1 : ρ[i]? = some (some x) := by rfl) (g2 : x.lst? = some ws := by rfl) (hE : ∀ w, ρ.set i (some (x.put w)) = E w := by intro _; rfl) : EvS (fCallE F (aBy i aNil)) ρ (v ws ) E := fun z w h => by
  have hh1 : ownAt ρ i = some ws := by simp only [ownAt, g1, g2]
  have hh2 : oneBy [.by i] = true := rfl
  simp only [fCallE, fCall, aBy, hh1, aCons, aNil, hh2, toPV, hv  (z, w) h, setOuts, if_true, g1, hE]
theorem ev_call1 {f0 : D1} {o0 : Option PyData} {ρ1 : REnv} {v : PyData → Option PyData} (h0 : Ev f0 ρ ρ1 o0) (hv : ∀ x0 d, v x0 = some d → F [.pl x0] = some (.pl d, [none])) : Ev (fCallE F (aCons f0 aNil)) ρ ρ1 (o0.bind fun x0 => v x0) := fun z h => by
  obtain ⟨x0, e0, q0⟩ := obind h
  simp only [fCallE, fCall, aCons, aNil, h0 _ e0, oneBy, toPV, hv _ _ q0, setOuts, if_true]
theorem ev_callX1 {f0 : D1} {o0 : Option PyData} {ρ1 : REnv} {v : PyData → Option (List PyData)} (h0 : Ev f0 ρ ρ1 o0) (hv : ∀ x0 d, v x0 = some d → F [.pl x0] = some (.fr d, [none])) : Ev (fCallE F (aCons f0 aNil)) ρ ρ1 (o0.bind fun x0 => (v x0).bind fun ds => some (.list ds)) := fun z h => by
  obtain ⟨x0, e0, q0⟩ := obind h
  obtain ⟨ds, e9, q9⟩ := obind q0
  cases q9
  simp only [fCallE, fCall, aCons, aNil, h0 _ e0, oneBy, toPV, hv _ _ e9, setOuts, if_true]
theorem ev_callF1 {f0 : D1} {o0 : Option PyData} {ρ1 : REnv} {v : PyData → Option (List PyData)} (h0 : Ev f0 ρ ρ1 o0) (hv : ∀ x0 d, v x0 = some d → F [.pl x0] = some (.fr d, [none])) : Ev (fCallF F (aCons f0 aNil)) ρ ρ1 (o0.bind fun x0 => v x0) := fun z h => by
  obtain ⟨x0, e0, q0⟩ := obind h
  simp [fCallF, aCons, aNil, h0 _ e0, isPl, toPV, hv _ _ q0]
theorem evs_call1 {f0 : D1} {o0 : Option PyData} {v : List PyData → PyData → Option (PyData × List PyData)} {i : Nat} {x : PV} {ws : List PyData} {E : List PyData → REnv} (h0 : Ev f0 ρ ρ o0) (hv : ∀ x0 p, v ws x0 = some p → F [.rf ws, .pl x0] = some (.pl p.1, [some p.2, none])) (g1 : ρ[i]? = some (some x) := by rfl) (g2 : x.lst? = some ws := by rfl) (hE : ∀ w, ρ.set i (some (x.put w)) = E w := by intro _; rfl) : EvS (fCallE F (aBy i (aCons f0 aNil))) ρ (o0.bind fun x0 => v ws x0) E := fun z w h => by
  obtain ⟨x0, e0, q0⟩ := obind h
  have hh1 : ownAt ρ i = some ws := by simp only [ownAt, g1, g2]
  have hh2 : oneBy [.by i, .pl x0] = true := rfl
  simp only [fCallE, fCall, aBy, hh1, aCons, aNil, h0 _ e0, hh2, toPV, hv _ (z, w) q0, setOuts, if_true, g1, hE]
theorem ev_call2 {f0 : D1} {f1 : D1} {o0 : Option PyData} {o1 : Option PyData} {ρ1 : REnv} {ρ2 : REnv} {v : PyData → PyData → Option PyData} (h0 : Ev f0 ρ ρ1 o0) (h1 : Ev f1 ρ1 ρ2 o1) (hv : ∀ x0 x1 d, v x0 x1 = some d → F [.pl x0, .pl x1] = some (.pl d, [none, none])) : Ev (fCallE F (aCons f0 (aCons f1 aNil))) ρ ρ2 (o0.bind fun x0 => o1.bind fun x1 => v x0 x1) := fun z h => by
  obtain ⟨x0, e0, q0⟩ := obind h
  obtain ⟨x1, e1, q1⟩ := obind q0
  simp only [fCallE, fCall, aCons, aNil, h0 _ e0, h1 _ e1, oneBy, toPV, hv _ _ _ q1, setOuts, if_true]
theorem ev_callX2 {f0 : D1} {f1 : D1} {o0 : Option PyData} {o1 : Option PyData} {ρ1 : REnv} {ρ2 : REnv} {v : PyData → PyData → Option (List PyData)} (h0 : Ev f0 ρ ρ1 o0) (h1 : Ev f1 ρ1 ρ2 o1) (hv : ∀ x0 x1 d, v x0 x1 = some d → F [.pl x0, .pl x1] = some (.fr d, [none, none])) : Ev (fCallE F (aCons f0 (aCons f1 aNil))) ρ ρ2 (o0.bind fun x0 => o1.bind fun x1 => (v x0 x1).bind fun ds => some (.list ds)) := fun z h => by
  obtain ⟨x0, e0, q0⟩ := obind h
  obtain ⟨x1, e1, q1⟩ := obind q0
  obtain ⟨ds, e9, q9⟩ := obind q1
  cases q9
  simp only [fCallE, fCall, aCons, aNil, h0 _ e0, h1 _ e1, oneBy, toPV, hv _ _ _ e9, setOuts, if_true]
theorem ev_callF2 {f0 : D1} {f1 : D1} {o0 : Option PyData} {o1 : Option PyData} {ρ1 : REnv} {ρ2 : REnv} {v : PyData → PyData → Option (List PyData)} (h0 : Ev f0 ρ ρ1 o0) (h1 : Ev f1 ρ1 ρ2 o1) (hv : ∀ x0 x1 d, v x0 x1 = some d → F [.pl x0, .pl x1] = some (.fr d, [none, none])) : Ev (fCallF F (aCons f0 (aCons f1 aNil))) ρ ρ2 (o0.bind fun x0 => o1.bind fun x1 => v x0 x1) := fun z h => by
  obtain ⟨x0, e0, q0⟩ := obind h
  obtain ⟨x1, e1, q1⟩ := obind q0
  simp [fCallF, aCons, aNil, h0 _ e0, h1 _ e1, isPl, toPV, hv _ _ _ q1]
theorem evs_call2 {f0 : D1} {f1 : D1} {o0 : Option PyData} {o1 : Option PyData} {v : List PyData → PyData → PyData → Option (PyData × List PyData)} {i : Nat} {x : PV} {ws : List PyData} {E : List PyData → REnv} (h0 : Ev f0 ρ ρ o0) (h1 : Ev f1 ρ ρ o1) (hv : ∀ x0 x1 p, v ws x0 x1 = some p → F [.rf ws, .pl x0, .pl x1] = some (.pl p.1, [some p.2, none, none])) (g1 : ρ[i]? = some (some x) := by rfl) (g2 : x.lst? = some ws := by rfl) (hE : ∀ w, ρ.set i (some (x.put w)) = E w := by intro _; rfl) : EvS (fCallE F (aBy i (aCons f0 (aCons f1 aNil)))) ρ (o0.bind fun x0 => o1.bind fun x1 => v ws x0 x1) E := fun z w h => by
  obtain ⟨x0, e0, q0⟩ := obind h
  obtain ⟨x1, e1, q1⟩ := obind q0
  have hh1 : ownAt ρ i = some ws := by simp only [ownAt, g1, g2]
  have hh2 : oneBy [.by i, .pl x0, .pl x1] = true := rfl
  simp only [fCallE, fCall, aBy, hh1, aCons, aNil, h0 _ e0, h1 _ e1, hh2, toPV, hv _ _ (z, w) q1, setOuts, if_true, g1, hE]
theorem ev_call3 {f0 : D1} {f1 : D1} {f2 : D1} {o0 : Option PyData} {o1 : Option PyData} {o2 : Option PyData} {ρ1 : REnv} {ρ2 : REnv} {ρ3 : REnv} {v : PyData → PyData → PyData → Option PyData} (h0 : Ev f0 ρ ρ1 o0) (h1 : Ev f1 ρ1 ρ2 o1) (h2 : Ev f2 ρ2 ρ3 o2) (hv : ∀ x0 x1 x2 d, v x0 x1 x2 = some d → F [.pl x0, .pl x1, .pl x2] = some (.pl d, [none, none, none])) : Ev (fCallE F (aCons f0 (aCons f1 (aCons f2 aNil)))) ρ ρ3 (o0.bind fun x0 => o1.bind fun x1 => o2.bind fun x2 => v x0 x1 x2) := fun z h => by
  obtain ⟨x0, e0, q0⟩ := obind h
  obtain ⟨x1, e1, q1⟩ := obind q0
  obtain ⟨x2, e2, q2⟩ := obind q1
  simp only [fCallE, fCall, aCons, aNil, h0 _ e0, h1 _ e1, h2 _ e2, oneBy, toPV, hv _ _ _ _ q2, setOuts, if_true]
theorem ev_callX3 {f0 : D1} {f1 : D1} {f2 : D1} {o0 : Option PyData} {o1 : Option PyData} {o2 : Option PyData} {ρ1 : REnv} {ρ2 : REnv} {ρ3 : REnv} {v : PyData → PyData → PyData → Option (List PyData)} (h0 : Ev f0 ρ ρ1 o0) (h1 : Ev f1 ρ1 ρ2 o1) (h2 : Ev f2 ρ2 ρ3 o2) (hv : ∀ x0 x1 x2 d, v x0 x1 x2 = some d → F [.pl x0, .pl x1, .pl x2] = some (.fr d, [none, none, none])) : Ev (fCallE F (aCons f0 (aCons f1 (aCons f2 aNil)))) ρ ρ3 (o0.bind fun x0 => o1.bind fun x1 => o2.bind fun x2 => (v x0 x1 x2).bind fun ds => some (.list ds)) := fun z h => by
  obtain ⟨x0, e0, q0⟩ := obind h
  obtain ⟨x1, e1, q1⟩ := obind q0
  obtain ⟨x2, e2, q2⟩ := obind q1
  obtain ⟨ds, e9, q9⟩ := obind q2
  cases q9
  simp only [fCallE, fCall, aCons, aNil, h0 _ e0, h1 _ e1, h2 _ e2, oneBy, toPV, hv _ _ _ _ e9, setOuts, if_true]
theorem ev_callF3 {f0 : D1} {f1 : D1} {f2 : D1} {o0 : Option PyData} {o1 : Option PyData} {o2 : Option PyData} {ρ1 : REnv} {ρ2 : REnv} {ρ3 : REnv} {v : PyData → PyData → PyData → Option (List PyData)} (h0 : Ev f0 ρ ρ1 o0) (h1 : Ev f1 ρ1 ρ2 o1) (h2 : Ev f2 ρ2 ρ3 o2) (hv : ∀ x0 x1 x2 d, v x0 x1 x2 = some d → F [.pl x0, .pl x1, .pl x2] = some (.fr d, [none, none, none])) : Ev (fCallF F (aCons f0 (aCons f1 (aCons f2 aNil)))) ρ ρ3 (o0.bind fun x0 => o1.bind fun x1 => o2.bind fun x2 => v x0 x1 x2) := fun z h => by
  obtain ⟨x0, e0, q0⟩ := obind h
  obtain ⟨x1, e1, q1⟩ := obind q0
  obtain ⟨x2, e2, q2⟩ := obind q1
  simp [fCallF, aCons, aNil, h0 _ e0, h1 _ e1, h2 _ e2, isPl, toPV, hv _ _ _ _ q2]
theorem evs_call3 {f0 : D1} {f1 : D1} {f2 : D1} {o0 : Option PyData} {o1 : Option PyData} {o2 : Option PyData} {v : List PyData → PyData → PyData → PyData → Option (PyData × List PyData)} {i : Nat} {x : PV} {ws : List PyData} {E : List PyData → REnv} (h0 : Ev f0 ρ ρ o0) (h1 : Ev f1 ρ ρ o1) (h2 : Ev f2 ρ ρ o2) (hv : ∀ x0 x1 x2 p, v ws x0 x1 x2 = some p → F [.rf ws, .pl x0, .pl x1, .pl x2] = some (.pl p.1, [some p.2, none, none, none])) (g1 : ρ[i]? = some (some x) := by rfl) (g2 : x.lst? = some ws := by rfl) (hE : ∀ w, ρ.set i (some (x.put w)) = E w := by intro _; rfl) : EvS (fCallE F (aBy i (aCons f0 (aCons f1 (aCons f2 aNil))))) ρ (o0.bind fun x0 => o1.bind fun x1 => o2.bind fun x2 => v ws x0 x1 x2) E := fun z w h => by
  obtain ⟨x0, e0, q0⟩ := obind h
  obtain ⟨x1, e1, q1⟩ := obind q0
  obtain ⟨x2, e2, q2⟩ := obind q1
  have hh1 : ownAt ρ i = some ws := by simp only [ownAt, g1, g2]
  have hh2 : oneBy [.by i, .pl x0, .pl x1, .pl x2] = true := rfl
  simp only [fCallE, fCall, aBy, hh1, aCons, aNil, h0 _ e0, h1 _ e1, h2 _ e2, hh2, toPV, hv _ _ _ (z, w) q2, setOuts, if_true, g1, hE]
theorem ev_call4 {f0 : D1} {f1 : D1} {f2 : D1} {f3 : D1} {o0 : Option PyData} {o1 : Option PyData} {o2 : Option PyData} {o3 : Option PyData} {ρ1 : REnv} {ρ2 : REnv} {ρ3 : REnv} {ρ4 : REnv} {v : PyData → PyData → PyData → PyData → Option PyData} (h0 : Ev f0 ρ ρ1 o0) (h1 : Ev f1 ρ1 ρ2 o1) (h2 : Ev f2 ρ2 ρ3 o2) (h3 : Ev f3 ρ3 ρ4 o3) (hv : ∀ x0 x1 x2 x3 d, v x0 x1 x2 x3 = some d → F [.pl x0, .pl x1, .pl x2, .pl x3] = some (.pl d, [none, none, none, none])) : Ev (fCallE F (aCons f0 (aCons f1 (aCons f2 (aCons f3 aNil))))) ρ ρ4 (o0.bind fun x0 => o1.bind fun x1 => o2.bind fun x2 => o3.bind fun x3 => v x0 x1 x2 x3) := fun z h => by
  obtain ⟨x0, e0, q0⟩ := obind h
  obtain ⟨x1, e1, q1⟩ := obind q0
  obtain ⟨x2, e2, q2⟩ := obind q1
  obtain ⟨x3, e3, q3⟩ := obind q2
  simp only [fCallE, fCall, aCons, aNil, h0 _ e0, h1 _ e1, h2 _ e2, h3 _ e3, oneBy, toPV, hv _ _ _ _ _ q3, setOuts, if_true]
theorem ev_callX4 {f0 : D1} {f1 : D1} {f2 : D1} {f3 : D1} {o0 : Option PyData} {o1 : Option PyData} {o2 : Option PyData} {o3 : Option PyData} {ρ1 : REnv} {ρ2 : REnv} {ρ3 : REnv} {ρ4 : REnv} {v : PyData → PyData → PyData → PyData → Option (List PyData)} (h0 : Ev f0 ρ ρ1 o0) (h1 : Ev f1 ρ1 ρ2 o1) (h2 : Ev f2 ρ2 ρ3 o2) (h3 : Ev f3 ρ3 ρ4 o3) (hv : ∀ x0 x1 x2 x3 d, v x0 x1 x2 x3 = some d → F [.pl x0, .pl x1, .pl x2, .pl x3] = some (.fr d, [none, none, none, none])) : Ev (fCallE F (aCons f0 (aCons f1 (aCons f2 (aCons f3 aNil))))) ρ ρ4 (o0.bind fun x0 => o1.bind fun x1 => o2.bind fun x2 => o3.bind fun x3 => (v x0 x1 x2 x3).bind fun ds => some (.list ds)) := fun z h => by
  obtain ⟨x0, e0, q0⟩ := obind h
  obtain ⟨x1, e1, q1⟩ := obind q0
  obtain ⟨x2, e2, q2⟩ := obind q1
  obtain ⟨x3, e3, q3⟩ := obind q2
  obtain ⟨ds, e9, q9⟩ := obind q3
  cases q9
  simp only [fCallE, fCall, aCons, aNil, h0 _ e0, h1 _ e1, h2 _ e2, h3 _ e3, oneBy, toPV, hv _ _ _ _ _ e9, setOuts, if_true]
theorem ev_callF4 {f0 : D1} {f1 : D1} {f2 : D1} {f3 : D1} {o0 : Option PyData} {o1 : Option PyData} {o2 : Option PyData} {o3 : Option PyData} {ρ1 : REnv} {ρ2 : REnv} {ρ3 : REnv} {ρ4 : REnv} {v : PyData → PyData → PyData → PyData → Option (List PyData)} (h0 : Ev f0 ρ ρ1 o0) (h1 : Ev f1 ρ1 ρ2 o1) (h2 : Ev f2 ρ2 ρ3 o2) (h3 : Ev f3 ρ3 ρ4 o3) (hv : ∀ x0 x1 x2 x3 d, v x0 x1 x2 x3 = some d → F [.pl x0, .pl x1, .pl x2, .pl x3] = some (.fr d, [none, none, none, none])) : Ev (fCallF F (aCons f0 (aCons f1 (aCons f2 (aCons f3 aNil))))) ρ ρ4 (o0.bind fun x0 => o1.bind fun x1 => o2.bind fun x2 => o3.bind fun x3 => v x0 x1 x2 x3) := fun z h => by
  obtain ⟨x0, e0, q0⟩ := obind h
  obtain ⟨x1, e1, q1⟩ := obind q0
  obtain ⟨x2, e2, q2⟩ := obind q1
  obtain ⟨x3, e3, q3⟩ := obind q2
  simp [fCallF, aCons, aNil, h0 _ e0, h1 _ e1, h2 _ e2, h3 _ e3, isPl, toPV, hv _ _ _ _ _ q3]
theorem evs_call4 {f0 : D1} {f1 : D1} {f2 : D1} {f3 : D1} {o0 : Option PyData} {o1 : Option PyData} {o2 : Option PyData} {o3 : Option PyData} {v : List PyData → PyData → PyData → PyData → PyData → Option (PyData × List PyData)} {i : Nat} {x : PV} {ws : List PyData} {E : List PyData → REnv} (h0 : Ev f0 ρ ρ o0) (h1 : Ev f1 ρ ρ o1) (h2 : Ev f2 ρ ρ o2) (h3 : Ev f3 ρ ρ o3) (hv : ∀ x0 x1 x2 x3 p, v ws x0 x1 x2 x3 = some p → F [.rf ws, .pl x0, .pl x1, .pl x2, .pl x3] = some (.pl p.1, [some p.2, none, none, none, none])) (g1 : ρ[i]? = some (some x) := by rfl) (g2 : x.lst? = some ws := by rfl) (hE : ∀ w, ρ.set i (some (x.put w)) = E w := by intro _; rfl) : EvS (fCallE F (aBy i (aCons f0 (aCons f1 (aCons f2 (aCons f3 aNil)))))) ρ (o0.bind fun x0 => o1.bind fun x1 => o2.bind fun x2 => o3.bind fun x3 => v ws x0 x1 x2 x3) E := fun z w h => by
  obtain ⟨x0, e0, q0⟩ := obind h
  obtain ⟨x1, e1, q1⟩ := obind q0
  obtain ⟨x2, e2, q2⟩ := obind q1
  obtain ⟨x3, e3, q3⟩ := obind q2
  have hh1 : ownAt ρ i = some ws := by simp only [ownAt, g1, g2]
  have hh2 : oneBy [.by i, .pl x0, .pl x1, .pl x2, .pl x3] = true := rfl
  simp only [fCallE, fCall, aBy, hh1, aCons, aNil, h0 _ e0, h1 _ e1, h2 _ e2, h3 _ e3, hh2, toPV, hv _ _ _ _ (z, w) q3, setOuts, if_true, g1, hE]
theorem ev_call5 {f0 : D1} {f1 : D1} {f2 : D1} {f3 : D1} {f4 : D1} {o0 : Option PyData} {o1 : Option PyData} {o2 : Option PyData} {o3 : Option PyData} {o4 : Option PyData} {ρ1 : REnv} {ρ2 : REnv} {ρ3 : REnv} {ρ4 : REnv} {ρ5 : REnv} {v : PyData → PyData → PyData → PyData → PyData → Option PyData} (h0 : Ev f0 ρ ρ1 o0) (h1 : Ev f1 ρ1 ρ2 o1) (h2 : Ev f2 ρ2 ρ3 o2) (h3 : Ev f3 ρ3 ρ4 o3) (h4 : Ev f4 ρ4 ρ5 o4) (hv : ∀ x0 x1 x2 x3 x4 d, v x0 x1 x2 x3 x4 = some d → F [.pl x0, .pl x1, .pl x2, .pl x3, .pl x4] = some (.pl d, [none, none, none, none, none])) : Ev (fCallE F (aCons f0 (aCons f1 (aCons f2 (aCons f3 (aCons f4 aNil)))))) ρ ρ5 (o0.bind fun x0 => o1.bind fun x1 => o2.bind fun x2 => o3.bind fun x3 => o4.bind fun x4 => v x0 x1 x2 x3 x4) := fun z h => by
  obtain ⟨x0, e0, q0⟩ := obind h
  obtain ⟨x1, e1, q1⟩ := obind q0
  obtain ⟨x2, e2, q2⟩ := obind q1
  obtain ⟨x3, e3, q3⟩ := obind q2
  obtain ⟨x4, e4, q4⟩ := obind q3
  simp only [fCallE, fCall, aCons, aNil, h0 _ e0, h1 _ e1, h2 _ e2, h3 _ e3, h4 _ e4, oneBy, toPV, hv _ _ _ _ _ _ q4, setOuts, if_true]
theorem ev_callX5 {f0 : D1} {f1 : D1} {f2 : D1} {f3 : D1} {f4 : D1} {o0 : Option PyData} {o1 : Option PyData} {o2 : Option PyData} {o3 : Option PyData} {o4 : Option PyData} {ρ1 : REnv} {ρ2 : REnv} {ρ3 : REnv} {ρ4 : REnv} {ρ5 : REnv} {v : PyData → PyData → PyData → PyData → PyData → Option (List PyData)} (h0 : Ev f0 ρ ρ1 o0) (h1 : Ev f1 ρ1 ρ2 o1) (h2 : Ev f2 ρ2 ρ3 o2) (h3 : Ev f3 ρ3 ρ4 o3) (h4 : Ev f4 ρ4 ρ5 o4) (hv : ∀ x0 x1 x2 x3 x4 d, v x0 x1 x2 x3 x4 = some d → F [.pl x0, .pl x1, .pl x2, .pl x3, .pl x4] = some (.fr d, [none, none, none, none, none])) : Ev (fCallE F (aCons f0 (aCons f1 (aCons f2 (aCons f3 (aCons f4 aNil)))))) ρ ρ5 (o0.bind fun x0 => o1.bind fun x1 => o2.bind fun x2 => o3.bind fun x3 => o4.bind fun x4 => (v x0 x1 x2 x3 x4).bind fun ds => some (.list ds)) := fun z h => by
  obtain ⟨x0, e0, q0⟩ := obind h
  obtain ⟨x1, e1, q1⟩ := obind q0
  obtain ⟨x2, e2, q2⟩ := obind q1
  obtain ⟨x3, e3, q3⟩ := obind q2
  obtain ⟨x4, e4, q4⟩ := obind q3
  obtain ⟨ds, e9, q9⟩ := obind q4
  cases q9
  simp only [fCallE, fCall, aCons, aNil, h0 _ e0, h1 _ e1, h2 _ e2, h3 _ e3, h4 _ e4, oneBy, toPV, hv _ _ _ _ _ _ e9, setOuts, if_true]
theorem ev_callF5 {f0 : D1} {f1 : D1} {f2 : D1} {f3 : D1} {f4 : D1} {o0 : Option PyData} {o1 : Option PyData} {o2 : Option PyData} {o3 : Option PyData} {o4 : Option PyData} {ρ1 : REnv} {ρ2 : REnv} {ρ3 : REnv} {ρ4 : REnv} {ρ5 : REnv} {v : PyData → PyData → PyData → PyData → PyData → Option (List PyData)} (h0 : Ev f0 ρ ρ1 o0) (h1 : Ev f1 ρ1 ρ2 o1) (h2 : Ev f2 ρ2 ρ3 o2) (h3 : Ev f3 ρ3 ρ4 o3) (h4 : Ev f4 ρ4 ρ5 o4) (hv : ∀ x0 x1 x2 x3 x4 d, v x0 x1 x2 x3 x4 = some d → F [.pl x0, .pl x1, .pl x2, .pl x3, .pl x4] = some (.fr d, [none, none, none, none, none])) : Ev (fCallF F (aCons f0 (aCons f1 (aCons f2 (aCons f3 (aCons f4 aNil)))))) ρ ρ5 (o0.bind fun x0 => o1.bind fun x1 => o2.bind fun x2 => o3.bind fun x3 => o4.bind fun x4 => v x0 x1 x2 x3 x4) := fun z h => by
  obtain ⟨x0, e0, q0⟩ := obind h
  obtain ⟨x1, e1, q1⟩ := obind q0
  obtain ⟨x2, e2, q2⟩ := obind q1
  obtain ⟨x3, e3, q3⟩ := obind q2
  obtain ⟨x4, e4, q4⟩ := obind q3
  simp [fCallF, aCons, aNil, h0 _ e0, h1 _ e1, h2 _ e2, h3 _ e3, h4 _ e4, isPl, toPV, hv _ _ _ _ _ _ q4]
theorem evs_call5 {f0 : D1} {f1 : D1} {f2 : D1} {f3 : D1} {f4 : D1} {o0 : Option PyData} {o1 : Option PyData} {o2 : Option PyData} {o3 : Option PyData} {o4 : Option PyData} {v : List PyData → PyData → PyData → PyData → PyData → PyData → Option (PyData × List PyData)} {i : Nat} {x : PV} {ws : List PyData} {E : List PyData → REnv} (h0 : Ev f0 ρ ρ o0) (h1 : Ev f1 ρ ρ o1) (h2 : Ev f2 ρ ρ o2) (h3 : Ev f3 ρ ρ o3) (h4 : Ev f4 ρ ρ o4) (hv : ∀ x0 x1 x2 x3 x4 p, v ws x0 x1 x2 x3 x4 = some p → F [.rf ws, .pl x0, .pl x1, .pl x2, .pl x3, .pl x4] = some (.pl p.1, [some p.2, none, none, none, none, none])) (g1 : ρ[i]? = some (some x) := by rfl) (g2 : x.lst? = some ws := by rfl) (hE : ∀ w, ρ.set i (some (x.put w)) = E w := by intro _; rfl) : EvS (fCallE F (aBy i (aCons f0 (aCons f1 (aCons f2 (aCons f3 (aCons f4 aNil))))))) ρ (o0.bind fun x0 => o1.bind fun x1 => o2.bind fun x2 => o3.bind fun x3 => o4.bind fun x4 => v ws x0 x1 x2 x3 x4) E := fun z w h => by
  obtain ⟨x0, e0, q0⟩ := obind h
  obtain ⟨x1, e1, q1⟩ := obind q0
  obtain ⟨x2, e2, q2⟩ := obind q1
  obtain ⟨x3, e3, q3⟩ := obind q2
  obtain ⟨x4, e4, q4⟩ := obind q3
  have hh1 : ownAt ρ i = some ws := by simp only [ownAt, g1, g2]
  have hh2 : oneBy [.by i, .pl x0, .pl x1, .pl x2, .pl x3, .pl x4] = true := rfl
  simp only [fCallE, fCall, aBy, hh1, aCons, aNil, h0 _ e0, h1 _ e1, h2 _ e2, h3 _ e3, h4 _ e4, hh2, toPV, hv _ _ _ _ _ (z, w) q4, setOuts, if_true, g1, hE]
theorem ev_call6 {f0 : D1} {f1 : D1} {f2 : D1} {f3 : D1} {f4 : D1} {f5 : D1} {o0 : Option PyData} {o1 : Option PyData} {o2 : Option PyData} {o3 : Option PyData} {o4 : Option PyData} {o5 : Option PyData} {ρ1 : REnv} {ρ2 : REnv} {ρ3 : REnv} {ρ4 : REnv} {ρ5 : REnv} {ρ6 : REnv} {v : PyData → PyData → PyData → PyData → PyData → PyData → Option PyData} (h0 : Ev f0 ρ ρ1 o0) (h1 : Ev f1 ρ1 ρ2 o1) (h2 : Ev f2 ρ2 ρ3 o2) (h3 : Ev f3 ρ3 ρ4 o3) (h4 : Ev f4 ρ4 ρ5 o4) (h5 : Ev f5 ρ5 ρ6 o5) (hv : ∀ x0 x1 x2 x3 x4 x5 d, v x0 x1 x2 x3 x4 x5 = some d → F [.pl x0, .pl x1, .pl x2, .pl x3, .pl x4, .pl x5] = some (.pl d, [none, none, none, none, none, none])) : Ev (fCallE F (aCons f0 (aCons f1 (aCons f2 (aCons f3 (aCons f4 (aCons f5 aNil))))))) ρ ρ6 (o0.bind fun x0 => o1.bind fun x1 => o2.bind fun x2 => o3.bind fun x3 => o4.bind fun x4 => o5.bind fun x5 => v x0 x1 x2 x3 x4 x5) := fun z h => by
  obtain ⟨x0, e0, q0⟩ := obind h
  obtain ⟨x1, e1, q1⟩ := obind q0
  obtain ⟨x2, e2, q2⟩ := obind q1
  obtain ⟨x3, e3, q3⟩ := obind q2
  obtain ⟨x4, e4, q4⟩ := obind q3
  obtain ⟨x5, e5, q5⟩ := obind q4
  simp only [fCallE, fCall, aCons, aNil, h0 _ e0, h1 _ e1, h2 _ e2, h3 _ e3, h4 _ e4, h5 _ e5, oneBy, toPV, hv _ _ _ _ _ _ _ q5, setOuts, if_true]
theorem ev_callX6 {f0 : D1} {f1 : D1} {f2 : D1} {f3 : D1} {f4 : D1} {f5 : D1} {o0 : Option PyData} {o1 : Option PyData} {o2 : Option PyData} {o3 : Option PyData} {o4 : Option PyData} {o5 : Option PyData} {ρ1 : REnv} {ρ2 : REnv} {ρ3 : REnv} {ρ4 : REnv} {ρ5 : REnv} {ρ6 : REnv} {v : PyData → PyData → PyData → PyData → PyData → PyData → Option (List PyData)} (h0 : Ev f0 ρ ρ1 o0) (h1 : Ev f1 ρ1 ρ2 o1) (h2 : Ev f2 ρ2 ρ3 o2) (h3 : Ev f3 ρ3 ρ4 o3) (h4 : Ev f4 ρ4 ρ5 o4) (h5 : Ev f5 ρ5 ρ6 o5) (hv : ∀ x0 x1 x2 x3 x4 x5 d, v x0 x1 x2 x3 x4 x5 = some d → F [.pl x0, .pl x1, .pl x2, .pl x3, .pl x4, .pl x5] = some (.fr d, [none, none, none, none, none, none])) : Ev (fCallE F (aCons f0 (aCons f1 (aCons f2 (aCons f3 (aCons f4 (aCons f5 aNil))))))) ρ ρ6 (o0.bind fun x0 => o1.bind fun x1 => o2.bind fun x2 => o3.bind fun x3 => o4.bind fun x4 => o5.bind fun x5 => (v x0 x1 x2 x3 x4 x5).bind fun ds => some (.list ds)) := fun z h => by
  obtain ⟨x0, e0, q0⟩ := obind h
  obtain ⟨x1, e1, q1⟩ := obind q0
  obtain ⟨x2, e2, q2⟩ := obind q1
  obtain ⟨x3, e3, q3⟩ := obind q2
  obtain ⟨x4, e4, q4⟩ := obind q3
  obtain ⟨x5, e5, q5⟩ := obind q4
  obtain ⟨ds, e9, q9⟩ := obind q5
  cases q9
  simp only [fCallE, fCall, aCons, aNil, h0 _ e0, h1 _ e1, h2 _ e2, h3 _ e3, h4 _ e4, h5 _ e5, oneBy, toPV, hv _ _ _ _ _ _ _ e9, setOuts, if_true]
theorem ev_callF6 {f0 : D1} {f1 : D1} {f2 : D1} {f3 : D1} {f4 : D1} {f5 : D1} {o0 : Option PyData} {o1 : Option PyData} {o2 : Option PyData} {o3 : Option PyData} {o4 : Option PyData} {o5 : Option PyData} {ρ1 : REnv} {ρ2 : REnv} {ρ3 : REnv} {ρ4 : REnv} {ρ5 : REnv} {ρ6 : REnv} {v : PyData → PyData → PyData → PyData → PyData → PyData → Option (List PyData)} (h0 : Ev f0 ρ ρ1 o0) (h1 : Ev f1 ρ1 ρ2 o1) (h2 : Ev f2 ρ2 ρ3 o2) (h3 : Ev f3 ρ3 ρ4 o3) (h4 : Ev f4 ρ4 ρ5 o4) (h5 : Ev f5 ρ5 ρ6 o5) (hv : ∀ x0 x1 x2 x3 x4 x5 d, v x0 x1 x2 x3 x4 x5 = some d → F [.pl x0, .pl x1, .pl x2, .pl x3, .pl x4, .pl x5] = some (.fr d, [none, none, none, none, none, none])) : Ev (fCallF F (aCons f0 (aCons f1 (aCons f2 (aCons f3 (aCons f4 (aCons f5 aNil))))))) ρ ρ6 (o0.bind fun x0 => o1.bind fun x1 => o2.bind fun x2 => o3.bind fun x3 => o4.bind fun x4 => o5.bind fun x5 => v x0 x1 x2 x3 x4 x5) := fun z h => by
  obtain ⟨x0, e0, q0⟩ := obind h
  obtain ⟨x1, e1, q1⟩ := obind q0
  obtain ⟨x2, e2, q2⟩ := obind q1
  obtain ⟨x3, e3, q3⟩ := obind q2
  obtain ⟨x4, e4, q4⟩ := obind q3
  obtain ⟨x5, e5, q5⟩ := obind q4
  simp [fCallF, aCons, aNil, h0 _ e0, h1 _ e1, h2 _ e2, h3 _ e3, h4 _ e4, h5 _ e5, isPl, toPV, hv _ _ _ _ _ _ _ q5]
theorem evs_call6 {f0 : D1} {f1 : D1} {f2 : D1} {f3 : D1} {f4 : D1} {f5 : D1} {o0 : Option PyData} {o1 : Option PyData} {o2 : Option PyData} {o3 : Option PyData} {o4 : Option PyData} {o5 : Option PyData} {v : List PyData → PyData → PyData → PyData → PyData → PyData → PyData → Option (PyData × List PyData)} {i : Nat} {x : PV} {ws : List PyData} {E : List PyData → REnv} (h0 : Ev f0 ρ ρ o0) (h1 : Ev f1 ρ ρ o1) (h2 : Ev f2 ρ ρ o2) (h3 : Ev f3 ρ ρ o3) (h4 : Ev f4 ρ ρ o4) (h5 : Ev f5 ρ ρ o5) (hv : ∀ x0 x1 x2 x3 x4 x5 p, v ws x0 x1 x2 x3 x4 x5 = some p → F [.rf ws, .pl x0, .pl x1, .pl x2, .pl x3, .pl x4, .pl x5] = some (.pl p.1, [some p.2, none, none, none, none, none, none])) (g1 : ρ[i]? = some (some x) := by rfl) (g2 : x.lst? = some ws := by rfl) (hE : ∀ w, ρ.set i (some (x.put w)) = E w := by intro _; rfl) : EvS (fCallE F (aBy i (aCons f0 (aCons f1 (aCons f2 (aCons f3 (aCons f4 (aCons f5 aNil)))))))) ρ (o0.bind fun x0 => o1.bind fun x1 => o2.bind fun x2 => o3.bind fun x3 => o4.bind fun x4 => o5.bind fun x5 => v ws x0 x1 x2 x3 x4 x5) E := fun z w h => by
  obtain ⟨x0, e0, q0⟩ := obind h
  obtain ⟨x1, e1, q1⟩ := obind q0
  obtain ⟨x2, e2, q2⟩ := obind q1
  obtain ⟨x3, e3, q3⟩ := obind q2
  obtain ⟨x4, e4, q4⟩ := obind q3
  obtain ⟨x5, e5, q5⟩ := obind q4
  have hh1 : ownAt ρ i = some ws := by simp only [ownAt, g1, g2]
  have hh2 : oneBy [.by i, .pl x0, .pl x1, .pl x2, .pl x3, .pl x4, .pl x5] = true := rfl
  simp only [fCallE, fCall, aBy, hh1, aCons, aNil, h0 _ e0, h1 _ e1, h2 _ e2, h3 _ e3, h4 _ e4, h5 _ e5, hh2, toPV, hv _ _ _ _ _ _ (z, w) q5, setOuts, if_true, g1, hE]
theorem ev_call7 {f0 : D1} {f1 : D1} {f2 : D1} {f3 : D1} {f4 : D1} {f5 : D1} {f6 : D1} {o0 : Option PyData} {o1 : Option PyData} {o2 : Option PyData} {o3 : Option PyData} {o4 : Option PyData} {o5 : Option PyData} {o6 : Option PyData} {ρ1 : REnv} {ρ2 : REnv} {ρ3 : REnv} {ρ4 : REnv} {ρ5 : REnv} {ρ6 : REnv} {ρ7 : REnv} {v : PyData → PyData → PyData → PyData → PyData → PyData → PyData → Option PyData} (h0 : Ev f0 ρ ρ1 o0) (h1 : Ev f1 ρ1 ρ2 o1) (h2 : Ev f2 ρ2 ρ3 o2) (h3 : Ev f3 ρ3 ρ4 o3) (h4 : Ev f4 ρ4 ρ5 o4) (h5 : Ev f5 ρ5 ρ6 o5) (h6 : Ev f6 ρ6 ρ7 o6) (hv : ∀ x0 x1 x2 x3 x4 x5 x6 d, v x0 x1 x2 x3 x4 x5 x6 = some d → F [.pl x0, .pl x1, .pl x2, .pl x3, .pl x4, .pl x5, .pl x6] = some (.pl d, [none, none, none, none, none, none, none])) : Ev (fCallE F (aCons f0 (aCons f1 (aCons f2 (aCons f3 (aCons f4 (aCons f5 (aCons f6 aNil)))))))) ρ ρ7 (o0.bind fun x0 => o1.bind fun x1 => o2.bind fun x2 => o3.bind fun x3 => o4.bind fun x4 => o5.bind fun x5 => o6.bind fun x6 => v x0 x1 x2 x3 x4 x5 x6) := fun z h => by
  obtain ⟨x0, e0, q0⟩ := obind h
  obtain ⟨x1, e1, q1⟩ := obind q0
  obtain ⟨x2, e2, q2⟩ := obind q1
  obtain ⟨x3, e3, q3⟩ := obind q2
  obtain ⟨x4, e4, q4⟩ := obind q3
  obtain ⟨x5, e5, q5⟩ := obind q4
  obtain ⟨x6, e6, q6⟩ := obind q5
  simp only [fCallE, fCall, aCons, aNil, h0 _ e0, h1 _ e1, h2 _ e2, h3 _ e3, h4 _ e4, h5 _ e5, h6 _ e6, oneBy, toPV, hv _ _ _ _ _ _ _ _ q6, setOuts, if_true]
theorem ev_callX7 {f0 : D1} {f1 : D1} {f2 : D1} {f3 : D1} {f4 : D1} {f5 : D1} {f6 : D1} {o0 : Option PyData} {o1 : Option PyData} {o2 : Option PyData} {o3 : Option PyData} {o4 : Option PyData} {o5 : Option PyData} {o6 : Option PyData} {ρ1 : REnv} {ρ2 : REnv} {ρ3 : REnv} {ρ4 : REnv} {ρ5 : REnv} {ρ6 : REnv} {ρ7 : REnv} {v : PyData → PyData → PyData → PyData → PyData → PyData → PyData → Option (List PyData)} (h0 : Ev f0 ρ ρ1 o0) (h1 : Ev f1 ρ1 ρ2 o1) (h2 : Ev f2 ρ2 ρ3 o2) (h3 : Ev f3 ρ3 ρ4 o3) (h4 : Ev f4 ρ4 ρ5 o4) (h5 : Ev f5 ρ5 ρ6 o5) (h6 : Ev f6 ρ6 ρ7 o6) (hv : ∀ x0 x1 x2 x3 x4 x5 x6 d, v x0 x1 x2 x3 x4 x5 x6 = some d → F [.pl x0, .pl x1, .pl x2, .pl x3, .pl x4, .pl x5, .pl x6] = some (.fr d, [none, none, none, none, none, none, none])) : Ev (fCallE F (aCons f0 (aCons f1 (aCons f2 (aCons f3 (aCons f4 (aCons f5 (aCons f6 aNil)))))))) ρ ρ7 (o0.bind fun x0 => o1.bind fun x1 => o2.bind fun x2 => o3.bind fun x3 => o4.bind fun x4 => o5.bind fun x5 => o6.bind fun x6 => (v x0 x1 x2 x3 x4 x5 x6).bind fun ds => some (.list ds)) := fun z h => by
  obtain ⟨x0, e0, q0⟩ := obind h
  obtain ⟨x1, e1, q1⟩ := obind q0
  obtain ⟨x2, e2, q2⟩ := obind q1
  obtain ⟨x3, e3, q3⟩ := obind q2
  obtain ⟨x4, e4, q4⟩ := obind q3
  obtain ⟨x5, e5, q5⟩ := obind q4
  obtain ⟨x6, e6, q6⟩ := obind q5
  obtain ⟨ds, e9, q9⟩ := obind q6
  cases q9
  simp only [fCallE, fCall, aCons, aNil, h0 _ e0, h1 _ e1, h2 _ e2, h3 _ e3, h4 _ e4, h5 _ e5, h6 _ e6, oneBy, toPV, hv _ _ _ _ _ _ _ _ e9, setOuts, if_true]
theorem ev_callF7 {f0 : D1} {f1 : D1} {f2 : D1} {f3 : D1} {f4 : D1} {f5 : D1} {f6 : D1} {o0 : Option PyData} {o1 : Option PyData} {o2 : Option PyData} {o3 : Option PyData} {o4 : Option PyData} {o5 : Option PyData} {o6 : Option PyData} {ρ1 : REnv} {ρ2 : REnv} {ρ3 : REnv} {ρ4 : REnv} {ρ5 : REnv} {ρ6 : REnv} {ρ7 : REnv} {v : PyData → PyData → PyData → PyData → PyData → PyData → PyData → Option (List PyData)} (h0 : Ev f0 ρ ρ1 o0) (h1 : Ev f1 ρ1 ρ2 o1) (h2 : Ev f2 ρ2 ρ3 o2) (h3 : Ev f3 ρ3 ρ4 o3) (h4 : Ev f4 ρ4 ρ5 o4) (h5 : Ev f5 ρ5 ρ6 o5) (h6 : Ev f6 ρ6 ρ7 o6) (hv : ∀ x0 x1 x2 x3 x4 x5 x6 d, v x0 x1 x2 x3 x4 x5 x6 = some d → F [.pl x0, .pl x1, .pl x2, .pl x3, .pl x4, .pl x5, .pl x6] = some (.fr d, [none, none, none, none, none, none, none])) : Ev (fCallF F (aCons f0 (aCons f1 (aCons f2 (aCons f3 (aCons f4 (aCons f5 (aCons f6 aNil)))))))) ρ ρ7 (o0.bind fun x0 => o1.bind fun x1 => o2.bind fun x2 => o3.bind fun x3 => o4.bind fun x4 => o5.bind fun x5 => o6.bind fun x6 => v x0 x1 x2 x3 x4 x5 x6) := fun z h => by
  obtain ⟨x0, e0, q0⟩ := obind h
  obtain ⟨x1, e1, q1⟩ := obind q0
  obtain ⟨x2, e2, q2⟩ := obind q1
  obtain ⟨x3, e3, q3⟩ := obind q2
  obtain ⟨x4, e4, q4⟩ := obind q3
  obtain ⟨x5, e5, q5⟩ := obind q4
  obtain ⟨x6, e6, q6⟩ := obind q5
  simp [fCallF, aCons, aNil, h0 _ e0, h1 _ e1, h2 _ e2, h3 _ e3, h4 _ e4, h5 _ e5, h6 _ e6, isPl, toPV, hv _ _ _ _ _ _ _ _ q6]
theorem evs_call7 {f0 : D1} {f1 : D1} {f2 : D1} {f3 : D1} {f4 : D1} {f5 : D1} {f6 : D1} {o0 : Option PyData} {o1 : Option PyData} {o2 : Option PyData} {o3 : Option PyData} {o4 : Option PyData} {o5 : Option PyData} {o6 : Option PyData} {v : List PyData → PyData → PyData → PyData → PyData → PyData → PyData → PyData → Option (PyData × List PyData)} {i : Nat} {x : PV} {ws : List PyData} {E : List PyData → REnv} (h0 : Ev f0 ρ ρ o0) (h1 : Ev f1 ρ ρ o1) (h2 : Ev f2 ρ ρ o2) (h3 : Ev f3 ρ ρ o3) (h4 : Ev f4 ρ ρ o4) (h5 : Ev f5 ρ ρ o5) (h6 : Ev f6 ρ ρ o6) (hv : ∀ x0 x1 x2 x3 x4 x5 x6 p, v ws x0 x1 x2 x3 x4 x5 x6 = some p → F [.rf ws, .pl x0, .pl x1, .pl x2, .pl x3, .pl x4, .pl x5, .pl x6] = some (.pl p.1, [some p.2, none, none, none, none, none, none, none])) (g1 : ρ[i]? = some (some x) := by rfl) (g2 : x.lst? = some ws := by rfl) (hE : ∀ w, ρ.set i (some (x.put w)) = E w := by intro _; rfl) : EvS (fCallE F (aBy i (aCons f0 (aCons f1 (aCons f2 (aCons f3 (aCons f4 (aCons f5 (aCons f6 aNil))))))))) ρ (o0.bind fun x0 => o1.bind fun x1 => o2.bind fun x2 => o3.bind fun x3 => o4.bind fun x4 => o5.bind fun x5 => o6.bind fun x6 => v ws x0 x1 x2 x3 x4 x5 x6) E := fun z w h => by
  obtain ⟨x0, e0, q0⟩ := obind h
  obtain ⟨x1, e1, q1⟩ := obind q0
  obtain ⟨x2, e2, q2⟩ := obind q1
  obtain ⟨x3, e3, q3⟩ := obind q2
  obtain ⟨x4, e4, q4⟩ := obind q3
  obtain ⟨x5, e5, q5⟩ := obind q4
  obtain ⟨x6, e6, q6⟩ := obind q5
  have hh1 : ownAt ρ i = some ws := by simp only [ownAt, g1, g2]
  have hh2 : oneBy [.by i, .pl x0, .pl x1, .pl x2, .pl x3, .pl x4, .pl x5, .pl x6] = true := rfl
  simp only [fCallE, fCall, aBy, hh1, aCons, aNil, h0 _ e0, h1 _ e1, h2 _ e2, h3 _ e3, h4 _ e4, h5 _ e5, h6 _ e6, hh2, toPV, hv _ _ _ _ _ _ _ (z, w) q6, setOuts, if_true, g1, hE]
theorem ev_call8 {f0 : D1} {f1 : D1} {f2 : D1} {f3 : D1} {f4 : D1} {f5 : D1} {f6 : D1} {f7 : D1} {o0 : Option PyData} {o1 : Option PyData} {o2 : Option PyData} {o3 : Option PyData} {o4 : Option PyData} {o5 : Option PyData} {o6 : Option PyData} {o7 : Option PyData} {ρ1 : REnv} {ρ2 : REnv} {ρ3 : REnv} {ρ4 : REnv} {ρ5 : REnv} {ρ6 : REnv} {ρ7 : REnv} {ρ8 : REnv} {v : PyData → PyData → PyData → PyData → PyData → PyData → PyData → PyData → Option PyData} (h0 : Ev f0 ρ ρ1 o0) (h1 : Ev f1 ρ1 ρ2 o1) (h2 : Ev f2 ρ2 ρ3 o2) (h3 : Ev f3 ρ3 ρ4 o3) (h4 : Ev f4 ρ4 ρ5 o4) (h5 : Ev f5 ρ5 ρ6 o5) (h6 : Ev f6 ρ6 ρ7 o6) (h7 : Ev f7 ρ7 ρ8 o7) (hv : ∀ x0 x1 x2 x3 x4 x5 x6 x7 d, v x0 x1 x2 x3 x4 x5 x6 x7 = some d → F [.pl x0, .pl x1, .pl x2, .pl x3, .pl x4, .pl x5, .pl x6, .pl x7] = some (.pl d, [none, none, none, none, none, none, none, none])) : Ev (fCallE F (aCons f0 (aCons f1 (aCons f2 (aCons f3 (aCons f4 (aCons f5 (aCons f6 (aCons f7 aNil))))))))) ρ ρ8 (o0.bind fun x0 => o1.bind fun x1 => o2.bind fun x2 => o3.bind fun x3 => o4.bind fun x4 => o5.bind fun x5 => o6.bind fun x6 => o7.bind fun x7 => v x0 x1 x2 x3 x4 x5 x6 x7) := fun z h => by
  obtain ⟨x0, e0, q0⟩ := obind h
  obtain ⟨x1, e1, q1⟩ := obind q0
  obtain ⟨x2, e2, q2⟩ := obind q1
  obtain ⟨x3, e3, q3⟩ := obind q2
  obtain ⟨x4, e4, q4⟩ := obind q3
  obtain ⟨x5, e5, q5⟩ := obind q4
  obtain ⟨x6, e6, q6⟩ := obind q5
  obtain ⟨x7, e7, q7⟩ := obind q6
  simp only [fCallE, fCall, aCons, aNil, h0 _ e0, h1 _ e1, h2 _ e2, h3 _ e3, h4 _ e4, h5 _ e5, h6 _ e6, h7 _ e7, oneBy, toPV, hv _ _ _ _ _ _ _ _ _ q7, setOuts, if_true]
theorem ev_callX8 {f0 : D1} {f1 : D1} {f2 : D1} {f3 : D1} {f4 : D1} {f5 : D1} {f6 : D1} {f7 : D1} {o0 : Option PyData} {o1 : Option PyData} {o2 : Option PyData} {o3 : Option PyData} {o4 : Option PyData} {o5 : Option PyData} {o6 : Option PyData} {o7 : Option PyData} {ρ1 : REnv} {ρ2 : REnv} {ρ3 : REnv} {ρ4 : REnv} {ρ5 : REnv} {ρ6 : REnv} {ρ7 : REnv} {ρ8 : REnv} {v : PyData → PyData → PyData → PyData → PyData → PyData → PyData → PyData → Option (List PyData)} (h0 : Ev f0 ρ ρ1 o0) (h1 : Ev f1 ρ1 ρ2 o1) (h2 : Ev f2 ρ2 ρ3 o2) (h3 : Ev f3 ρ3 ρ4 o3) (h4 : Ev f4 ρ4 ρ5 o4) (h5 : Ev f5 ρ5 ρ6 o5) (h6 : Ev f6 ρ6 ρ7 o6) (h7 : Ev f7 ρ7 ρ8 o7) (hv : ∀ x0 x1 x2 x3 x4 x5 x6 x7 d, v x0 x1 x2 x3 x4 x5 x6 x7 = some d → F [.pl x0, .pl x1, .pl x2, .pl x3, .pl x4, .pl x5, .pl x6, .pl x7] = some (.fr d, [none, none, none, none, none, none, none, none])) : Ev (fCallE F (aCons f0 (aCons f1 (aCons f2 (aCons f3 (aCons f4 (aCons f5 (aCons f6 (aCons f7 aNil))))))))) ρ ρ8 (o0.bind fun x0 => o1.bind fun x1 => o2.bind fun x2 => o3.bind fun x3 => o4.bind fun x4 => o5.bind fun x5 => o6.bind fun x6 => o7.bind fun x7 => (v x0 x1 x2 x3 x4 x5 x6 x7).bind fun ds => some (.list ds)) := fun z h => by
  obtain ⟨x0, e0, q0⟩ := obind h
  obtain ⟨x1, e1, q1⟩ := obind q0
  obtain ⟨x2, e2, q2⟩ := obind q1
  obtain ⟨x3, e3, q3⟩ := obind q2
  obtain ⟨x4, e4, q4⟩ := obind q3
  obtain ⟨x5, e5, q5⟩ := obind q4
  obtain ⟨x6, e6, q6⟩ := obind q5
  obtain ⟨x7, e7, q7⟩ := obind q6
  obtain ⟨ds, e9, q9⟩ := obind q7
  cases q9
  simp only [fCallE, fCall, aCons, aNil, h0 _ e0, h1 _ e1, h2 _ e2, h3 _ e3, h4 _ e4, h5 _ e5, h6 _ e6, h7 _ e7, oneBy, toPV, hv _ _ _ _ _ _ _ _ _ e9, setOuts, if_true]
theorem ev_callF8 {f0 : D1} {f1 : D1} {f2 : D1} {f3 : D1} {f4 : D1} {f5 : D1} {f6 : D1} {f7 : D1} {o0 : Option PyData} {o1 : Option PyData} {o2 : Option PyData} {o3 : Option PyData} {o4 : Option PyData} {o5 : Option PyData} {o6 : Option PyData} {o7 : Option PyData} {ρ1 : REnv} {ρ2 : REnv} {ρ3 : REnv} {ρ4 : REnv} {ρ5 : REnv} {ρ6 : REnv} {ρ7 : REnv} {ρ8 : REnv} {v : PyData → PyData → PyData → PyData → PyData → PyData → PyData → PyData → Option (List PyData)} (h0 : Ev f0 ρ ρ1 o0) (h1 : Ev f1 ρ1 ρ2 o1) (h2 : Ev f2 ρ2 ρ3 o2) (h3 : Ev f3 ρ3 ρ4 o3) (h4 : Ev f4 ρ4 ρ5 o4) (h5 : Ev f5 ρ5 ρ6 o5) (h6 : Ev f6 ρ6 ρ7 o6) (h7 : Ev f7 ρ7 ρ8 o7) (hv : ∀ x0 x1 x2 x3 x4 x5 x6 x7 d, v x0 x1 x2 x3 x4 x5 x6 x7 = some d → F [.pl x0, .pl x1, .pl x2, .pl x3, .pl x4, .pl x5, .pl x6, .pl x7] = some (.fr d, [none, none, none, none, none, none, none, none])) : Ev (fCallF F (aCons f0 (aCons f1 (aCons f2 (aCons f3 (aCons f4 (aCons f5 (aCons f6 (aCons f7 aNil))))))))) ρ ρ8 (o0.bind fun x0 => o1.bind fun x1 => o2.bind fun x2 => o3.bind fun x3 => o4.bind fun x4 => o5.bind fun x5 => o6.bind fun x6 => o7.bind fun x7 => v x0 x1 x2 x3 x4 x5 x6 x7) := fun z h => by
  obtain ⟨x0, e0, q0⟩ := obind h
  obtain ⟨x1, e1, q1⟩ := obind q0
  obtain ⟨x2, e2, q2⟩ := obind q1
  obtain ⟨x3, e3, q3⟩ := obind q2
  obtain ⟨x4, e4, q4⟩ := obind q3
  obtain ⟨x5, e5, q5⟩ := obind q4
  obtain ⟨x6, e6, q6⟩ := obind q5
  obtain ⟨x7, e7, q7⟩ := obind q6
  simp [fCallF, aCons, aNil, h0 _ e0, h1 _ e1, h2 _ e2, h3 _ e3, h4 _ e4, h5 _ e5, h6 _ e6, h7 _ e7, isPl, toPV, hv _ _ _ _ _ _ _ _ _ q7]
theorem evs_call8 {f0 : D1} {f1 : D1} {f2 : D1} {f3 : D1} {f4 : D1} {f5 : D1} {f6 : D1} {f7 : D1} {o0 : Option PyData} {o1 : Option PyData} {o2 : Option PyData} {o3 : Option PyData} {o4 : Option PyData} {o5 : Option PyData} {o6 : Option PyData} {o7 : Option PyData} {v : List PyData → PyData → PyData → PyData → PyData → PyData → PyData → PyData → PyData → Option (PyData × List PyData)} {i : Nat} {x : PV} {ws : List PyData} {E : List PyData → REnv} (h0 : Ev f0 ρ ρ o0) (h1 : Ev f1 ρ ρ o1) (h2 : Ev f2 ρ ρ o2) (h3 : Ev f3 ρ ρ o3) (h4 : Ev f4 ρ ρ o4) (h5 : Ev f5 ρ ρ o5) (h6 : Ev f6 ρ ρ o6) (h7 : Ev f7 ρ ρ o7) (hv : ∀ x0 x1 x2 x3 x4 x5 x6 x7 p, v ws x0 x1 x2 x3 x4 x5 x6 x7 = some p → F [.rf ws, .pl x0, .pl x1, .pl x2, .pl x3, .pl x4, .pl x5, .pl x6, .pl x7] = some (.pl p.1, [some p.2, none, none, none, none, none, none, none, none])) (g1 : ρ[i]? = some (some x) := by rfl) (g2 : x.lst? = some ws := by rfl) (hE : ∀ w, ρ.set i (some (x.put w)) = E w := by intro _; rfl) : EvS (fCallE F (aBy i (aCons f0 (aCons f1 (aCons f2 (aCons f3 (aCons f4 (aCons f5 (aCons f6 (aCons f7 aNil)))))))))) ρ (o0.bind fun x0 => o1.bind fun x1 => o2.bind fun x2 => o3.bind fun x3 => o4.bind fun x4 => o5.bind fun x5 => o6.bind fun x6 => o7.bind fun x7 => v ws x0 x1 x2 x3 x4 x5 x6 x7) E := fun z w h => by
  obtain ⟨x0, e0, q0⟩ := obind h
  obtain ⟨x1, e1, q1⟩ := obind q0
  obtain ⟨x2, e2, q2⟩ := obind q1
  obtain ⟨x3, e3, q3⟩ := obind q2
  obtain ⟨x4, e4, q4⟩ := obind q3
  obtain ⟨x5, e5, q5⟩ := obind q4
  obtain ⟨x6, e6, q6⟩ := obind q5
  obtain ⟨x7, e7, q7⟩ := obind q6
  have hh1 : ownAt ρ i = some ws := by simp only [ownAt, g1, g2]
  have hh2 : oneBy [.by i, .pl x0, .pl x1, .pl x2, .pl x3, .pl x4, .pl x5, .pl x6, .pl x7] = true := rfl
  simp only [fCallE, fCall, aBy, hh1, aCons, aNil, h0 _ e0, h1 _ e1, h2 _ e2, h3 _ e3, h4 _ e4, h5 _ e5, h6 _ e6, h7 _ e7, hh2, toPV, hv _ _ _ _ _ _ _ _ (z, w) q7, setOuts, if_true, g1, hE]
end
section
variable {S : Type} {ρ ρ1 : REnv} {E : S → REnv} {fa fb fc fe : D1} {ft fu : B1} {a b : Option PyData} {ma mb : Option (PyData × S)} {ta tb : Option Bool} {mt mu : Option (Bool × S)} {la fi : A1} {l : Option (List PyData)} {ml : Option (List PyData × S)}
theorem evs_pure {α : Type} {f : REnv → Option (α × REnv)} {o : Option α} (w : S) (ha : Ev f ρ (E w) o) : EvS f ρ (o.bind fun d => some (d, w)) E := fun z s h => by
  obtain ⟨d, e, q⟩ := obind h; cases q; exact ha _ e
theorem evs_1 {g : PyData → Option PyData} (ha : EvS fa ρ ma E) : EvS (f1 g fa) ρ (ma.bind fun p => (g p.1).bind fun z => some (z, p.2)) E := fun z s h => by
  obtain ⟨⟨x, w⟩, e, q⟩ := obind h; obtain ⟨y, e2, q2⟩ := obind q; cases q2
  simp only [f1, ha _ _ e, e2]
theorem evs_2ep {g : G2} {ob : S → Option PyData} (ha : EvS fa ρ ma E) (hb : ∀ w, Ev fb (E w) (E w) (ob w)) : EvS (f2 g fa fb) ρ (ma.bind fun p => (ob p.2).bind fun y => (g p.1 y).bind fun z => some (z, p.2)) E := fun z s h => by
  obtain ⟨⟨x, w⟩, e, q⟩ := obind h; obtain ⟨y, e2, q2⟩ := obind q; obtain ⟨u, e3, q3⟩ := obind q2; cases q3
  simp only [f2, ha _ _ e, hb _ _ e2, e3]
theorem evs_2pe {g : G2} (ha : Ev fa ρ ρ a) (hb : EvS fb ρ mb E) : EvS (f2 g fa fb) ρ (a.bind fun x => mb.bind fun q => (g x q.1).bind fun z => some (z, q.2)) E := fun z s h => by
  obtain ⟨x, e, q⟩ := obind h; obtain ⟨⟨y, w⟩, e2, q2⟩ := obind q; obtain ⟨u, e3, q3⟩ := obind q2; cases q3
  simp only [f2, ha _ e, hb _ _ e2, e3]
theorem evs_2ee {g : G2} {mb : S → Option (PyData × S)} (ha : EvS fa ρ ma E) (hb : ∀ w, EvS fb (E w) (mb w) E) : EvS (f2 g fa fb) ρ (ma.bind fun p => (mb p.2).bind fun q => (g p.1 q.1).bind fun z => some (z, q.2)) E := fun z s h => by
  obtain ⟨⟨x, w⟩, e, q⟩ := obind h; obtain ⟨⟨y, w'⟩, e2, q2⟩ := obind q; obtain ⟨u, e3, q3⟩ := obind q2; cases q3
  simp only [f2, ha _ _ e, hb _ _ _ e2, e3]
theorem evs_2Fpe {g : PyData → PyData → Option (List PyData)} (ha : Ev fa ρ ρ a) (hb : EvS fb ρ mb E) : EvS (f2F g fa fb) ρ (a.bind fun x => mb.bind fun q => (g x q.1).bind fun z => some (z, q.2)) E := fun z s h => by
  obtain ⟨x, e, q⟩ := obind h; obtain ⟨⟨y, w⟩, e2, q2⟩ := obind q; obtain ⟨u, e3, q3⟩ := obind q2; cases q3
  simp only [f2F, ha _ e, hb _ _ e2, e3]
theorem evs_consep {ol : S → Option (List PyData)} (ha : EvS fa ρ ma E) (hl : ∀ w, Ev la (E w) (E w) (ol w)) : EvS (fCons fa la) ρ (ma.bind fun p => (ol p.2).bind fun xs => some (p.1 :: xs, p.2)) E := fun z s h => by
  obtain ⟨⟨x, w⟩, e, q⟩ := obind h; obtain ⟨y, e2, q2⟩ := obind q; cases q2
  simp only [fCons, ha _ _ e, hl _ _ e2]
theorem evs_conspe (ha : Ev fa ρ ρ a) (hl : EvS la ρ ml E) : EvS (fCons fa la) ρ (a.bind fun x => ml.bind fun q => some (x :: q.1, q.2)) E := fun z s h => by
  obtain ⟨x, e, q⟩ := obind h; obtain ⟨⟨y, w⟩, e2, q2⟩ := obind q; cases q2
  simp only [fCons, ha _ e, hl _ _ e2]
theorem evs_consee {ml : S → Option (List PyData × S)} (ha : EvS fa ρ ma E) (hl : ∀ w, EvS la (E w) (ml w) E) : EvS (fCons fa la) ρ (ma.bind fun p => (ml p.2).bind fun q => some (p.1 :: q.1, q.2)) E := fun z s h => by
  obtain ⟨⟨x, w⟩, e, q⟩ := obind h; obtain ⟨⟨y, w'⟩, e2, q2⟩ := obind q; cases q2
  simp only [fCons, ha _ _ e, hl _ _ _ e2]
theorem evs_tup (hl : EvS la ρ ml E) : EvS (fTup la) ρ (ml.bind fun q => (tupO q.1).bind fun z => some (z, q.2)) E := fun z s h => by
  obtain ⟨⟨y, w⟩, e, q⟩ := obind h; obtain ⟨u, e3, q3⟩ := obind q; cases q3
  unfold tupO at e3; split at e3 <;> cases e3
  rename_i hz
  simp only [fTup, hl _ _ e, fits_le hz, if_true]
theorem evs_lst (hl : EvS la ρ ml E) : EvS (fLst la) ρ (ml.bind fun q => (lstO q.1).bind fun z => some (z, q.2)) E := fun z s h => by
  obtain ⟨⟨y, w⟩, e, q⟩ := obind h; obtain ⟨u, e3, q3⟩ := obind q; cases q3
  unfold lstO at e3; split at e3 <;> cases e3
  rename_i hz
  simp only [fLst, hl _ _ e, fits_le hz, if_true]
theorem evs_f (hl : EvS la ρ ml E) : EvS (fF la) ρ (ml.bind fun q => some (.list q.1, q.2)) E := fun z s h => by
  obtain ⟨⟨y, w⟩, e, q⟩ := obind h; cases q
  simp only [fF, hl _ _ e]
theorem evs_T (ha : EvS fa ρ ma E) : EvS (fT fa) ρ (ma.bind fun p => (tBd p.1).bind fun z => some (z, p.2)) E := fun z s h => by
  obtain ⟨⟨y, w⟩, e, q⟩ := obind h; obtain ⟨u, e3, q3⟩ := obind q; cases q3
  replace e3 : tBd y = some z := e3
  unfold tBd at e3; split at e3 <;> cases e3
  simp only [fT, ha _ _ e]
theorem evs_notT (ha : EvS ft ρ mt E) : EvS (fNotT ft) ρ (mt.bind fun p => some (!p.1, p.2)) E := fun z s h => by
  obtain ⟨⟨y, w⟩, e, q⟩ := obind h; cases q
  simp only [fNotT, ha _ _ e]
/-- and: only the second one draws -/
theorem evs_andTpe {w : S} (hw : E w = ρ) (ha : Ev ft ρ ρ ta) (hb : EvS fu ρ mu E) : EvS (fAndT ft fu) ρ (ta.bind fun x => if x then mu else some (false, w)) E := fun z s h => by
  obtain ⟨y, e, q⟩ := obind h
  cases y with
  | true => simp only [if_true] at q; simp only [fAndT, ha _ e, hb _ _ q]
  | false => simp at q; obtain ⟨rfl, rfl⟩ := q; simp only [fAndT, ha _ e, hw]
theorem evs_orTpe {w : S} (hw : E w = ρ) (ha : Ev ft ρ ρ ta) (hb : EvS fu ρ mu E) : EvS (fOrT ft fu) ρ (ta.bind fun x => if x then some (true, w) else mu) E := fun z s h => by
  obtain ⟨y, e, q⟩ := obind h
  cases y with
  | true => simp at q; obtain ⟨rfl, rfl⟩ := q; simp only [fOrT, ha _ e, hw]
  | false => simp only [Bool.false_eq_true, if_false] at q; simp only [fOrT, ha _ e, hb _ _ q]
theorem evs_andTep {tu : S → Option Bool} (ha : EvS ft ρ mt E) (hb : ∀ w, Ev fu (E w) (E w) (tu w)) : EvS (fAndT ft fu) ρ (mt.bind fun p => (if p.1 then tu p.2 else some false).bind fun z => some (z, p.2)) E := fun z s h => by
  obtain ⟨⟨y, w⟩, e, q⟩ := obind h; obtain ⟨u, e3, q3⟩ := obind q; cases q3
  cases y with
  | true => simp only [if_true] at e3; simp only [fAndT, ha _ _ e, hb _ _ e3]
  | false => simp at e3; subst e3; simp only [fAndT, ha _ _ e]
theorem evs_orTep {tu : S → Option Bool} (ha : EvS ft ρ mt E) (hb : ∀ w, Ev fu (E w) (E w) (tu w)) : EvS (fOrT ft fu) ρ (mt.bind fun p => (if p.1 then some true else tu p.2).bind fun z => some (z, p.2)) E := fun z s h => by
  obtain ⟨⟨y, w⟩, e, q⟩ := obind h; obtain ⟨u, e3, q3⟩ := obind q; cases q3
  cases y with
  | true => simp at e3; subst e3; simp only [fOrT, ha _ _ e]
  | false => simp only [Bool.false_eq_true, if_false] at e3; simp only [fOrT, ha _ _ e, hb _ _ e3]
theorem evs_if {m1 m2 : S → Option (PyData × S)} (ht : EvS ft ρ mt E) (ha : ∀ w, EvS fa (E w) (m1 w) E) (hb : ∀ w, EvS fb (E w) (m2 w) E) : EvS (fIf ft fa fb) ρ (mt.bind fun p => if p.1 then m1 p.2 else m2 p.2) E := fun z s h => by
  obtain ⟨⟨y, w⟩, e, q⟩ := obind h
  cases y with
  | true => simp only [if_true] at q; simp only [fIf, ht _ _ e, ha _ _ _ q]
  | false => simp only [Bool.false_eq_true, if_false] at q; simp only [fIf, ht _ _ e, hb _ _ _ q]
theorem evs_ifp {m1 m2 : Option (PyData × S)} (ht : Ev ft ρ ρ ta) (ha : EvS fa ρ m1 E) (hb : EvS fb ρ m2 E) : EvS (fIf ft fa fb) ρ (ta.bind fun p => if p then m1 else m2) E := fun z s h => by
  obtain ⟨y, e, q⟩ := obind h
  cases y with
  | true => simp only [if_true] at q; simp only [fIf, ht _ e, ha _ _ q]
  | false => simp only [Bool.false_eq_true, if_false] at q; simp only [fIf, ht _ e, hb _ _ q]
theorem evs_cb {g : GN} (hl : EvS la ρ ml E) : EvS (fCB g la) ρ (ml.bind fun q => (g q.1).bind fun z => some (z, q.2)) E := fun z s h => by
  obtain ⟨⟨y, w⟩, e, q⟩ := obind h; obtain ⟨u, e3, q3⟩ := obind q; cases q3
  simp only [fCB, hl _ _ e, e3]
theorem evs_cbF {g : List PyData → Option (List PyData)} (hl : EvS la ρ ml E) : EvS (fCBF g la) ρ (ml.bind fun q => (g q.1).bind fun z => some (z, q.2)) E := fun z s h => by
  obtain ⟨⟨y, w⟩, e, q⟩ := obind h; obtain ⟨u, e3, q3⟩ := obind q; cases q3
  simp only [fCBF, hl _ _ e, e3]
theorem evs_items (ha : EvS fa ρ ma E) : EvS (fItems fa) ρ (ma.bind fun q => (itemsOf q.1).bind fun z => some (z, q.2)) E := fun z s h => by
  obtain ⟨⟨y, w⟩, e, q⟩ := obind h; obtain ⟨u, e3, q3⟩ := obind q; cases q3
  simp only [fItems, ha _ _ e, e3]
theorem evs_rng1 (ha : EvS fa ρ ma E) : EvS (fRng1 (fCons fa fNil)) ρ (ma.bind fun q => (rngO q.1).bind fun z => some (z, q.2)) E := fun z s h => by
  obtain ⟨⟨y, w⟩, e, q⟩ := obind h; obtain ⟨u, e3, q3⟩ := obind q; cases q3
  replace e3 : rngO y = some z := e3
  unfold rngO at e3
  split at e3
  · split at e3 <;> cases e3
    rename_i hz
    exact rng1_ (ha _ _ e) hz
  · cases e3
/-! arguments that draw -/
def EvG (f : G1) (ρ : REnv) (m : Option (List PyData × S)) (E : S → REnv) : Prop := ∀ ds s, m = some (ds, s) → f ρ = some (ds.map Ag.pl, E s)
theorem evg_nil (w : S) (h : E w = ρ := by rfl) : EvG aNil ρ (some ([], w)) E := fun z s e => by cases e; rw [h]; rfl
theorem evg_p {m : Option (List PyData × S)} {fr : G1} (ha : Ev fa ρ ρ a) (hl : EvG fr ρ m E) : EvG (aCons fa fr) ρ (a.bind fun x => m.bind fun q => some (x :: q.1, q.2)) E := fun z s h => by
  obtain ⟨x, e, q⟩ := obind h; obtain ⟨⟨y, w⟩, e2, q2⟩ := obind q; cases q2
  simp only [aCons, ha _ e, hl _ _ e2, List.map_cons]
theorem evg_e {m : S → Option (List PyData × S)} {fr : G1} (ha : EvS fa ρ ma E) (hl : ∀ w, EvG fr (E w) (m w) E) : EvG (aCons fa fr) ρ (ma.bind fun p => (m p.2).bind fun q => some (p.1 :: q.1, q.2)) E := fun z s h => by
  obtain ⟨⟨x, w⟩, e, q⟩ := obind h; obtain ⟨⟨y, w'⟩, e2, q2⟩ := obind q; cases q2
  simp only [aCons, ha _ _ e, hl _ _ _ e2, List.map_cons]
theorem oneBy_pl : ∀ ds : List PyData, oneBy (ds.map Ag.pl) = true
  | [] => rfl
  | d :: ds => by simp only [List.map_cons, oneBy, oneBy_pl ds]
theorem oneBy_by (i : Nat) (ds : List PyData) : oneBy (.by i :: ds.map Ag.pl) = true := by simp [oneBy]
theorem toPV_pl (ρ : REnv) : ∀ ds : List PyData, toPV ρ (ds.map Ag.pl) = some (ds.map PV.pl)
  | [] => rfl
  | d :: ds => by simp only [List.map_cons, toPV, toPV_pl ρ ds]
theorem setOuts_pl' (ρ : REnv) : ∀ ds : List PyData, setOuts ρ (ds.map Ag.pl) (ds.map fun _ => none) = some ρ
  | [] => rfl
  | d :: ds => by simp only [List.map_cons, setOuts, setOuts_pl' ρ ds]
theorem evs_callG {F : Fn} {fr : G1} {m : Option (List PyData × S)} {v : List PyData → Option PyData} (hl : EvG fr ρ m E) (hv : ∀ xs d, v xs = some d → F (xs.map .pl) = some (.pl d, xs.map fun _ => none)) : EvS (fCallE F fr) ρ (m.bind fun q => (v q.1).bind fun d => some (d, q.2)) E := fun z s h => by
  obtain ⟨⟨y, w⟩, e, q⟩ := obind h; obtain ⟨u, e3, q3⟩ := obind q; cases q3
  simp only [fCallE, fCall, hl _ _ e, oneBy_pl, toPV_pl, hv _ _ e3, setOuts_pl', if_true]
theorem evs_callR {F : Fn} {fr : G1} {i : Nat} {ws : List PyData} {E : List PyData → REnv} {m : Option (List PyData × List PyData)} {v : List PyData → List PyData → Option (PyData × List PyData)} (hl : EvG fr ρ m E) (hv : ∀ ws xs p, v ws xs = some p → F (.rf ws :: xs.map .pl) = some (.pl p.1, some p.2 :: xs.map fun _ => none))
    (K : List PyData → PV) (g0 : ownAt ρ i = some ws := by rfl) (g1 : ∀ w, (E w)[i]? = some (some (K w)) := by intro _; rfl) (g2 : ∀ w, (K w).lst? = some w := by intro _; rfl) (hE : ∀ w w', (E w).set i (some ((K w).put w')) = E w' := by intro _ _; rfl) : EvS (fCallE F (aBy i fr)) ρ (m.bind fun q => v q.2 q.1) E := fun z s h => by
  obtain ⟨⟨y, w⟩, e, q⟩ := obind h
  have h1 : ownAt (E w) i = some w := by simp only [ownAt, g1, g2]
  simp only [fCallE, fCall, aBy, g0, hl _ _ e, oneBy_by, toPV, h1, toPV_pl, hv _ _ _ q, setOuts, if_true, g1, hE, setOuts_pl']
end
section
variable {ρ ρ1 : REnv} {la : A1} {l : Option (List PyData)}
theorem ev_callK {F : Fn} {perm : List Nat} {m : Nat} {v : List PyData → Option PyData} (hl : Ev la ρ ρ1 l) (hv : ∀ ds d, v ds = some d → ds.length = m ∧ ∃ o, F ((pick perm ds).map .pl) = some (.pl d, o)) : Ev (fCallK F perm m la) ρ ρ1 (l.bind fun ds => v ds) := fun z h => by
  obtain ⟨ds, e, q⟩ := obind h
  obtain ⟨h1, o, h2⟩ := hv _ _ q
  simp only [fCallK, hl _ e, h1, if_true, h2]
theorem ev_tmp {F : Fn} {v : List PyData → Option (PyData × List PyData)} (hl : Ev la ρ ρ1 l) (hv : ∀ ds p, v ds = some p → F [.rf ds] = some (.pl p.1, [some p.2])) : Ev (fTmpE F la) ρ ρ1 (l.bind fun ds => (v ds).bind fun p => some p.1) := fun z h => by
  obtain ⟨ds, e, q⟩ := obind h
  obtain ⟨p, e2, q2⟩ := obind q
  cases q2
  simp only [fTmpE, fTmp, hl _ e, hv _ _ e2]
end
def vP1 (v : PyData → Option PyData) : List PyData → Option PyData := fun l => match l with | [x0] => v x0 | _ => none
theorem vP1_ok {F : Fn} {v : PyData → Option PyData} (hv : ∀ x0 d, v x0 = some d → F [.pl x0] = some (.pl d, [none])) : ∀ xs d, vP1 v xs = some d → F (xs.map .pl) = some (.pl d, xs.map fun _ => none) := fun l d h => by
  unfold vP1 at h; split at h
  · exact hv _ _ h
  · cases h
def vR1 (v : List PyData → PyData → Option (PyData × List PyData)) : List PyData → List PyData → Option (PyData × List PyData) := fun w l => match l with | [x0] => v w x0 | _ => none
theorem vR1_ok {F : Fn} {v : List PyData → PyData → Option (PyData × List PyData)} (hv : ∀ ws x0 p, v ws x0 = some p → F [.rf ws, .pl x0] = some (.pl p.1, some p.2 :: [none])) : ∀ ws xs p, vR1 v ws xs = some p → F (.rf ws :: xs.map .pl) = some (.pl p.1, some p.2 :: xs.map fun _ => none) := fun ws l d h => by
  unfold vR1 at h; split at h
  · exact hv _ _ _ h
  · cases h
def vP2 (v : PyData → PyData → Option PyData) : List PyData → Option PyData := fun l => match l with | [x0, x1] => v x0 x1 | _ => none
theorem vP2_ok {F : Fn} {v : PyData → PyData → Option PyData} (hv : ∀ x0 x1 d, v x0 x1 = some d → F [.pl x0, .pl x1] = some (.pl d, [none, none])) : ∀ xs d, vP2 v xs = some d → F (xs.map .pl) = some (.pl d, xs.map fun _ => none) := fun l d h => by
  unfold vP2 at h; split at h
  · exact hv _ _ _ h
  · cases h
def vR2 (v : List PyData → PyData → PyData → Option (PyData × List PyData)) : List PyData → List PyData → Option (PyData × List PyData) := fun w l => match l with | [x0, x1] => v w x0 x1 | _ => none
theorem vR2_ok {F : Fn} {v : List PyData → PyData → PyData → Option (PyData × List PyData)} (hv : ∀ ws x0 x1 p, v ws x0 x1 = some p → F [.rf ws, .pl x0, .pl x1] = some (.pl p.1, some p.2 :: [none, none])) : ∀ ws xs p, vR2 v ws xs = some p → F (.rf ws :: xs.map .pl) = some (.pl p.1, some p.2 :: xs.map fun _ => none) := fun ws l d h => by
  unfold vR2 at h; split at h
  · exact hv _ _ _ _ h
  · cases h
def vP3 (v : PyData → PyData → PyData → Option PyData) : List PyData → Option PyData := fun l => match l with | [x0, x1, x2] => v x0 x1 x2 | _ => none
theorem vP3_ok {F : Fn} {v : PyData → PyData → PyData → Option PyData} (hv : ∀ x0 x1 x2 d, v x0 x1 x2 = some d → F [.pl x0, .pl x1, .pl x2] = some (.pl d, [none, none, none])) : ∀ xs d, vP3 v xs = some d → F (xs.map .pl) = some (.pl d, xs.map fun _ => none) := fun l d h => by
  unfold vP3 at h; split at h
  · exact hv _ _ _ _ h
  · cases h
def vR3 (v : List PyData → PyData → PyData → PyData → Option (PyData × List PyData)) : List PyData → List PyData → Option (PyData × List PyData) := fun w l => match l with | [x0, x1, x2] => v w x0 x1 x2 | _ => none
theorem vR3_ok {F : Fn} {v : List PyData → PyData → PyData → PyData → Option (PyData × List PyData)} (hv : ∀ ws x0 x1 x2 p, v ws x0 x1 x2 = some p → F [.rf ws, .pl x0, .pl x1, .pl x2] = some (.pl p.1, some p.2 :: [none, none, none])) : ∀ ws xs p, vR3 v ws xs = some p → F (.rf ws :: xs.map .pl) = some (.pl p.1, some p.2 :: xs.map fun _ => none) := fun ws l d h => by
  unfold vR3 at h; split at h
  · exact hv _ _ _ _ _ h
  · cases h
def vP4 (v : PyData → PyData → PyData → PyData → Option PyData) : List PyData → Option PyData := fun l => match l with | [x0, x1, x2, x3] => v x0 x1 x2 x3 | _ => none
theorem vP4_ok {F : Fn} {v : PyData → PyData → PyData → PyData → Option PyData} (hv : ∀ x0 x1 x2 x3 d, v x0 x1 x2 x3 = some d → F [.pl x0, .pl x1, .pl x2, .pl x3] = some (.pl d, [none, none, none, none])) : ∀ xs d, vP4 v xs = some d → F (xs.map .pl) = some (.pl d, xs.map fun _ => none) := fun l d h => by
  unfold vP4 at h; split at h
  · exact hv _ _ _ _ _ h
  · cases h
def vR4 (v : List PyData → PyData → PyData → PyData → PyData → Option (PyData × List PyData)) : List PyData → List PyData → Option (PyData × List PyData) := fun w l => match l with | [x0, x1, x2, x3] => v w x0 x1 x2 x3 | _ => none
theorem vR4_ok {F : Fn} {v : List PyData → PyData → PyData → PyData → PyData → Option (PyData × List PyData)} (hv : ∀ ws x0 x1 x2 x3 p, v ws x0 x1 x2 x3 = some p → F [.rf ws, .pl x0, .pl x1, .pl x2, .pl x3] = some (.pl p.1, some p.2 :: [none, none, none, none])) : ∀ ws xs p, vR4 v ws xs = some p → F (.rf ws :: xs.map .pl) = some (.pl p.1, some p.2 :: xs.map fun _ => none) := fun ws l d h => by
  unfold vR4 at h; split at h
  · exact hv _ _ _ _ _ _ h
  · cases h
def vP5 (v : PyData → PyData → PyData → PyData → PyData → Option PyData) : List PyData → Option PyData := fun l => match l with | [x0, x1, x2, x3, x4] => v x0 x1 x2 x3 x4 | _ => none
theorem vP5_ok {F : Fn} {v : PyData → PyData → PyData → PyData → PyData → Option PyData} (hv : ∀ x0 x1 x2 x3 x4 d, v x0 x1 x2 x3 x4 = some d → F [.pl x0, .pl x1, .pl x2, .pl x3, .pl x4] = some (.pl d, [none, none, none, none, none])) : ∀ xs d, vP5 v xs = some d → F (xs.map .pl) = some (.pl d, xs.map fun _ => none) := fun l d h => by
  unfold vP5 at h; split at h
  · exact hv _ _ _ _ _ _ h
  · cases h
def vR5 (v : List PyData → PyData → PyData → PyData → PyData → PyData → Option (PyData × List PyData)) : List PyData → List PyData → Option (PyData × List PyData) := fun w l => match l with | [x0, x1, x2, x3, x4] => v w x0 x1 x2 x3 x4 | _ => none
theorem vR5_ok {F : Fn} {v : List PyData → PyData → PyData → PyData → PyData → PyData → Option (PyData × List PyData)} (hv : ∀ ws x0 x1 x2 x3 x4 p, v ws x0 x1 x2 x3 x4 = some p → F [.rf ws, .pl x0, .pl x1, .pl x2, .pl x3, .pl x4] = some (.pl p.1, some p.2 :: [none, none, none, none, none])) : ∀ ws xs p, vR5 v ws xs = some p → F (.rf ws :: xs.map .pl) = some (.pl p.1, some p.2 :: xs.map fun _ => none) := fun ws l d h => by
  unfold vR5 at h; split at h
  · exact hv _ _ _ _ _ _ _ h
  · cases h
def vP6 (v : PyData → PyData → PyData → PyData → PyData → PyData → Option PyData) : List PyData → Option PyData := fun l => match l with | [x0, x1, x2, x3, x4, x5] => v x0 x1 x2 x3 x4 x5 | _ => none
theorem vP6_ok {F : Fn} {v : PyData → PyData → PyData → PyData → PyData → PyData → Option PyData} (hv : ∀ x0 x1 x2 x3 x4 x5 d, v x0 x1 x2 x3 x4 x5 = some d → F [.pl x0, .pl x1, .pl x2, .pl x3, .pl x4, .pl x5] = some (.pl d, [none, none, none, none, none, none])) : ∀ xs d, vP6 v xs = some d → F (xs.map .pl) = some (.pl d, xs.map fun _ => none) := fun l d h => by
  unfold vP6 at h; split at h
  · exact hv _ _ _ _ _ _ _ h
  · cases h
def vR6 (v : List PyData → PyData → PyData → PyData → PyData → PyData → PyData → Option (PyData × List PyData)) : List PyData → List PyData → Option (PyData × List PyData) := fun w l => match l with | [x0, x1, x2, x3, x4, x5] => v w x0 x1 x2 x3 x4 x5 | _ => none
theorem vR6_ok {F : Fn} {v : List PyData → PyData → PyData → PyData → PyData → PyData → PyData → Option (PyData × List PyData)} (hv : ∀ ws x0 x1 x2 x3 x4 x5 p, v ws x0 x1 x2 x3 x4 x5 = some p → F [.rf ws, .pl x0, .pl x1, .pl x2, .pl x3, .pl x4, .pl x5] = some (.pl p.1, some p.2 :: [none, none, none, none, none, none])) : ∀ ws xs p, vR6 v ws xs = some p → F (.rf ws :: xs.map .pl) = some (.pl p.1, some p.2 :: xs.map fun _ => none) := fun ws l d h => by
  unfold vR6 at h; split at h
  · exact hv _ _ _ _ _ _ _ _ h
  · cases h
def vP7 (v : PyData → PyData → PyData → PyData → PyData → PyData → PyData → Option PyData) : List PyData → Option PyData := fun l => match l with | [x0, x1, x2, x3, x4, x5, x6] => v x0 x1 x2 x3 x4 x5 x6 | _ => none
theorem vP7_ok {F : Fn} {v : PyData → PyData → PyData → PyData → PyData → PyData → PyData → Option PyData} (hv : ∀ x0 x1 x2 x3 x4 x5 x6 d, v x0 x1 x2 x3 x4 x5 x6 = some d → F [.pl x0, .pl x1, .pl x2, .pl x3, .pl x4, .pl x5, .pl x6] = some (.pl d, [none, none, none, none, none, none, none])) : ∀ xs d, vP7 v xs = some d → F (xs.map .pl) = some (.pl d, xs.map fun _ => none) := fun l d h => by
  unfold vP7 at h; split at h
  · exact hv _ _ _ _ _ _ _ _ h
  · cases h
def vR7 (v : List PyData → PyData → PyData → PyData → PyData → PyData → PyData → PyData → Option (PyData × List PyData)) : List PyData → List PyData → Option (PyData × List PyData) := fun w l => match l with | [x0, x1, x2, x3, x4, x5, x6] => v w x0 x1 x2 x3 x4 x5 x6 | _ => none
theorem vR7_ok {F : Fn} {v : List PyData → PyData → PyData → PyData → PyData → PyData → PyData → PyData → Option (PyData × List PyData)} (hv : ∀ ws x0 x1 x2 x3 x4 x5 x6 p, v ws x0 x1 x2 x3 x4 x5 x6 = some p → F [.rf ws, .pl x0, .pl x1, .pl x2, .pl x3, .pl x4, .pl x5, .pl x6] = some (.pl p.1, some p.2 :: [none, none, none, none, none, none, none])) : ∀ ws xs p, vR7 v ws xs = some p → F (.rf ws :: xs.map .pl) = some (.pl p.1, some p.2 :: xs.map fun _ => none) := fun ws l d h => by
  unfold vR7 at h; split at h
  · exact hv _ _ _ _ _ _ _ _ _ h
  · cases h
end Dv

/-! Dw: direct code: statements. -/
namespace Dv
open PySem
/-- how a turn ends -/
inductive Fw (σ τ : Type) where
  | nx (s : σ)
  | bk (s : σ)
  | rt (r : τ)
def Sim {α : Type} (f : S1) (ρ : REnv) (m : Option α) (P : α → Fl → REnv → Prop) : Prop := ∀ a, m = some a → ∃ fl ρ', f ρ = some (fl, ρ') ∧ P a fl ρ'
section
variable {α β S : Type} {ρ ρ1 ρ2 : REnv} {f g k f1 f2 : S1} {P : α → Fl → REnv → Prop} {fe fa fb : D1} {ft : B1} {la : A1} {o : Option PyData} {l : Option (List PyData)} {t : Option Bool} {E : S → REnv} {mo : Option (PyData × S)} {ml : Option (List PyData × S)} {mt : Option (Bool × S)}
theorem seq_next (f : S1) (ρ : REnv) : sSeq f sNext ρ = f ρ := by
  unfold sSeq
  split
  · rename_i h; rw [h]; rfl
  · rfl
theorem seq_assoc (f g k : S1) (ρ : REnv) : sSeq (sSeq f g) k ρ = sSeq f (sSeq g k) ρ := by
  unfold sSeq
  cases e : f ρ with
  | none => rfl
  | some p => obtain ⟨fl, r⟩ := p; cases fl <;> rfl
theorem sim_last {m : Option α} (h : Sim (sSeq f sNext) ρ m P) : Sim f ρ m P := fun a e => by
  obtain ⟨fl, r, h1, h2⟩ := h a e; rw [seq_next] at h1; exact ⟨fl, r, h1, h2⟩
theorem sim_assoc {m : Option α} (h : Sim (sSeq f (sSeq g k)) ρ m P) : Sim (sSeq (sSeq f g) k) ρ m P := fun a e => by
  obtain ⟨fl, r, h1, h2⟩ := h a e; rw [← seq_assoc] at h1; exact ⟨fl, r, h1, h2⟩
theorem sim_next {m : Option α} (h : Sim g ρ m P) : Sim (sSeq sNext g) ρ m P := fun a e => by
  obtain ⟨fl, r, h1, h2⟩ := h a e; exact ⟨fl, r, h1, h2⟩
theorem sim_end {a : α} (h : P a .nx ρ) : Sim sNext ρ (some a) P := fun b e => by cases e; exact ⟨_, _, rfl, h⟩
theorem sim_bk {a : α} (h : P a .bk ρ) : Sim (sSeq sBreak g) ρ (some a) P := fun b e => by cases e; exact ⟨_, _, rfl, h⟩
theorem sim_ct {a : α} (h : P a .ct ρ) : Sim (sSeq sCont g) ρ (some a) P := fun b e => by cases e; exact ⟨_, _, rfl, h⟩
theorem sim_never : Sim (sSeq sNever g) ρ (none : Option α) P := fun b e => by cases e
theorem sim_asg {i : Nat} {c : PyData → Option α} (he : Ev fe ρ ρ1 o) (h : ∀ d, Sim g (ρ1.set i (some (.pl d))) (c d) P) : Sim (sSeq (sAsg fe (hName i)) g) ρ (o.bind fun d => c d) P := fun a e => by
  obtain ⟨d, e1, e2⟩ := obind e
  obtain ⟨fl, r, h1, h2⟩ := h d a e2
  exact ⟨fl, r, by rw [seqN (asg (he d e1) i)]; exact h1, h2⟩
theorem sim_asgS {i : Nat} {c : PyData → S → Option α} (he : EvS fe ρ mo E) (h : ∀ d w, Sim g ((E w).set i (some (.pl d))) (c d w) P) : Sim (sSeq (sAsg fe (hName i)) g) ρ (mo.bind fun p => c p.1 p.2) P := fun a e => by
  obtain ⟨⟨d, w⟩, e1, e2⟩ := obind e
  obtain ⟨fl, r, h1, h2⟩ := h d w a e2
  exact ⟨fl, r, by rw [seqN (asg (he d w e1) i)]; exact h1, h2⟩
theorem sim_asg2 {i j : Nat} {c : PyData → PyData → Option α} (he : Ev fe ρ ρ1 o) (h : ∀ a b, Sim g ((ρ1.set i (some (.pl a))).set j (some (.pl b))) (c a b) P) : Sim (sSeq (sAsg fe (hTup 2 (hCons (hName i) (hCons (hName j) hNil)))) g) ρ (o.bind fun d => (un2 d).bind fun p => c p.1 p.2) P := fun a e => by
  obtain ⟨d, e1, e2⟩ := obind e
  obtain ⟨⟨x, y⟩, e3, e4⟩ := obind e2
  obtain ⟨fl, r, h1, h2⟩ := h x y a e4
  have hd := un2_some e3
  subst hd
  exact ⟨fl, r, by rw [seqN (asgT (he _ e1) rfl)]; exact h1, h2⟩
theorem sim_asg3 {i j k : Nat} {c : PyData → PyData → PyData → Option α} (he : Ev fe ρ ρ1 o) (h : ∀ a b d, Sim g (((ρ1.set i (some (.pl a))).set j (some (.pl b))).set k (some (.pl d))) (c a b d) P) : Sim (sSeq (sAsg fe (hTup 3 (hCons (hName i) (hCons (hName j) (hCons (hName k) hNil))))) g) ρ (o.bind fun d => (un3 d).bind fun p => c p.1 p.2.1 p.2.2) P := fun a e => by
  obtain ⟨d, e1, e2⟩ := obind e
  obtain ⟨⟨x, y, z⟩, e3, e4⟩ := obind e2
  obtain ⟨fl, r, h1, h2⟩ := h x y z a e4
  have hd := un3_some e3
  subst hd
  exact ⟨fl, r, by rw [seqN (asgT (he _ e1) rfl)]; exact h1, h2⟩
theorem sim_par {i j : Nat} {c : PyData → PyData → Option α} {oa ob : Option PyData} (ha : Ev fa ρ ρ1 oa) (hb : Ev fb ρ1 ρ2 ob) (h : ∀ a b, Sim g ((ρ2.set i (some (.pl a))).set j (some (.pl b))) (c a b) P) : Sim (sSeq (sPar i j (fCons fa (fCons fb fNil))) g) ρ (oa.bind fun a => ob.bind fun b => c a b) P := fun a e => by
  obtain ⟨x, e1, e2⟩ := obind e
  obtain ⟨y, e3, e4⟩ := obind e2
  obtain ⟨fl, r, h1, h2⟩ := h x y a e4
  exact ⟨fl, r, by rw [seqN (par_ (two_ (ha _ e1) (hb _ e3)) i j)]; exact h1, h2⟩
/-- by the list of both -/
theorem sim_parS {i j : Nat} {c : PyData → PyData → S → Option α} (he : EvS la ρ ml E) (h : ∀ a b w, Sim g (((E w).set i (some (.pl a))).set j (some (.pl b))) (c a b w) P) : Sim (sSeq (sPar i j la) g) ρ (ml.bind fun p => match p.1 with | [a, b] => c a b p.2 | _ => none) P := fun a e => by
  obtain ⟨⟨xs, w⟩, e1, e2⟩ := obind e
  split at e2
  · rename_i x y hx
    have hx' : xs = [x, y] := hx
    subst hx'
    obtain ⟨fl, r, h1, h2⟩ := h x y w a e2
    exact ⟨fl, r, by rw [seqN (par_ (he _ _ e1) i j)]; exact h1, h2⟩
  · cases e2
theorem sim_own {i : Nat} {c : List PyData → Option α} (he : Ev la ρ ρ1 l) (h : ∀ d, Sim g (ρ1.set i (some (.ow d))) (c d) P) : Sim (sSeq (sOwn la i) g) ρ (l.bind fun d => c d) P := fun a e => by
  obtain ⟨d, e1, e2⟩ := obind e
  obtain ⟨fl, r, h1, h2⟩ := h d a e2
  exact ⟨fl, r, by rw [seqN (own_ (he d e1) i)]; exact h1, h2⟩
theorem sim_ownS {i : Nat} {c : List PyData → S → Option α} (he : EvS la ρ ml E) (h : ∀ d w, Sim g ((E w).set i (some (.ow d))) (c d w) P) : Sim (sSeq (sOwn la i) g) ρ (ml.bind fun p => c p.1 p.2) P := fun a e => by
  obtain ⟨⟨d, w⟩, e1, e2⟩ := obind e
  obtain ⟨fl, r, h1, h2⟩ := h d w a e2
  exact ⟨fl, r, by rw [seqN (own_ (he d w e1) i)]; exact h1, h2⟩
theorem sim_parF {i j : Nat} {c : List PyData → PyData → Option α} {ob : Option PyData} (ha : Ev la ρ ρ1 l) (hb : Ev fb ρ1 ρ2 ob) (h : ∀ a b, Sim g ((ρ2.set i (some (.ow a))).set j (some (.pl b))) (c a b) P) : Sim (sSeq (sParF i j la fb) g) ρ (l.bind fun a => ob.bind fun b => c a b) P := fun a e => by
  obtain ⟨x, e1, e2⟩ := obind e
  obtain ⟨y, e3, e4⟩ := obind e2
  obtain ⟨fl, r, h1, h2⟩ := h x y a e4
  exact ⟨fl, r, by rw [seqN (parF_ (ha _ e1) (hb _ e3) i j)]; exact h1, h2⟩
theorem sim_aug {i : Nat} {G : G2} {x : PyData} {c : PyData → Option α} (he : Ev fe ρ ρ o) (h : ∀ d, Sim g (ρ.set i (some (.pl d))) (c d) P) (h0 : ρ[i]? = some (some (.pl x)) := by rfl) : Sim (sSeq (sAug G i fe) g) ρ (o.bind fun y => (G x y).bind fun d => c d) P := fun a e => by
  obtain ⟨y, e1, e2⟩ := obind e
  obtain ⟨d, e3, e4⟩ := obind e2
  obtain ⟨fl, r, h1, h2⟩ := h d a e4
  exact ⟨fl, r, by rw [seqN (show sAug G i fe ρ = some (.nx, ρ.set i (some (.pl d))) by simp only [sAug, h0, he _ e1, e3])]; exact h1, h2⟩
theorem sim_augS {i : Nat} {G : G2} {x : PyData} {c : PyData → S → Option α} (he : EvS fe ρ mo E) (h : ∀ d w, Sim g ((E w).set i (some (.pl d))) (c d w) P) (h0 : ρ[i]? = some (some (.pl x)) := by rfl) : Sim (sSeq (sAug G i fe) g) ρ (mo.bind fun p => (G x p.1).bind fun d => c d p.2) P := fun a e => by
  obtain ⟨⟨y, w⟩, e1, e2⟩ := obind e
  obtain ⟨d, e3, e4⟩ := obind e2
  obtain ⟨fl, r, h1, h2⟩ := h d w a e4
  replace e3 : G x y = some d := e3
  exact ⟨fl, r, by rw [seqN (show sAug G i fe ρ = some (.nx, (E w).set i (some (.pl d))) by simp only [sAug, h0, he _ _ e1, e3])]; exact h1, h2⟩
noncomputable def appO (xs : List PyData) (d : PyData) : Option (List PyData) := if fits (xs.length + 1) then some (xs ++ [d]) else none
theorem sim_app {i : Nat} {x : PV} {xs : List PyData} {c : List PyData → Option α} (he : Ev fe ρ ρ o) (h : ∀ d, Sim g (ρ.set i (some (x.put d))) (c d) P) (h0 : ρ[i]? = some (some x) := by rfl) (h00 : x.lst? = some xs := by rfl) : Sim (sSeq (sApp i fe) g) ρ (o.bind fun y => (appO xs y).bind fun d => c d) P := fun a e => by
  obtain ⟨y, e1, e2⟩ := obind e
  obtain ⟨d, e3, e4⟩ := obind e2
  unfold appO at e3
  split at e3 <;> cases e3
  rename_i hz
  obtain ⟨fl, r, h1, h2⟩ := h _ a e4
  have hh : ownAt ρ i = some xs := by simp only [ownAt, h0, h00]
  exact ⟨fl, r, by rw [seqN (show sApp i fe ρ = some (.nx, ρ.set i (some (x.put (xs ++ [y])))) by simp only [sApp, hh, he _ e1, h0, h00, Nat.lt_of_succ_le (fits_le hz), if_true])]; exact h1, h2⟩
/-- the item draws: the list itself stays -/
theorem sim_appS {i : Nat} {x : PV} {xs : List PyData} {c : List PyData → S → Option α} (he : EvS fe ρ mo E) (h : ∀ d w, Sim g ((E w).set i (some (x.put d))) (c d w) P) (hh : ownAt ρ i = some xs := by rfl) (h0 : ∀ w, (E w)[i]? = some (some x) := by intro _; rfl) (h00 : x.lst? = some xs := by rfl) : Sim (sSeq (sApp i fe) g) ρ (mo.bind fun p => (appO xs p.1).bind fun d => c d p.2) P := fun a e => by
  obtain ⟨⟨y, w⟩, e1, e2⟩ := obind e
  obtain ⟨d, e3, e4⟩ := obind e2
  replace e3 : appO xs y = some d := e3
  unfold appO at e3
  split at e3 <;> cases e3
  rename_i hz
  obtain ⟨fl, r, h1, h2⟩ := h _ w a e4
  exact ⟨fl, r, by rw [seqN (show sApp i fe ρ = some (.nx, (E w).set i (some (x.put (xs ++ [y])))) by simp only [sApp, hh, he _ _ e1, h0, h00, Nat.lt_of_succ_le (fits_le hz), if_true])]; exact h1, h2⟩
/-- xs[j] = d -/
def setO (xs : List PyData) (j d : PyData) : Option (List PyData) := match j with
  | .int k => match L2.ixN xs.length k with
    | some n => some (xs.set n d)
    | none => none
  | _ => none
theorem sim_st {i : Nat} {x : PV} {xs : List PyData} {fi : D1} {oi : Option PyData} {c : List PyData → Option α} (he : Ev fe ρ ρ o) (hi : Ev fi ρ ρ oi) (h : ∀ d, Sim g (ρ.set i (some (x.put d))) (c d) P) (h0 : ρ[i]? = some (some x) := by rfl) (h00 : x.lst? = some xs := by rfl) : Sim (sSeq (sAsg fe (hSub i fi)) g) ρ (o.bind fun y => oi.bind fun j => (setO xs j y).bind fun d => c d) P := fun a e => by
  obtain ⟨y, e1, e2⟩ := obind e
  obtain ⟨j, e3, e4⟩ := obind e2
  obtain ⟨d, e5, e6⟩ := obind e4
  obtain ⟨fl, r, h1, h2⟩ := h _ a e6
  have hh : ownAt ρ i = some xs := by simp only [ownAt, h0, h00]
  unfold setO at e5
  split at e5
  · split at e5
    · rename_i n hn
      cases e5
      exact ⟨fl, r, by rw [seqN (asgT (he _ e1) (show hSub i fi y ρ = some (ρ.set i (some (x.put (xs.set n y)))) by simp only [hSub, hh, hi _ e3, h0, h00, hn]))]; exact h1, h2⟩
    · cases e5
  · cases e5
/-- the index draws -/
theorem sim_stpe {i : Nat} {x : PV} {xs : List PyData} {fi : D1} {c : List PyData → S → Option α} (he : Ev fe ρ ρ o) (hi : EvS fi ρ mo E) (h : ∀ d w, Sim g ((E w).set i (some (x.put d))) (c d w) P) (hh : ownAt ρ i = some xs := by rfl) (h0 : ∀ w, (E w)[i]? = some (some x) := by intro _; rfl) (h00 : x.lst? = some xs := by rfl) : Sim (sSeq (sAsg fe (hSub i fi)) g) ρ (o.bind fun y => mo.bind fun p => (setO xs p.1 y).bind fun d => c d p.2) P := fun a e => by
  obtain ⟨y, e1, e2⟩ := obind e
  obtain ⟨⟨j, w⟩, e3, e4⟩ := obind e2
  obtain ⟨d, e5, e6⟩ := obind e4
  obtain ⟨fl, r, h1, h2⟩ := h _ w a e6
  replace e5 : setO xs j y = some d := e5
  unfold setO at e5
  split at e5
  · split at e5
    · rename_i n hn
      cases e5
      exact ⟨fl, r, by rw [seqN (asgT (he _ e1) (show hSub i fi y ρ = some ((E w).set i (some (x.put (xs.set n y)))) by simp only [hSub, hh, hi _ _ e3, h0, h00, hn]))]; exact h1, h2⟩
    · cases e5
  · cases e5
/-- the value draws -/
theorem sim_step {i : Nat} {x : PV} {xs : List PyData} {fi : D1} {oi : S → Option PyData} {c : List PyData → S → Option α} (he : EvS fe ρ mo E) (hi : ∀ w, Ev fi (E w) (E w) (oi w)) (h : ∀ d w, Sim g ((E w).set i (some (x.put d))) (c d w) P) (h0 : ∀ w, (E w)[i]? = some (some x) := by intro _; rfl) (h00 : x.lst? = some xs := by rfl) : Sim (sSeq (sAsg fe (hSub i fi)) g) ρ (mo.bind fun p => (oi p.2).bind fun j => (setO xs j p.1).bind fun d => c d p.2) P := fun a e => by
  obtain ⟨⟨y, w⟩, e1, e2⟩ := obind e
  obtain ⟨j, e3, e4⟩ := obind e2
  obtain ⟨d, e5, e6⟩ := obind e4
  obtain ⟨fl, r, h1, h2⟩ := h _ w a e6
  have hh : ownAt (E w) i = some xs := by simp only [ownAt, h0, h00]
  replace e5 : setO xs j y = some d := e5
  unfold setO at e5
  split at e5
  · split at e5
    · rename_i n hn
      cases e5
      exact ⟨fl, r, by rw [seqN (asgT (he _ _ e1) (show hSub i fi y (E w) = some ((E w).set i (some (x.put (xs.set n y)))) by simp only [hSub, hh, hi _ _ e3, h0, h00, hn]))]; exact h1, h2⟩
    · cases e5
  · cases e5
/-- both draw -/
theorem sim_stee {i : Nat} {x : PV} {xs : List PyData} {fi : D1} {mi : S → Option (PyData × S)} {c : List PyData → S → Option α} (he : EvS fe ρ mo E) (hi : ∀ w, EvS fi (E w) (mi w) E) (h : ∀ d w, Sim g ((E w).set i (some (x.put d))) (c d w) P) (h0 : ∀ w, (E w)[i]? = some (some x) := by intro _; rfl) (h00 : x.lst? = some xs := by rfl) : Sim (sSeq (sAsg fe (hSub i fi)) g) ρ (mo.bind fun p => (mi p.2).bind fun q => (setO xs q.1 p.1).bind fun d => c d q.2) P := fun a e => by
  obtain ⟨⟨y, w0⟩, e1, e2⟩ := obind e
  obtain ⟨⟨j, w⟩, e3, e4⟩ := obind e2
  obtain ⟨d, e5, e6⟩ := obind e4
  obtain ⟨fl, r, h1, h2⟩ := h _ w a e6
  have hh : ownAt (E w0) i = some xs := by simp only [ownAt, h0, h00]
  replace e5 : setO xs j y = some d := e5
  unfold setO at e5
  split at e5
  · split at e5
    · rename_i n hn
      cases e5
      exact ⟨fl, r, by rw [seqN (asgT (he _ _ e1) (show hSub i fi y (E w0) = some ((E w).set i (some (x.put (xs.set n y)))) by simp only [hSub, hh, hi _ _ _ e3, h0, h00, hn]))]; exact h1, h2⟩
    · cases e5
  · cases e5
theorem sim_drop {m : PyData → Option α} (he : Ev fe ρ ρ1 o) (h : ∀ d, Sim g ρ1 (m d) P) : Sim (sSeq (sDrop fe) g) ρ (o.bind fun d => m d) P := fun a e => by
  obtain ⟨d, e1, e2⟩ := obind e
  obtain ⟨fl, r, h1, h2⟩ := h d a e2
  exact ⟨fl, r, by rw [seqN (drop_ (he d e1))]; exact h1, h2⟩
theorem sim_ret {c : PyData → α} (he : Ev fe ρ ρ1 o) (h : ∀ d, P (c d) (.rt (.pl d)) ρ1) : Sim (sSeq (sRet fe) g) ρ (o.bind fun d => some (c d)) P := fun a e => by
  obtain ⟨d, e1, e2⟩ := obind e
  cases e2
  exact ⟨_, _, seqR (ret (he d e1)), h d⟩
theorem sim_retS {c : PyData → S → α} (he : EvS fe ρ mo E) (h : ∀ d w, P (c d w) (.rt (.pl d)) (E w)) : Sim (sSeq (sRet fe) g) ρ (mo.bind fun p => some (c p.1 p.2)) P := fun a e => by
  obtain ⟨⟨d, w⟩, e1, e2⟩ := obind e
  cases e2
  exact ⟨_, _, seqR (ret (he d w e1)), h d w⟩
theorem sim_retF {c : List PyData → α} (he : Ev la ρ ρ1 l) (h : ∀ d, P (c d) (.rt (.fr d)) ρ1) : Sim (sSeq (sRetF la) g) ρ (l.bind fun d => some (c d)) P := fun a e => by
  obtain ⟨d, e1, e2⟩ := obind e
  cases e2
  exact ⟨_, _, seqR (retF (he d e1)), h d⟩
theorem sim_if {a b : Option α} (ht : Ev ft ρ ρ t) (h1 : Sim (sSeq f1 g) ρ a P) (h2 : Sim (sSeq f2 g) ρ b P) : Sim (sSeq (sIf ft f1 f2) g) ρ (t.bind fun x => if x then a else b) P := fun z e => by
  obtain ⟨x, e1, e2⟩ := obind e
  cases x with
  | true =>
    obtain ⟨fl, r, q1, q2⟩ := h1 z e2
    exact ⟨fl, r, by simp only [sSeq, ifT (ht _ e1)] at q1 ⊢; exact q1, q2⟩
  | false =>
    obtain ⟨fl, r, q1, q2⟩ := h2 z (by simpa using e2)
    exact ⟨fl, r, by simp only [sSeq, ifF (ht _ e1)] at q1 ⊢; exact q1, q2⟩
theorem sim_ifS {a b : S → Option α} (ht : EvS ft ρ mt E) (h1 : ∀ w, Sim (sSeq f1 g) (E w) (a w) P) (h2 : ∀ w, Sim (sSeq f2 g) (E w) (b w) P) : Sim (sSeq (sIf ft f1 f2) g) ρ (mt.bind fun p => if p.1 then a p.2 else b p.2) P := fun z e => by
  obtain ⟨⟨x, w⟩, e1, e2⟩ := obind e
  cases x with
  | true =>
    obtain ⟨fl, r, q1, q2⟩ := h1 w z e2
    exact ⟨fl, r, by simp only [sSeq, ifT (ht _ _ e1)] at q1 ⊢; exact q1, q2⟩
  | false =>
    obtain ⟨fl, r, q1, q2⟩ := h2 w z (by simpa using e2)
    exact ⟨fl, r, by simp only [sSeq, ifF (ht _ _ e1)] at q1 ⊢; exact q1, q2⟩
/-- a branch that goes on: what it leaves is told by C -/
def Jn {σ κ : Type} (C : σ → κ → REnv) : σ → Fl → REnv → Prop := fun s fl r => fl = .nx ∧ ∃ j, r = C s j
/-- then on from what a part leaves -/
theorem sim_join {σ κ : Type} {C : σ → κ → REnv} {m : Option σ} {c : σ → Option α} (h : Sim f ρ m (Jn C)) (hk : ∀ s j, Sim g (C s j) (c s) P) : Sim (sSeq f g) ρ (m.bind fun s => c s) P := fun a e => by
  obtain ⟨s, e1, e2⟩ := obind e
  obtain ⟨fl, r, h1, rfl, j, rfl⟩ := h s e1
  obtain ⟨fl, r, q1, q2⟩ := hk s j a e2
  exact ⟨fl, r, by rw [seqN h1]; exact q1, q2⟩
end
/-! ### loops -/
def loopM {σ α : Type} (f : σ → α → Option σ) : List α → σ → Option σ
  | [], s => some s
  | a :: l, s => (f s a).bind fun s' => loopM f l s'
def loopW {σ τ α : Type} (f : σ → α → Option (Fw σ τ)) : List α → σ → Option (Fw σ τ)
  | [], s => some (.nx s)
  | a :: l, s => (f s a).bind fun o => match o with
    | .nx s' => loopW f l s'
    | o => some o
/-- behind a turn -/
def Tn {σ κ τ : Type} (C : σ → κ → REnv) (R : τ → Fl → REnv → Prop) : Fw σ τ → Fl → REnv → Prop := fun o fl r => match o with
  | .nx s => (fl = .nx ∨ fl = .ct) ∧ ∃ j, r = C s j
  | .bk s => fl = .bk ∧ ∃ j, r = C s j
  | .rt t => (∃ x, fl = .rt x) ∧ R t fl r
def TnM {σ κ : Type} (C : σ → κ → REnv) : σ → Fl → REnv → Prop := fun s fl r => (fl = .nx ∨ fl = .ct) ∧ ∃ j, r = C s j
section
variable {α β σ κ τ : Type} {ρ ρ1 : REnv} {fb g : S1} {h : T1} {P : β → Fl → REnv → Prop} {fi : A1} {l : Option (List PyData)}
theorem loopM_sim {C : σ → κ → REnv} {D : α → PyData} {B : σ → κ → α → REnv} {body : σ → α → Option σ} (hb : ∀ s j a, h (D a) (C s j) = some (B s j a)) (hs : ∀ s j a, Sim fb (B s j a) (body s a) (TnM C)) :
    ∀ (xs : List α) (s : σ) (j : κ) (s' : σ), loopM body xs s = some s' → ∃ j', loopF h fb (xs.map D) (C s j) = some (.nx, C s' j')
  | [], s, j, s', e => by cases e; exact ⟨j, rfl⟩
  | x :: xs, s, j, s', e => by
    obtain ⟨s1, e1, e2⟩ := obind e
    obtain ⟨fl, r, q1, q2, j1, rfl⟩ := hs s j x s1 e1
    obtain ⟨j', q⟩ := loopM_sim hb hs xs s1 j1 s' e2
    refine ⟨j', ?_⟩
    rcases q2 with rfl | rfl <;> simp only [List.map_cons, loopF, hb, q1, q]
theorem loopW_sim {C : σ → κ → REnv} {R : τ → Fl → REnv → Prop} {D : α → PyData} {B : σ → κ → α → REnv} {body : σ → α → Option (Fw σ τ)} (hb : ∀ s j a, h (D a) (C s j) = some (B s j a)) (hs : ∀ s j a, Sim fb (B s j a) (body s a) (Tn C R)) :
    ∀ (xs : List α) (s : σ) (j : κ) (o : Fw σ τ), loopW body xs s = some o → ∃ fl r, loopF h fb (xs.map D) (C s j) = some (fl, r) ∧ match o with
      | .nx s' => fl = .nx ∧ ∃ j', r = C s' j'
      | .bk s' => fl = .nx ∧ ∃ j', r = C s' j'
      | .rt t => (∃ x, fl = .rt x) ∧ R t fl r
  | [], s, j, o, e => by cases e; exact ⟨_, _, rfl, rfl, j, rfl⟩
  | x :: xs, s, j, o, e => by
    obtain ⟨o1, e1, e2⟩ := obind e
    obtain ⟨fl, r, q1, q2⟩ := hs s j x o1 e1
    cases o1 with
    | nx s1 =>
      obtain ⟨q2, j1, rfl⟩ := q2
      obtain ⟨fl', r', q, q3⟩ := loopW_sim hb hs xs s1 j1 o e2
      refine ⟨fl', r', ?_, q3⟩
      rcases q2 with rfl | rfl <;> simp only [List.map_cons, loopF, hb, q1, q]
    | bk s1 =>
      cases e2
      obtain ⟨rfl, j1, rfl⟩ := q2
      exact ⟨.nx, _, by simp only [List.map_cons, loopF, hb, q1], rfl, j1, rfl⟩
    | rt t =>
      cases e2
      obtain ⟨⟨x, rfl⟩, q3⟩ := q2
      exact ⟨_, _, by simp only [List.map_cons, loopF, hb, q1], ⟨x, rfl⟩, q3⟩
/-- behind a loop: on, or out -/
def goW {σ τ β : Type} (e : τ → β) (k : σ → Option β) (o : Fw σ τ) : Option β := match o with
  | .nx s => k s
  | .bk s => k s
  | .rt r => some (e r)
theorem sim_forM {C : σ → κ → REnv} (D : α → PyData) (B : σ → κ → α → REnv) (U : List PyData → Option (List α)) (hU : ∀ ds xs, U ds = some xs → ds = xs.map D) {body : σ → α → Option σ} {c : σ → Option β} (s0 : σ) (j0 : κ) (hi : Ev fi ρ ρ1 l) (h0 : ρ1 = C s0 j0)
    (hb : ∀ s j a, h (D a) (C s j) = some (B s j a)) (hs : ∀ s j a, Sim fb (B s j a) (body s a) (TnM C)) (hk : ∀ s j, Sim g (C s j) (c s) P) :
    Sim (sSeq (sFor fi h fb) g) ρ (l.bind fun ds => (U ds).bind fun xs => (loopM body xs s0).bind fun s => c s) P := fun a e => by
  obtain ⟨ds, e1, e2⟩ := obind e
  obtain ⟨xs, e3, e4⟩ := obind e2
  obtain ⟨s, e5, e6⟩ := obind e4
  have hd := hU _ _ e3
  subst hd
  subst h0
  obtain ⟨j', q⟩ := loopM_sim hb hs xs s0 j0 s e5
  obtain ⟨fl, r, q1, q2⟩ := hk s j' a e6
  exact ⟨fl, r, by rw [seqN (show sFor fi h fb ρ = _ by simp only [sFor, hi _ e1]; exact q)]; exact q1, q2⟩
theorem sim_forW {C : σ → κ → REnv} {R : τ → Fl → REnv → Prop} (em : τ → β) (D : α → PyData) (B : σ → κ → α → REnv) (U : List PyData → Option (List α)) (hU : ∀ ds xs, U ds = some xs → ds = xs.map D) {body : σ → α → Option (Fw σ τ)} {c : σ → Option β} (s0 : σ) (j0 : κ) (hi : Ev fi ρ ρ1 l) (h0 : ρ1 = C s0 j0)
    (hb : ∀ s j a, h (D a) (C s j) = some (B s j a)) (hs : ∀ s j a, Sim fb (B s j a) (body s a) (Tn C R)) (hk : ∀ s j, Sim g (C s j) (c s) P) (hr : ∀ t x r, R t (.rt x) r → P (em t) (.rt x) r) :
    Sim (sSeq (sFor fi h fb) g) ρ (l.bind fun ds => (U ds).bind fun xs => (loopW body xs s0).bind fun o => goW em c o) P := fun a e => by
  obtain ⟨ds, e1, e2⟩ := obind e
  obtain ⟨xs, e3, e4⟩ := obind e2
  obtain ⟨o, e5, e6⟩ := obind e4
  have hd := hU _ _ e3
  subst hd
  subst h0
  obtain ⟨fl, r, q, q2⟩ := loopW_sim hb hs xs s0 j0 o e5
  have hf : sFor fi h fb ρ = some (fl, r) := by simp only [sFor, hi _ e1]; exact q
  cases o with
  | nx s =>
    obtain ⟨rfl, j', rfl⟩ := q2
    obtain ⟨fl, r, q3, q4⟩ := hk s j' a e6
    exact ⟨fl, r, by rw [seqN hf]; exact q3, q4⟩
  | bk s =>
    obtain ⟨rfl, j', rfl⟩ := q2
    obtain ⟨fl, r, q3, q4⟩ := hk s j' a e6
    exact ⟨fl, r, by rw [seqN hf]; exact q3, q4⟩
  | rt t =>
    obtain ⟨⟨x, rfl⟩, q3⟩ := q2
    cases e6
    exact ⟨_, _, seqR hf, hr t x r q3⟩
/-- what is walked draws -/
theorem sim_forMS {S : Type} {E : S → REnv} {ml : Option (List PyData × S)} {C : σ → κ → REnv} (D : α → PyData) (B : σ → κ → α → REnv) (U : List PyData → Option (List α)) (hU : ∀ ds xs, U ds = some xs → ds = xs.map D) {body : σ → α → Option σ} {c : σ → Option β} (s0 : S → σ) (j0 : κ) (hi : EvS fi ρ ml E) (h0 : ∀ w, E w = C (s0 w) j0)
    (hb : ∀ s j a, h (D a) (C s j) = some (B s j a)) (hs : ∀ s j a, Sim fb (B s j a) (body s a) (TnM C)) (hk : ∀ s j, Sim g (C s j) (c s) P) :
    Sim (sSeq (sFor fi h fb) g) ρ (ml.bind fun p => (U p.1).bind fun xs => (loopM body xs (s0 p.2)).bind fun s => c s) P := fun a e => by
  obtain ⟨⟨ds, w⟩, e1, e2⟩ := obind e
  obtain ⟨xs, e3, e4⟩ := obind e2
  obtain ⟨s, e5, e6⟩ := obind e4
  have hd := hU _ _ e3
  replace hd : ds = xs.map D := hd
  subst hd
  obtain ⟨j', q⟩ := loopM_sim hb hs xs _ j0 s e5
  obtain ⟨fl, r, q1, q2⟩ := hk s j' a e6
  exact ⟨fl, r, by rw [seqN (show sFor fi h fb ρ = _ by simp only [sFor, hi _ _ e1, h0]; exact q)]; exact q1, q2⟩
theorem sim_forWS {S : Type} {E : S → REnv} {ml : Option (List PyData × S)} {C : σ → κ → REnv} {R : τ → Fl → REnv → Prop} (em : τ → β) (D : α → PyData) (B : σ → κ → α → REnv) (U : List PyData → Option (List α)) (hU : ∀ ds xs, U ds = some xs → ds = xs.map D) {body : σ → α → Option (Fw σ τ)} {c : σ → Option β} (s0 : S → σ) (j0 : κ) (hi : EvS fi ρ ml E) (h0 : ∀ w, E w = C (s0 w) j0)
    (hb : ∀ s j a, h (D a) (C s j) = some (B s j a)) (hs : ∀ s j a, Sim fb (B s j a) (body s a) (Tn C R)) (hk : ∀ s j, Sim g (C s j) (c s) P) (hr : ∀ t x r, R t (.rt x) r → P (em t) (.rt x) r) :
    Sim (sSeq (sFor fi h fb) g) ρ (ml.bind fun p => (U p.1).bind fun xs => (loopW body xs (s0 p.2)).bind fun o => goW em c o) P := fun a e => by
  obtain ⟨⟨ds, w⟩, e1, e2⟩ := obind e
  obtain ⟨xs, e3, e4⟩ := obind e2
  obtain ⟨o, e5, e6⟩ := obind e4
  have hd := hU _ _ e3
  replace hd : ds = xs.map D := hd
  subst hd
  obtain ⟨fl, r, q, q2⟩ := loopW_sim hb hs xs _ j0 o e5
  have hf : sFor fi h fb ρ = some (fl, r) := by simp only [sFor, hi _ _ e1, h0]; exact q
  cases o with
  | nx s =>
    obtain ⟨rfl, j', rfl⟩ := q2
    obtain ⟨fl, r, q3, q4⟩ := hk s j' a e6
    exact ⟨fl, r, by rw [seqN hf]; exact q3, q4⟩
  | bk s =>
    obtain ⟨rfl, j', rfl⟩ := q2
    obtain ⟨fl, r, q3, q4⟩ := hk s j' a e6
    exact ⟨fl, r, by rw [seqN hf]; exact q3, q4⟩
  | rt t =>
    obtain ⟨⟨x, rfl⟩, q3⟩ := q2
    cases e6
    exact ⟨_, _, seqR hf, hr t x r q3⟩
theorem some_map (ds xs : List PyData) (h : some ds = some xs) : ds = xs.map fun a => a := by cases h; simp
end
/-! ### a def's end -/
def flR : Fl → Option Ret
  | .rt r => some r
  | .nx => some (.pl .none)
  | _ => none
/-- the whole def: its value and what the lists handed in hold -/
def Pf {α : Type} (xs : List PV) (r : α → Ret) (os : α → List (Option (List PyData))) : α → Fl → REnv → Prop := fun a fl ρ => flR fl = some (r a) ∧ outsOf ρ xs = os a
theorem fn_sim {α : Type} {m : Nat} {f : S1} {xs : List PV} {o : Option α} {r : α → Ret} {os : α → List (Option (List PyData))} (h : Sim f (xs.map some ++ List.replicate (m - xs.length) none) o (Pf xs r os)) {a : α} (e : o = some a) : fnOf m f xs = some (r a, os a) := by
  obtain ⟨fl, ρ', h1, h2, h3⟩ := h a e
  unfold fnOf
  rw [h1]
  cases fl with
  | nx => have q := Option.some.inj h2; simp only [← q, ← h3]
  | rt x => have q := Option.some.inj h2; simp only [← q, ← h3]
  | bk => cases h2
  | ct => cases h2
end Dv

/-! Dw: reckoning with direct code. -/
namespace Dv
open PySem
/-- no road for dsimp -/
theorem nr {α : Type} {a b : α} (h : a = b) : a = b := h
theorem bsome {α β : Type} (a : α) (f : α → Option β) : (some a).bind f = f a := nr rfl
theorem bassoc {α β γ : Type} (o : Option α) (f : α → Option β) (g : β → Option γ) : (o.bind f).bind g = o.bind fun x => (f x).bind g := by cases o <;> rfl
theorem nLenT (xs : List PyData) : gLen [.tuple xs] = some (.int xs.length) := nr rfl
theorem nLenL (xs : List PyData) : gLen [.list xs] = some (.int xs.length) := nr rfl
theorem nAdd (i j : Int) : gAdd (.int i) (.int j) = some (.int (i + j)) := nr rfl
theorem nSub (i j : Int) : gSub (.int i) (.int j) = some (.int (i - j)) := nr rfl
theorem nLt (i j : Int) : gLt (.int i) (.int j) = some (.bool (decide (i < j))) := nr rfl
theorem nLe (i j : Int) : gLe (.int i) (.int j) = some (.bool (decide (i ≤ j))) := nr rfl
theorem nGt (i j : Int) : gGt (.int i) (.int j) = some (.bool (decide (j < i))) := nr rfl
theorem nGe (i j : Int) : gGe (.int i) (.int j) = some (.bool (decide (j ≤ i))) := nr rfl
theorem nInt (i : Int) : gInt [.int i] = some (.int i) := nr rfl
theorem nNeg (i : Int) : gNeg (.int i) = some (.int (-i)) := nr rfl
theorem nItT (xs : List PyData) : itemsOf (.tuple xs) = some xs := nr rfl
theorem nItL (xs : List PyData) : itemsOf (.list xs) = some xs := nr rfl
theorem nTupL (xs : List PyData) : gTuple [.list xs] = some (.tuple xs) := nr rfl
theorem nTupT (xs : List PyData) : gTuple [.tuple xs] = some (.tuple xs) := nr rfl
theorem nListT (xs : List PyData) : gList [.tuple xs] = some xs := nr rfl
theorem nListL (xs : List PyData) : gList [.list xs] = some xs := nr rfl
theorem nIx2a (a b : PyData) : gIx (.tuple [a, b]) (.int 0) = some a := nr rfl
theorem nIx2b (a b : PyData) : gIx (.tuple [a, b]) (.int 1) = some b := nr rfl
theorem nUn2 (a b : PyData) : un2 (.tuple [a, b]) = some (a, b) := nr rfl
theorem nUn3 (a b c : PyData) : un3 (.tuple [a, b, c]) = some (a, b, c) := nr rfl
theorem nPart (i : Int) : partO (.int i) = some (some i) := nr rfl
theorem nNotT : (!true) = false := nr rfl
theorem nNotF : (!false) = true := nr rfl
theorem nGoN {σ τ β : Type} (e : τ → β) (k : σ → Option β) (s : σ) : goW e k (.nx s) = k s := nr rfl
theorem nGoB {σ τ β : Type} (e : τ → β) (k : σ → Option β) (s : σ) : goW e k (.bk s) = k s := nr rfl
theorem nGoR {σ τ β : Type} (e : τ → β) (k : σ → Option β) (r : τ) : goW e k (.rt r) = some (e r) := nr rfl
/-- it ends, and P holds of it -/
def WP {α : Type} (o : Option α) (P : α → Prop) : Prop := ∃ a, o = some a ∧ P a
section
variable {α β : Type} {o : Option α} {P : α → Prop} {Q : β → Prop}
theorem WP.ret {a : α} (h : P a) : WP (Option.some a) P := ⟨a, rfl, h⟩
theorem WP.of {a : α} (e : o = some a) (h : P a) : WP o P := ⟨a, e, h⟩
theorem WP.bind {k : α → Option β} (h : WP o P) (hk : ∀ a, P a → WP (k a) Q) : WP (o.bind k) Q := by
  obtain ⟨a, rfl, h⟩ := h; exact hk a h
theorem WP.mono {P' : α → Prop} (h : WP o P) (hk : ∀ a, P a → P' a) : WP o P' := by
  obtain ⟨a, e, h⟩ := h; exact ⟨a, e, hk a h⟩
theorem WP.eq {a : α} {k : α → Option β} (e : o = .some a) (h : WP (k a) Q) : WP (o.bind k) Q := by subst e; exact h
theorem WP.ite {b : Bool} {x y : Option α} (h1 : b = true → WP x P) (h2 : b = false → WP y P) : WP (if b then x else y) P := by
  cases b with
  | true => exact h1 rfl
  | false => exact h2 rfl
theorem loopM_wp {σ : Type} {f : σ → α → Option σ} (I : σ → Prop) : ∀ (xs : List α) (s : σ), I s → (∀ s a, a ∈ xs → I s → WP (f s a) I) → WP (loopM f xs s) I
  | [], s, h, _ => ⟨s, rfl, h⟩
  | x :: xs, s, h, hf => (hf s x List.mem_cons_self h).bind fun s' h' => loopM_wp I xs s' h' fun s a m => hf s a (List.mem_cons_of_mem _ m)
/-- by what has been walked -/
theorem loopM_wpi {σ : Type} {f : σ → α → Option σ} (I : List α → σ → Prop) : ∀ (xs pre : List α) (s : σ), I pre s → (∀ pre a post s, pre ++ a :: post = pre ++ a :: post → I pre s → a ∈ xs → WP (f s a) (I (pre ++ [a]))) → WP (loopM f xs s) (I (pre ++ xs))
  | [], pre, s, h, _ => ⟨s, rfl, by rwa [List.append_nil]⟩
  | x :: xs, pre, s, h, hf => (hf pre x xs s rfl h List.mem_cons_self).bind fun s' h' => by
    have := loopM_wpi I xs (pre ++ [x]) s' h' fun p a q s e i m => hf p a q s e i (List.mem_cons_of_mem _ m)
    rwa [List.append_assoc] at this
theorem loopW_wp {σ τ : Type} {f : σ → α → Option (Fw σ τ)} (I : σ → Prop) (Z : Fw σ τ → Prop) (hz : ∀ s, I s → Z (.nx s)) : ∀ (xs : List α) (s : σ), I s → (∀ s a, a ∈ xs → I s → WP (f s a) fun o => match o with | .nx s => I s | o => Z o) → WP (loopW f xs s) Z
  | [], s, h, _ => ⟨_, rfl, hz s h⟩
  | x :: xs, s, h, hf => by
    obtain ⟨o, e, h'⟩ := hf s x List.mem_cons_self h
    unfold loopW
    rw [e, Option.bind_some]
    cases o with
    | nx s' => exact loopW_wp I Z hz xs s' h' fun s a m => hf s a (List.mem_cons_of_mem _ m)
    | bk s' => exact ⟨_, rfl, h'⟩
    | rt r => exact ⟨_, rfl, h'⟩
/-- a search -/
theorem loopW_find {σ τ : Type} {f : σ → α → Option (Fw σ τ)} {s : σ} {r : τ} (q : α → Bool) : ∀ (xs : List α), (∀ a ∈ xs, f s a = if q a then some (.rt r) else some (.nx s)) → loopW f xs s = if xs.any q then some (.rt r) else some (.nx s)
  | [], _ => rfl
  | x :: xs, h => by
    unfold loopW
    rw [h x List.mem_cons_self, List.any_cons]
    cases hq : q x with
    | true => simp
    | false =>
      simp only [Bool.false_eq_true, if_false, Option.bind_some, Bool.false_or]
      exact loopW_find q xs fun a m => h a (List.mem_cons_of_mem _ m)
theorem lm_some {e : α → Option β} {g : α → β} {xs : List α} (h : ∀ a ∈ xs, e a = some (g a)) (hl : xs.length ≤ sizeLine) : lmO e xs = some (xs.map g) := by
  unfold lmO
  rw [if_pos (le_fits hl)]
  clear hl
  induction xs with
  | nil => rfl
  | cons x xs ih =>
    unfold lcm'
    rw [h x List.mem_cons_self, Option.bind_some, ih fun a m => h a (List.mem_cons_of_mem _ m)]; rfl
theorem lcf_some {t : α → Option Bool} {p : α → Bool} {e : α → Option β} {g : α → β} : ∀ {xs : List α}, (∀ a ∈ xs, t a = some (p a)) → (∀ a ∈ xs, p a = true → e a = some (g a)) → lcf t e xs = some ((xs.filter p).map g)
  | [], _, _ => rfl
  | x :: xs, ht, he => by
    unfold lcf
    rw [ht x List.mem_cons_self, Option.bind_some, lcf_some (fun a m => ht a (List.mem_cons_of_mem _ m)) fun a m => he a (List.mem_cons_of_mem _ m)]
    cases hp : p x with
    | true => simp [he x List.mem_cons_self hp, hp]
    | false => simp [hp]
theorem lc_some {t : α → Option Bool} {p : α → Bool} {e : α → Option β} {g : α → β} {xs : List α} (ht : ∀ a ∈ xs, t a = some (p a)) (he : ∀ a ∈ xs, p a = true → e a = some (g a)) (hl : xs.length ≤ sizeLine) : lcO t e xs = some ((xs.filter p).map g) := by
  unfold lcO
  rw [if_pos (le_fits hl), lcf_some ht he]
theorem lc2f_some {γ : Type} {t : α → Option Bool} {p : α → Bool} {i : α → Option (List β)} {m : α → List β} {t1 : α → β → Option Bool} {p1 : α → β → Bool} {e : α → β → Option γ} {g : α → β → γ} : ∀ {xs : List α}, (∀ a ∈ xs, t a = some (p a)) → (∀ a ∈ xs, p a = true → i a = some (m a)) →
    (∀ a ∈ xs, p a = true → ∀ b ∈ m a, t1 a b = some (p1 a b)) → (∀ a ∈ xs, p a = true → ∀ b ∈ m a, p1 a b = true → e a b = some (g a b)) → lc2f t i t1 e xs = some ((xs.filter p).flatMap fun a => ((m a).filter (p1 a)).map (g a))
  | [], _, _, _, _ => rfl
  | x :: xs, ht, hi, h1, h2 => by
    unfold lc2f
    rw [ht x List.mem_cons_self, Option.bind_some, lc2f_some (fun a m => ht a (List.mem_cons_of_mem _ m)) (fun a m => hi a (List.mem_cons_of_mem _ m)) (fun a m => h1 a (List.mem_cons_of_mem _ m)) fun a m => h2 a (List.mem_cons_of_mem _ m)]
    cases hp : p x with
    | true =>
      simp only [if_true, hi x List.mem_cons_self hp, Option.bind_some, lcf_some (h1 x List.mem_cons_self hp) (h2 x List.mem_cons_self hp), List.filter_cons, hp, List.flatMap_cons]
    | false => simp [hp]
theorem lc2_some {γ : Type} {t : α → Option Bool} {p : α → Bool} {i : α → Option (List β)} {m : α → List β} {t1 : α → β → Option Bool} {p1 : α → β → Bool} {e : α → β → Option γ} {g : α → β → γ} {xs : List α} (ht : ∀ a ∈ xs, t a = some (p a)) (hi : ∀ a ∈ xs, p a = true → i a = some (m a))
    (h1 : ∀ a ∈ xs, p a = true → ∀ b ∈ m a, t1 a b = some (p1 a b)) (h2 : ∀ a ∈ xs, p a = true → ∀ b ∈ m a, p1 a b = true → e a b = some (g a b)) (hl : ((xs.filter p).flatMap fun a => ((m a).filter (p1 a)).map (g a)).length ≤ sizeLine) : lc2O t i t1 e xs = some ((xs.filter p).flatMap fun a => ((m a).filter (p1 a)).map (g a)) := by
  unfold lc2O
  rw [lc2f_some ht hi h1 h2, Option.bind_some, if_pos (le_fits hl)]
end
/-! ### what a value is -/
/-- plain data, no row longer than n -/
inductive Gd (n : Nat) : PyData → Prop
  | non : Gd n .none
  | bl (b : Bool) : Gd n (.bool b)
  | int (i : Int) : Gd n (.int i)
  | str (x : Str) : Gd n (.str x)
  | dic : Gd n (.dict [])
  | lst {ds : List PyData} (h : ds.length ≤ n) (t : ∀ d ∈ ds, Gd n d) : Gd n (.list ds)
  | tup {ds : List PyData} (h : ds.length ≤ n) (t : ∀ d ∈ ds, Gd n d) : Gd n (.tuple ds)
theorem Gd.up {n m : Nat} (h : n ≤ m) : ∀ {d : PyData}, Gd n d → Gd m d := fun g => by
  induction g with
  | non => exact .non
  | bl b => exact .bl b
  | int i => exact .int i
  | str x => exact .str x
  | dic => exact .dic
  | lst h1 _ ih => exact .lst (Nat.le_trans h1 h) ih
  | tup h1 _ ih => exact .tup (Nat.le_trans h1 h) ih
theorem Gd.len {n : Nat} {xs : List PyData} (h : Gd n (.tuple xs)) : xs.length ≤ n := by cases h; assumption
theorem Gd.mem {n : Nat} {xs : List PyData} (h : Gd n (.tuple xs)) : ∀ d ∈ xs, Gd n d := by cases h; assumption
def isW : PyData → Bool
  | .int _ => true
  | _ => false
def isI : PyData → Bool
  | .int _ => true
  | .bool _ => true
  | _ => false
def isB : PyData → Bool
  | .bool _ => true
  | _ => false
def isT : PyData → Bool
  | .tuple _ => true
  | _ => false
def isS : PyData → Bool
  | .str _ => true
  | _ => false
section
variable {n : Nat} {d : PyData}
theorem isi_int' (h : Gd n d) : isi "int" d = some (.bool (isI d)) := by
  unfold isi
  cases h <;> first | rfl | (simp only [tyName]; first | rfl | decide +kernel)
theorem isi_bool' (h : Gd n d) : isi "bool" d = some (.bool (isB d)) := by
  unfold isi
  cases h <;> first | rfl | (simp only [tyName]; first | rfl | decide +kernel)
theorem isi_tup' (h : Gd n d) : isi "tuple" d = some (.bool (isT d)) := by
  unfold isi
  cases h <;> first | rfl | (simp only [tyName]; first | rfl | decide +kernel)
theorem isi_str' (h : Gd n d) : isi "str" d = some (.bool (isS d)) := by
  unfold isi
  cases h <;> first | rfl | (simp only [tyName]; first | rfl | decide +kernel)
end
theorem isT_ex {d : PyData} (h : isT d = true) : ∃ xs, d = .tuple xs := by cases d <;> simp [isT] at h; exact ⟨_, rfl⟩
theorem isW_ex {d : PyData} (h : isW d = true) : ∃ i, d = .int i := by cases d <;> simp [isW] at h; exact ⟨_, rfl⟩
theorem andO_bb (b c : Bool) : andO (some (.bool b)) (some (.bool c)) = some (.bool (b && c)) := by cases b <;> rfl
/-- the second one only where the first one holds -/
theorem andO_of {b c : Bool} {o : Option PyData} (h : b = true → o = some (.bool c)) : andO (some (.bool b)) o = some (.bool (b && c)) := by
  cases b with
  | true => rw [h rfl]; rfl
  | false => rfl
theorem orO_of {b c : Bool} {o : Option PyData} (h : b = false → o = some (.bool c)) : orO (some (.bool b)) o = some (.bool (b || c)) := by
  cases b with
  | true => rfl
  | false => rw [h rfl]; rfl
theorem notO_b (b : Bool) : notO (some (.bool b)) = some (.bool (!b)) := nr rfl
theorem tBd_b (b : Bool) : tBd (.bool b) = some b := nr rfl
theorem isi_w (n : Nat) {d : PyData} (h : Gd n d) : andO (isi "int" d) (notO (isi "bool" d)) = some (.bool (isW d)) := by
  rw [isi_int' h, isi_bool' h, notO_b, andO_bb]
  cases h <;> rfl
theorem tupO_ok {xs : List PyData} (h : xs.length ≤ 100000) : tupO xs = some (.tuple xs) := by unfold tupO; rw [if_pos (le_fits (k5 h))]
theorem lstO_ok {xs : List PyData} (h : xs.length ≤ 100000) : lstO xs = some xs := by unfold lstO; rw [if_pos (le_fits (k5 h))]
theorem appO_ok {xs : List PyData} {d : PyData} (h : xs.length < 100000) : appO xs d = some (xs ++ [d]) := by unfold appO; rw [if_pos (le_fits (Nat.le_trans h sz5))]
theorem rngO_nat {n : Nat} (h : n ≤ 100000) : rngO (.int n) = some ((List.range n).map fun (i : Nat) => .int i) := by
  unfold rngO
  simp only [okR_nat h, if_true, rangeD, Int.toNat_natCast]
  congr 2
  funext i
  rw [Int.zero_add]
theorem rngO_int {j : Int} (h : -100000 ≤ j ∧ j ≤ 100000) : rngO (.int j) = some ((List.range j.toNat).map fun (i : Nat) => .int i) := by
  unfold rngO
  simp only [okR_int h, if_true, rangeD]
  congr 2
  funext i
  rw [Int.zero_add]
theorem rng2O_1 {n : Nat} (h : n ≤ 100000) : rng2O (.int 1) (.int n) = some ((List.range (n - 1)).map fun (i : Nat) => .int (1 + (i : Int))) := by
  unfold rng2O
  simp only [okR_nat h, okR_nat (n := 1) (by omega), if_true, rangeD]
  rw [show okR 1 = true from rfl]
  simp only [Bool.and_self, if_true]
  congr 3
  omega
theorem eqNat (a b : Nat) : gEqA (.int a) (.int b) = some (.bool (decide (a = b))) := by
  show gEq (.int a) (.int b) = _
  simp [gEq, SeqAt.shaped, PyData.canLay0, PyData.depth, PyData.eqv]
  exact Bool.eq_iff_iff.mpr (by simp; omega)
theorem eqInt (a b : Int) : gEqA (.int a) (.int b) = some (.bool (decide (a = b))) := by
  show gEq (.int a) (.int b) = _
  simp [gEq, SeqAt.shaped, PyData.canLay0, PyData.depth, PyData.eqv]
  exact Bool.eq_iff_iff.mpr (by simp)
theorem neInt (a b : Int) : gNeA (.int a) (.int b) = some (.bool (!decide (a = b))) := by
  show gNe (.int a) (.int b) = _
  simp [gNe, SeqAt.shaped, PyData.canLay0, PyData.depth, PyData.eqv]
  exact Bool.eq_iff_iff.mpr (by simp)
theorem eqStr (a b : Str) : gEqA (.str a) (.str b) = some (.bool (decide (a = b))) := nr rfl
theorem neStr (a b : Str) : gNeA (.str a) (.str b) = some (.bool (!decide (a = b))) := nr rfl
theorem all_bool (bs : List Bool) : gAll [.list (bs.map .bool)] = some (.bool (bs.all id)) := by simp [gAll, blsOf_map]
theorem any_bool (bs : List Bool) : gAny [.list (bs.map .bool)] = some (.bool (bs.any id)) := by simp [gAny, blsOf_map]
/-! ### a well of draws -/
def W3 (w : List PyData) : Prop := ∃ a b c : Int, w = [.int a, .int b, .int c]
theorem sm_mod (i : Int) : small64 (i % 2147483489) = true := by
  have a := Int.emod_nonneg i (show (2147483489 : Int) ≠ 0 by omega)
  have b := Int.emod_lt_of_pos i (show (0 : Int) < 2147483489 by omega)
  simp [small64]; omega
theorem ix30 : L2.ixN 3 0 = some 0 := rfl
theorem ix31 : L2.ixN 3 1 = some 1 := rfl
theorem ix32 : L2.ixN 3 2 = some 2 := rfl
theorem ixL0 (a b c : PyData) : gIx (.list [a, b, c]) (.int 0) = some a := rfl
theorem ixL1 (a b c : PyData) : gIx (.list [a, b, c]) (.int 1) = some b := rfl
theorem ixL2 (a b c : PyData) : gIx (.list [a, b, c]) (.int 2) = some c := rfl
end Dv

/-! Dw: rows of ints, rows of these. -/
namespace Dv
open PySem
theorem lm_map {α β γ : Type} {e : β → Option γ} {f : α → β} {g : α → γ} {l : List α} (h : ∀ a ∈ l, e (f a) = some (g a)) (hl : l.length ≤ 100000) : lmO e (l.map f) = some (l.map g) := by
  have q : lmO e (l.map f) = lmO (fun a => e (f a)) l := by
    unfold lmO
    rw [List.length_map]
    congr 1
    clear h hl
    induction l with
    | nil => rfl
    | cons x xs ih => simp only [List.map_cons, lcm', ih]
  rw [q]
  exact lm_some h (k5 hl)
theorem lc_map {α β γ : Type} {t : β → Option Bool} {e : β → Option γ} {f : α → β} {p : α → Bool} {g : α → γ} {l : List α} (ht : ∀ a ∈ l, t (f a) = some (p a)) (h : ∀ a ∈ l, p a = true → e (f a) = some (g a)) (hl : l.length ≤ 100000) : lcO t e (l.map f) = some ((l.filter p).map g) := by
  have q : lcO t e (l.map f) = lcO (fun a => t (f a)) (fun a => e (f a)) l := by
    unfold lcO
    rw [List.length_map]
    congr 1
    clear h hl ht
    induction l with
    | nil => rfl
    | cons x xs ih => simp only [List.map_cons, lcf, ih]
  rw [q]
  exact lc_some ht h (k5 hl)
theorem lcf_map {α β γ : Type} {t : β → Option Bool} {e : β → Option γ} {f : α → β} {p : α → Bool} {g : α → γ} : ∀ {l : List α}, (∀ a ∈ l, t (f a) = some (p a)) → (∀ a ∈ l, p a = true → e (f a) = some (g a)) → lcf t e (l.map f) = some ((l.filter p).map g)
  | [], _, _ => rfl
  | x :: xs, ht, he => by
    rw [List.map_cons]
    unfold lcf
    rw [ht x List.mem_cons_self, bsome, lcf_map (fun a m => ht a (List.mem_cons_of_mem _ m)) fun a m => he a (List.mem_cons_of_mem _ m)]
    cases hp : p x with
    | true => simp [he x List.mem_cons_self hp, hp]
    | false => simp [hp]
theorem lc2_map {α α' β β' γ : Type} {f : α → β} {f1 : α' → β'} {t : β → Option Bool} {p : α → Bool} {i : β → Option (List β')} {m : α → List α'} {t1 : β → β' → Option Bool} {p1 : α → α' → Bool} {e : β → β' → Option γ} {g : α → α' → γ} {l : List α} (ht : ∀ a ∈ l, t (f a) = some (p a)) (hi : ∀ a ∈ l, p a = true → i (f a) = some ((m a).map f1))
    (h1 : ∀ a ∈ l, p a = true → ∀ b ∈ m a, t1 (f a) (f1 b) = some (p1 a b)) (h2 : ∀ a ∈ l, p a = true → ∀ b ∈ m a, p1 a b = true → e (f a) (f1 b) = some (g a b)) (hl : ((l.filter p).flatMap fun a => ((m a).filter (p1 a)).map (g a)).length ≤ 100000) : lc2O t i t1 e (l.map f) = some ((l.filter p).flatMap fun a => ((m a).filter (p1 a)).map (g a)) := by
  have q : lc2f t i t1 e (l.map f) = some ((l.filter p).flatMap fun a => ((m a).filter (p1 a)).map (g a)) := by
    clear hl
    induction l with
    | nil => rfl
    | cons x xs ih =>
      rw [List.map_cons]
      unfold lc2f
      rw [ht x List.mem_cons_self, bsome, ih (fun a m => ht a (List.mem_cons_of_mem _ m)) (fun a m => hi a (List.mem_cons_of_mem _ m)) (fun a m => h1 a (List.mem_cons_of_mem _ m)) fun a m => h2 a (List.mem_cons_of_mem _ m)]
      cases hp : p x with
      | true =>
        rw [if_pos rfl, hi x List.mem_cons_self hp, bsome, lcf_map (h1 x List.mem_cons_self hp) (h2 x List.mem_cons_self hp), bsome, bsome, List.filter_cons, if_pos hp, List.flatMap_cons]
      | false => simp [hp]
  unfold lc2O
  rw [q, bsome, if_pos (le_fits (k5 hl))]
abbrev ti (ns : List Int) : PyData := .tuple (ns.map .int)
abbrev tt (ls : List (List Int)) : PyData := .tuple (ls.map ti)
theorem lay_ints : ∀ ns : List Int, PyData.canLayAll0 (ns.map .int) = true
  | [] => rfl
  | n :: ns => by simp [PyData.canLayAll0, PyData.canLay0, lay_ints ns]
theorem dep_ints : ∀ ns : List Int, PyData.depthAll (ns.map .int) = 0
  | [] => rfl
  | n :: ns => by simp [PyData.depthAll, PyData.depth, dep_ints ns]
theorem lay_tis : ∀ ls : List (List Int), PyData.canLayAll0 (ls.map ti) = true
  | [] => rfl
  | l :: ls => by simp [PyData.canLayAll0, PyData.canLay0, lay_ints, lay_tis ls]
theorem dep_tis : ∀ ls : List (List Int), PyData.depthAll (ls.map ti) ≤ 1
  | [] => by simp [PyData.depthAll]
  | l :: ls => by have := dep_tis ls; simp [PyData.depthAll, PyData.depth, dep_ints]; omega
theorem sh_ti (ns : List Int) : SeqAt.shaped (ti ns) = true := by
  simp [SeqAt.shaped, PyData.canLay0, lay_ints, PyData.depth, dep_ints]
theorem sh_li (ns : List Int) : SeqAt.shaped (.list (ns.map .int)) = true := by
  simp [SeqAt.shaped, PyData.canLay0, lay_ints, PyData.depth, dep_ints]
theorem sh_tt (ls : List (List Int)) : SeqAt.shaped (tt ls) = true := by
  have := dep_tis ls
  simp [SeqAt.shaped, PyData.canLay0, lay_tis, PyData.depth]; omega
theorem sh_lt (ls : List (List Int)) : SeqAt.shaped (.list (ls.map ti)) = true := by
  have := dep_tis ls
  simp [SeqAt.shaped, PyData.canLay0, lay_tis, PyData.depth]; omega
theorem sh_int (i : Int) : SeqAt.shaped (.int i) = true := rfl
theorem eqv_ints : ∀ a b : List Int, PyData.eqvAll (a.map .int) (b.map .int) = decide (a = b)
  | [], [] => rfl
  | [], _ :: _ => rfl
  | _ :: _, [] => rfl
  | x :: a, y :: b => by
    simp only [List.map_cons, PyData.eqvAll, PyData.eqv, eqv_ints a b]
    exact Bool.eq_iff_iff.mpr (by simp)
theorem eqv_ti (a b : List Int) : PyData.eqv (ti a) (ti b) = decide (a = b) := by simp only [PyData.eqv, eqv_ints]
theorem eqv_tis : ∀ a b : List (List Int), PyData.eqvAll (a.map ti) (b.map ti) = decide (a = b)
  | [], [] => rfl
  | [], _ :: _ => rfl
  | _ :: _, [] => rfl
  | x :: a, y :: b => by
    simp only [List.map_cons, PyData.eqvAll, eqv_ti, eqv_tis a b]
    exact Bool.eq_iff_iff.mpr (by simp)
theorem eq_ti (a b : List Int) : gEqA (ti a) (ti b) = some (.bool (decide (a = b))) := by
  show gEq (ti a) (ti b) = _
  unfold gEq; rw [sh_ti, sh_ti, eqv_ti]; rfl
theorem ne_ti (a b : List Int) : gNeA (ti a) (ti b) = some (.bool (!decide (a = b))) := by
  show gNe (ti a) (ti b) = _
  unfold gNe; rw [sh_ti, sh_ti, eqv_ti]; rfl
theorem eq_tt (a b : List (List Int)) : gEqA (tt a) (tt b) = some (.bool (decide (a = b))) := by
  show gEq (tt a) (tt b) = _
  unfold gEq; rw [sh_tt, sh_tt]; simp only [PyData.eqv, eqv_tis, Bool.and_self, if_true]
theorem eq_li (a b : List Int) : gEqA (.list (a.map .int)) (.list (b.map .int)) = some (.bool (decide (a = b))) := by
  show gEq (.list (a.map .int)) (.list (b.map .int)) = _
  unfold gEq; rw [sh_li, sh_li]; simp only [PyData.eqv, eqv_ints, Bool.and_self, if_true]
theorem ne_li (a b : List Int) : gNeA (.list (a.map .int)) (.list (b.map .int)) = some (.bool (!decide (a = b))) := by
  show gNe (.list (a.map .int)) (.list (b.map .int)) = _
  unfold gNe; rw [sh_li, sh_li]; simp only [PyData.eqv, eqv_ints, Bool.and_self, if_true]
theorem eq_lt (a b : List (List Int)) : gEqA (.list (a.map ti)) (.list (b.map ti)) = some (.bool (decide (a = b))) := by
  show gEq (.list (a.map ti)) (.list (b.map ti)) = _
  unfold gEq; rw [sh_lt, sh_lt]; simp only [PyData.eqv, eqv_tis, Bool.and_self, if_true]
theorem eq_ln (a : List (List Int)) : gEqA (.list (a.map ti)) (.list []) = some (.bool (decide (a = []))) := eq_lt a []
theorem eq_in (a : List Int) : gEqA (.list (a.map .int)) (.list []) = some (.bool (decide (a = []))) := eq_li a []
theorem ne_in (a : List Int) : gNeA (.list (a.map .int)) (.list []) = some (.bool (!decide (a = []))) := ne_li a []
theorem ne_t0 (a : List Int) : gNeA (ti a) (.tuple []) = some (.bool (!decide (a = []))) := ne_ti a []
theorem any_eq (i : Int) (ns : List Int) : (ns.any fun n => n == i) = decide (i ∈ ns) := by
  exact Bool.eq_iff_iff.mpr (by simp)
theorem in_ti (i : Int) (ns : List Int) : gIn (.int i) (ti ns) = some (.bool (decide (i ∈ ns))) := by
  simp only [gIn, gOr, gInT, intsOf_map, any_eq, Bool.false_eq_true, if_false]
theorem notin_ti (i : Int) (ns : List Int) : gNotIn (.int i) (ti ns) = some (.bool (!decide (i ∈ ns))) := by
  simp only [gNotIn, gOr, gInT, intsOf_map, any_eq, if_true]
theorem any_eqv (a : List Int) : ∀ ls : List (List Int), ((ls.map ti).any fun z => PyData.eqv z (ti a)) = decide (a ∈ ls)
  | [] => rfl
  | l :: ls => by
    rw [List.map_cons, List.any_cons, any_eqv a ls, eqv_ti, Bool.eq_iff_iff]
    simp only [Bool.or_eq_true, decide_eq_true_eq, List.mem_cons]
    exact ⟨fun h => h.elim (fun e => .inl e.symm) .inr, fun h => h.elim (fun e => .inl e.symm) .inr⟩
theorem notin_lt (a : List Int) (ls : List (List Int)) : gNotIn (ti a) (.list (ls.map ti)) = some (.bool (!decide (a ∈ ls))) := by
  have h : gInT true (ti a) (.list (ls.map ti)) = none := rfl
  have e : gInL true (ti a) (.list (ls.map ti)) = some (.bool (!decide (a ∈ ls))) := by
    show (if SeqAt.shaped (ti a) && SeqAt.shaped (.list (ls.map ti)) then some (PyData.bool (if true = true then !(ls.map ti).any fun z => PyData.eqv z (ti a) else _)) else none) = _
    rw [sh_ti, sh_lt, any_eqv]; rfl
  simp only [gNotIn, gOr, h, e]
theorem lt_ti (a b : List Int) : gLt (ti a) (ti b) = some (.bool (HT.lexLt a b)) := by
  unfold gLt gOr
  have h : (gI (fun i j => some (PyData.bool (decide (i < j)))) (ti a) (ti b)) = none := rfl
  rw [h]
  simp only [gLtT, intsOf_map]
theorem rows_ti : ∀ ls : List (List Int), (∀ l ∈ ls, l ≠ []) → rowsOf (ls.map ti) = some ls
  | [], _ => rfl
  | l :: ls, h => by
    have := rows_ti ls fun a m => h a (List.mem_cons_of_mem _ m)
    simp [rowsOf, intsOf_map, this, h l]
theorem sort_t (ls : List (List Int)) (h : ∀ l ∈ ls, l ≠ []) : gSorted [tt ls] = some (.list ((sortK ls).map ti)) := by simp only [gSorted, rows_ti ls h]
theorem sort_l (ls : List (List Int)) (h : ∀ l ∈ ls, l ≠ []) : gSorted [.list (ls.map ti)] = some (.list ((sortK ls).map ti)) := by simp only [gSorted, rows_ti ls h]
/-! ### one behind the other -/
def adjB {α : Type} (lt : α → α → Bool) : List α → Bool
  | a :: b :: r => lt a b && adjB lt (b :: r)
  | _ => true
theorem all_range_succ (n : Nat) (q : Nat → Bool) : (List.range (n + 1)).all q = (q 0 && (List.range n).all fun i => q (i + 1)) := by
  rw [List.range_succ_eq_map, List.all_cons, List.all_map]; rfl
theorem adj_range {α : Type} (lt : α → α → Bool) (z : α) : ∀ xs : List α, ((List.range (xs.length - 1)).all fun i => lt (xs.getD i z) (xs.getD (i + 1) z)) = adjB lt xs
  | [] => rfl
  | [_] => rfl
  | a :: b :: r => by
    have ih := adj_range lt z (b :: r)
    show ((List.range (r.length + 1)).all _) = _
    rw [all_range_succ]
    show (lt a b && _) = (lt a b && adjB lt (b :: r))
    rw [← ih]; rfl
theorem adj_map {α β : Type} (lt : α → α → Bool) (lt' : β → β → Bool) (f : β → α) (h : ∀ a b, lt (f a) (f b) = lt' a b) : ∀ xs : List β, adjB lt (xs.map f) = adjB lt' xs
  | [] => rfl
  | [_] => rfl
  | a :: b :: r => by
    have := adj_map lt lt' f h (b :: r)
    simp only [List.map_cons, adjB, h] at this ⊢
    rw [this]
def ltI : PyData → PyData → Bool
  | .int i, .int j => decide (i < j)
  | _, _ => false
def isIdx (m : Int) : PyData → Bool
  | .int i => decide (0 ≤ i) && decide (i < m)
  | _ => false
def allIdx (m : Int) : PyData → Bool
  | .tuple xs => xs.all (isIdx m)
  | _ => false
def ascI : PyData → Bool
  | .tuple xs => adjB ltI xs
  | _ => false
def isLot (m : Int) : PyData → Bool
  | .tuple xs => xs.all (isIdx m) && adjB ltI xs
  | _ => false
def tupN (n : Nat) : PyData → Bool
  | .tuple xs => decide (xs.length = n)
  | _ => false
theorem isIdx_ex {m : Int} {d : PyData} (h : isIdx m d = true) : ∃ i, d = .int i ∧ 0 ≤ i ∧ i < m := by
  cases d <;> simp [isIdx] at h
  exact ⟨_, rfl, h⟩
theorem gLt_idx {m : Int} {x y : PyData} (h : isIdx m x = true) (g : isIdx m y = true) : gLt x y = some (.bool (ltI x y)) := by
  obtain ⟨i, rfl, _⟩ := isIdx_ex h
  obtain ⟨j, rfl, _⟩ := isIdx_ex g
  rfl
/-- an ascending row of ints in [0, m) -/
def IsLot (m : Int) (ns : List Int) : Prop := (∀ i ∈ ns, 0 ≤ i ∧ i < m) ∧ adjB (fun a b : Int => decide (a < b)) ns = true
theorem ints_of {m : Int} : ∀ {xs : List PyData}, xs.all (isIdx m) = true → ∃ ns : List Int, xs = ns.map .int ∧ ∀ i ∈ ns, 0 ≤ i ∧ i < m
  | [], _ => ⟨[], rfl, by simp⟩
  | x :: xs, h => by
    simp only [List.all_cons, Bool.and_eq_true] at h
    obtain ⟨i, rfl, hi⟩ := isIdx_ex h.1
    obtain ⟨ns, rfl, hn⟩ := ints_of h.2
    exact ⟨i :: ns, rfl, by simpa using ⟨hi, hn⟩⟩
theorem lot_of {m : Int} {d : PyData} (h : isLot m d = true) : ∃ ns, d = ti ns ∧ IsLot m ns := by
  cases d <;> simp only [isLot, Bool.false_eq_true] at h
  simp only [Bool.and_eq_true] at h
  obtain ⟨ns, rfl, hn⟩ := ints_of h.1
  have e : adjB ltI (ns.map .int) = adjB (fun a b : Int => decide (a < b)) ns := adj_map _ _ _ (fun _ _ => rfl) ns
  exact ⟨ns, rfl, hn, by rw [← e]; exact h.2⟩
theorem lots_of {m : Int} : ∀ {xs : List PyData}, xs.all (isLot m) = true → ∃ ls : List (List Int), xs = ls.map ti ∧ ∀ l ∈ ls, IsLot m l
  | [], _ => ⟨[], rfl, by simp⟩
  | x :: xs, h => by
    simp only [List.all_cons, Bool.and_eq_true] at h
    obtain ⟨l, rfl, hl⟩ := lot_of h.1
    obtain ⟨ls, rfl, hn⟩ := lots_of h.2
    exact ⟨l :: ls, rfl, by simpa using ⟨hl, hn⟩⟩
theorem isLot_ti {m : Int} {ns : List Int} (h : IsLot m ns) : isLot m (ti ns) = true := by
  have e : adjB ltI (ns.map .int) = adjB (fun a b : Int => decide (a < b)) ns := adj_map _ _ _ (fun _ _ => rfl) ns
  simp only [isLot, e, h.2, Bool.and_true, List.all_map, List.all_eq_true]
  intro i hi
  have := h.1 i hi
  simp [isIdx]; omega
end Dv

/-! Dw: lots: sorted rows, maximal ones. -/
namespace Dv
open PySem
theorem adj_pw {α : Type} {lt : α → α → Bool} (tr : ∀ a b c, lt a b = true → lt b c = true → lt a c = true) : ∀ {l : List α}, adjB lt l = true → l.Pairwise fun a b => lt a b = true
  | [], _ => .nil
  | [a], _ => by simp
  | a :: b :: r, h => by
    simp only [adjB, Bool.and_eq_true] at h
    have ih := adj_pw tr h.2
    refine .cons (fun c hc => ?_) ih
    rcases List.mem_cons.mp hc with rfl | hc
    · exact h.1
    · exact tr a b c h.1 ((List.pairwise_cons.mp ih).1 c hc)
theorem pw_adj {α : Type} {lt : α → α → Bool} : ∀ {l : List α}, (l.Pairwise fun a b => lt a b = true) → adjB lt l = true
  | [], _ => rfl
  | [a], _ => rfl
  | a :: b :: r, h => by
    simp only [adjB, Bool.and_eq_true]
    have h := List.pairwise_cons.mp h
    exact ⟨h.1 b List.mem_cons_self, pw_adj h.2⟩
theorem lot_pw {m : Int} {l : List Int} (h : IsLot m l) : l.Pairwise (· < ·) := by
  have := adj_pw (lt := fun a b : Int => decide (a < b)) (fun a b c h g => by simp at *; omega) h.2
  exact this.imp fun h => by simpa using h
theorem lotPw {m : Int} {l : List Int} (h1 : ∀ i ∈ l, 0 ≤ i ∧ i < m) (h : l.Pairwise (· < ·)) : IsLot m l := ⟨h1, pw_adj (h.imp fun h => by simpa using h)⟩
theorem lex_trans (a b c : List Int) (h : HT.lexLt a b = true) (g : HT.lexLt b c = true) : HT.lexLt a c = true := by
  cases e : HT.lexLt a c with
  | true => rfl
  | false =>
    have h1 := lexLt_asym h
    have := lexLt_tr (a := b) (b := a) (c := c)
    cases e2 : HT.lexLt b c with
    | false => rw [e2] at g; cases g
    | true =>
      -- c ≤ a, a ≤ b
      have q := lexLt_tr (a := c) (b := a) (c := b)
      rw [q e h1] at e2
      cases e2
/-- of two ascending rows the one within the other is a part of it -/
theorem sub_of_subset : ∀ {a b : List Int}, a.Pairwise (· < ·) → b.Pairwise (· < ·) → (∀ x ∈ a, x ∈ b) → a.Sublist b
  | [], b, _, _, _ => List.nil_sublist b
  | x :: a, [], _, _, h => by have := h x List.mem_cons_self; simp at this
  | x :: a, y :: b, ha, hb, h => by
    have ha' := List.pairwise_cons.mp ha
    have hb' := List.pairwise_cons.mp hb
    rcases List.mem_cons.mp (h x List.mem_cons_self) with rfl | hx
    · refine List.Sublist.cons_cons _ (sub_of_subset ha'.2 hb'.2 fun z hz => ?_)
      rcases List.mem_cons.mp (h z (List.mem_cons_of_mem _ hz)) with e | e
      · have := ha'.1 z hz; omega
      · exact e
    · refine List.Sublist.cons _ (sub_of_subset ha hb'.2 fun z hz => ?_)
      rcases List.mem_cons.mp (h z hz) with e | e
      · have h1 := hb'.1 x hx
        rcases List.mem_cons.mp hz with e2 | e2
        · omega
        · have := ha'.1 z e2; omega
      · exact e
def within (a b : List Int) : Bool := a.all fun x => decide (x ∈ b)
def wider (ls : List (List Int)) (l : List Int) : List (List Int) := ls.filter fun e => decide (l.length < e.length) && decide ((l.filter fun x => !decide (x ∈ e)) = [])
/-- the law's own: the ones without a wider one, sorted, each once -/
def maxi (ls : List (List Int)) : List (List Int) := (sortK ls).foldl (fun found l => if decide (wider ls l = []) && !decide (l ∈ found) then found ++ [l] else found) []
def noneIn (ls : List (List Int)) : Bool := ls.all fun a => ls.all fun b => decide (a = b) || !within a b
theorem within_iff {a b : List Int} : within a b = true ↔ ∀ x ∈ a, x ∈ b := by simp [within]
theorem filt_nil {l e : List Int} : (l.filter fun x => !decide (x ∈ e)) = [] ↔ ∀ x ∈ l, x ∈ e := by
  rw [List.filter_eq_nil_iff]; simp
theorem wider_nil {ls : List (List Int)} {l : List Int} : wider ls l = [] ↔ ∀ e ∈ ls, l.length < e.length → ¬ ∀ x ∈ l, x ∈ e := by
  unfold wider
  rw [List.filter_eq_nil_iff]
  constructor
  · intro h e he hl hx
    have := h e he
    simp only [Bool.and_eq_true, decide_eq_true_eq, not_and] at this
    exact this hl (filt_nil.mpr hx)
  · intro h e he
    simp only [Bool.and_eq_true, decide_eq_true_eq, not_and]
    intro hl hx
    exact h e he hl (filt_nil.mp hx)
theorem noneIn_iff {ls : List (List Int)} (hp : ∀ l ∈ ls, l.Pairwise (· < ·)) : noneIn ls = true ↔ ∀ l ∈ ls, wider ls l = [] := by
  unfold noneIn
  simp only [List.all_eq_true, Bool.or_eq_true, decide_eq_true_eq, Bool.not_eq_true']
  constructor
  · intro h l hl
    refine wider_nil.mpr fun e he hlen hx => ?_
    rcases h l hl e he with rfl | h1
    · omega
    · rw [within_iff.mpr hx] at h1; cases h1
  · intro h a ha b hb
    by_cases hab : a = b
    · exact .inl hab
    · refine .inr ?_
      cases hw : within a b with
      | false => rfl
      | true =>
        have hx := within_iff.mp hw
        have s := sub_of_subset (hp a ha) (hp b hb) hx
        have h1 := s.length_le
        by_cases hl : a.length < b.length
        · exact absurd hx (wider_nil.mp (h a ha) b hb hl)
        · exact absurd (s.eq_of_length (by omega)) hab
theorem foldl_filter {ok : List Int → Bool} : ∀ (ls acc : List (List Int)), ls.Nodup → (∀ l ∈ ls, l ∉ acc) → ls.foldl (fun found l => if ok l && !decide (l ∈ found) then found ++ [l] else found) acc = acc ++ ls.filter ok
  | [], acc, _, _ => by simp
  | l :: ls, acc, hn, ha => by
    have hn' := List.nodup_cons.mp hn
    rw [List.foldl_cons]
    have h1 : decide (l ∈ acc) = false := by simpa using ha l List.mem_cons_self
    rw [h1]
    cases hk : ok l with
    | true =>
      simp only [Bool.not_false, Bool.and_self, if_true]
      rw [foldl_filter ls (acc ++ [l]) hn'.2 fun z hz hm => by
        rcases List.mem_append.mp hm with h | h
        · exact ha z (List.mem_cons_of_mem _ hz) h
        · have := List.mem_singleton.mp h; subst this; exact hn'.1 hz]
      simp [hk]
    | false =>
      simp only [Bool.false_and, Bool.false_eq_true, if_false]
      rw [foldl_filter ls acc hn'.2 fun z hz => ha z (List.mem_cons_of_mem _ hz)]
      simp [hk]
theorem lex_nodup {ls : List (List Int)} (h : ls.Pairwise fun a b => HT.lexLt a b = true) : ls.Nodup := h.imp fun {a b} h e => by
  subst e; rw [lexLt_irrefl] at h; cases h
theorem sortK_id {ls : List (List Int)} (h : ls.Pairwise fun a b => HT.lexLt a b = true) : sortK ls = ls := (sortK_uniq (List.Perm.refl _) (h.imp fun h => lexLt_asym h)).symm
theorem maxi_id {ls : List (List Int)} (h : ls.Pairwise fun a b => HT.lexLt a b = true) : maxi ls = ls.filter fun l => decide (wider ls l = []) := by
  unfold maxi
  rw [sortK_id h, foldl_filter (ok := fun l => decide (wider ls l = [])) ls [] (lex_nodup h) (fun _ _ => by simp), List.nil_append]
/-- maximal rows are what they are exactly if none is within another one -/
theorem maxi_eq {ls : List (List Int)} (h : ls.Pairwise fun a b => HT.lexLt a b = true) (hp : ∀ l ∈ ls, l.Pairwise (· < ·)) : decide (maxi ls = ls) = noneIn ls := by
  rw [maxi_id h]
  apply Bool.eq_iff_iff.mpr
  rw [decide_eq_true_eq, noneIn_iff hp, List.filter_eq_self]
  simp
/-- a scenario's contexts -/
structure IsCx (m : Nat) (ls : List (List Int)) : Prop where
  lot : ∀ l ∈ ls, IsLot m l
  ne : ∀ l ∈ ls, l ≠ []
  srt : ls.Pairwise fun a b => HT.lexLt a b = true
  cov : ∀ i : Nat, i < m → ∃ l ∈ ls, (i : Int) ∈ l
  non : noneIn ls = true
def ctxB (m : Nat) (ls : List (List Int)) : Bool := adjB HT.lexLt ls && ((List.range m).all (fun i => ls.any fun l => decide ((i : Int) ∈ l)) && noneIn ls)
theorem ctxB_of {m : Nat} {ls : List (List Int)} (h : IsCx m ls) : ctxB m ls = true := by
  unfold ctxB
  rw [pw_adj h.srt, h.non, Bool.true_and, Bool.and_true, List.all_eq_true]
  intro i hi
  obtain ⟨l, hl, hm⟩ := h.cov i (List.mem_range.mp hi)
  exact List.any_eq_true.mpr ⟨l, hl, by simpa using hm⟩
theorem maxi_cov {n : Nat} {ls : List (List Int)} (hn : ∀ l ∈ ls, l.length ≤ n) : ∀ l ∈ ls, ∃ e ∈ ls, wider ls e = [] ∧ ∀ x ∈ l, x ∈ e := by
  suffices h : ∀ k : Nat, ∀ l ∈ ls, n - l.length ≤ k → ∃ e ∈ ls, wider ls e = [] ∧ ∀ x ∈ l, x ∈ e from fun l hl => h _ l hl (Nat.le_refl _)
  intro k
  induction k with
  | zero =>
    intro l hl hk
    refine ⟨l, hl, wider_nil.mpr fun e he hlen _ => ?_, fun _ h => h⟩
    have := hn e he; omega
  | succ k ih =>
    intro l hl hk
    by_cases hw : wider ls l = []
    · exact ⟨l, hl, hw, fun _ h => h⟩
    · obtain ⟨e, he⟩ := List.exists_mem_of_ne_nil _ hw
      unfold wider at he
      simp only [List.mem_filter, Bool.and_eq_true, decide_eq_true_eq] at he
      obtain ⟨h1, h2, h3⟩ := he
      obtain ⟨e', h4, h5, h6⟩ := ih e h1 (by have := hn e h1; omega)
      exact ⟨e', h4, h5, fun x hx => h6 x (filt_nil.mp h3 x hx)⟩
theorem foldl_srt {ok : List Int → Bool} : ∀ (ls acc : List (List Int)), (ls.Pairwise fun a b => HT.lexLt b a = false) → (acc.Pairwise fun a b => HT.lexLt a b = true) → (∀ a ∈ acc, ∀ b ∈ ls, HT.lexLt b a = false) →
    (ls.foldl (fun found l => if ok l && !decide (l ∈ found) then found ++ [l] else found) acc).Pairwise (fun a b => HT.lexLt a b = true) ∧ ∀ x, x ∈ ls.foldl (fun found l => if ok l && !decide (l ∈ found) then found ++ [l] else found) acc ↔ x ∈ acc ∨ (x ∈ ls ∧ ok x = true)
  | [], acc, _, ha, _ => ⟨ha, fun x => by simp⟩
  | l :: ls, acc, hl, ha, hb => by
    have hl' := List.pairwise_cons.mp hl
    rw [List.foldl_cons]
    by_cases hc : (ok l && !decide (l ∈ acc)) = true
    · rw [if_pos hc]
      simp only [Bool.and_eq_true, Bool.not_eq_true', decide_eq_false_iff_not] at hc
      have h2 : (acc ++ [l]).Pairwise fun a b => HT.lexLt a b = true := by
        refine List.pairwise_append.mpr ⟨ha, by simp, fun a h1 b h2 => ?_⟩
        have := List.mem_singleton.mp h2; subst this
        cases e : HT.lexLt a b with
        | true => rfl
        | false => exact absurd (lexLt_eq e (hb a h1 b List.mem_cons_self)) fun z => hc.2 (z ▸ h1)
      obtain ⟨r1, r2⟩ := foldl_srt (ok := ok) ls (acc ++ [l]) hl'.2 h2 fun a h1 b h8 => by
        rcases List.mem_append.mp h1 with h | h
        · exact hb a h b (List.mem_cons_of_mem _ h8)
        · have := List.mem_singleton.mp h; subst this; exact hl'.1 b h8
      refine ⟨r1, fun x => ?_⟩
      rw [r2]
      simp only [List.mem_append, List.mem_cons, List.not_mem_nil, or_false]
      constructor
      · rintro ((h | rfl) | h)
        · exact .inl h
        · exact .inr ⟨.inl rfl, hc.1⟩
        · exact .inr ⟨.inr h.1, h.2⟩
      · rintro (h | ⟨rfl | h, g⟩)
        · exact .inl (.inl h)
        · exact .inl (.inr rfl)
        · exact .inr ⟨h, g⟩
    · rw [if_neg hc]
      obtain ⟨r1, r2⟩ := foldl_srt (ok := ok) ls acc hl'.2 ha fun a h1 b h2 => hb a h1 b (List.mem_cons_of_mem _ h2)
      refine ⟨r1, fun x => ?_⟩
      rw [r2]
      simp only [List.mem_cons]
      constructor
      · rintro (h | h)
        · exact .inl h
        · exact .inr ⟨.inr h.1, h.2⟩
      · rintro (h | ⟨rfl | h, g⟩)
        · exact .inl h
        · by_cases hm : x ∈ acc
          · exact .inl hm
          · exact absurd (by simp [g, hm]) hc
        · exact .inr ⟨h, g⟩
theorem maxi_mem {ls : List (List Int)} {x : List Int} : x ∈ maxi ls ↔ x ∈ ls ∧ wider ls x = [] := by
  unfold maxi
  rw [(foldl_srt (ok := fun l => decide (wider ls l = [])) (sortK ls) [] (sortK_srt ls) .nil (by simp)).2 x]
  simp [(sortK_perm ls).mem_iff]
theorem maxi_srt (ls : List (List Int)) : (maxi ls).Pairwise fun a b => HT.lexLt a b = true :=
  (foldl_srt (ok := fun l => decide (wider ls l = [])) (sortK ls) [] (sortK_srt ls) .nil (by simp)).1
/-- maximal lots that cover all are contexts -/
theorem maxi_cx {m : Nat} {ls : List (List Int)} (h1 : ∀ l ∈ ls, IsLot m l) (h2 : ∀ l ∈ ls, l ≠ []) (h3 : ∀ i : Nat, i < m → ∃ l ∈ ls, (i : Int) ∈ l) (h4 : ∀ l ∈ ls, l.length ≤ 100000) : IsCx m (maxi ls) where
  lot := fun l hl => h1 l (maxi_mem.mp hl).1
  ne := fun l hl => h2 l (maxi_mem.mp hl).1
  srt := maxi_srt ls
  cov := fun i hi => by
    obtain ⟨l, hl, hm⟩ := h3 i hi
    obtain ⟨e, he, hw, hx⟩ := maxi_cov h4 l hl
    exact ⟨e, maxi_mem.mpr ⟨he, hw⟩, hx _ hm⟩
  non := (noneIn_iff fun l hl => lot_pw (h1 l (maxi_mem.mp hl).1)).mpr fun l hl => wider_nil.mpr fun e he => wider_nil.mp (maxi_mem.mp hl).2 e (maxi_mem.mp he).1
end Dv

/-! Dw: what is shown; draws. -/
namespace Dv
open PySem
/-- shown at all -/
def Shw (d : PyData) : Prop := d.showable = true ∧ d.canLay0 = true ∧ d.depth ≤ 60 ∧ d.shown.length ≤ sizeLine
theorem repr_list {ds : List PyData} (h : Shw (.list ds)) : gRepr [.list ds] = some (.str (PyData.shown (.list ds))) := by
  have : ((PyData.list ds).showable && (PyData.list ds).canLay0 && decide ((PyData.list ds).depth ≤ 60) && decide ((PyData.list ds).shown.length ≤ sizeLine)) = true := by
    rw [h.1, h.2.1, decide_eq_true h.2.2.1, decide_eq_true h.2.2.2]; rfl
  show (if ((PyData.list ds).showable && (PyData.list ds).canLay0 && decide ((PyData.list ds).depth ≤ 60) && decide ((PyData.list ds).shown.length ≤ sizeLine)) = true then some (PyData.str (PyData.shown (.list ds))) else none) = _
  rw [if_pos this]
theorem shw_of {d : PyData} (h1 : d.showable = true) (h2 : d.canLay0 = true) (h3 : d.depth ≤ 60) (h4 : d.intsShort 13 = true) (h5 : d.weight ≤ 2 ^ 20) : Shw d :=
  ⟨h1, h2, h3, PyData.shown_fits (B := 13) (by decide) (by decide) (PyData.leavesShort_of_canLay0 13 d h2 h4) h5⟩
theorem shw_bools (a b : Bool) : Shw (.list [.bool a, .bool b]) := shw_of rfl rfl (by simp [PyData.depth, PyData.depthAll]) rfl (by simp [PyData.weight, PyData.weightAll])
/-- small rows -/
def Sm (l : List Int) : Prop := l.length ≤ 6 ∧ ∀ i ∈ l, 0 ≤ i ∧ i ≤ 7
theorem sm_int {i : Int} (h : 0 ≤ i ∧ i ≤ 7) : (PyData.int i).showable = true ∧ (PyData.int i).intsShort 13 = true ∧ (PyData.int i).weight ≤ 3 := by
  obtain ⟨n, rfl⟩ := Int.eq_ofNat_of_zero_le h.1
  have hn : n ≤ 7 := by omega
  have : ∀ n : Nat, n ≤ 7 → (PyData.int n).showable = true ∧ (PyData.int n).intsShort 13 = true ∧ (PyData.int n).weight ≤ 3 := by decide +kernel
  exact this n hn
theorem sm_ints : ∀ {l : List Int}, (∀ i ∈ l, 0 ≤ i ∧ i ≤ 7) → PyData.showableAll (l.map .int) = true ∧ PyData.intsShortAll 13 (l.map .int) = true ∧ PyData.weightAll (l.map .int) ≤ 4 * l.length
  | [], _ => ⟨rfl, rfl, by simp [PyData.weightAll]⟩
  | i :: l, h => by
    obtain ⟨a, b, c⟩ := sm_int (h i List.mem_cons_self)
    obtain ⟨a', b', c'⟩ := sm_ints fun j m => h j (List.mem_cons_of_mem _ m)
    refine ⟨?_, ?_, ?_⟩
    · simp only [List.map_cons, PyData.showableAll, a, a']; rfl
    · simp only [List.map_cons, PyData.intsShortAll, b, b']; rfl
    · simp only [List.map_cons, PyData.weightAll, List.length_cons]; omega
theorem sm_rows : ∀ {L : List (List Int)}, (∀ l ∈ L, Sm l) → PyData.showableAll (L.map ti) = true ∧ PyData.intsShortAll 13 (L.map ti) = true ∧ PyData.weightAll (L.map ti) ≤ 25 * L.length
  | [], _ => ⟨rfl, rfl, by simp [PyData.weightAll]⟩
  | l :: L, h => by
    have hl := h l List.mem_cons_self
    obtain ⟨a, b, c⟩ := sm_ints hl.2
    have := hl.1
    obtain ⟨a', b', c'⟩ := sm_rows fun j m => h j (List.mem_cons_of_mem _ m)
    refine ⟨?_, ?_, ?_⟩
    · simp only [List.map_cons, PyData.showableAll, PyData.showable, a, a']; rfl
    · simp only [List.map_cons, PyData.intsShortAll, PyData.intsShort, b, b']; rfl
    · simp only [List.map_cons, PyData.weightAll, PyData.weight, List.length_cons]; omega
theorem shw_two {L : List (List Int)} (h : ∀ l ∈ L, Sm l) (hl : L.length ≤ 20000) : Shw (.list [tt L, tt L]) := by
  obtain ⟨a, b, c⟩ := sm_rows h
  have d := dep_tis L
  have e : (2 : Nat) ^ 20 = 1048576 := by decide
  refine shw_of ?_ ?_ ?_ ?_ ?_
  · simp only [PyData.showable, PyData.showableAll, a]; rfl
  · simp only [PyData.canLay0, PyData.canLayAll0, lay_tis]; rfl
  · simp only [PyData.depth, PyData.depthAll]; omega
  · simp only [PyData.intsShort, PyData.intsShortAll, b]; rfl
  · simp only [PyData.weight, PyData.weightAll]; omega
theorem neStr_self (x : Str) : gNeA (.str x) (.str x) = some (.bool false) := by rw [neStr]; simp
/-! ### sections -/
def secs : List Int → List (List Int) → List (List Int)
  | [], found => found
  | z :: r, found => secs r (found.flatMap fun s => (List.range z.toNat).map fun (o : Nat) => s ++ [(o : Int)])
theorem tup_snoc (s : List Int) (o : Int) (h : s.length ≤ 50000) : gAdd (ti s) (.tuple [.int o]) = some (ti (s ++ [o])) := by
  rw [oCatT]
  · simp
  · exact k5 (by simp; omega)
theorem flat_len2 {α β : Type} (f : α → List β) (k : Nat) : ∀ ls : List α, (∀ a ∈ ls, (f a).length ≤ k) → (ls.flatMap f).length ≤ ls.length * k
  | [], _ => by simp
  | a :: ls, h => by
    have ih := flat_len2 f k ls fun b hb => h b (List.mem_cons_of_mem _ hb)
    have := h a List.mem_cons_self
    rw [List.flatMap_cons, List.length_append, List.length_cons, Nat.succ_mul]
    omega
/-- rows of k outcomes, below 4 each -/
def Rw4 (k : Nat) (L : List (List Int)) : Prop := L.length ≤ 4 ^ k ∧ ∀ l ∈ L, l.length = k ∧ ∀ i ∈ l, 0 ≤ i ∧ i ≤ 3
theorem rw4_step {k : Nat} {L : List (List Int)} (h : Rw4 k L) {z : Int} (hz : z ≤ 4) : Rw4 (k + 1) (L.flatMap fun s => (List.range z.toNat).map fun (o : Nat) => s ++ [(o : Int)]) := by
  constructor
  · refine Nat.le_trans (flat_len2 _ 4 L fun a _ => by rw [List.length_map, List.length_range]; omega) ?_
    rw [Nat.pow_succ]
    exact Nat.mul_le_mul_right 4 h.1
  · intro l hl
    obtain ⟨s, hs, hl⟩ := List.mem_flatMap.mp hl
    obtain ⟨o, ho, rfl⟩ := List.mem_map.mp hl
    have ho := List.mem_range.mp ho
    obtain ⟨h1, h2⟩ := h.2 s hs
    refine ⟨by simp [h1], fun i hi => ?_⟩
    rcases List.mem_append.mp hi with h3 | h3
    · exact h2 i h3
    · have := List.mem_singleton.mp h3; subst this; omega
theorem rw4_secs : ∀ (zs : List Int) {k : Nat} {L : List (List Int)}, (∀ z ∈ zs, z ≤ 4) → Rw4 k L → Rw4 (k + zs.length) (secs zs L)
  | [], k, L, _, h => h
  | z :: zs, k, L, hz, h => by
    have := rw4_secs zs (fun y m => hz y (List.mem_cons_of_mem _ m)) (rw4_step h (hz z List.mem_cons_self))
    rw [List.length_cons, show k + (zs.length + 1) = k + 1 + zs.length by omega]
    exact this
theorem rw4_nil : Rw4 0 [[]] := ⟨by simp, fun l hl => by simp at hl; subst hl; simp⟩
theorem pow4 {k : Nat} (h : k ≤ 6) : 4 ^ k ≤ 4096 := by
  have : ∀ k : Nat, k ≤ 6 → 4 ^ k ≤ 4096 := by decide
  exact this k h
theorem rw4_sm {k : Nat} {L : List (List Int)} (hk : k ≤ 6) (h : Rw4 k L) : (∀ l ∈ L, Sm l) ∧ L.length ≤ 4096 :=
  ⟨fun l hl => ⟨by rw [(h.2 l hl).1]; exact hk, fun i hi => by have := (h.2 l hl).2 i hi; omega⟩, Nat.le_trans h.1 (pow4 hk)⟩
end Dv

/-! Dw: values of any kind, bent ones. -/
namespace Dv
open PySem
mutual
def gdB (n : Nat) : PyData → Bool
  | .none => true
  | .bool _ => true
  | .int _ => true
  | .str _ => true
  | .dict [] => true
  | .dict _ => false
  | .list xs => decide (xs.length ≤ n) && gdBs n xs
  | .tuple xs => decide (xs.length ≤ n) && gdBs n xs
def gdBs (n : Nat) : List PyData → Bool
  | [] => true
  | x :: xs => gdB n x && gdBs n xs
end
mutual
theorem gdB_ok {n : Nat} : ∀ {d : PyData}, gdB n d = true → Gd n d
  | .none, _ => .non
  | .bool b, _ => .bl b
  | .int i, _ => .int i
  | .str x, _ => .str x
  | .dict [], _ => .dic
  | .dict (_ :: _), h => by simp [gdB] at h
  | .list xs, h => by
    simp only [gdB, Bool.and_eq_true, decide_eq_true_eq] at h
    exact .lst h.1 (gdBs_ok h.2)
  | .tuple xs, h => by
    simp only [gdB, Bool.and_eq_true, decide_eq_true_eq] at h
    exact .tup h.1 (gdBs_ok h.2)
theorem gdBs_ok {n : Nat} : ∀ {xs : List PyData}, gdBs n xs = true → ∀ d ∈ xs, Gd n d
  | [], _ => by simp
  | x :: xs, h => by
    simp only [gdBs, Bool.and_eq_true] at h
    intro d hd
    have h1 := gdB_ok h.1
    have h2 := gdBs_ok h.2
    rcases List.mem_cons.mp hd with e | hd
    · rw [e]; exact h1
    · exact h2 d hd
end
theorem shaped_all : ∀ {xs : List PyData}, PyData.canLayAll0 xs = true → ∀ x ∈ xs, x.canLay0 = true ∧ x.depth ≤ PyData.depthAll xs
  | [], _ => by simp
  | y :: ys, h => by
    simp only [PyData.canLayAll0, Bool.and_eq_true] at h
    intro x hx
    rcases List.mem_cons.mp hx with rfl | hx
    · exact ⟨h.1, by simp only [PyData.depthAll]; omega⟩
    · have := shaped_all h.2 x hx
      exact ⟨this.1, by simp only [PyData.depthAll]; omega⟩
theorem shaped_mem {xs : List PyData} (h : SeqAt.shaped (.tuple xs) = true) : ∀ x ∈ xs, SeqAt.shaped x = true := by
  intro x hx
  have h' : (PyData.canLay0 (.tuple xs) && decide (PyData.depth (.tuple xs) ≤ 64)) = true := h
  show (PyData.canLay0 x && decide (PyData.depth x ≤ 64)) = true
  simp only [PyData.canLay0, PyData.depth, Bool.and_eq_true, decide_eq_true_eq] at h'
  obtain ⟨h1, h2⟩ := h'
  have h2 := of_decide_eq_true h2
  obtain ⟨h3, h4⟩ := shaped_all h1 x hx
  rw [h3, decide_eq_true (show x.depth ≤ 64 by omega)]; rfl
theorem eq_unit {xs : List PyData} (h : SeqAt.shaped (.tuple xs) = true) : gEqA (.tuple xs) (.tuple []) = some (.bool xs.isEmpty) := by
  show gEq (.tuple xs) (.tuple []) = _
  unfold gEq
  rw [h, show SeqAt.shaped (.tuple []) = true from rfl]
  cases xs <;> rfl
theorem gIx_nat {xs : List PyData} {k : Nat} (h : k < xs.length) : ∃ d ∈ xs, gIx (.tuple xs) (.int (k : Int)) = some d :=
  ⟨xs[k], List.getElem_mem h, oIxT xs k _ (List.getElem?_eq_getElem h)⟩
theorem cut_mem {xs : List PyData} {lo hi : Option Int} {x : PyData} (h : x ∈ cutA xs lo hi) : x ∈ xs := List.mem_of_mem_drop (List.mem_of_mem_take h)
theorem cut_len (xs : List PyData) (lo hi : Option Int) : (cutA xs lo hi).length ≤ xs.length := by
  unfold cutA
  rw [List.length_take, List.length_drop]; omega
theorem sl_tup (xs : List PyData) (lo hi : Option Int) : gSl (.tuple xs) lo hi = some (.tuple (cutA xs lo hi)) := nr rfl
theorem rev_tup (xs : List PyData) : gRev (.tuple xs) = some (.tuple xs.reverse) := nr rfl
theorem rev_list (xs : List PyData) : gRev (.list xs) = some (.list xs.reverse) := nr rfl
theorem gd_cat {n m : Nat} {a b : List PyData} (ha : Gd n (.tuple a)) (hb : Gd n (.tuple b)) (h : a.length + b.length ≤ m) (hm : n ≤ m) (hm2 : m ≤ 100000) : ∃ d, gAdd (.tuple a) (.tuple b) = some (.tuple d) ∧ d = a ++ b ∧ Gd m (.tuple d) := by
  refine ⟨a ++ b, oCatT a b (k5 (by omega)), rfl, .tup (by rw [List.length_append]; omega) fun d hd => ?_⟩
  rcases List.mem_append.mp hd with h | h
  · exact (ha.mem d h).up hm
  · exact (hb.mem d h).up hm
theorem gd_cut {n : Nat} {xs : List PyData} (h : Gd n (.tuple xs)) (lo hi : Option Int) : Gd n (.tuple (cutA xs lo hi)) :=
  .tup (Nat.le_trans (cut_len xs lo hi) h.len) fun d hd => h.mem d (cut_mem hd)
/-- cut at a place: what is ahead of it, what is behind -/
theorem cut_to {xs : List PyData} {k : Nat} (h : k ≤ xs.length) : (cutA xs none (some (k : Int))).length = k := by
  have e : HT.sIx xs.length xs.length (some (k : Int)) = k := by
    rw [HT.sIx_nat]; omega
  have e0 : HT.sIx xs.length 0 none = 0 := rfl
  unfold cutA
  rw [e, e0, List.length_take, List.length_drop]; omega
theorem cut_from {xs : List PyData} {k : Nat} (h : k ≤ xs.length) : (cutA xs (some (k : Int)) none).length = xs.length - k := by
  have e : HT.sIx xs.length 0 (some (k : Int)) = k := by
    rw [HT.sIx_nat]; omega
  have e0 : HT.sIx xs.length xs.length none = xs.length := rfl
  unfold cutA
  rw [e, e0, List.length_take, List.length_drop]; omega
theorem loopW_wpn {σ τ α : Type} {f : σ → α → Option (Fw σ τ)} (I : Nat → σ → Prop) (Z : Fw σ τ → Prop) (N : Nat) (hz : ∀ j s, j ≤ N → I j s → Z (.nx s)) : ∀ (xs : List α) (j : Nat) (s : σ), j + xs.length ≤ N → I j s → (∀ j s a, j < N → a ∈ xs → I j s → WP (f s a) fun o => match o with | .nx s => I (j + 1) s | o => Z o) → WP (loopW f xs s) Z
  | [], j, s, hN, h, _ => ⟨_, rfl, hz j s (by simpa using hN) h⟩
  | x :: xs, j, s, hN, h, hf => by
    rw [List.length_cons] at hN
    obtain ⟨o, e, h'⟩ := hf j s x (by omega) List.mem_cons_self h
    unfold loopW
    rw [e, bsome]
    cases o with
    | nx s' => exact loopW_wpn I Z N hz xs (j + 1) s' (by omega) h' fun j s a hj m => hf j s a hj (List.mem_cons_of_mem _ m)
    | bk s' => exact ⟨_, rfl, h'⟩
    | rt r => exact ⟨_, rfl, h'⟩
theorem goW_wp {σ τ β : Type} {e : τ → β} {k : σ → Option β} {o : Fw σ τ} {P : β → Prop} (I : σ → Prop) (R : τ → Prop) (ho : match o with
    | .nx s => I s
    | .bk s => I s
    | .rt r => R r) (hk : ∀ s, I s → WP (k s) P) (hr : ∀ r, R r → P (e r)) : WP (goW e k o) P := by
  cases o with
  | nx s => exact hk s ho
  | bk s => exact hk s ho
  | rt r => exact ⟨_, rfl, hr r ho⟩
theorem loopM_wpn {σ α : Type} {f : σ → α → Option σ} (I : Nat → σ → Prop) (N : Nat) : ∀ (xs : List α) (j : Nat) (s : σ), j + xs.length ≤ N → I j s → (∀ j s a, j < N → a ∈ xs → I j s → WP (f s a) (I (j + 1))) → WP (loopM f xs s) (I (j + xs.length))
  | [], j, s, hN, h, _ => ⟨_, rfl, h⟩
  | x :: xs, j, s, hN, h, hf => by
    rw [List.length_cons] at hN
    refine (hf j s x (by omega) List.mem_cons_self h).bind fun s' h' => ?_
    have := loopM_wpn I N xs (j + 1) s' (by omega) h' fun j s a hj m => hf j s a hj (List.mem_cons_of_mem _ m)
    rw [List.length_cons, show j + (xs.length + 1) = j + 1 + xs.length by omega]
    exact this
theorem foldl_len {c : List (List Int) → List Int → Bool} : ∀ (ls acc : List (List Int)), (ls.foldl (fun found l => if c found l then found ++ [l] else found) acc).length ≤ acc.length + ls.length
  | [], acc => by simp
  | l :: ls, acc => by
    rw [List.foldl_cons]
    have := foldl_len (c := c) ls (if c acc l then acc ++ [l] else acc)
    have h2 : (if c acc l then acc ++ [l] else acc).length ≤ acc.length + 1 := by split <;> simp
    rw [List.length_cons]; omega
theorem maxi_len (ls : List (List Int)) : (maxi ls).length ≤ ls.length := by
  have := foldl_len (c := fun found l => decide (wider ls l = []) && !decide (l ∈ found)) (sortK ls) []
  rw [(sortK_perm ls).length_eq] at this
  simpa [maxi] using this
/-- a place of a path: a tuple and an index of it -/
def PathOk (n : Nat) (d : PyData) : Prop := ∃ xs, ∃ k : Nat, d = .tuple [.tuple xs, .int k] ∧ Gd n (.tuple xs) ∧ k < xs.length
theorem un2s_path {n : Nat} : ∀ {l : List PyData}, (∀ q ∈ l, PathOk n q) → ∃ ps, un2s l = some ps ∧ ∀ p ∈ ps, ∃ xs, ∃ k : Nat, p = (.tuple xs, .int k) ∧ Gd n (.tuple xs) ∧ k < xs.length
  | [], _ => ⟨[], rfl, by simp⟩
  | q :: l, h => by
    obtain ⟨xs, k, rfl, h1, h2⟩ := h q List.mem_cons_self
    obtain ⟨ps, e, h3⟩ := un2s_path fun q m => h q (List.mem_cons_of_mem _ m)
    refine ⟨(.tuple xs, .int k) :: ps, by simp [un2s, un2, e], fun p hp => ?_⟩
    rcases List.mem_cons.mp hp with rfl | hp
    · exact ⟨xs, k, rfl, h1, h2⟩
    · exact h3 p hp
end Dv

/-! Dw: zip, enumerate. -/
namespace Dv
open PySem
def zipO (x y : PyData) : Option (List PyData) := match x, y with
  | .list a, .list b => some (zipD a b)
  | .tuple a, .tuple b => some (zipD a b)
  | _, _ => none
def enumO (x : PyData) : Option (List PyData) := match x with
  | .list a => some (enumD 0 a)
  | _ => none
section
variable {ρ ρ1 ρ2 : REnv} {fa fb : D1} {a b : Option PyData}
theorem ev_zip (ha : Ev fa ρ ρ1 a) (hb : Ev fb ρ1 ρ2 b) : Ev (fZip (fCons fa (fCons fb fNil))) ρ ρ2 (a.bind fun x => b.bind fun y => zipO x y) := fun z h => by
  obtain ⟨x, h1, h2⟩ := obind h
  obtain ⟨y, h3, h4⟩ := obind h2
  unfold zipO at h4
  split at h4 <;> cases h4 <;> simp only [fZip, two_ (ha _ h1) (hb _ h3)]
theorem ev_enum (ha : Ev fa ρ ρ1 a) : Ev (fEnum (fCons fa fNil)) ρ ρ1 (a.bind fun x => enumO x) := fun z h => by
  obtain ⟨x, h1, h2⟩ := obind h
  unfold enumO at h2
  split at h2 <;> cases h2
  simp only [fEnum, one_ (ha _ h1)]
end
theorem nZipT (a b : List PyData) : zipO (.tuple a) (.tuple b) = some (zipD a b) := nr rfl
theorem nZipL (a b : List PyData) : zipO (.list a) (.list b) = some (zipD a b) := nr rfl
theorem nEnum (a : List PyData) : enumO (.list a) = some (enumD 0 a) := nr rfl
theorem un2s_zip : ∀ a b : List PyData, un2s (zipD a b) = some (a.zip b)
  | [], b => by simp [zipD, un2s]
  | x :: a, [] => by simp [zipD, un2s]
  | x :: a, y :: b => by simp [zipD, un2s, un2, un2s_zip a b]
theorem nGcd (a b : Int) : gGcd [.int a, .int b] = some (.int ((Nat.gcd a.natAbs b.natAbs : Nat) : Int)) := nr rfl
end Dv

/-! Dw: while. -/
namespace Dv
open PySem
section
variable {σ τ : Type} (t : σ → Option Bool) (f : σ → Option (Fw σ τ))
def loopNW : Nat → σ → Option (Fw σ τ)
  | 0, _ => none
  | n + 1, s => (t s).bind fun b => if b then (f s).bind fun o => match o with
    | .nx s' => loopNW n s'
    | o => some o
    else some (.nx s)
open Classical in
noncomputable def whileW (s : σ) : Option (Fw σ τ) := if h : ∃ o, ∃ n, loopNW t f n s = some o then some (choose h) else none
theorem loopNW_up : ∀ (n : Nat) (s : σ) {x : Fw σ τ}, loopNW t f n s = some x → loopNW t f (n + 1) s = some x
  | 0, s, x, h => by cases h
  | n + 1, s, x, h => by
    unfold loopNW at h ⊢
    obtain ⟨b, h1, h2⟩ := obind h
    rw [h1, bsome]
    cases b with
    | false => exact h2
    | true =>
      rw [if_pos rfl] at h2 ⊢
      obtain ⟨o, h3, h4⟩ := obind h2
      rw [h3, bsome]
      cases o with
      | nx s' => exact loopNW_up n s' h4
      | bk s' => exact h4
      | rt r => exact h4
theorem loopNW_le {n m : Nat} {s : σ} {x : Fw σ τ} (h : loopNW t f n s = some x) (hm : n ≤ m) : loopNW t f m s = some x := by
  obtain ⟨k, rfl⟩ := Nat.exists_eq_add_of_le hm
  clear hm
  induction k with
  | zero => exact h
  | succ k ih => exact loopNW_up t f (n + k) s ih
theorem whileW_of {n : Nat} {s : σ} {x : Fw σ τ} (h : loopNW t f n s = some x) : whileW t f s = some x := by
  have hx : ∃ o, ∃ n, loopNW t f n s = some o := ⟨x, n, h⟩
  unfold whileW
  rw [dif_pos hx]
  obtain ⟨m, hm⟩ := Classical.choose_spec hx
  have h1 := loopNW_le t f h (Nat.le_max_left n m)
  have h2 := loopNW_le t f hm (Nat.le_max_right n m)
  rw [h1] at h2
  exact h2.symm
theorem of_whileW {s : σ} {x : Fw σ τ} (h : whileW t f s = some x) : ∃ n, loopNW t f n s = some x := by
  unfold whileW at h
  split at h
  · rename_i hx
    cases h
    exact Classical.choose_spec hx
  · cases h
/-- by a measure -/
theorem whileW_wp (I : σ → Prop) (Z : Fw σ τ → Prop) (μ : σ → Nat) (hz : ∀ s, I s → t s = some false → Z (.nx s)) (hf : ∀ s, I s → t s = some true → WP (f s) fun o => match o with
    | .nx s' => I s' ∧ μ s' < μ s
    | o => Z o) (ht : ∀ s, I s → ∃ b, t s = some b) (s : σ) (hs : I s) : WP (whileW t f s) Z := by
  suffices h : ∀ (n : Nat) (s : σ), I s → μ s < n → ∃ o, loopNW t f n s = some o ∧ Z o by
    obtain ⟨o, e, z⟩ := h (μ s + 1) s hs (Nat.lt_succ_self _)
    exact ⟨o, whileW_of t f e, z⟩
  intro n
  induction n with
  | zero => intro s _ h; cases h
  | succ n ih =>
    intro s hs hn
    unfold loopNW
    obtain ⟨b, hb⟩ := ht s hs
    rw [hb, bsome]
    cases b with
    | false => exact ⟨_, rfl, hz s hs hb⟩
    | true =>
      rw [if_pos rfl]
      obtain ⟨o, e, h⟩ := hf s hs hb
      rw [e, bsome]
      cases o with
      | nx s' => exact ih s' h.1 (by have := h.2; omega)
      | bk s' => exact ⟨_, rfl, h⟩
      | rt r => exact ⟨_, rfl, h⟩
end
section
variable {α β σ κ τ : Type} {ρ : REnv} {ft : B1} {fb g : S1} {P : β → Fl → REnv → Prop}
theorem loopN_sim {C : σ → κ → REnv} {R : τ → Fl → REnv → Prop} {t : σ → Option Bool} {body : σ → Option (Fw σ τ)} (ht : ∀ s j, Ev ft (C s j) (C s j) (t s)) (hs : ∀ s j, Sim fb (C s j) (body s) (Tn C R)) :
    ∀ (n : Nat) (s : σ) (j : κ) (o : Fw σ τ), loopNW t body n s = some o → ∃ fl r, loopN ft fb n (C s j) = some (fl, r) ∧ match o with
      | .nx s' => fl = .nx ∧ ∃ j', r = C s' j'
      | .bk s' => fl = .nx ∧ ∃ j', r = C s' j'
      | .rt t => (∃ x, fl = .rt x) ∧ R t fl r
  | 0, s, j, o, e => by cases e
  | n + 1, s, j, o, e => by
    unfold loopNW at e
    obtain ⟨b, e1, e2⟩ := obind e
    unfold loopN
    rw [ht s j b e1]
    cases b with
    | false =>
      cases e2
      exact ⟨_, _, rfl, rfl, j, rfl⟩
    | true =>
      rw [if_pos rfl] at e2
      obtain ⟨o1, e3, e4⟩ := obind e2
      obtain ⟨fl, r, q1, q2⟩ := hs s j o1 e3
      cases o1 with
      | nx s1 =>
        obtain ⟨q2, j1, rfl⟩ := q2
        obtain ⟨fl', r', q, q3⟩ := loopN_sim ht hs n s1 j1 o e4
        refine ⟨fl', r', ?_, q3⟩
        rcases q2 with rfl | rfl <;> simp only [q1, q]
      | bk s1 =>
        cases e4
        obtain ⟨rfl, j1, rfl⟩ := q2
        exact ⟨.nx, _, by simp only [q1], rfl, j1, rfl⟩
      | rt t =>
        cases e4
        obtain ⟨⟨x, rfl⟩, q3⟩ := q2
        exact ⟨_, _, by simp only [q1], ⟨x, rfl⟩, q3⟩
theorem sim_while {C : σ → κ → REnv} {R : τ → Fl → REnv → Prop} (em : τ → β) {t : σ → Option Bool} {body : σ → Option (Fw σ τ)} {c : σ → Option β} (s0 : σ) (j0 : κ) (h0 : ρ = C s0 j0)
    (ht : ∀ s j, Ev ft (C s j) (C s j) (t s)) (hs : ∀ s j, Sim fb (C s j) (body s) (Tn C R)) (hk : ∀ s j, Sim g (C s j) (c s) P) (hr : ∀ t x r, R t (.rt x) r → P (em t) (.rt x) r) :
    Sim (sSeq (sWhile ft fb) g) ρ ((whileW t body s0).bind fun o => goW em c o) P := fun a e => by
  obtain ⟨o, e1, e2⟩ := obind e
  obtain ⟨n, e1⟩ := of_whileW _ _ e1
  subst h0
  obtain ⟨fl, r, q, q2⟩ := loopN_sim ht hs n s0 j0 o e1
  have hf := sWhile_of q
  cases o with
  | nx s =>
    obtain ⟨rfl, j', rfl⟩ := q2
    obtain ⟨fl, r, q3, q4⟩ := hk s j' a e2
    exact ⟨fl, r, by rw [seqN hf]; exact q3, q4⟩
  | bk s =>
    obtain ⟨rfl, j', rfl⟩ := q2
    obtain ⟨fl, r, q3, q4⟩ := hk s j' a e2
    exact ⟨fl, r, by rw [seqN hf]; exact q3, q4⟩
  | rt t =>
    obtain ⟨⟨x, rfl⟩, q3⟩ := q2
    cases e2
    exact ⟨_, _, seqR hf, hr t x r q3⟩
end
end Dv

/-! Dw: starred displays, a, b = e, [..]. -/
namespace Dv
open PySem
def starO (x : PyData) : Option (List PyData) := match x with
  | .list a => some a
  | .tuple a => some a
  | _ => none
section
variable {α S : Type} {ρ ρ1 ρ2 : REnv} {fa fb : D1} {a b : Option PyData} {la : A1} {l : Option (List PyData)} {g : S1} {P : α → Fl → REnv → Prop} {E : S → REnv} {mo : Option (PyData × S)}
theorem ev_star (ha : Ev fa ρ ρ1 a) (hl : Ev la ρ1 ρ2 l) : Ev (fStar fa la) ρ ρ2 (a.bind fun x => (starO x).bind fun xs => l.bind fun ys => some (xs ++ ys)) := fun z h => by
  obtain ⟨x, h1, h2⟩ := obind h
  obtain ⟨xs, h3, h4⟩ := obind h2
  obtain ⟨ys, h5, h6⟩ := obind h4
  cases h6
  unfold starO at h3
  split at h3 <;> cases h3 <;> simp only [fStar, ha _ h1, hl _ h5]
theorem sim_parG {i j : Nat} {c : PyData → List PyData → Option α} {oa : Option PyData} (ha : Ev fa ρ ρ1 oa) (hb : Ev la ρ1 ρ2 l) (h : ∀ a b, Sim g ((ρ2.set i (some (.pl a))).set j (some (.ow b))) (c a b) P) : Sim (sSeq (sParG i j fa la) g) ρ (oa.bind fun a => l.bind fun b => c a b) P := fun a e => by
  obtain ⟨x, e1, e2⟩ := obind e
  obtain ⟨y, e3, e4⟩ := obind e2
  obtain ⟨fl, r, h1, h2⟩ := h x y a e4
  exact ⟨fl, r, by rw [seqN (show sParG i j fa la ρ = some (.nx, (ρ2.set i (some (.pl x))).set j (some (.ow y))) by simp only [sParG, ha _ e1, hb _ e3])]; exact h1, h2⟩
theorem sim_parGS {i j : Nat} {c : PyData → List PyData → S → Option α} {l : S → Option (List PyData)} (ha : EvS fa ρ mo E) (hb : ∀ w, Ev la (E w) (E w) (l w)) (h : ∀ a b w, Sim g (((E w).set i (some (.pl a))).set j (some (.ow b))) (c a b w) P) : Sim (sSeq (sParG i j fa la) g) ρ (mo.bind fun p => (l p.2).bind fun b => c p.1 b p.2) P := fun a e => by
  obtain ⟨⟨x, w⟩, e1, e2⟩ := obind e
  obtain ⟨y, e3, e4⟩ := obind e2
  obtain ⟨fl, r, h1, h2⟩ := h x y w a e4
  exact ⟨fl, r, by rw [seqN (show sParG i j fa la ρ = some (.nx, ((E w).set i (some (.pl x))).set j (some (.ow y))) by simp only [sParG, ha _ _ e1, hb _ _ e3])]; exact h1, h2⟩
end
theorem nStarT (a : List PyData) : starO (.tuple a) = some a := nr rfl
theorem nStarL (a : List PyData) : starO (.list a) = some a := nr rfl
end Dv

/-! Dw: a, b, c = .., targets ((a, b), c). -/
namespace Dv
open PySem
def un21 (d : PyData) : Option ((PyData × PyData) × PyData) := match d with
  | .tuple [.tuple [a, b], c] => some ((a, b), c)
  | _ => none
def un21s : List PyData → Option (List ((PyData × PyData) × PyData))
  | [] => some []
  | d :: ds => (un21 d).bind fun p => (un21s ds).bind fun ps => some (p :: ps)
abbrev tup21 (p : (PyData × PyData) × PyData) : PyData := .tuple [.tuple [p.1.1, p.1.2], p.2]
theorem un21_some {d : PyData} {p : (PyData × PyData) × PyData} (h : un21 d = some p) : d = tup21 p := by
  unfold un21 at h; split at h <;> cases h; rfl
theorem un21s_some : ∀ {ds : List PyData} {ps : List ((PyData × PyData) × PyData)}, un21s ds = some ps → ds = ps.map tup21
  | [], ps, h => by cases h; rfl
  | d :: ds, ps, h => by
    simp only [un21s, Option.bind_eq_some_iff] at h
    obtain ⟨p, h1, qs, h2, h3⟩ := h
    cases h3
    rw [List.map_cons, ← un21s_some h2, ← un21_some h1]
theorem un21s_map {α : Type} (f g h : α → PyData) : ∀ l : List α, un21s (l.map fun a => .tuple [.tuple [f a, g a], h a]) = some (l.map fun a => ((f a, g a), h a))
  | [] => rfl
  | a :: l => by simp [un21s, un21, un21s_map f g h l]
section
variable {α S : Type} {ρ ρ1 ρ2 ρ3 : REnv} {fa fb fe : D1} {a b o : Option PyData} {la lb fi : A1} {l m : Option (List PyData)} {g : S1} {P : α → Fl → REnv → Prop} {E : S → REnv} {mo : Option (PyData × S)}
theorem ev_lcm21 {v w u : Nat} {vs : List Nat} {e : (PyData × PyData) × PyData → Option PyData} (hi : Ev fi ρ ρ1 l)
    (he : ∀ p : (PyData × PyData) × PyData, Ev fe ((((wipeR ρ1 vs).set v (some (.pl p.1.1))).set w (some (.pl p.1.2))).set u (some (.pl p.2))) ((((wipeR ρ1 vs).set v (some (.pl p.1.1))).set w (some (.pl p.1.2))).set u (some (.pl p.2))) (e p))
    (hw : ∀ a b c : PyData, wipeR ((((wipeR ρ1 vs).set v (some (.pl a))).set w (some (.pl b))).set u (some (.pl c))) vs = wipeR ρ1 vs := by intro _ _ _; rfl) (hr : restR ρ1 (wipeR ρ1 vs) vs = ρ1 := by first | rfl | (simp only [restR_cons, restR_nil, List.getElem?_cons_succ, List.getElem?_cons_zero, rsl_junk, rsl_pl, rsl_none]; rfl) | (simp only [restR_cons, restR_nil, wipeR, List.set_cons_succ, List.set_cons_zero, List.getElem?_cons_succ, List.getElem?_cons_zero, rsl_junk, rsl_pl, rsl_none])) :
    Ev (fLc fi (hTup 2 (hCons (hTup 2 (hCons (hName v) (hCons (hName w) hNil))) (hCons (hName u) hNil))) fYes fe vs) ρ ρ1 (l.bind fun ds => (un21s ds).bind fun ps => lmO e ps) := fun z q =>
  lc_gen (t := fun _ => some true) (e := e) (ft := fYes) (fe := fe) (h := hTup 2 (hCons (hTup 2 (hCons (hName v) (hCons (hName w) hNil))) (hCons (hName u) hNil))) tup21 (fun p => (((wipeR ρ1 vs).set v (some (.pl p.1.1))).set w (some (.pl p.1.2))).set u (some (.pl p.2))) hi un21s (fun ds xs h => un21s_some h) (fun _ => rfl) (fun p => hw p.1.1 p.1.2 p.2) hr (fun _ => ev_yes) he z (by simpa only [lcO, lmO, lcm_lcf] using q)
theorem sim_par3S {i j k : Nat} {c : PyData → List PyData → List PyData → S → Option α} {l m : S → Option (List PyData)} (ha : EvS fa ρ mo E) (hb : ∀ w, Ev la (E w) (E w) (l w)) (hc : ∀ w, Ev lb (E w) (E w) (m w)) (h : ∀ a b d w, Sim g ((((E w).set i (some (.pl a))).set j (some (.ow b))).set k (some (.ow d))) (c a b d w) P) : Sim (sSeq (sPar3 i j k fa la lb) g) ρ (mo.bind fun p => (l p.2).bind fun b => (m p.2).bind fun d => c p.1 b d p.2) P := fun a e => by
  obtain ⟨⟨x, w⟩, e1, e2⟩ := obind e
  obtain ⟨y, e3, e4⟩ := obind e2
  obtain ⟨z, e5, e6⟩ := obind e4
  obtain ⟨fl, r, h1, h2⟩ := h x y z w a e6
  exact ⟨fl, r, by rw [seqN (show sPar3 i j k fa la lb ρ = some (.nx, (((E w).set i (some (.pl x))).set j (some (.ow y))).set k (some (.ow z))) by simp only [sPar3, ha _ _ e1, hb _ _ e3, hc _ _ e5])]; exact h1, h2⟩
theorem sim_asg3S {i j k : Nat} {c : PyData → PyData → PyData → S → Option α} (he : EvS fe ρ mo E) (h : ∀ a b d w, Sim g ((((E w).set i (some (.pl a))).set j (some (.pl b))).set k (some (.pl d))) (c a b d w) P) : Sim (sSeq (sAsg fe (hTup 3 (hCons (hName i) (hCons (hName j) (hCons (hName k) hNil))))) g) ρ (mo.bind fun p => (un3 p.1).bind fun t => c t.1 t.2.1 t.2.2 p.2) P := fun a e => by
  obtain ⟨⟨d, w⟩, e1, e2⟩ := obind e
  obtain ⟨⟨x, y, z⟩, e3, e4⟩ := obind e2
  obtain ⟨fl, r, h1, h2⟩ := h x y z w a e4
  have hd := un3_some e3
  subst hd
  exact ⟨fl, r, by rw [seqN (asgT (he _ _ e1) rfl)]; exact h1, h2⟩
theorem sim_asg2S {i j : Nat} {c : PyData → PyData → S → Option α} (he : EvS fe ρ mo E) (h : ∀ a b w, Sim g (((E w).set i (some (.pl a))).set j (some (.pl b))) (c a b w) P) : Sim (sSeq (sAsg fe (hTup 2 (hCons (hName i) (hCons (hName j) hNil)))) g) ρ (mo.bind fun p => (un2 p.1).bind fun t => c t.1 t.2 p.2) P := fun a e => by
  obtain ⟨⟨d, w⟩, e1, e2⟩ := obind e
  obtain ⟨⟨x, y⟩, e3, e4⟩ := obind e2
  obtain ⟨fl, r, h1, h2⟩ := h x y w a e4
  have hd := un2_some e3
  subst hd
  exact ⟨fl, r, by rw [seqN (asgT (he _ _ e1) rfl)]; exact h1, h2⟩
end
end Dv

/-! Dw: lent lists. -/
namespace Dv
open PySem
def borO (d : PyData) : Option PyData := if noL d then some d else none
theorem ev_bor {ρ ρ0 ρ1 : REnv} {f : D1} {a : Option PyData} (h0 : openR ρ = ρ0) (h : Ev f ρ0 ρ1 a) : Ev (fBor f) ρ ρ (a.bind fun d => borO d) := fun z e => by
  obtain ⟨x, e1, e2⟩ := obind e
  unfold borO at e2
  split at e2 <;> cases e2
  rename_i hn
  simp only [fBor, h0, h _ e1, hn, if_true]
theorem nBor {d : PyData} (h : noL d = true) : borO d = some d := by unfold borO; rw [if_pos h]
end Dv

/-! Dw: a = b = e; wide products. -/
namespace Dv
open PySem
section
variable {α : Type} {fe : D1} {g : S1} {ρ ρ1 : REnv} {o : Option PyData} {P : α → Fl → REnv → Prop}
theorem sim_asg2T {i j : Nat} {c : PyData → Option α} (he : Ev fe ρ ρ1 o) (h : ∀ d, Sim g ((ρ1.set i (some (.pl d))).set j (some (.pl d))) (c d) P) : Sim (sSeq (sAsg2T fe i j) g) ρ (o.bind fun d => c d) P := fun a e => by
  obtain ⟨d, e1, e2⟩ := obind e
  obtain ⟨fl, r, h1, h2⟩ := h d a e2
  have : sAsg2T fe i j ρ = some (.nx, (ρ1.set i (some (.pl d))).set j (some (.pl d))) := by
    unfold sAsg2T
    rw [he d e1]
  exact ⟨fl, r, by rw [seqN this]; exact h1, h2⟩
theorem sim_frz {m : Option α} {f : S1} {i : Nat} {ds : List PyData} (h : Sim (sSeq f g) (ρ.set i (some (.pl (.list ds)))) m P) (h0 : ρ[i]? = some (some (.ow ds)) := by rfl) : Sim (sSeq (sFrz i f) g) ρ m P := fun a e => by
  obtain ⟨fl, r, h1, h2⟩ := h a e
  refine ⟨fl, r, ?_, h2⟩
  have : sFrz i f ρ = f (ρ.set i (some (.pl (.list ds)))) := by
    unfold sFrz
    rw [h0]
  unfold sSeq at h1 ⊢
  rw [this]
  exact h1
end
end Dv

/-! Dw: xs[i] op= e. -/
namespace Dv
open PySem
/-- the old item of a list by an index -/
def atO (xs : List PyData) (j : PyData) : Option PyData := match j with
  | .int k => L2.atI xs k
  | _ => none
section
variable {α : Type} {fe : D1} {g : S1} {ρ : REnv} {o : Option PyData} {P : α → Fl → REnv → Prop}
theorem sim_augSub {i : Nat} {x : PV} {xs : List PyData} {gop : G2} {fi : D1} {oi : Option PyData} {c : List PyData → Option α} (hi : Ev fi ρ ρ oi) (he : Ev fe ρ ρ o) (h : ∀ d, Sim g (ρ.set i (some (x.put d))) (c d) P) (h0 : ρ[i]? = some (some x) := by rfl) (h00 : x.lst? = some xs := by rfl) :
    Sim (sSeq (sAugS gop i fi fe) g) ρ (oi.bind fun j => (atO xs j).bind fun u => o.bind fun y => (gop u y).bind fun z => (setO xs j z).bind fun d => c d) P := fun a e => by
  obtain ⟨j, e1, e2⟩ := obind e
  obtain ⟨u, e3, e4⟩ := obind e2
  obtain ⟨y, e5, e6⟩ := obind e4
  obtain ⟨z, e7, e8⟩ := obind e6
  obtain ⟨d, e9, e10⟩ := obind e8
  obtain ⟨fl, r, h1, h2⟩ := h _ a e10
  have hh : ownAt ρ i = some xs := by simp only [ownAt, h0, h00]
  unfold atO at e3
  split at e3
  · rename_i k
    unfold setO at e9
    simp only at e9
    split at e9
    · rename_i n hn
      cases e9
      refine ⟨fl, r, ?_, h2⟩
      rw [seqN (show sAugS gop i fi fe ρ = some (.nx, ρ.set i (some (x.put (xs.set n z)))) by simp only [sAugS, hh, hi _ e1, h0, h00, e3, he _ e5, hn, e7])]
      exact h1
    · cases e9
  · cases e3
end
end Dv

/-! Dw: four names at once. -/
namespace Dv
open PySem
def un4 (d : PyData) : Option (PyData × PyData × PyData × PyData) := match d with
  | .tuple [a, b, c, e] => some (a, b, c, e)
  | _ => none
abbrev tup4 (p : PyData × PyData × PyData × PyData) : PyData := .tuple [p.1, p.2.1, p.2.2.1, p.2.2.2]
theorem un4_some {d : PyData} {p : PyData × PyData × PyData × PyData} (h : un4 d = some p) : d = tup4 p := by
  unfold un4 at h; split at h <;> cases h; rfl
theorem nUn4 (a b c d : PyData) : un4 (.tuple [a, b, c, d]) = some (a, b, c, d) := nr rfl
section
variable {α S : Type} {ρ ρ1 ρ2 ρ3 : REnv} {g : S1} {P : α → Fl → REnv → Prop} {fe : D1} {o : Option PyData} {mo : Option (PyData × S)} {E : S → REnv}
theorem sim_asg4 {i j k l : Nat} {c : PyData → PyData → PyData → PyData → Option α} (he : Ev fe ρ ρ1 o) (h : ∀ a b d e, Sim g ((((ρ1.set i (some (.pl a))).set j (some (.pl b))).set k (some (.pl d))).set l (some (.pl e))) (c a b d e) P) : Sim (sSeq (sAsg fe (hTup 4 (hCons (hName i) (hCons (hName j) (hCons (hName k) (hCons (hName l) hNil)))))) g) ρ (o.bind fun d => (un4 d).bind fun p => c p.1 p.2.1 p.2.2.1 p.2.2.2) P := fun a e => by
  obtain ⟨d, e1, e2⟩ := obind e
  obtain ⟨⟨x, y, z, w⟩, e3, e4⟩ := obind e2
  obtain ⟨fl, r, h1, h2⟩ := h x y z w a e4
  have hd := un4_some e3
  subst hd
  exact ⟨fl, r, by rw [seqN (asgT (he _ e1) rfl)]; exact h1, h2⟩
theorem sim_asg4S {i j k l : Nat} {c : PyData → PyData → PyData → PyData → S → Option α} (he : EvS fe ρ mo E) (h : ∀ a b d e w, Sim g (((((E w).set i (some (.pl a))).set j (some (.pl b))).set k (some (.pl d))).set l (some (.pl e))) (c a b d e w) P) : Sim (sSeq (sAsg fe (hTup 4 (hCons (hName i) (hCons (hName j) (hCons (hName k) (hCons (hName l) hNil)))))) g) ρ (mo.bind fun p => (un4 p.1).bind fun t => c t.1 t.2.1 t.2.2.1 t.2.2.2 p.2) P := fun a e => by
  obtain ⟨⟨d, w0⟩, e1, e2⟩ := obind e
  obtain ⟨⟨x, y, z, w⟩, e3, e4⟩ := obind e2
  obtain ⟨fl, r, h1, h2⟩ := h x y z w w0 a e4
  have hd := un4_some e3
  replace hd : d = tup4 (x, y, z, w) := hd
  subst hd
  exact ⟨fl, r, by rw [seqN (asgT (he _ _ e1) rfl)]; exact h1, h2⟩
end
end Dv

/-! Dx: fractions. -/
namespace Dv
/-! ### k / M in lowest terms -/
def frN (M k : Nat) : Nat := k / Nat.gcd k M
def frD (M k : Nat) : Nat := M / Nat.gcd k M
theorem fr_pos {M k : Nat} (h : 0 < M) : 0 < frD M k := Nat.div_pos (Nat.gcd_le_right _ h) (Nat.gcd_pos_of_pos_right _ h)
theorem fr_dvd (M k : Nat) : frD M k ∣ M := Nat.div_dvd_of_dvd (Nat.gcd_dvd_right _ _)
theorem fr_le {M k : Nat} (h : 0 < M) : frD M k ≤ M := Nat.le_of_dvd h (fr_dvd M k)
theorem fr_mul {M k : Nat} : frN M k * M = k * frD M k := by
  unfold frN frD
  rw [← Nat.mul_div_assoc _ (Nat.gcd_dvd_right k M), Nat.mul_comm, ← Nat.mul_div_assoc _ (Nat.gcd_dvd_left k M), Nat.mul_comm]
theorem fr_cop {M k : Nat} (h : 0 < M) : Nat.gcd (frN M k) (frD M k) = 1 := Nat.coprime_div_gcd_div_gcd (Nat.gcd_pos_of_pos_right _ h)
/-- lowest terms are one -/
theorem low_uniq {a b c d : Nat} (h1 : Nat.gcd a b = 1) (h2 : Nat.gcd c d = 1) (hb : 0 < b) (hd : 0 < d) (e : a * d = c * b) : a = c ∧ b = d := by
  have d1 : b ∣ d := by
    have : b ∣ a * d := ⟨c, by rw [e, Nat.mul_comm]⟩
    exact Nat.Coprime.dvd_of_dvd_mul_left (show Nat.Coprime b a by rw [Nat.Coprime, Nat.gcd_comm]; exact h1) this
  have d2 : d ∣ b := by
    have : d ∣ c * b := ⟨a, by rw [← e, Nat.mul_comm]⟩
    exact Nat.Coprime.dvd_of_dvd_mul_left (show Nat.Coprime d c by rw [Nat.Coprime, Nat.gcd_comm]; exact h2) this
  have : b = d := Nat.dvd_antisymm d1 d2
  subst this
  exact ⟨Nat.eq_of_mul_eq_mul_right hb e, rfl⟩
theorem fr_of {u v M k : Nat} (hv : 0 < v) (hM : 0 < M) (e : u * M = k * v) : frN v u = frN M k ∧ frD v u = frD M k := by
  refine low_uniq (fr_cop hv) (fr_cop hM) (fr_pos hv) (fr_pos hM) ?_
  have h1 := fr_mul (M := v) (k := u)
  have h2 := fr_mul (M := M) (k := k)
  have e3 : frN v u * frD M k * (v * M) = frN M k * frD v u * (v * M) := by
    calc frN v u * frD M k * (v * M) = (frN v u * v) * (frD M k * M) := by ac_rfl
      _ = u * M * (frD v u * frD M k) := by rw [h1]; ac_rfl
      _ = k * frD M k * (frD v u * v) := by rw [e]; ac_rfl
      _ = (frN M k * M) * (frD v u * v) := by rw [h2]
      _ = frN M k * frD v u * (v * M) := by ac_rfl
  exact Nat.eq_of_mul_eq_mul_right (Nat.mul_pos hv hM) e3
/-- of numbers over M: the least number below all -/
def comO (M : Nat) (ks : List Nat) (b : Nat) : Nat := ks.foldl (fun b k => Nat.lcm b (frD M k)) b
theorem comO_dvd {M : Nat} : ∀ {ks : List Nat} {b : Nat}, b ∣ M → comO M ks b ∣ M
  | [], b, h => h
  | k :: ks, b, h => comO_dvd (ks := ks) (Nat.lcm_dvd h (fr_dvd M k))
theorem dvd_comO {M : Nat} : ∀ {ks : List Nat} {b : Nat}, b ∣ comO M ks b
  | [], b => Nat.dvd_refl b
  | k :: ks, b => Nat.dvd_trans (Nat.dvd_lcm_left b (frD M k)) (dvd_comO (ks := ks))
theorem mem_comO {M : Nat} : ∀ {ks : List Nat} {b : Nat} {k : Nat}, k ∈ ks → frD M k ∣ comO M ks b
  | k' :: ks, b, k, h => by
    rcases List.mem_cons.mp h with rfl | h
    · exact Nat.dvd_trans (Nat.dvd_lcm_right b (frD M k)) (dvd_comO (ks := ks))
    · exact mem_comO (ks := ks) h
abbrev com (M : Nat) (ks : List Nat) : Nat := comO M ks 1
theorem com_dvd {M : Nat} {ks : List Nat} : com M ks ∣ M := comO_dvd (Nat.one_dvd M)
theorem com_pos {M : Nat} {ks : List Nat} (h : 0 < M) : 0 < com M ks := Nat.pos_of_dvd_of_pos com_dvd h
theorem com_le {M : Nat} {ks : List Nat} (h : 0 < M) : com M ks ≤ M := Nat.le_of_dvd h com_dvd
/-- what a number comes to over L -/
def wt (M L k : Nat) : Nat := frN M k * (L / frD M k)
theorem wt_mul {M L k : Nat} (hM : 0 < M) (h : frD M k ∣ L) : wt M L k * M = k * L := by
  obtain ⟨c, rfl⟩ := h
  unfold wt
  rw [Nat.mul_div_cancel_left _ (fr_pos hM)]
  calc frN M k * c * M = (frN M k * M) * c := by ac_rfl
    _ = k * (frD M k * c) := by rw [fr_mul]; ac_rfl
theorem wts_sum {M L : Nat} (hM : 0 < M) : ∀ {ks : List Nat}, (∀ k ∈ ks, frD M k ∣ L) → (ks.map (wt M L)).sum * M = ks.sum * L
  | [], _ => by simp
  | k :: ks, h => by
    rw [List.map_cons, List.sum_cons, List.sum_cons, Nat.add_mul, Nat.add_mul, wt_mul hM (h k List.mem_cons_self), wts_sum hM fun k m => h k (List.mem_cons_of_mem _ m)]
theorem wts_all {M : Nat} (hM : 0 < M) {ks : List Nat} (h : ks.sum = M) : (ks.map (wt M (com M ks))).sum = com M ks := by
  have := wts_sum (L := com M ks) hM (ks := ks) fun k m => mem_comO m
  rw [h, Nat.mul_comm M] at this
  exact Nat.eq_of_mul_eq_mul_right hM this
/-- where n falls -/
def fall : List Nat → Nat → Nat
  | [], _ => 0
  | w :: ws, n => if n < w then 0 else fall ws (n - w) + 1
theorem fall_lt : ∀ {ws : List Nat} {n : Nat}, n < ws.sum → fall ws n < ws.length
  | [], n, h => by simp at h
  | w :: ws, n, h => by
    rw [List.sum_cons] at h
    unfold fall
    split
    · simp
    · have := fall_lt (ws := ws) (n := n - w) (by omega)
      rw [List.length_cons]; omega
theorem cyc_count (p : Nat → Bool) {L : Nat} (hL : 0 < L) : ∀ s : Nat, (List.range L).countP (fun k => p ((s + k) % L)) = (List.range L).countP p
  | 0 => by
    refine List.countP_congr fun k hk => ?_
    rw [Nat.zero_add, Nat.mod_eq_of_lt (List.mem_range.mp hk)]
  | s + 1 => by
    have ih := cyc_count p hL s
    rw [← ih]
    have e : (List.range (L + 1)).countP (fun k => p ((s + k) % L)) = (List.range (L + 1)).countP (fun k => p ((s + k) % L)) := rfl
    conv at e => lhs; rw [List.range_succ_eq_map, List.countP_cons, List.countP_map]
    conv at e => rhs; rw [List.range_succ, List.countP_append, List.countP_singleton]
    rw [Nat.add_zero, Nat.add_mod_right] at e
    have e2 : List.countP ((fun k => p ((s + k) % L)) ∘ Nat.succ) (List.range L) = List.countP (fun k => p ((s + 1 + k) % L)) (List.range L) := by
      refine List.countP_congr fun k _ => ?_
      show p ((s + (k + 1)) % L) = true ↔ _
      rw [show s + (k + 1) = s + 1 + k by omega]
    rw [e2] at e
    omega
theorem fall_count : ∀ (ws : List Nat) (j : Nat), (List.range ws.sum).countP (fun n => fall ws n == j) = (ws[j]?).getD 0
  | [], j => by simp
  | w :: ws, j => by
    rw [List.sum_cons, List.range_add, List.countP_append, List.countP_map]
    have e1 : (List.range w).countP (fun n => fall (w :: ws) n == j) = if j = 0 then w else 0 := by
      by_cases h : j = 0
      · subst h
        rw [if_pos rfl, List.countP_eq_length.mpr, List.length_range]
        intro n hn
        unfold fall
        rw [if_pos (List.mem_range.mp hn)]; rfl
      · rw [if_neg h, List.countP_eq_zero]
        intro n hn
        unfold fall
        rw [if_pos (List.mem_range.mp hn)]
        simp; omega
    have e2 : (List.range ws.sum).countP ((fun n => fall (w :: ws) n == j) ∘ fun n => w + n) = if j = 0 then 0 else (ws[j - 1]?).getD 0 := by
      by_cases h : j = 0
      · subst h
        rw [if_pos rfl, List.countP_eq_zero]
        intro n _
        show ¬ (fall (w :: ws) (w + n) == 0) = true
        unfold fall
        rw [if_neg (by omega)]; simp
      · rw [if_neg h, ← fall_count ws (j - 1)]
        refine List.countP_congr fun n _ => ?_
        show ((if w + n < w then 0 else fall ws (w + n - w) + 1) == j) = true ↔ (fall ws n == j - 1) = true
        rw [if_neg (by omega), Nat.add_sub_cancel_left, beq_iff_eq, beq_iff_eq]
        omega
    rw [e1, e2]
    cases j with
    | zero => simp
    | succ j => simp
theorem count_map_range (f : Nat → Nat) (L j : Nat) : (((List.range L).map fun k => ((f k : Nat) : Int)).count (j : Int)) = (List.range L).countP (fun k => f k == j) := by
  rw [List.count_eq_countP, List.countP_map]
  refine List.countP_congr fun k _ => ?_
  show (((f k : Nat) : Int) == (j : Int)) = true ↔ (f k == j) = true
  rw [beq_iff_eq, beq_iff_eq]
  omega
/-! ### as values -/
open PySem
/-- k / M in lowest terms, as a value -/
def Fr (M k : Nat) : PyData := .tuple [.int ((frN M k : Nat) : Int), .int ((frD M k : Nat) : Int)]
theorem Fr_of {u v M k : Nat} (hv : 0 < v) (hM : 0 < M) (e : u * M = k * v) : Fr v u = Fr M k := by
  obtain ⟨h1, h2⟩ := fr_of hv hM e
  unfold Fr
  rw [h1, h2]
theorem Fr_up {M c k : Nat} (hM : 0 < M) (hc : 0 < c) : Fr M k = Fr (M * c) (k * c) := Fr_of hM (Nat.mul_pos hM hc) (by ac_rfl)
theorem gMod_nat {x y : Nat} (h : 0 < y) : gMod (.int (x : Int)) (.int (y : Int)) = some (.int ((x % y : Nat) : Int)) := by
  rw [oMod _ _ (by omega)]; rfl
theorem gDiv_nat {x y : Nat} (h : 0 < y) (h2 : y < 1073741824) : gDiv (.int (x : Int)) (.int (y : Int)) = some (.int ((x / y : Nat) : Int)) := by
  show (if decide (0 < (y : Int) ∧ (y : Int).natAbs.log2 < 9000) then some (PyData.int ((x : Int) / (y : Int))) else none) = _
  rw [if_pos]; rfl
  refine decide_eq_true ⟨by omega, ?_⟩
  rw [Int.natAbs_natCast]
  have : y.log2 < 30 := (Nat.log2_lt (by omega)).mpr (by omega)
  omega
theorem gMul_nat {x y : Nat} (h : y < 1073741824) : gMul (.int (x : Int)) (.int (y : Int)) = some (.int ((x * y : Nat) : Int)) := by
  rw [oMulR _ _ (by simp [small64]; omega)]; rfl
theorem gAdd_nat (x y : Nat) : gAdd (.int (x : Int)) (.int (y : Int)) = some (.int ((x + y : Nat) : Int)) := nr rfl
theorem gSub_nat {x y : Nat} (h : y ≤ x) : gSub (.int (x : Int)) (.int (y : Int)) = some (.int ((x - y : Nat) : Int)) := by
  rw [nSub]; congr 2; omega
theorem gGcd_nat (x y : Nat) : gGcd [.int (x : Int), .int (y : Int)] = some (.int ((Nat.gcd x y : Nat) : Int)) := nr rfl
theorem gLcm_nat {x y : Nat} (hx : x < 1073741824) (hy : y < 1073741824) : gLcm [.int (x : Int), .int (y : Int)] = some (.int ((Nat.lcm x y : Nat) : Int)) := by
  have l : ∀ {n : Nat}, n < 1073741824 → n.log2 < 13000 := fun {n} h => by
    by_cases h0 : n = 0
    · subst h0; rw [Nat.log2_zero]; omega
    · have : n.log2 < 30 := (Nat.log2_lt h0).mpr (by omega)
      omega
  show (if decide ((x : Int).natAbs.log2 < 13000) && decide ((y : Int).natAbs.log2 < 13000) then some (PyData.int ((Nat.lcm (x : Int).natAbs (y : Int).natAbs : Nat) : Int)) else none) = _
  rw [Int.natAbs_natCast, Int.natAbs_natCast, if_pos]
  rw [decide_eq_true (l hx), decide_eq_true (l hy)]; rfl
theorem Fr0 (M k : Nat) : gIx (Fr M k) (.int 0) = some (.int ((frN M k : Nat) : Int)) := nr rfl
theorem Fr1 (M k : Nat) : gIx (Fr M k) (.int 1) = some (.int ((frD M k : Nat) : Int)) := nr rfl
theorem WP.val {α : Type} {o : Option α} {x : α} (h : WP o fun y => y = x) : o = some x := by obtain ⟨y, e, rfl⟩ := h; exact e
theorem euclid (a b : Nat) : whileW (τ := Empty) (fun (s : PyData × PyData) => (gGt s.2 (PyData.int 0)).bind fun x => tBd x) (fun (s : PyData × PyData) => ((gInt [s.1]).bind fun x => gMod x s.2).bind fun x => some (Fw.nx (s.2, x))) (.int (a : Int), .int (b : Int)) = some (.nx (.int ((Nat.gcd a b : Nat) : Int), .int 0)) := by
  refine WP.val (whileW_wp _ _ (fun s => ∃ x y : Nat, s = (PyData.int (x : Int), PyData.int (y : Int)) ∧ Nat.gcd x y = Nat.gcd a b) (fun o => o = .nx (.int ((Nat.gcd a b : Nat) : Int), .int 0)) (fun s => match s.2 with | .int i => i.toNat | _ => 0) ?_ ?_ ?_ _ ⟨a, b, rfl, rfl⟩)
  · rintro s ⟨x, y, rfl, e⟩ h
    simp only [nGt, bsome, tBd_b, Option.some.injEq, decide_eq_false_iff_not] at h
    have : y = 0 := by omega
    subst this
    rw [← e, Nat.gcd_zero_right]; rfl
  · rintro s ⟨x, y, rfl, e⟩ h
    simp only [nGt, bsome, tBd_b, Option.some.injEq, decide_eq_true_eq] at h
    have hy : 0 < y := by omega
    simp only [nInt, bsome, gMod_nat hy]
    refine WP.ret ⟨⟨y, x % y, rfl, ?_⟩, ?_⟩
    · rw [← e, Nat.gcd_comm y, ← Nat.gcd_rec, Nat.gcd_comm]
    · have := Nat.mod_lt x hy
      show ((x % y : Nat) : Int).toNat < ((y : Nat) : Int).toNat
      omega
  · rintro s ⟨x, y, rfl, e⟩
    refine ⟨decide (0 < (y : Int)), ?_⟩
    simp only [nGt, bsome, tBd_b]
/-! ### short ints, shown -/
theorem log2_lt_of {n k : Nat} (h : n < 2 ^ k) (hk : 0 < k) : n.log2 < k := by
  by_cases h0 : n = 0
  · subst h0; rw [Nat.log2_zero]; exact hk
  · exact (Nat.log2_lt h0).mpr h
theorem sx_int {i : Int} (h : i.natAbs < 10 ^ 12) : (PyData.int i).showable = true ∧ (PyData.int i).intsShort 13 = true := by
  refine ⟨?_, decide_eq_true (PyData.shown_int_le h)⟩
  show decide (i.natAbs.log2 < 1920) = true
  refine decide_eq_true ?_
  have : i.natAbs.log2 < 40 := log2_lt_of (Nat.lt_trans h (by decide)) (by decide)
  omega
theorem sx_ints : ∀ {l : List Int}, (∀ i ∈ l, i.natAbs < 10 ^ 12) → PyData.showableAll (l.map .int) = true ∧ PyData.intsShortAll 13 (l.map .int) = true ∧ PyData.weightAll (l.map .int) ≤ 42 * l.length
  | [], _ => ⟨rfl, rfl, by simp [PyData.weightAll]⟩
  | i :: l, h => by
    obtain ⟨a, b⟩ := sx_int (h i List.mem_cons_self)
    have lg : i.natAbs.log2 < 40 := log2_lt_of (Nat.lt_trans (h i List.mem_cons_self) (by decide)) (by decide)
    obtain ⟨a', b', c'⟩ := sx_ints fun j m => h j (List.mem_cons_of_mem _ m)
    refine ⟨?_, ?_, ?_⟩
    · simp only [List.map_cons, PyData.showableAll, a, a']; rfl
    · simp only [List.map_cons, PyData.intsShortAll, b, b']; rfl
    · simp only [List.map_cons, PyData.weightAll, PyData.weight, List.length_cons]
      split <;> omega
theorem shw_ints {l : List Int} (h : ∀ i ∈ l, i.natAbs < 10 ^ 12) (hl : l.length ≤ 10000) : Shw (.list (l.map .int)) := by
  obtain ⟨a, b, c⟩ := sx_ints h
  have d := dep_ints l
  have e : (2 : Nat) ^ 20 = 1048576 := by decide
  refine shw_of ?_ ?_ ?_ ?_ ?_
  · simp only [PyData.showable, a]
  · simp only [PyData.canLay0, lay_ints]
  · simp only [PyData.depth]; omega
  · simp only [PyData.intsShort, b]
  · simp only [PyData.weight]; omega
end Dv

/-! Dx: small data are shown. -/
namespace Dv
open PySem
mutual
def smD : PyData → Bool
  | .none => true
  | .bool _ => true
  | .int i => decide (i.natAbs < 10 ^ 12)
  | .tuple xs => smDs xs
  | .list xs => smDs xs
  | _ => false
def smDs : List PyData → Bool
  | [] => true
  | x :: xs => smD x && smDs xs
end
mutual
def cntD : PyData → Nat
  | .tuple xs => cntDs xs
  | .list xs => cntDs xs
  | _ => 41
def cntDs : List PyData → Nat
  | [] => 0
  | x :: xs => cntD x + 1 + cntDs xs
end
mutual
theorem smD_ok : ∀ (d : PyData), smD d = true → d.showable = true ∧ d.canLay0 = true ∧ d.intsShort 13 = true ∧ d.weight ≤ cntD d
  | .none, _ => ⟨rfl, rfl, rfl, by simp [PyData.weight, cntD]⟩
  | .bool b, _ => ⟨rfl, rfl, rfl, by simp [PyData.weight, cntD]⟩
  | .int i, h => by
    have h : i.natAbs < 10 ^ 12 := of_decide_eq_true h
    obtain ⟨a, b⟩ := sx_int h
    have lg : i.natAbs.log2 < 40 := log2_lt_of (Nat.lt_trans h (by decide)) (by decide)
    refine ⟨a, rfl, b, ?_⟩
    simp only [PyData.weight, cntD]
    split <;> omega
  | .tuple xs, h => by
    obtain ⟨a, b, c, e⟩ := smDs_ok xs (by simpa [smD] using h)
    exact ⟨by simpa [PyData.showable] using a, by simpa [PyData.canLay0] using b, by simpa [PyData.intsShort] using c, by simpa [PyData.weight, cntD] using e⟩
  | .list xs, h => by
    obtain ⟨a, b, c, e⟩ := smDs_ok xs (by simpa [smD] using h)
    exact ⟨by simpa [PyData.showable] using a, by simpa [PyData.canLay0] using b, by simpa [PyData.intsShort] using c, by simpa [PyData.weight, cntD] using e⟩
  | .str _, h => by simp [smD] at h
  | .dict _, h => by simp [smD] at h
theorem smDs_ok : ∀ (xs : List PyData), smDs xs = true → PyData.showableAll xs = true ∧ PyData.canLayAll0 xs = true ∧ PyData.intsShortAll 13 xs = true ∧ PyData.weightAll xs ≤ cntDs xs
  | [], _ => ⟨rfl, rfl, rfl, Nat.le_refl _⟩
  | x :: xs, h => by
    have h : smD x = true ∧ smDs xs = true := by simpa [smDs] using h
    obtain ⟨a, b, c, e⟩ := smD_ok x h.1
    obtain ⟨a', b', c', e'⟩ := smDs_ok xs h.2
    refine ⟨by simp [PyData.showableAll, a, a'], by simp [PyData.canLayAll0, b, b'], by simp [PyData.intsShortAll, c, c'], ?_⟩
    simp only [PyData.weightAll, cntDs]
    omega
end
/-- small, flat, few -/
structure Sd (k n : Nat) (d : PyData) : Prop where
  sm : smD d = true
  dp : d.depth ≤ k
  ct : cntD d ≤ n
theorem Sd.shw {k n : Nat} {d : PyData} (h : Sd k n d) (hk : k ≤ 60) (hn : n ≤ 1000000) : Shw d := by
  obtain ⟨a, b, c, e⟩ := smD_ok d h.sm
  have q : (2 : Nat) ^ 20 = 1048576 := by decide
  exact shw_of a b (Nat.le_trans h.dp hk) c (by have := h.ct; omega)
theorem sd_int {i : Int} (h : i.natAbs < 10 ^ 12) : Sd 0 41 (.int i) := ⟨decide_eq_true h, by simp [PyData.depth], by simp [cntD]⟩
theorem sds_map {α : Type} {f : α → PyData} {k n : Nat} : ∀ {l : List α}, (∀ a ∈ l, Sd k n (f a)) → smDs (l.map f) = true ∧ PyData.depthAll (l.map f) ≤ k ∧ cntDs (l.map f) ≤ l.length * (n + 1)
  | [], _ => ⟨rfl, by simp [PyData.depthAll], by simp [cntDs]⟩
  | a :: l, h => by
    obtain ⟨x, y, z⟩ := sds_map (l := l) fun b m => h b (List.mem_cons_of_mem _ m)
    have := h a List.mem_cons_self
    refine ⟨by simp [smDs, this.sm, x], ?_, ?_⟩
    · have := this.dp
      simp only [List.map_cons, PyData.depthAll]; omega
    · have := this.ct
      simp only [List.map_cons, cntDs, List.length_cons, Nat.succ_mul]; omega
theorem sd_tup {α : Type} {f : α → PyData} {k n : Nat} {l : List α} (h : ∀ a ∈ l, Sd k n (f a)) : Sd (k + 1) (l.length * (n + 1)) (.tuple (l.map f)) := by
  obtain ⟨x, y, z⟩ := sds_map h
  exact ⟨by simpa [smD] using x, by simp only [PyData.depth]; omega, by simpa [cntD] using z⟩
theorem sd_lst {α : Type} {f : α → PyData} {k n : Nat} {l : List α} (h : ∀ a ∈ l, Sd k n (f a)) : Sd (k + 1) (l.length * (n + 1)) (.list (l.map f)) := by
  obtain ⟨x, y, z⟩ := sds_map h
  exact ⟨by simpa [smD] using x, by simp only [PyData.depth]; omega, by simpa [cntD] using z⟩
theorem Sd.up {k n k' n' : Nat} {d : PyData} (h : Sd k n d) (hk : k ≤ k') (hn : n ≤ n') : Sd k' n' d := ⟨h.sm, Nat.le_trans h.dp hk, Nat.le_trans h.ct hn⟩
theorem sd_pair {k n : Nat} {a b : PyData} (ha : Sd k n a) (hb : Sd k n b) : Sd (k + 1) (2 * (n + 1)) (.tuple [a, b]) := by
  have := sd_tup (f := id) (l := [a, b]) (k := k) (n := n) (by simpa using ⟨ha, hb⟩)
  simpa using this
theorem sd_two {k n : Nat} {a : PyData} (ha : Sd k n a) : Sd (k + 1) (2 * (n + 1)) (.list [a, a]) := by
  have := sd_lst (f := id) (l := [a, a]) (k := k) (n := n) (by simpa using ha)
  simpa using this
theorem sd_ti {l : List Int} (h : ∀ i ∈ l, i.natAbs < 10 ^ 12) : Sd 1 (l.length * 42) (ti l) := sd_tup fun i m => sd_int (h i m)
theorem repr_tup {ds : List PyData} (h : Shw (.tuple ds)) : gRepr [.tuple ds] = some (.str (PyData.shown (.tuple ds))) := by
  have : ((PyData.tuple ds).showable && (PyData.tuple ds).canLay0 && decide ((PyData.tuple ds).depth ≤ 60) && decide ((PyData.tuple ds).shown.length ≤ sizeLine)) = true := by
    rw [h.1, h.2.1, decide_eq_true h.2.2.1, decide_eq_true h.2.2.2]; rfl
  show (if ((PyData.tuple ds).showable && (PyData.tuple ds).canLay0 && decide ((PyData.tuple ds).depth ≤ 60) && decide ((PyData.tuple ds).shown.length ≤ sizeLine)) = true then some (PyData.str (PyData.shown (.tuple ds))) else none) = _
  rw [if_pos this]
theorem eqStr_self (x : Str) : gEqA (.str x) (.str x) = some (.bool true) := by rw [eqStr]; simp
end Dv

/-! Dx: great numbers. -/
namespace Dv
open PySem
theorem gMul_ii (i j : Int) : gMul (.int i) (.int j) = if (small64 i || small64 j) = true then some (.int (i * j)) else none := by
  unfold gMul gOr gMulI gI
  dsimp only
  cases (small64 i || small64 j)
  · rfl
  · rfl
theorem gMulW_ii (i j : Int) (h : i.natAbs.log2 + j.natAbs.log2 < 1000000) : gMulW (.int i) (.int j) = some (.int (i * j)) := by
  unfold gMulW gI
  dsimp only
  rw [decide_eq_true h, if_pos rfl]
theorem gMulA_ii (i j : Int) (h : i.natAbs.log2 + j.natAbs.log2 < 1000000) : gMulA (.int i) (.int j) = some (.int (i * j)) := by
  unfold gMulA gOr
  rw [gMul_ii, gMulW_ii i j h]
  cases (small64 i || small64 j)
  · rfl
  · rfl
/-- a great number -/
def BB : Nat := 2 ^ 400
theorem log_BB {x : Nat} (h : x < BB) : x.log2 < 400 := log2_lt_of h (by omega)
theorem BB_le {k : Nat} (h : k ≤ 400) : 2 ^ k ≤ BB := Nat.pow_le_pow_right (by omega) h
theorem gMulA_nat {x y : Nat} (hx : x < BB) (hy : y < BB) : gMulA (.int (x : Int)) (.int (y : Int)) = some (.int ((x * y : Nat) : Int)) := by
  have l1 := log_BB hx
  have l2 := log_BB hy
  rw [gMulA_ii, Int.natCast_mul]
  rw [Int.natAbs_natCast, Int.natAbs_natCast]
  omega
theorem gDivB {x g : Nat} (h : 0 < g) (hg : g < BB) : gDiv (.int (x : Int)) (.int (g : Int)) = some (.int ((x / g : Nat) : Int)) := by
  have l := log_BB hg
  unfold gDiv gI
  dsimp only
  rw [decide_eq_true (show 0 < (g : Int) ∧ (g : Int).natAbs.log2 < 9000 from ⟨by omega, by rw [Int.natAbs_natCast]; omega⟩), if_pos rfl, Int.natCast_ediv]
/-- a pair of great numbers is shown -/
theorem big_int {x : Nat} (h : x < BB) : x.log2 < 1920 ∧ (PyData.int (x : Int)).shown.length ≤ 130 := by
  refine ⟨?_, ?_⟩
  · have := log_BB h
    omega
  · have q : BB ≤ 10 ^ 130 := by
      show 2 ^ 400 ≤ 10 ^ 130
      calc 2 ^ 400 ≤ 2 ^ (4 * 100) := Nat.le_refl _
        _ = (2 ^ 4) ^ 100 := Nat.pow_mul 2 4 100
        _ ≤ 10 ^ 130 := by decide +kernel
    exact PyProof.Rows.toString_length_le (by omega) (by omega) (by exact_mod_cast Nat.lt_of_lt_of_le h q)
theorem fr_shown {x y : Nat} (hx : x < BB) (hy : y < BB) : Shw (.tuple [.int (x : Int), .int (y : Int)]) ∧ Shw (.list [.tuple [.int (x : Int), .int (y : Int)], .tuple [.int (x : Int), .int (y : Int)]]) := by
  obtain ⟨a1, a2⟩ := big_int hx
  obtain ⟨b1, b2⟩ := big_int hy
  have sz : sizeLine = 16777216 := by decide
  refine ⟨⟨?_, rfl, by simp [PyData.depth, PyData.depthAll], ?_⟩, ⟨?_, rfl, by simp [PyData.depth, PyData.depthAll], ?_⟩⟩
  · simp [PyData.showable, PyData.showableAll, a1, b1]
  · refine Nat.le_trans (PyData.shown_le_bulk 130 (by omega) _ (PyData.leavesShort_of_canLay0 130 _ rfl ?_)) ?_
    · simp [PyData.intsShort, PyData.intsShortAll, a2, b2]
    · rw [sz]; simp [PyData.bulk, PyData.bulkAll]
  · simp [PyData.showable, PyData.showableAll, a1, b1]
  · refine Nat.le_trans (PyData.shown_le_bulk 130 (by omega) _ (PyData.leavesShort_of_canLay0 130 _ rfl ?_)) ?_
    · simp [PyData.intsShort, PyData.intsShortAll, a2, b2]
    · rw [sz]; simp [PyData.bulk, PyData.bulkAll]
end Dv

section
set_option maxHeartbeats 4000000
namespace Lk02
open PySem PySem.Spec PyProof.Rows L2 Dv
def topS (i : Nat) : Stmt := PySem.Challenge.pw_belltables_k02_whole_scenarios_of_anythi.main.body.getD i (.Pass ⟨0, 0, 0, 0⟩)
/-- what is built in is as it was -/
structure Bts (K : PySem.W.Frag) (mg : Str → Option Value) : Prop where
  abs : mg "abs" = none
  all : mg "all" = none
  any : mg "any" = none
  bool : mg "bool" = none
  divmod : mg "divmod" = none
  int : mg "int" = none
  isinstance : mg "isinstance" = none
  len : mg "len" = none
  list : mg "list" = none
  max : mg "max" = none
  min : mg "min" = none
  range : mg "range" = none
  repr : mg "repr" = none
  sorted : mg "sorted" = none
  tuple : mg "tuple" = none
section
variable {P : Program} {w : World} {K : PySem.W.Frag} {mg : Str → Option Value} {base : Heap}
/-! ### is_whole -/
abbrev s_is_whole : Stmt := topS 1
theorem sc_is_whole : FnScope ["value"] ["value"] (defScope s_is_whole) := ⟨rfl, rfl, rfl, by decide +kernel, rfl, by decide +kernel, by decide +kernel⟩
def bd_is_whole : S1 := (sRet (fAndV (fIsi "int" (fVar 0)) (fNotV (fIsi "bool" (fVar 0)))))
def fn_is_whole : Fn := fnOf 1 bd_is_whole
def kb_is_whole (fd : FuncData) : Prop := True
theorem has_is_whole (bt : Bts K mg) {f : Addr} {fd : FuncData} (F : L2.Fun K "is_whole" "is_whole" s_is_whole f fd) (gf : mg "is_whole" = some (.ref f))  :
    Has P w K mg base 1 "is_whole" ["value"] 1 fn_is_whole kb_is_whole := by
  have kb : kb_is_whole fd := trivial
  have sc := sc_is_whole
  refine ⟨f, fd, FnG.byBody F sc rfl rfl (by decide) ?_, gf, F.kp, F.binds (ps := ["value"]) fun _ _ _ _ _ _ us hl => match us, hl with | [_], _ => rfl, kb⟩
  intro cdv A out s H c hr
  have cl : Cl0 (A.deeper (envOfC "is_whole" (defScope s_is_whole) s.heap.objs.size f cdv)) := c
  exact ⟨_, (ss_one (s_ret (e_and (e_isi "int" (by rfl) bt.isinstance (by rfl) bt.int boot_int (e_var 0)) (e_one (e_not (e_isi "bool" (by rfl) bt.isinstance (by rfl) bt.bool boot_bool (e_var 0)))))))⟩
/-! ### sections_by -/
abbrev s_sections_by : Stmt := topS 3
theorem sc_sections_by : FnScope ["sizes", "found", "size", "section", "outcome"] ["sizes"] (defScope s_sections_by) := ⟨rfl, rfl, rfl, by decide +kernel, rfl, by decide +kernel, by decide +kernel⟩
def bd_sections_by : S1 := (sSeq (sAsg (fF (fLst (fCons (fTup fNil) fNil))) (hName 1))
    (sSeq (sFor (fItems (fVar 0)) (hName 2) (sAsg (fF (fLc2 (fItems (fVar 1)) (hName 3) fYes (fRng1 (fCons (fVar 2) fNil)) (hName 4) fYes (f2 gAdd (fVar 3) (fTup (fCons (fVar 4) fNil))) [3, 4] [4])) (hName 1)))
    (sRet (fVar 1))))
def fn_sections_by : Fn := fnOf 5 bd_sections_by
def kb_sections_by (fd : FuncData) : Prop := True
theorem has_sections_by (bt : Bts K mg) {f : Addr} {fd : FuncData} (F : L2.Fun K "sections_by" "sections_by" s_sections_by f fd) (gf : mg "sections_by" = some (.ref f))  :
    Has P w K mg base 1 "sections_by" ["sizes"] 1 fn_sections_by kb_sections_by := by
  have kb : kb_sections_by fd := trivial
  have sc := sc_sections_by
  refine ⟨f, fd, FnG.byBody F sc rfl rfl (by decide) ?_, gf, F.kp, F.binds (ps := ["sizes"]) fun _ _ _ _ _ _ us hl => match us, hl with | [_], _ => rfl, kb⟩
  intro cdv A out s H c hr
  have cl : Cl0 (A.deeper (envOfC "sections_by" (defScope s_sections_by) s.heap.objs.size f cdv)) := c
  exact ⟨_, (ss_cons (s_set 1 (show List.Nodup _ from sc.nd) (e_f (F_lst (a_cons (e_tup a_nil) a_nil))))
      (ss_cons (s_for PassesOwn.never rfl (i_seq (e_var 0)) (g_name 2 (show List.Nodup _ from sc.nd)) (ss_one (s_setLc2 (own := [("section", 3), ("outcome", 4)]) (vs1 := [4]) 1 rfl (show List.Nodup _ from sc.nd) (i_seq (e_var 1)) (by first | exact (show blkC ["sizes", "found", "size", "section", "outcome"] (defScope s_sections_by) _ _ = true from by decide +kernel) | rfl) (by decide) (fun _ _ _ _ _ => (g_name 3 (show List.Nodup _ from sc.nd))) (gin_name (by decide)) (fun _ _ _ _ _ => ts_nil) (fun _ _ _ _ _ => (i_rng1 (by rfl) bt.range (a_cons (e_var 2) a_nil))) (fun _ _ _ _ _ => (g_name 4 (show List.Nodup _ from sc.nd))) (gin_name (by decide)) (fun _ _ _ _ _ => ts_nil) (fun _ _ _ _ _ => (e_op s_add o_add (e_var 3) (e_tup (a_cons (e_var 4) a_nil)))) (sw_true rfl rfl rfl (by decide +kernel)))))
      (ss_one (s_ret (e_var 1)))))⟩
/-! ### sizes_of -/
abbrev s_sizes_of : Stmt := topS 4
theorem sc_sizes_of : FnScope ["scenario", "lot", "observable"] ["scenario", "lot"] (defScope s_sizes_of) := ⟨rfl, rfl, rfl, by decide +kernel, rfl, by decide +kernel, by decide +kernel⟩
def bd_sizes_of : S1 := (sRet (fCB gTuple (fCons (fF (fLc (fItems (fVar 1)) (hName 2) fYes (f2 gIx (f2 gIx (fVar 0) (fC (.int 0))) (fVar 2)) [2])) fNil)))
def fn_sizes_of : Fn := fnOf 3 bd_sizes_of
def kb_sizes_of (fd : FuncData) : Prop := True
theorem has_sizes_of (bt : Bts K mg) {f : Addr} {fd : FuncData} (F : L2.Fun K "sizes_of" "sizes_of" s_sizes_of f fd) (gf : mg "sizes_of" = some (.ref f))  :
    Has P w K mg base 1 "sizes_of" ["scenario", "lot"] 2 fn_sizes_of kb_sizes_of := by
  have kb : kb_sizes_of fd := trivial
  have sc := sc_sizes_of
  refine ⟨f, fd, FnG.byBody F sc rfl rfl (by decide) ?_, gf, F.kp, F.binds (ps := ["scenario", "lot"]) fun _ _ _ _ _ _ us hl => match us, hl with | [_, _], _ => rfl, kb⟩
  intro cdv A out s H c hr
  have cl : Cl0 (A.deeper (envOfC "sizes_of" (defScope s_sizes_of) s.heap.objs.size f cdv)) := c
  exact ⟨_, (ss_one (s_ret (e_ct s_tuple c_tuple (by rfl) bt.tuple boot_tuple (a_cons (e_f (F_lc (own := [("observable", 2)]) rfl (show List.Nodup _ from sc.nd) (i_seq (e_var 1)) (by first | exact (show blkC ["scenario", "lot", "observable"] (defScope s_sizes_of) _ _ = true from by decide +kernel) | rfl) (fun _ _ _ _ _ => (g_name 2 (show List.Nodup _ from sc.nd))) (gin_name (by decide)) (fun _ _ _ _ _ => ts_nil) (fun _ _ _ _ _ => (e_ix (e_ix (e_var 0) e_int (fun _ _ => rfl)) (e_var 2) (fun _ _ => rfl))))) a_nil))))⟩
/-! ### is_within -/
abbrev s_is_within : Stmt := topS 6
theorem sc_is_within : FnScope ["lot", "other", "observable"] ["lot", "other"] (defScope s_is_within) := ⟨rfl, rfl, rfl, by decide +kernel, rfl, by decide +kernel, by decide +kernel⟩
def bd_is_within : S1 := (sRet (fCB gAll (fCons (fF (fLc (fItems (fVar 0)) (hName 2) fYes (f2 gIn (fVar 2) (fVar 1)) [2])) fNil)))
def fn_is_within : Fn := fnOf 3 bd_is_within
def kb_is_within (fd : FuncData) : Prop := True
theorem has_is_within (bt : Bts K mg) {f : Addr} {fd : FuncData} (F : L2.Fun K "is_within" "is_within" s_is_within f fd) (gf : mg "is_within" = some (.ref f))  :
    Has P w K mg base 1 "is_within" ["lot", "other"] 2 fn_is_within kb_is_within := by
  have kb : kb_is_within fd := trivial
  have sc := sc_is_within
  refine ⟨f, fd, FnG.byBody F sc rfl rfl (by decide) ?_, gf, F.kp, F.binds (ps := ["lot", "other"]) fun _ _ _ _ _ _ us hl => match us, hl with | [_, _], _ => rfl, kb⟩
  intro cdv A out s H c hr
  have cl : Cl0 (A.deeper (envOfC "is_within" (defScope s_is_within) s.heap.objs.size f cdv)) := c
  exact ⟨_, (ss_one (s_ret (e_cb s_all (cr_all rfl) (by rfl) bt.all boot_all (a_cons (e_f (F_lc (own := [("observable", 2)]) rfl (show List.Nodup _ from sc.nd) (i_seq (e_var 0)) (by first | exact (show blkC ["lot", "other", "observable"] (defScope s_is_within) _ _ = true from by decide +kernel) | rfl) (fun _ _ _ _ _ => (g_name 2 (show List.Nodup _ from sc.nd))) (gin_name (by decide)) (fun _ _ _ _ _ => ts_nil) (fun _ _ _ _ _ => (e_cmp s_in (o_in (room65 hr)) (e_var 2) (e_var 1) rfl)))) a_nil))))⟩
/-! ### is_tuple_of -/
abbrev s_is_tuple_of : Stmt := topS 8
theorem sc_is_tuple_of : FnScope ["value", "many"] ["value", "many"] (defScope s_is_tuple_of) := ⟨rfl, rfl, rfl, by decide +kernel, rfl, by decide +kernel, by decide +kernel⟩
def bd_is_tuple_of : S1 := (sRet (fAndV (fIsi "tuple" (fVar 0)) (f2 gEqA (fCB gLen (fCons (fVar 0) fNil)) (fVar 1))))
def fn_is_tuple_of : Fn := fnOf 2 bd_is_tuple_of
def kb_is_tuple_of (fd : FuncData) : Prop := True
theorem has_is_tuple_of (bt : Bts K mg) {f : Addr} {fd : FuncData} (F : L2.Fun K "is_tuple_of" "is_tuple_of" s_is_tuple_of f fd) (gf : mg "is_tuple_of" = some (.ref f))  :
    Has P w K mg base 1 "is_tuple_of" ["value", "many"] 2 fn_is_tuple_of kb_is_tuple_of := by
  have kb : kb_is_tuple_of fd := trivial
  have sc := sc_is_tuple_of
  refine ⟨f, fd, FnG.byBody F sc rfl rfl (by decide) ?_, gf, F.kp, F.binds (ps := ["value", "many"]) fun _ _ _ _ _ _ us hl => match us, hl with | [_, _], _ => rfl, kb⟩
  intro cdv A out s H c hr
  have cl : Cl0 (A.deeper (envOfC "is_tuple_of" (defScope s_is_tuple_of) s.heap.objs.size f cdv)) := c
  exact ⟨_, (ss_one (s_ret (e_and (e_isi "tuple" (by rfl) bt.isinstance (by rfl) bt.tuple boot_tuple (e_var 0)) (e_one (e_cmp s_eqA (o_eqA hr.units) (e_cb s_len c_len (by rfl) bt.len boot_len (a_cons (e_var 0) a_nil)) (e_var 1) (nomark _))))))⟩
/-! ### is_ascending -/
abbrev s_is_ascending : Stmt := topS 10
theorem sc_is_ascending : FnScope ["value", "at"] ["value"] (defScope s_is_ascending) := ⟨rfl, rfl, rfl, by decide +kernel, rfl, by decide +kernel, by decide +kernel⟩
def bd_is_ascending : S1 := (sRet (fCB gAll (fCons (fF (fLc (fRng2 (fCons (fC (.int 1)) (fCons (fCB gLen (fCons (fVar 0) fNil)) fNil))) (hName 1) fYes (f2 gLt (f2 gIx (fVar 0) (f2 gSub (fVar 1) (fC (.int 1)))) (f2 gIx (fVar 0) (fVar 1))) [1])) fNil)))
def fn_is_ascending : Fn := fnOf 2 bd_is_ascending
def kb_is_ascending (fd : FuncData) : Prop := True
theorem has_is_ascending (bt : Bts K mg) {f : Addr} {fd : FuncData} (F : L2.Fun K "is_ascending" "is_ascending" s_is_ascending f fd) (gf : mg "is_ascending" = some (.ref f))  :
    Has P w K mg base 1 "is_ascending" ["value"] 1 fn_is_ascending kb_is_ascending := by
  have kb : kb_is_ascending fd := trivial
  have sc := sc_is_ascending
  refine ⟨f, fd, FnG.byBody F sc rfl rfl (by decide) ?_, gf, F.kp, F.binds (ps := ["value"]) fun _ _ _ _ _ _ us hl => match us, hl with | [_], _ => rfl, kb⟩
  intro cdv A out s H c hr
  have cl : Cl0 (A.deeper (envOfC "is_ascending" (defScope s_is_ascending) s.heap.objs.size f cdv)) := c
  exact ⟨_, (ss_one (s_ret (e_cb s_all (cr_all rfl) (by rfl) bt.all boot_all (a_cons (e_f (F_lc (own := [("at", 1)]) rfl (show List.Nodup _ from sc.nd) (i_rng2 (by rfl) bt.range (a_cons e_int (a_cons (e_cb s_len c_len (by rfl) bt.len boot_len (a_cons (e_var 0) a_nil)) a_nil))) (by first | exact (show blkC ["value", "at"] (defScope s_is_ascending) _ _ = true from by decide +kernel) | rfl) (fun _ _ _ _ _ => (g_name 1 (show List.Nodup _ from sc.nd))) (gin_name (by decide)) (fun _ _ _ _ _ => ts_nil) (fun _ _ _ _ _ => (e_cmp s_lt (o_lt hr.units0) (e_ix (e_var 0) (e_op s_sub op_sub (e_var 1) e_int) (fun _ _ => rfl)) (e_ix (e_var 0) (e_var 1) (fun _ _ => rfl)) (nomark _))))) a_nil))))⟩
/-! ### _law_well -/
abbrev s__law_well : Stmt := topS 27
theorem sc__law_well : FnScope ["script", "lap", "mixed", "cell", "own"] ["script", "lap"] (defScope s__law_well) := ⟨rfl, rfl, rfl, by decide +kernel, rfl, by decide +kernel, by decide +kernel⟩
def bd__law_well : S1 := (sSeq (sAsg (f2 gAdd (fC (.int 50023)) (f2 gMul (fC (.int 7919)) (fVar 1))) (hName 2))
    (sSeq (sFor (fItems (fSl (fVar 0) fNo (fPart (fC (.int 10))))) (hName 3) (sAsg (f2 gMod (fCB gInt (fCons (f2 gAdd (f2 gAdd (f2 gMul (fVar 2) (fC (.int 52361))) (f2 gMul (f2 gMod (fCB gInt (fCons (fVar 3) fNil)) (fC (.int 2147483489))) (fC (.int 7)))) (fC (.int 19))) fNil)) (fC (.int 2147483489))) (hName 2)))
    (sSeq (sAsg (fIf (fT (f2 gLt (fVar 1) (fCB gLen (fCons (fVar 0) fNil)))) (fCB gInt (fCons (f2 gIx (fVar 0) (fVar 1)) fNil)) (fC (.int 0))) (hName 4))
    (sSeq (sAsg (f2 gMod (fCB gInt (fCons (f2 gAdd (f2 gAdd (f2 gMul (fVar 2) (fC (.int 47))) (f2 gMul (f2 gMod (fCB gInt (fCons (fVar 4) fNil)) (fC (.int 2147483489))) (fC (.int 30109)))) (fC (.int 5))) fNil)) (fC (.int 2147483489))) (hName 2))
    (sRetF (fLst (fCons (fIf (fOrT (fT (f2 gLt (fVar 4) (fC (.int 0)))) (fT (f2 gGe (fVar 4) (f2 gPow (fC (.int 10)) (fC (.int 14)))))) (fCB gAbs (fCons (fVar 4) fNil)) (fC (.int 0))) (fCons (fVar 2) (fCons (fC (.int 0)) fNil)))))))))
def fn__law_well : Fn := fnOf 5 bd__law_well
def kb__law_well (fd : FuncData) : Prop := True
theorem has__law_well (bt : Bts K mg) {f : Addr} {fd : FuncData} (F : L2.Fun K "_law_well" "_law_well" s__law_well f fd) (gf : mg "_law_well" = some (.ref f))  :
    Has P w K mg base 1 "_law_well" ["script", "lap"] 2 fn__law_well kb__law_well := by
  have kb : kb__law_well fd := trivial
  have sc := sc__law_well
  refine ⟨f, fd, FnG.byBody F sc rfl rfl (by decide) ?_, gf, F.kp, F.binds (ps := ["script", "lap"]) fun _ _ _ _ _ _ us hl => match us, hl with | [_, _], _ => rfl, kb⟩
  intro cdv A out s H c hr
  have cl : Cl0 (A.deeper (envOfC "_law_well" (defScope s__law_well) s.heap.objs.size f cdv)) := c
  exact ⟨_, (ss_cons (s_set 2 (show List.Nodup _ from sc.nd) (e_op s_add o_add e_int (e_op s_mul o_mul e_int (e_var 1))))
      (ss_cons (s_for PassesOwn.never rfl (i_seq (e_sl (e_var 0) o_no (o_part e_int))) (g_name 3 (show List.Nodup _ from sc.nd)) (ss_one (s_set 2 (show List.Nodup _ from sc.nd) (e_op s_mod op_mod (e_ct s_int call_int1 (by rfl) bt.int boot_int (a_cons (e_op s_add o_add (e_op s_add o_add (e_op s_mul o_mul (e_var 2) e_int) (e_op s_mul o_mul (e_op s_mod op_mod (e_ct s_int call_int1 (by rfl) bt.int boot_int (a_cons (e_var 3) a_nil)) e_int) e_int)) e_int) a_nil)) e_int))))
      (ss_cons (s_set 4 (show List.Nodup _ from sc.nd) (e_if (t_cmp s_lt (o_lt hr.units0) (e_var 1) (e_cb s_len c_len (by rfl) bt.len boot_len (a_cons (e_var 0) a_nil)) (nomark _)) (e_ct s_int call_int1 (by rfl) bt.int boot_int (a_cons (e_ix (e_var 0) (e_var 1) (fun _ _ => rfl)) a_nil)) e_int))
      (ss_cons (s_set 2 (show List.Nodup _ from sc.nd) (e_op s_mod op_mod (e_ct s_int call_int1 (by rfl) bt.int boot_int (a_cons (e_op s_add o_add (e_op s_add o_add (e_op s_mul o_mul (e_var 2) e_int) (e_op s_mul o_mul (e_op s_mod op_mod (e_ct s_int call_int1 (by rfl) bt.int boot_int (a_cons (e_var 4) a_nil)) e_int) e_int)) e_int) a_nil)) e_int))
      (ss_one (s_retF (F_lst (a_cons (e_if (t_w (w_or (t_cmp s_lt (o_lt hr.units0) (e_var 4) e_int (nomark _)) (w_or1 (t_cmp s_ge op_ge (e_var 4) (e_op s_pow op_pow e_int e_int) (nomark _))))) (e_cb s_abs call_abs (by rfl) bt.abs boot_abs (a_cons (e_var 4) a_nil)) e_int) (a_cons (e_var 2) (a_cons e_int a_nil))))))))))⟩
/-! ### _law_draw -/
abbrev s__law_draw : Stmt := topS 28
theorem sc__law_draw : FnScope ["well", "few", "figure", "mixed"] ["well", "few"] (defScope s__law_draw) := ⟨rfl, rfl, rfl, by decide +kernel, rfl, by decide +kernel, by decide +kernel⟩
def bd__law_draw : S1 := (sSeq (sIf (fT (f2 gGt (fOL gIx 0 (fC (.int 0))) (fC (.int 0)))) (sSeq (sAsg (fCB gDivmod (fCons (fOL gIx 0 (fC (.int 0))) (fCons (fVar 1) fNil))) (hTup 2 (hCons (hSub 0 (fC (.int 0))) (hCons (hName 2) hNil))))
    (sRet (fVar 2))) sNext)
    (sSeq (sAsg (f2 gAdd (fOL gIx 0 (fC (.int 2))) (fC (.int 1))) (hSub 0 (fC (.int 2))))
    (sSeq (sAsg (f2 gMod (fCB gInt (fCons (f2 gAdd (f2 gMul (fOL gIx 0 (fC (.int 1))) (fC (.int 48271))) (f2 gMul (fC (.int 15017)) (fOL gIx 0 (fC (.int 2))))) fNil)) (fC (.int 2147483489))) (hName 3))
    (sSeq (sAsg (f2 gMod (fCB gInt (fCons (f2 gAdd (f2 gMul (fVar 3) (f2 gAdd (f2 gMod (fCB gInt (fCons (fVar 3) fNil)) (fC (.int 5003))) (fC (.int 20021)))) (fOL gIx 0 (fC (.int 2)))) fNil)) (fC (.int 2147483489))) (hSub 0 (fC (.int 1))))
    (sRet (f2 gMod (fCB gInt (fCons (f2 gDiv (fOL gIx 0 (fC (.int 1))) (fC (.int 1009))) fNil)) (fVar 1)))))))
def fn__law_draw : Fn := fnOf 4 bd__law_draw
def kb__law_draw (fd : FuncData) : Prop := True
theorem has__law_draw (bt : Bts K mg) {f : Addr} {fd : FuncData} (F : L2.Fun K "_law_draw" "_law_draw" s__law_draw f fd) (gf : mg "_law_draw" = some (.ref f))  :
    Has P w K mg base 1 "_law_draw" ["well", "few"] 2 fn__law_draw kb__law_draw := by
  have kb : kb__law_draw fd := trivial
  have sc := sc__law_draw
  refine ⟨f, fd, FnG.byBody F sc rfl rfl (by decide) ?_, gf, F.kp, F.binds (ps := ["well", "few"]) fun _ _ _ _ _ _ us hl => match us, hl with | [_, _], _ => rfl, kb⟩
  intro cdv A out s H c hr
  have cl : Cl0 (A.deeper (envOfC "_law_draw" (defScope s__law_draw) s.heap.objs.size f cdv)) := c
  exact ⟨_, (ss_cons (s_if (t_cmp s_gt op_gt (e_ixL (pv 0) e_int (fun _ _ => rfl)) e_int (nomark _)) (ss_cons (s_asg (e_cb s_divmod call_divmod (by rfl) bt.divmod boot_divmod (a_cons (e_ixL (pv 0) e_int (fun _ _ => rfl)) (a_cons (e_var 1) a_nil))) (g_tup rfl (gs_cons (g_sub (i := 0) e_int (fun hb => pg_sub (pv 0) hb set_list)) (gs_cons (g_name 2 (show List.Nodup _ from sc.nd)) gs_nil))))
      (ss_one (s_ret (e_var 2)))) ss_nil)
      (ss_cons (s_asg (e_op s_add o_add (e_ixL (pv 0) e_int (fun _ _ => rfl)) e_int) (g_sub (i := 0) e_int (fun hb => pg_sub (pv 0) hb set_list)))
      (ss_cons (s_set 3 (show List.Nodup _ from sc.nd) (e_op s_mod op_mod (e_ct s_int call_int1 (by rfl) bt.int boot_int (a_cons (e_op s_add o_add (e_op s_mul o_mul (e_ixL (pv 0) e_int (fun _ _ => rfl)) e_int) (e_op s_mul o_mul e_int (e_ixL (pv 0) e_int (fun _ _ => rfl)))) a_nil)) e_int))
      (ss_cons (s_asg (e_op s_mod op_mod (e_ct s_int call_int1 (by rfl) bt.int boot_int (a_cons (e_op s_add o_add (e_op s_mul o_mul (e_var 3) (e_op s_add o_add (e_op s_mod op_mod (e_ct s_int call_int1 (by rfl) bt.int boot_int (a_cons (e_var 3) a_nil)) e_int) e_int)) (e_ixL (pv 0) e_int (fun _ _ => rfl))) a_nil)) e_int) (g_sub (i := 0) e_int (fun hb => pg_sub (pv 0) hb set_list)))
      (ss_one (s_ret (e_op s_mod op_mod (e_ct s_int call_int1 (by rfl) bt.int boot_int (a_cons (e_op s_div op_fdivW (e_ixL (pv 0) e_int (fun _ _ => rfl)) e_int) a_nil)) (e_var 1))))))))⟩
/-! ### _law_is_whole -/
abbrev s__law_is_whole : Stmt := topS 30
theorem sc__law_is_whole : FnScope ["thing"] ["thing"] (defScope s__law_is_whole) := ⟨rfl, rfl, rfl, by decide +kernel, rfl, by decide +kernel, by decide +kernel⟩
def bd__law_is_whole : S1 := (sRet (fAndV (fIsi "int" (fVar 0)) (fNotV (fIsi "bool" (fVar 0)))))
def fn__law_is_whole : Fn := fnOf 1 bd__law_is_whole
def kb__law_is_whole (fd : FuncData) : Prop := True
theorem has__law_is_whole (bt : Bts K mg) {f : Addr} {fd : FuncData} (F : L2.Fun K "_law_is_whole" "_law_is_whole" s__law_is_whole f fd) (gf : mg "_law_is_whole" = some (.ref f))  :
    Has P w K mg base 1 "_law_is_whole" ["thing"] 1 fn__law_is_whole kb__law_is_whole := by
  have kb : kb__law_is_whole fd := trivial
  have sc := sc__law_is_whole
  refine ⟨f, fd, FnG.byBody F sc rfl rfl (by decide) ?_, gf, F.kp, F.binds (ps := ["thing"]) fun _ _ _ _ _ _ us hl => match us, hl with | [_], _ => rfl, kb⟩
  intro cdv A out s H c hr
  have cl : Cl0 (A.deeper (envOfC "_law_is_whole" (defScope s__law_is_whole) s.heap.objs.size f cdv)) := c
  exact ⟨_, (ss_one (s_ret (e_and (e_isi "int" (by rfl) bt.isinstance (by rfl) bt.int boot_int (e_var 0)) (e_one (e_not (e_isi "bool" (by rfl) bt.isinstance (by rfl) bt.bool boot_bool (e_var 0)))))))⟩
/-! ### _law_is_tuple -/
abbrev s__law_is_tuple : Stmt := topS 31
theorem sc__law_is_tuple : FnScope ["thing", "few"] ["thing", "few"] (defScope s__law_is_tuple) := ⟨rfl, rfl, rfl, by decide +kernel, rfl, by decide +kernel, by decide +kernel⟩
def bd__law_is_tuple : S1 := (sRet (fAndV (fIsi "tuple" (fVar 0)) (f2 gEqA (fCB gLen (fCons (fVar 0) fNil)) (fVar 1))))
def fn__law_is_tuple : Fn := fnOf 2 bd__law_is_tuple
def kb__law_is_tuple (fd : FuncData) : Prop := True
theorem has__law_is_tuple (bt : Bts K mg) {f : Addr} {fd : FuncData} (F : L2.Fun K "_law_is_tuple" "_law_is_tuple" s__law_is_tuple f fd) (gf : mg "_law_is_tuple" = some (.ref f))  :
    Has P w K mg base 1 "_law_is_tuple" ["thing", "few"] 2 fn__law_is_tuple kb__law_is_tuple := by
  have kb : kb__law_is_tuple fd := trivial
  have sc := sc__law_is_tuple
  refine ⟨f, fd, FnG.byBody F sc rfl rfl (by decide) ?_, gf, F.kp, F.binds (ps := ["thing", "few"]) fun _ _ _ _ _ _ us hl => match us, hl with | [_, _], _ => rfl, kb⟩
  intro cdv A out s H c hr
  have cl : Cl0 (A.deeper (envOfC "_law_is_tuple" (defScope s__law_is_tuple) s.heap.objs.size f cdv)) := c
  exact ⟨_, (ss_one (s_ret (e_and (e_isi "tuple" (by rfl) bt.isinstance (by rfl) bt.tuple boot_tuple (e_var 0)) (e_one (e_cmp s_eqA (o_eqA hr.units) (e_cb s_len c_len (by rfl) bt.len boot_len (a_cons (e_var 0) a_nil)) (e_var 1) (nomark _))))))⟩
/-! ### _law_sections -/
abbrev s__law_sections : Stmt := topS 35
theorem sc__law_sections : FnScope ["outcomes", "lot", "found", "at", "longer", "each", "part"] ["outcomes", "lot"] (defScope s__law_sections) := ⟨rfl, rfl, rfl, by decide +kernel, rfl, by decide +kernel, by decide +kernel⟩
def bd__law_sections : S1 := (sSeq (sAsg (fF (fLst (fCons (fTup fNil) fNil))) (hName 2))
    (sSeq (sFor (fItems (fVar 1)) (hName 3) (sSeq (sAsg (fF (fLst fNil)) (hName 4))
    (sSeq (sFor (fItems (fVar 2)) (hName 5) (sAsg (f2 gAdd (fVar 4) (fF (fLc (fRng1 (fCons (f2 gIx (fVar 0) (fVar 3)) fNil)) (hName 6) fYes (f2 gAdd (fVar 5) (fTup (fCons (fVar 6) fNil))) [6]))) (hName 4)))
    (sAsg (fVar 4) (hName 2)))))
    (sRet (fCB gTuple (fCons (fVar 2) fNil)))))
def fn__law_sections : Fn := fnOf 7 bd__law_sections
def kb__law_sections (fd : FuncData) : Prop := True
theorem has__law_sections (bt : Bts K mg) {f : Addr} {fd : FuncData} (F : L2.Fun K "_law_sections" "_law_sections" s__law_sections f fd) (gf : mg "_law_sections" = some (.ref f))  :
    Has P w K mg base 1 "_law_sections" ["outcomes", "lot"] 2 fn__law_sections kb__law_sections := by
  have kb : kb__law_sections fd := trivial
  have sc := sc__law_sections
  refine ⟨f, fd, FnG.byBody F sc rfl rfl (by decide) ?_, gf, F.kp, F.binds (ps := ["outcomes", "lot"]) fun _ _ _ _ _ _ us hl => match us, hl with | [_, _], _ => rfl, kb⟩
  intro cdv A out s H c hr
  have cl : Cl0 (A.deeper (envOfC "_law_sections" (defScope s__law_sections) s.heap.objs.size f cdv)) := c
  exact ⟨_, (ss_cons (s_set 2 (show List.Nodup _ from sc.nd) (e_f (F_lst (a_cons (e_tup a_nil) a_nil))))
      (ss_cons (s_for PassesOwn.never rfl (i_seq (e_var 1)) (g_name 3 (show List.Nodup _ from sc.nd)) (ss_cons (s_set 4 (show List.Nodup _ from sc.nd) (e_f (F_lst a_nil)))
      (ss_cons (s_for PassesOwn.never rfl (i_seq (e_var 2)) (g_name 5 (show List.Nodup _ from sc.nd)) (ss_one (s_set 4 (show List.Nodup _ from sc.nd) (e_op s_add o_add (e_var 4) (e_f (F_lc (own := [("part", 6)]) rfl (show List.Nodup _ from sc.nd) (i_rng1 (by rfl) bt.range (a_cons (e_ix (e_var 0) (e_var 3) (fun _ _ => rfl)) a_nil)) (by first | exact (show blkC ["outcomes", "lot", "found", "at", "longer", "each", "part"] (defScope s__law_sections) _ _ = true from by decide +kernel) | rfl) (fun _ _ _ _ _ => (g_name 6 (show List.Nodup _ from sc.nd))) (gin_name (by decide)) (fun _ _ _ _ _ => ts_nil) (fun _ _ _ _ _ => (e_op s_add o_add (e_var 5) (e_tup (a_cons (e_var 6) a_nil))))))))))
      (ss_one (s_set 2 (show List.Nodup _ from sc.nd) (e_var 4))))))
      (ss_one (s_ret (e_ct s_tuple c_tuple (by rfl) bt.tuple boot_tuple (a_cons (e_var 2) a_nil))))))⟩
/-! ### _law_maximal -/
abbrev s__law_maximal : Stmt := topS 36
theorem sc__law_maximal : FnScope ["lots", "found", "lot", "wider", "each", "at"] ["lots"] (defScope s__law_maximal) := ⟨rfl, rfl, rfl, by decide +kernel, rfl, by decide +kernel, by decide +kernel⟩
def bd__law_maximal : S1 := (sSeq (sOwn (fLst fNil) 1)
    (sSeq (sFor (fItems (fCB gSorted (fCons (fVar 0) fNil))) (hName 2) (sSeq (sAsg (fF (fLc (fItems (fVar 0)) (hName 4) (fAndT (fT (f2 gGt (fCB gLen (fCons (fVar 4) fNil)) (fCB gLen (fCons (fVar 2) fNil)))) (fT (f2 gEqA (fF (fLc (fItems (fVar 2)) (hName 5) (fT (f2 gNotIn (fVar 5) (fVar 4))) (fVar 5) [5])) (fF (fLst fNil))))) (fVar 4) [4])) (hName 3))
    (sIf (fAndT (fT (f2 gEqA (fVar 3) (fF (fLst fNil)))) (fT (fOR gNotIn (fVar 2) 1))) (sApp 1 (fVar 2)) sNext)))
    (sRet (fOU (fun y => gTuple [y]) 1))))
def fn__law_maximal : Fn := fnOf 6 bd__law_maximal
def kb__law_maximal (fd : FuncData) : Prop := True
theorem has__law_maximal (bt : Bts K mg) {f : Addr} {fd : FuncData} (F : L2.Fun K "_law_maximal" "_law_maximal" s__law_maximal f fd) (gf : mg "_law_maximal" = some (.ref f))  :
    Has P w K mg base 1 "_law_maximal" ["lots"] 1 fn__law_maximal kb__law_maximal := by
  have kb : kb__law_maximal fd := trivial
  have sc := sc__law_maximal
  refine ⟨f, fd, FnG.byBody F sc rfl rfl (by decide) ?_, gf, F.kp, F.binds (ps := ["lots"]) fun _ _ _ _ _ _ us hl => match us, hl with | [_], _ => rfl, kb⟩
  intro cdv A out s H c hr
  have cl : Cl0 (A.deeper (envOfC "_law_maximal" (defScope s__law_maximal) s.heap.objs.size f cdv)) := c
  exact ⟨_, (ss_cons (s_own 1 (show List.Nodup _ from sc.nd) (F_lst a_nil))
      (ss_cons (s_for PassesOwn.never rfl (i_seq (e_cb s_sorted c_sortTI (by rfl) bt.sorted boot_sorted (a_cons (e_var 0) a_nil))) (g_name 2 (show List.Nodup _ from sc.nd)) (ss_cons (s_setLc (own := [("each", 4)]) 3 rfl (show List.Nodup _ from sc.nd) (i_seq (e_var 0)) (by first | exact (show blkC ["lots", "found", "lot", "wider", "each", "at"] (defScope s__law_maximal) _ _ = true from by decide +kernel) | rfl) (fun _ _ _ _ _ => (g_name 4 (show List.Nodup _ from sc.nd))) (gin_name (by decide)) (fun _ _ _ _ _ => (ts_one (t_w (w_and (t_cmp s_gt op_gt (e_cb s_len c_len (by rfl) bt.len boot_len (a_cons (e_var 4) a_nil)) (e_cb s_len c_len (by rfl) bt.len boot_len (a_cons (e_var 2) a_nil)) (nomark _)) (w_and1 (t_cmp s_eqA (o_eqA hr.units) (e_f (F_lc (own := [("at", 5)]) rfl (show List.Nodup _ from sc.nd) (i_seq (e_var 2)) (by first | exact (show blkC ["lots", "found", "lot", "wider", "each", "at"] (defScope s__law_maximal) _ _ = true from by decide +kernel) | rfl) (fun _ _ _ _ _ => (g_name 5 (show List.Nodup _ from sc.nd))) (gin_name (by decide)) (fun _ _ _ _ _ => (ts_one (t_cmp s_notIn (o_notIn (room65 hr)) (e_var 5) (e_var 4) rfl))) (fun _ _ _ _ _ => (e_var 5)))) (e_f (F_lst a_nil)) (nomark _))))))) (fun _ _ _ _ _ => (e_var 4)) (sw_true rfl rfl rfl (by decide +kernel)))
      (ss_one (s_if (t_w (w_and (t_cmp s_eqA (o_eqA hr.units) (e_var 3) (e_f (F_lst a_nil)) (nomark _)) (w_and1 (t_cmpR s_notIn (o_notIn (room65 hr)) (e_var 2) (pv 1) rfl)))) (ss_one (s_app (pv 1) (e_var 2))) ss_nil))))
      (ss_one (s_ret (e_ctO s_tuple c_tuple (by rfl) bt.tuple boot_tuple (pv 1))))))⟩
/-! ### sections_in -/
abbrev s_sections_in : Stmt := topS 5
theorem sc_sections_in : FnScope ["scenario", "lot"] ["scenario", "lot"] (defScope s_sections_in) := ⟨rfl, rfl, rfl, by decide +kernel, rfl, by decide +kernel, by decide +kernel⟩
def bd_sections_in : S1 := (sRet (fCallE fn_sections_by (aCons (fCallE fn_sizes_of (aCons (fVar 0) (aCons (fVar 1) aNil))) aNil)))
def fn_sections_in : Fn := fnOf 2 bd_sections_in
def kb_sections_in (fd : FuncData) : Prop := True
theorem has_sections_in (bt : Bts K mg) {f : Addr} {fd : FuncData} (F : L2.Fun K "sections_in" "sections_in" s_sections_in f fd) (gf : mg "sections_in" = some (.ref f)) (h_sections_by : Has P w K mg base 1 "sections_by" ["sizes"] 1 fn_sections_by kb_sections_by) (h_sizes_of : Has P w K mg base 1 "sizes_of" ["scenario", "lot"] 2 fn_sizes_of kb_sizes_of) :
    Has P w K mg base 2 "sections_in" ["scenario", "lot"] 2 fn_sections_in kb_sections_in := by
  obtain ⟨f_sections_by, fd_sections_by, G_sections_by, g_sections_by, kp_sections_by, b_sections_by, kb_sections_by⟩ := h_sections_by.ex
  obtain ⟨f_sizes_of, fd_sizes_of, G_sizes_of, g_sizes_of, kp_sizes_of, b_sizes_of, kb_sizes_of⟩ := h_sizes_of.ex
  have kb : kb_sections_in fd := trivial
  have sc := sc_sections_in
  refine ⟨f, fd, FnG.byBody F sc rfl rfl (by decide) ?_, gf, F.kp, F.binds (ps := ["scenario", "lot"]) fun _ _ _ _ _ _ us hl => match us, hl with | [_, _], _ => rfl, kb⟩
  intro cdv A out s H c hr
  have cl : Cl0 (A.deeper (envOfC "sections_in" (defScope s_sections_in) s.heap.objs.size f cdv)) := c
  exact ⟨_, (ss_one (s_ret (e_call G_sections_by cl (hr.mono (by decide)) (by rfl) g_sections_by kp_sections_by b_sections_by (c_cons (e_call G_sizes_of cl (hr.mono (by decide)) (by rfl) g_sizes_of kp_sizes_of b_sizes_of (c_cons (e_var 0) (c_cons (e_var 1) c_nil))) c_nil))))⟩
/-! ### is_index -/
abbrev s_is_index : Stmt := topS 9
theorem sc_is_index : FnScope ["value", "many"] ["value", "many"] (defScope s_is_index) := ⟨rfl, rfl, rfl, by decide +kernel, rfl, by decide +kernel, by decide +kernel⟩
def bd_is_index : S1 := (sRet (fAndV (fCallE fn_is_whole (aCons (fVar 0) aNil)) (fChain gLe gLt (fC (.int 0)) (fVar 0) (fVar 1))))
def fn_is_index : Fn := fnOf 2 bd_is_index
def kb_is_index (fd : FuncData) : Prop := True
theorem has_is_index (bt : Bts K mg) {f : Addr} {fd : FuncData} (F : L2.Fun K "is_index" "is_index" s_is_index f fd) (gf : mg "is_index" = some (.ref f)) (h_is_whole : Has P w K mg base 1 "is_whole" ["value"] 1 fn_is_whole kb_is_whole) :
    Has P w K mg base 2 "is_index" ["value", "many"] 2 fn_is_index kb_is_index := by
  obtain ⟨f_is_whole, fd_is_whole, G_is_whole, g_is_whole, kp_is_whole, b_is_whole, kb_is_whole⟩ := h_is_whole.ex
  have kb : kb_is_index fd := trivial
  have sc := sc_is_index
  refine ⟨f, fd, FnG.byBody F sc rfl rfl (by decide) ?_, gf, F.kp, F.binds (ps := ["value", "many"]) fun _ _ _ _ _ _ us hl => match us, hl with | [_, _], _ => rfl, kb⟩
  intro cdv A out s H c hr
  have cl : Cl0 (A.deeper (envOfC "is_index" (defScope s_is_index) s.heap.objs.size f cdv)) := c
  exact ⟨_, (ss_one (s_ret (e_and (e_call G_is_whole cl (hr.mono (by decide)) (by rfl) g_is_whole kp_is_whole b_is_whole (c_cons (e_var 0) c_nil)) (e_one (e_chain s_le op_le s_lt (o_lt hr.units0) e_int (e_var 0) (e_var 1))))))⟩
/-! ### are_outcomes -/
abbrev s_are_outcomes : Stmt := topS 12
theorem sc_are_outcomes : FnScope ["value", "many", "size"] ["value"] (defScope s_are_outcomes) := ⟨rfl, rfl, rfl, by decide +kernel, rfl, by decide +kernel, by decide +kernel⟩
def bd_are_outcomes : S1 := (sSeq (sIf (fOrT (fNotT (fT (fIsi "tuple" (fVar 0)))) (fNotT (fT (fChain gLe gLe (fC (.int 1)) (fCB gLen (fCons (fVar 0) fNil)) (fC (.int 6)))))) (sRet (fC (.bool false))) sNext)
    (sSeq (sAsg (fC (.int 1)) (hName 1))
    (sSeq (sFor (fItems (fVar 0)) (hName 2) (sSeq (sIf (fOrT (fNotT (fT (fCallE fn_is_whole (aCons (fVar 2) aNil)))) (fNotT (fT (fChain gLe gLe (fC (.int 2)) (fVar 2) (fC (.int 4)))))) (sRet (fC (.bool false))) sNext)
    (sAug gMulI 1 (fVar 2))))
    (sRet (f2 gLe (fVar 1) (fC (.int 64)))))))
def fn_are_outcomes : Fn := fnOf 3 bd_are_outcomes
def kb_are_outcomes (fd : FuncData) : Prop := True
theorem has_are_outcomes (bt : Bts K mg) {f : Addr} {fd : FuncData} (F : L2.Fun K "are_outcomes" "are_outcomes" s_are_outcomes f fd) (gf : mg "are_outcomes" = some (.ref f)) (h_is_whole : Has P w K mg base 1 "is_whole" ["value"] 1 fn_is_whole kb_is_whole) :
    Has P w K mg base 2 "are_outcomes" ["value"] 1 fn_are_outcomes kb_are_outcomes := by
  obtain ⟨f_is_whole, fd_is_whole, G_is_whole, g_is_whole, kp_is_whole, b_is_whole, kb_is_whole⟩ := h_is_whole.ex
  have kb : kb_are_outcomes fd := trivial
  have sc := sc_are_outcomes
  refine ⟨f, fd, FnG.byBody F sc rfl rfl (by decide) ?_, gf, F.kp, F.binds (ps := ["value"]) fun _ _ _ _ _ _ us hl => match us, hl with | [_], _ => rfl, kb⟩
  intro cdv A out s H c hr
  have cl : Cl0 (A.deeper (envOfC "are_outcomes" (defScope s_are_outcomes) s.heap.objs.size f cdv)) := c
  exact ⟨_, (ss_cons (s_if (t_w (w_or (t_not (t_val (e_isi "tuple" (by rfl) bt.isinstance (by rfl) bt.tuple boot_tuple (e_var 0)))) (w_or1 (t_not (t_chain s_le op_le s_le op_le e_int (e_cb s_len c_len (by rfl) bt.len boot_len (a_cons (e_var 0) a_nil)) e_int))))) (ss_one (s_ret e_bl)) ss_nil)
      (ss_cons (s_set 1 (show List.Nodup _ from sc.nd) e_int)
      (ss_cons (s_for PassesOwn.never rfl (i_seq (e_var 0)) (g_name 2 (show List.Nodup _ from sc.nd)) (ss_cons (s_if (t_w (w_or (t_not (t_val (e_call G_is_whole cl (hr.mono (by decide)) (by rfl) g_is_whole kp_is_whole b_is_whole (c_cons (e_var 2) c_nil)))) (w_or1 (t_not (t_chain s_le op_le s_le op_le e_int (e_var 2) e_int))))) (ss_one (s_ret e_bl)) ss_nil)
      (ss_one (s_aug 1 (show List.Nodup _ from sc.nd) ops_mul iop_mul (e_var 2)))))
      (ss_one (s_ret (e_cmp s_le op_le (e_var 1) e_int (nomark _)))))))⟩
/-! ### is_within_another -/
abbrev s_is_within_another : Stmt := topS 14
theorem sc_is_within_another : FnScope ["contexts", "one", "other"] ["contexts"] (defScope s_is_within_another) := ⟨rfl, rfl, rfl, by decide +kernel, rfl, by decide +kernel, by decide +kernel⟩
def bd_is_within_another : S1 := (sRet (fCB gAny (fCons (fF (fLc2 (fItems (fVar 0)) (hName 1) fYes (fItems (fVar 0)) (hName 2) (fT (f2 gNeA (fVar 1) (fVar 2))) (fCallE fn_is_within (aCons (fVar 1) (aCons (fVar 2) aNil))) [1, 2] [2])) fNil)))
def fn_is_within_another : Fn := fnOf 3 bd_is_within_another
def kb_is_within_another (fd : FuncData) : Prop := True
theorem has_is_within_another (bt : Bts K mg) {f : Addr} {fd : FuncData} (F : L2.Fun K "is_within_another" "is_within_another" s_is_within_another f fd) (gf : mg "is_within_another" = some (.ref f)) (h_is_within : Has P w K mg base 1 "is_within" ["lot", "other"] 2 fn_is_within kb_is_within) :
    Has P w K mg base 2 "is_within_another" ["contexts"] 1 fn_is_within_another kb_is_within_another := by
  obtain ⟨f_is_within, fd_is_within, G_is_within, g_is_within, kp_is_within, b_is_within, kb_is_within⟩ := h_is_within.ex
  have kb : kb_is_within_another fd := trivial
  have sc := sc_is_within_another
  refine ⟨f, fd, FnG.byBody F sc rfl rfl (by decide) ?_, gf, F.kp, F.binds (ps := ["contexts"]) fun _ _ _ _ _ _ us hl => match us, hl with | [_], _ => rfl, kb⟩
  intro cdv A out s H c hr
  have cl : Cl0 (A.deeper (envOfC "is_within_another" (defScope s_is_within_another) s.heap.objs.size f cdv)) := c
  exact ⟨_, (ss_one (s_ret (e_cb s_any (cr_any rfl) (by rfl) bt.any boot_any (a_cons (e_f (F_lc2 (own := [("one", 1), ("other", 2)]) (vs1 := [2]) rfl (show List.Nodup _ from sc.nd) (i_seq (e_var 0)) (by first | exact (show blkC ["contexts", "one", "other"] (defScope s_is_within_another) _ _ = true from by decide +kernel) | rfl) (by decide) (fun _ _ _ _ _ => (g_name 1 (show List.Nodup _ from sc.nd))) (gin_name (by decide)) (fun _ _ _ _ _ => ts_nil) (fun _ _ _ _ _ => (i_seq (e_var 0))) (fun _ _ _ _ _ => (g_name 2 (show List.Nodup _ from sc.nd))) (gin_name (by decide)) (fun _ _ _ _ _ => (ts_one (t_cmp s_neA (o_neA hr.units) (e_var 1) (e_var 2) (nomark _)))) (fun _ _ _ _ _ => (e_call G_is_within cl (hr.mono (by decide)) (by rfl) g_is_within kp_is_within b_is_within (c_cons (e_var 1) (c_cons (e_var 2) c_nil)))))) a_nil))))⟩
/-! ### _law_one -/
abbrev s__law_one : Stmt := topS 29
theorem sc__law_one : FnScope ["well", "some"] ["well", "some"] (defScope s__law_one) := ⟨rfl, rfl, rfl, by decide +kernel, rfl, by decide +kernel, by decide +kernel⟩
def bd__law_one : S1 := (sRet (f2 gIx (fVar 1) (fCallE fn__law_draw (aBy 0 (aCons (fCB gLen (fCons (fVar 1) fNil)) aNil)))))
def fn__law_one : Fn := fnOf 2 bd__law_one
def kb__law_one (fd : FuncData) : Prop := True
theorem has__law_one (bt : Bts K mg) {f : Addr} {fd : FuncData} (F : L2.Fun K "_law_one" "_law_one" s__law_one f fd) (gf : mg "_law_one" = some (.ref f)) (h__law_draw : Has P w K mg base 1 "_law_draw" ["well", "few"] 2 fn__law_draw kb__law_draw) :
    Has P w K mg base 2 "_law_one" ["well", "some"] 2 fn__law_one kb__law_one := by
  obtain ⟨f__law_draw, fd__law_draw, G__law_draw, g__law_draw, kp__law_draw, b__law_draw, kb__law_draw⟩ := h__law_draw.ex
  have kb : kb__law_one fd := trivial
  have sc := sc__law_one
  refine ⟨f, fd, FnG.byBody F sc rfl rfl (by decide) ?_, gf, F.kp, F.binds (ps := ["well", "some"]) fun _ _ _ _ _ _ us hl => match us, hl with | [_, _], _ => rfl, kb⟩
  intro cdv A out s H c hr
  have cl : Cl0 (A.deeper (envOfC "_law_one" (defScope s__law_one) s.heap.objs.size f cdv)) := c
  exact ⟨_, (ss_one (s_ret (e_ix (e_var 1) (e_call G__law_draw cl (hr.mono (by decide)) (by rfl) g__law_draw kp__law_draw b__law_draw (c_by (pv 0) (c_cons (e_cb s_len c_len (by rfl) bt.len boot_len (a_cons (e_var 1) a_nil)) c_nil))) (fun _ _ => rfl))))⟩
/-! ### _law_web -/
abbrev s__law_web : Stmt := topS 37
theorem sc__law_web : FnScope ["well", "few", "way", "found", "turn", "lot", "at", "to"] ["well", "few"] (defScope s__law_web) := ⟨rfl, rfl, rfl, by decide +kernel, rfl, by decide +kernel, by decide +kernel⟩
def bd__law_web : S1 := (sSeq (sPar 2 3 (fCons (fCallE fn__law_draw (aBy 0 (aCons (fC (.int 8)) aNil))) (fCons (fF (fLc (fRng1 (fCons (fVar 1) fNil)) (hName 6) fYes (fTup (fCons (fVar 6) fNil)) [6])) fNil)))
    (sSeq (sIf (fAndT (fT (f2 gLt (fVar 2) (fC (.int 2)))) (fT (f2 gGt (fVar 1) (fC (.int 2))))) (sAsg (f2 gAdd (f2 gAdd (fVar 3) (fF (fLc (fRng1 (fCons (f2 gSub (fVar 1) (fC (.int 1))) fNil)) (hName 6) fYes (fTup (fCons (fVar 6) (fCons (f2 gAdd (fVar 6) (fC (.int 1))) fNil))) [6]))) (fF (fLst (fCons (fTup (fCons (fC (.int 0)) (fCons (f2 gSub (fVar 1) (fC (.int 1))) fNil))) fNil)))) (hName 3)) (sIf (fAndT (fT (f2 gEqA (fVar 2) (fC (.int 2)))) (fT (f2 gGt (fVar 1) (fC (.int 1))))) (sAsg (f2 gAdd (fVar 3) (fF (fLc (fRng1 (fCons (f2 gSub (fVar 1) (fC (.int 1))) fNil)) (hName 6) fYes (fTup (fCons (fVar 6) (fCons (f2 gAdd (fVar 6) (fC (.int 1))) fNil))) [6]))) (hName 3)) (sIf (fAndT (fT (f2 gEqA (fVar 2) (fC (.int 3)))) (fT (f2 gGt (fVar 1) (fC (.int 2))))) (sAsg (f2 gAdd (fVar 3) (fF (fLc (fRng1 (fCons (fVar 1) fNil)) (hName 6) fYes (fCB gTuple (fCons (fF (fLc (fRng1 (fCons (fVar 1) fNil)) (hName 7) (fT (f2 gNeA (fVar 7) (fVar 6))) (fVar 7) [7])) fNil)) [6]))) (hName 3)) (sIf (fAndT (fT (f2 gEqA (fVar 2) (fC (.int 4)))) (fT (f2 gEqA (fVar 1) (fC (.int 4))))) (sAsg (f2 gAdd (fVar 3) (fF (fLst (fCons (fTup (fCons (fC (.int 0)) (fCons (fC (.int 2)) fNil))) (fCons (fTup (fCons (fC (.int 0)) (fCons (fC (.int 3)) fNil))) (fCons (fTup (fCons (fC (.int 1)) (fCons (fC (.int 2)) fNil))) (fCons (fTup (fCons (fC (.int 1)) (fCons (fC (.int 3)) fNil))) fNil))))))) (hName 3)) (sIf (fAndT (fT (f2 gEqA (fVar 2) (fC (.int 5)))) (fT (f2 gGt (fVar 1) (fC (.int 1))))) (sAsg (f2 gAdd (fVar 3) (fF (fLc (fRng2 (fCons (fC (.int 1)) (fCons (fVar 1) fNil))) (hName 6) fYes (fTup (fCons (fC (.int 0)) (fCons (fVar 6) fNil))) [6]))) (hName 3)) (sFor (fRng1 (fCons (f2 gAdd (fC (.int 1)) (fCallE fn__law_draw (aBy 0 (aCons (fC (.int 5)) aNil)))) fNil)) (hName 4) (sSeq (sAsg (fF (fLst fNil)) (hName 5))
    (sSeq (sFor (fRng1 (fCons (fVar 1) fNil)) (hName 6) (sAsg (f2 gAdd (fVar 5) (fIf (fT (f2 gEqA (fCallE fn__law_draw (aBy 0 (aCons (fC (.int 2)) aNil))) (fC (.int 0)))) (fF (fLst (fCons (fVar 6) fNil))) (fF (fLst fNil)))) (hName 5)))
    (sAsg (f2 gAdd (fVar 3) (fIf (fT (f2 gNeA (fVar 5) (fF (fLst fNil)))) (fF (fLst (fCons (fCB gTuple (fCons (fVar 5) fNil)) fNil))) (fF (fLst fNil)))) (hName 3))))))))))
    (sRet (fCallE fn__law_maximal (aCons (fVar 3) aNil)))))
def fn__law_web : Fn := fnOf 8 bd__law_web
def kb__law_web (fd : FuncData) : Prop := True
theorem has__law_web (bt : Bts K mg) {f : Addr} {fd : FuncData} (F : L2.Fun K "_law_web" "_law_web" s__law_web f fd) (gf : mg "_law_web" = some (.ref f)) (h__law_maximal : Has P w K mg base 1 "_law_maximal" ["lots"] 1 fn__law_maximal kb__law_maximal) (h__law_draw : Has P w K mg base 1 "_law_draw" ["well", "few"] 2 fn__law_draw kb__law_draw) :
    Has P w K mg base 2 "_law_web" ["well", "few"] 2 fn__law_web kb__law_web := by
  obtain ⟨f__law_maximal, fd__law_maximal, G__law_maximal, g__law_maximal, kp__law_maximal, b__law_maximal, kb__law_maximal⟩ := h__law_maximal.ex
  obtain ⟨f__law_draw, fd__law_draw, G__law_draw, g__law_draw, kp__law_draw, b__law_draw, kb__law_draw⟩ := h__law_draw.ex
  have kb : kb__law_web fd := trivial
  have sc := sc__law_web
  refine ⟨f, fd, FnG.byBody F sc rfl rfl (by decide) ?_, gf, F.kp, F.binds (ps := ["well", "few"]) fun _ _ _ _ _ _ us hl => match us, hl with | [_, _], _ => rfl, kb⟩
  intro cdv A out s H c hr
  have cl : Cl0 (A.deeper (envOfC "_law_web" (defScope s__law_web) s.heap.objs.size f cdv)) := c
  exact ⟨_, (ss_cons (s_par 2 3 rfl (show List.Nodup _ from sc.nd) (a_cons (e_call G__law_draw cl (hr.mono (by decide)) (by rfl) g__law_draw kp__law_draw b__law_draw (c_by (pv 0) (c_cons e_int c_nil))) (a_cons (e_f (F_lc (own := [("at", 6)]) rfl (show List.Nodup _ from sc.nd) (i_rng1 (by rfl) bt.range (a_cons (e_var 1) a_nil)) (by first | exact (show blkC ["well", "few", "way", "found", "turn", "lot", "at", "to"] (defScope s__law_web) _ _ = true from by decide +kernel) | rfl) (fun _ _ _ _ _ => (g_name 6 (show List.Nodup _ from sc.nd))) (gin_name (by decide)) (fun _ _ _ _ _ => ts_nil) (fun _ _ _ _ _ => (e_tup (a_cons (e_var 6) a_nil))))) a_nil)))
      (ss_cons (s_if (t_w (w_and (t_cmp s_lt (o_lt hr.units0) (e_var 2) e_int (nomark _)) (w_and1 (t_cmp s_gt op_gt (e_var 1) e_int (nomark _))))) (ss_one (s_set 3 (show List.Nodup _ from sc.nd) (e_op s_add o_add (e_op s_add o_add (e_var 3) (e_f (F_lc (own := [("at", 6)]) rfl (show List.Nodup _ from sc.nd) (i_rng1 (by rfl) bt.range (a_cons (e_op s_sub op_sub (e_var 1) e_int) a_nil)) (by first | exact (show blkC ["well", "few", "way", "found", "turn", "lot", "at", "to"] (defScope s__law_web) _ _ = true from by decide +kernel) | rfl) (fun _ _ _ _ _ => (g_name 6 (show List.Nodup _ from sc.nd))) (gin_name (by decide)) (fun _ _ _ _ _ => ts_nil) (fun _ _ _ _ _ => (e_tup (a_cons (e_var 6) (a_cons (e_op s_add o_add (e_var 6) e_int) a_nil))))))) (e_f (F_lst (a_cons (e_tup (a_cons e_int (a_cons (e_op s_sub op_sub (e_var 1) e_int) a_nil))) a_nil)))))) (ss_one (s_if (t_w (w_and (t_cmp s_eqA (o_eqA hr.units) (e_var 2) e_int (nomark _)) (w_and1 (t_cmp s_gt op_gt (e_var 1) e_int (nomark _))))) (ss_one (s_set 3 (show List.Nodup _ from sc.nd) (e_op s_add o_add (e_var 3) (e_f (F_lc (own := [("at", 6)]) rfl (show List.Nodup _ from sc.nd) (i_rng1 (by rfl) bt.range (a_cons (e_op s_sub op_sub (e_var 1) e_int) a_nil)) (by first | exact (show blkC ["well", "few", "way", "found", "turn", "lot", "at", "to"] (defScope s__law_web) _ _ = true from by decide +kernel) | rfl) (fun _ _ _ _ _ => (g_name 6 (show List.Nodup _ from sc.nd))) (gin_name (by decide)) (fun _ _ _ _ _ => ts_nil) (fun _ _ _ _ _ => (e_tup (a_cons (e_var 6) (a_cons (e_op s_add o_add (e_var 6) e_int) a_nil))))))))) (ss_one (s_if (t_w (w_and (t_cmp s_eqA (o_eqA hr.units) (e_var 2) e_int (nomark _)) (w_and1 (t_cmp s_gt op_gt (e_var 1) e_int (nomark _))))) (ss_one (s_set 3 (show List.Nodup _ from sc.nd) (e_op s_add o_add (e_var 3) (e_f (F_lc (own := [("at", 6)]) rfl (show List.Nodup _ from sc.nd) (i_rng1 (by rfl) bt.range (a_cons (e_var 1) a_nil)) (by first | exact (show blkC ["well", "few", "way", "found", "turn", "lot", "at", "to"] (defScope s__law_web) _ _ = true from by decide +kernel) | rfl) (fun _ _ _ _ _ => (g_name 6 (show List.Nodup _ from sc.nd))) (gin_name (by decide)) (fun _ _ _ _ _ => ts_nil) (fun _ _ _ _ _ => (e_ct s_tuple c_tuple (by rfl) bt.tuple boot_tuple (a_cons (e_f (F_lc (own := [("to", 7)]) rfl (show List.Nodup _ from sc.nd) (i_rng1 (by rfl) bt.range (a_cons (e_var 1) a_nil)) (by first | exact (show blkC ["well", "few", "way", "found", "turn", "lot", "at", "to"] (defScope s__law_web) _ _ = true from by decide +kernel) | rfl) (fun _ _ _ _ _ => (g_name 7 (show List.Nodup _ from sc.nd))) (gin_name (by decide)) (fun _ _ _ _ _ => (ts_one (t_cmp s_neA (o_neA hr.units) (e_var 7) (e_var 6) (nomark _)))) (fun _ _ _ _ _ => (e_var 7)))) a_nil)))))))) (ss_one (s_if (t_w (w_and (t_cmp s_eqA (o_eqA hr.units) (e_var 2) e_int (nomark _)) (w_and1 (t_cmp s_eqA (o_eqA hr.units) (e_var 1) e_int (nomark _))))) (ss_one (s_set 3 (show List.Nodup _ from sc.nd) (e_op s_add o_add (e_var 3) (e_f (F_lst (a_cons (e_tup (a_cons e_int (a_cons e_int a_nil))) (a_cons (e_tup (a_cons e_int (a_cons e_int a_nil))) (a_cons (e_tup (a_cons e_int (a_cons e_int a_nil))) (a_cons (e_tup (a_cons e_int (a_cons e_int a_nil))) a_nil))))))))) (ss_one (s_if (t_w (w_and (t_cmp s_eqA (o_eqA hr.units) (e_var 2) e_int (nomark _)) (w_and1 (t_cmp s_gt op_gt (e_var 1) e_int (nomark _))))) (ss_one (s_set 3 (show List.Nodup _ from sc.nd) (e_op s_add o_add (e_var 3) (e_f (F_lc (own := [("at", 6)]) rfl (show List.Nodup _ from sc.nd) (i_rng2 (by rfl) bt.range (a_cons e_int (a_cons (e_var 1) a_nil))) (by first | exact (show blkC ["well", "few", "way", "found", "turn", "lot", "at", "to"] (defScope s__law_web) _ _ = true from by decide +kernel) | rfl) (fun _ _ _ _ _ => (g_name 6 (show List.Nodup _ from sc.nd))) (gin_name (by decide)) (fun _ _ _ _ _ => ts_nil) (fun _ _ _ _ _ => (e_tup (a_cons e_int (a_cons (e_var 6) a_nil))))))))) (ss_one (s_for PassesOwn.never rfl (i_rng1 (by rfl) bt.range (a_cons (e_op s_add o_add e_int (e_call G__law_draw cl (hr.mono (by decide)) (by rfl) g__law_draw kp__law_draw b__law_draw (c_by (pv 0) (c_cons e_int c_nil)))) a_nil)) (g_name 4 (show List.Nodup _ from sc.nd)) (ss_cons (s_set 5 (show List.Nodup _ from sc.nd) (e_f (F_lst a_nil)))
      (ss_cons (s_for PassesOwn.never rfl (i_rng1 (by rfl) bt.range (a_cons (e_var 1) a_nil)) (g_name 6 (show List.Nodup _ from sc.nd)) (ss_one (s_set 5 (show List.Nodup _ from sc.nd) (e_op s_add o_add (e_var 5) (e_if (t_cmp s_eqA (o_eqA hr.units) (e_call G__law_draw cl (hr.mono (by decide)) (by rfl) g__law_draw kp__law_draw b__law_draw (c_by (pv 0) (c_cons e_int c_nil))) e_int (nomark _)) (e_f (F_lst (a_cons (e_var 6) a_nil))) (e_f (F_lst a_nil)))))))
      (ss_one (s_set 3 (show List.Nodup _ from sc.nd) (e_op s_add o_add (e_var 3) (e_if (t_cmp s_neA (o_neA hr.units) (e_var 5) (e_f (F_lst a_nil)) (nomark _)) (e_f (F_lst (a_cons (e_ct s_tuple c_tuple (by rfl) bt.tuple boot_tuple (a_cons (e_var 5) a_nil)) a_nil))) (e_f (F_lst a_nil)))))))))))))))))))
      (ss_one (s_ret (e_call G__law_maximal cl (hr.mono (by decide)) (by rfl) g__law_maximal kp__law_maximal b__law_maximal (c_cons (e_var 3) c_nil))))))⟩
/-! ### _law_is_lot -/
abbrev s__law_is_lot : Stmt := topS 39
theorem sc__law_is_lot : FnScope ["thing", "few", "each", "at"] ["thing", "few"] (defScope s__law_is_lot) := ⟨rfl, rfl, rfl, by decide +kernel, rfl, by decide +kernel, by decide +kernel⟩
def bd__law_is_lot : S1 := (sSeq (sIf (fOrT (fNotT (fT (fIsi "tuple" (fVar 0)))) (fNotT (fT (fCB gAll (fCons (fF (fLc (fItems (fVar 0)) (hName 2) fYes (fAndV (fCallE fn__law_is_whole (aCons (fVar 2) aNil)) (fChain gLe gLt (fC (.int 0)) (fVar 2) (fVar 1))) [2])) fNil))))) (sRet (fC (.bool false))) sNext)
    (sRet (fCB gAll (fCons (fF (fLc (fRng1 (fCons (f2 gSub (fCB gLen (fCons (fVar 0) fNil)) (fC (.int 1))) fNil)) (hName 3) fYes (f2 gLt (f2 gIx (fVar 0) (fVar 3)) (f2 gIx (fVar 0) (f2 gAdd (fVar 3) (fC (.int 1))))) [3])) fNil))))
def fn__law_is_lot : Fn := fnOf 4 bd__law_is_lot
def kb__law_is_lot (fd : FuncData) : Prop := True
theorem has__law_is_lot (bt : Bts K mg) {f : Addr} {fd : FuncData} (F : L2.Fun K "_law_is_lot" "_law_is_lot" s__law_is_lot f fd) (gf : mg "_law_is_lot" = some (.ref f)) (h__law_is_whole : Has P w K mg base 1 "_law_is_whole" ["thing"] 1 fn__law_is_whole kb__law_is_whole) :
    Has P w K mg base 2 "_law_is_lot" ["thing", "few"] 2 fn__law_is_lot kb__law_is_lot := by
  obtain ⟨f__law_is_whole, fd__law_is_whole, G__law_is_whole, g__law_is_whole, kp__law_is_whole, b__law_is_whole, kb__law_is_whole⟩ := h__law_is_whole.ex
  have kb : kb__law_is_lot fd := trivial
  have sc := sc__law_is_lot
  refine ⟨f, fd, FnG.byBody F sc rfl rfl (by decide) ?_, gf, F.kp, F.binds (ps := ["thing", "few"]) fun _ _ _ _ _ _ us hl => match us, hl with | [_, _], _ => rfl, kb⟩
  intro cdv A out s H c hr
  have cl : Cl0 (A.deeper (envOfC "_law_is_lot" (defScope s__law_is_lot) s.heap.objs.size f cdv)) := c
  exact ⟨_, (ss_cons (s_if (t_w (w_or (t_not (t_val (e_isi "tuple" (by rfl) bt.isinstance (by rfl) bt.tuple boot_tuple (e_var 0)))) (w_or1 (t_not (t_val (e_cb s_all (cr_all rfl) (by rfl) bt.all boot_all (a_cons (e_f (F_lc (own := [("each", 2)]) rfl (show List.Nodup _ from sc.nd) (i_seq (e_var 0)) (by first | exact (show blkC ["thing", "few", "each", "at"] (defScope s__law_is_lot) _ _ = true from by decide +kernel) | rfl) (fun _ _ _ _ _ => (g_name 2 (show List.Nodup _ from sc.nd))) (gin_name (by decide)) (fun _ _ _ _ _ => ts_nil) (fun _ _ _ _ _ => (e_and (e_call G__law_is_whole cl (hr.mono (by decide)) (by rfl) g__law_is_whole kp__law_is_whole b__law_is_whole (c_cons (e_var 2) c_nil)) (e_one (e_chain s_le op_le s_lt (o_lt hr.units0) e_int (e_var 2) (e_var 1))))))) a_nil))))))) (ss_one (s_ret e_bl)) ss_nil)
      (ss_one (s_ret (e_cb s_all (cr_all rfl) (by rfl) bt.all boot_all (a_cons (e_f (F_lc (own := [("at", 3)]) rfl (show List.Nodup _ from sc.nd) (i_rng1 (by rfl) bt.range (a_cons (e_op s_sub op_sub (e_cb s_len c_len (by rfl) bt.len boot_len (a_cons (e_var 0) a_nil)) e_int) a_nil)) (by first | exact (show blkC ["thing", "few", "each", "at"] (defScope s__law_is_lot) _ _ = true from by decide +kernel) | rfl) (fun _ _ _ _ _ => (g_name 3 (show List.Nodup _ from sc.nd))) (gin_name (by decide)) (fun _ _ _ _ _ => ts_nil) (fun _ _ _ _ _ => (e_cmp s_lt (o_lt hr.units0) (e_ix (e_var 0) (e_var 3) (fun _ _ => rfl)) (e_ix (e_var 0) (e_op s_add o_add (e_var 3) e_int) (fun _ _ => rfl)) (nomark _))))) a_nil)))))⟩
/-! ### _law_planted -/
abbrev s__law_planted : Stmt := topS 41
theorem sc__law_planted : FnScope ["well", "way", "more"] ["well"] (defScope s__law_planted) := ⟨rfl, rfl, rfl, by decide +kernel, rfl, by decide +kernel, by decide +kernel⟩
def bd__law_planted : S1 := (sSeq (sPar 1 2 (fCons (fCallE fn__law_draw (aBy 0 (aCons (fC (.int 6)) aNil))) (fCons (fCallE fn__law_draw (aBy 0 (aCons (fC (.int 2)) aNil))) fNil)))
    (sSeq (sIf (fT (f2 gEqA (fVar 1) (fC (.int 0)))) (sRet (fTup (fCons (f2 gAdd (f2 gMul (fTup (fCons (fC (.int 2)) fNil)) (f2 gAdd (fC (.int 5)) (fVar 2))) (fIf (fT (f2 gEqA (fCallE fn__law_draw (aBy 0 (aCons (fC (.int 2)) aNil))) (fC (.int 0)))) (fTup (fCons (fC (.int 2)) fNil)) (fTup fNil))) (fCons (fTup (fCons (fTupR (fRg1 (fC (.int 5)))) (fCons (fTup (fCons (fC (.int 4)) (fCons (fC (.int 5)) fNil))) fNil))) fNil)))) sNext)
    (sSeq (sIf (fT (f2 gEqA (fVar 1) (fC (.int 1)))) (sRet (fTup (fCons (fIf (fT (f2 gEqA (fVar 2) (fC (.int 0)))) (fTup (fCons (fC (.int 4)) (fCons (fC (.int 4)) (fCons (fC (.int 4)) fNil)))) (fTup (fCons (fC (.int 4)) (fCons (fC (.int 3)) (fCons (fC (.int 3)) (fCons (fC (.int 2)) fNil)))))) (fCons (fIf (fT (f2 gEqA (fVar 2) (fC (.int 0)))) (fTup (fCons (fTup (fCons (fC (.int 0)) (fCons (fC (.int 1)) fNil))) (fCons (fTup (fCons (fC (.int 1)) (fCons (fC (.int 2)) fNil))) fNil))) (fTup (fCons (fTup (fCons (fC (.int 0)) (fCons (fC (.int 1)) fNil))) (fCons (fTup (fCons (fC (.int 2)) (fCons (fC (.int 3)) fNil))) fNil)))) fNil)))) sNext)
    (sSeq (sIf (fT (f2 gEqA (fVar 1) (fC (.int 2)))) (sRet (fTup (fCons (fTup (fCons (fC (.int 2)) (fCons (f2 gAdd (fC (.int 2)) (fVar 2)) (fCons (fC (.int 3)) fNil)))) (fCons (fTup (fCons (fTup (fCons (fC (.int 0)) (fCons (fC (.int 1)) fNil))) (fCons (fTup (fCons (fC (.int 0)) (fCons (fC (.int 1)) (fCons (fC (.int 2)) fNil)))) fNil))) fNil)))) sNext)
    (sSeq (sIf (fT (f2 gEqA (fVar 1) (fC (.int 3)))) (sRet (fTup (fCons (fTup (fCons (fC (.int 2)) (fCons (fC (.int 2)) (fCons (fC (.int 2)) fNil)))) (fCons (fIf (fT (f2 gEqA (fVar 2) (fC (.int 0)))) (fTup (fCons (fTup (fCons (fC (.int 0)) (fCons (fC (.int 1)) fNil))) (fCons (fTup (fCons (fC (.int 2)) fNil)) fNil))) (fTup (fCons (fTup (fCons (fC (.int 0)) (fCons (fC (.int 1)) fNil))) fNil))) fNil)))) sNext)
    (sSeq (sIf (fT (f2 gEqA (fVar 1) (fC (.int 4)))) (sRet (fTup (fCons (fTup (fCons (fC (.int 2)) (fCons (fC (.int 2)) (fCons (fC (.int 2)) fNil)))) (fCons (fIf (fT (f2 gEqA (fVar 2) (fC (.int 0)))) (fTup (fCons (fTup (fCons (fC (.int 1)) (fCons (fC (.int 2)) fNil))) (fCons (fTup (fCons (fC (.int 0)) fNil)) fNil))) (fTup (fCons (fTup (fCons (fC (.int 0)) fNil)) (fCons (fTup (fCons (fC (.int 1)) (fCons (fC (.int 2)) fNil))) fNil)))) fNil)))) sNext)
    (sRet (fIf (fT (f2 gEqA (fCallE fn__law_draw (aBy 0 (aCons (fC (.int 2)) aNil))) (fC (.int 0)))) (fTup (fCons (fTup (fCons (f2 gAdd (fC (.int 1)) (fVar 2)) (fCons (fC (.int 2)) fNil))) (fCons (fTup (fCons (fTup (fCons (fC (.int 0)) (fCons (fC (.int 1)) fNil))) fNil)) fNil))) (fTup (fCons (fTup (fCons (f2 gAdd (fC (.int 4)) (fVar 2)) (fCons (fC (.int 2)) fNil))) (fCons (fTup (fCons (fTup (fCons (fC (.int 0)) (fCons (fC (.int 1)) fNil))) fNil)) fNil)))))))))))
def fn__law_planted : Fn := fnOf 3 bd__law_planted
def kb__law_planted (fd : FuncData) : Prop := True
theorem has__law_planted (bt : Bts K mg) {f : Addr} {fd : FuncData} (F : L2.Fun K "_law_planted" "_law_planted" s__law_planted f fd) (gf : mg "_law_planted" = some (.ref f)) (h__law_draw : Has P w K mg base 1 "_law_draw" ["well", "few"] 2 fn__law_draw kb__law_draw) :
    Has P w K mg base 2 "_law_planted" ["well"] 1 fn__law_planted kb__law_planted := by
  obtain ⟨f__law_draw, fd__law_draw, G__law_draw, g__law_draw, kp__law_draw, b__law_draw, kb__law_draw⟩ := h__law_draw.ex
  have kb : kb__law_planted fd := trivial
  have sc := sc__law_planted
  refine ⟨f, fd, FnG.byBody F sc rfl rfl (by decide) ?_, gf, F.kp, F.binds (ps := ["well"]) fun _ _ _ _ _ _ us hl => match us, hl with | [_], _ => rfl, kb⟩
  intro cdv A out s H c hr
  have cl : Cl0 (A.deeper (envOfC "_law_planted" (defScope s__law_planted) s.heap.objs.size f cdv)) := c
  exact ⟨_, (ss_cons (s_par 1 2 rfl (show List.Nodup _ from sc.nd) (a_cons (e_call G__law_draw cl (hr.mono (by decide)) (by rfl) g__law_draw kp__law_draw b__law_draw (c_by (pv 0) (c_cons e_int c_nil))) (a_cons (e_call G__law_draw cl (hr.mono (by decide)) (by rfl) g__law_draw kp__law_draw b__law_draw (c_by (pv 0) (c_cons e_int c_nil))) a_nil)))
      (ss_cons (s_if (t_cmp s_eqA (o_eqA hr.units) (e_var 1) e_int (nomark _)) (ss_one (s_ret (e_tup (a_cons (e_op s_add o_add (e_op s_mul o_mul (e_tup (a_cons e_int a_nil)) (e_op s_add o_add e_int (e_var 2))) (e_if (t_cmp s_eqA (o_eqA hr.units) (e_call G__law_draw cl (hr.mono (by decide)) (by rfl) g__law_draw kp__law_draw b__law_draw (c_by (pv 0) (c_cons e_int c_nil))) e_int (nomark _)) (e_tup (a_cons e_int a_nil)) (e_tup a_nil))) (a_cons (e_tup (a_cons (e_tupR1 rfl (by rfl) bt.tuple (by rfl) bt.range e_int) (a_cons (e_tup (a_cons e_int (a_cons e_int a_nil))) a_nil))) a_nil))))) ss_nil)
      (ss_cons (s_if (t_cmp s_eqA (o_eqA hr.units) (e_var 1) e_int (nomark _)) (ss_one (s_ret (e_tup (a_cons (e_if (t_cmp s_eqA (o_eqA hr.units) (e_var 2) e_int (nomark _)) (e_tup (a_cons e_int (a_cons e_int (a_cons e_int a_nil)))) (e_tup (a_cons e_int (a_cons e_int (a_cons e_int (a_cons e_int a_nil)))))) (a_cons (e_if (t_cmp s_eqA (o_eqA hr.units) (e_var 2) e_int (nomark _)) (e_tup (a_cons (e_tup (a_cons e_int (a_cons e_int a_nil))) (a_cons (e_tup (a_cons e_int (a_cons e_int a_nil))) a_nil))) (e_tup (a_cons (e_tup (a_cons e_int (a_cons e_int a_nil))) (a_cons (e_tup (a_cons e_int (a_cons e_int a_nil))) a_nil)))) a_nil))))) ss_nil)
      (ss_cons (s_if (t_cmp s_eqA (o_eqA hr.units) (e_var 1) e_int (nomark _)) (ss_one (s_ret (e_tup (a_cons (e_tup (a_cons e_int (a_cons (e_op s_add o_add e_int (e_var 2)) (a_cons e_int a_nil)))) (a_cons (e_tup (a_cons (e_tup (a_cons e_int (a_cons e_int a_nil))) (a_cons (e_tup (a_cons e_int (a_cons e_int (a_cons e_int a_nil)))) a_nil))) a_nil))))) ss_nil)
      (ss_cons (s_if (t_cmp s_eqA (o_eqA hr.units) (e_var 1) e_int (nomark _)) (ss_one (s_ret (e_tup (a_cons (e_tup (a_cons e_int (a_cons e_int (a_cons e_int a_nil)))) (a_cons (e_if (t_cmp s_eqA (o_eqA hr.units) (e_var 2) e_int (nomark _)) (e_tup (a_cons (e_tup (a_cons e_int (a_cons e_int a_nil))) (a_cons (e_tup (a_cons e_int a_nil)) a_nil))) (e_tup (a_cons (e_tup (a_cons e_int (a_cons e_int a_nil))) a_nil))) a_nil))))) ss_nil)
      (ss_cons (s_if (t_cmp s_eqA (o_eqA hr.units) (e_var 1) e_int (nomark _)) (ss_one (s_ret (e_tup (a_cons (e_tup (a_cons e_int (a_cons e_int (a_cons e_int a_nil)))) (a_cons (e_if (t_cmp s_eqA (o_eqA hr.units) (e_var 2) e_int (nomark _)) (e_tup (a_cons (e_tup (a_cons e_int (a_cons e_int a_nil))) (a_cons (e_tup (a_cons e_int a_nil)) a_nil))) (e_tup (a_cons (e_tup (a_cons e_int a_nil)) (a_cons (e_tup (a_cons e_int (a_cons e_int a_nil))) a_nil)))) a_nil))))) ss_nil)
      (ss_one (s_ret (e_if (t_cmp s_eqA (o_eqA hr.units) (e_call G__law_draw cl (hr.mono (by decide)) (by rfl) g__law_draw kp__law_draw b__law_draw (c_by (pv 0) (c_cons e_int c_nil))) e_int (nomark _)) (e_tup (a_cons (e_tup (a_cons (e_op s_add o_add e_int (e_var 2)) (a_cons e_int a_nil))) (a_cons (e_tup (a_cons (e_tup (a_cons e_int (a_cons e_int a_nil))) a_nil)) a_nil))) (e_tup (a_cons (e_tup (a_cons (e_op s_add o_add e_int (e_var 2)) (a_cons e_int a_nil))) (a_cons (e_tup (a_cons (e_tup (a_cons e_int (a_cons e_int a_nil))) a_nil)) a_nil))))))))))))⟩
/-! ### is_lot_of -/
abbrev s_is_lot_of : Stmt := topS 11
theorem sc_is_lot_of : FnScope ["value", "many", "place"] ["value", "many"] (defScope s_is_lot_of) := ⟨rfl, rfl, rfl, by decide +kernel, rfl, by decide +kernel, by decide +kernel⟩
def bd_is_lot_of : S1 := (sRet (fAndV (fIsi "tuple" (fVar 0)) (fAndV (fCB gAll (fCons (fF (fLc (fItems (fVar 0)) (hName 2) fYes (fCallE fn_is_index (aCons (fVar 2) (aCons (fVar 1) aNil))) [2])) fNil)) (fCallE fn_is_ascending (aCons (fVar 0) aNil)))))
def fn_is_lot_of : Fn := fnOf 3 bd_is_lot_of
def kb_is_lot_of (fd : FuncData) : Prop := True
theorem has_is_lot_of (bt : Bts K mg) {f : Addr} {fd : FuncData} (F : L2.Fun K "is_lot_of" "is_lot_of" s_is_lot_of f fd) (gf : mg "is_lot_of" = some (.ref f)) (h_is_ascending : Has P w K mg base 1 "is_ascending" ["value"] 1 fn_is_ascending kb_is_ascending) (h_is_index : Has P w K mg base 2 "is_index" ["value", "many"] 2 fn_is_index kb_is_index) :
    Has P w K mg base 3 "is_lot_of" ["value", "many"] 2 fn_is_lot_of kb_is_lot_of := by
  obtain ⟨f_is_ascending, fd_is_ascending, G_is_ascending, g_is_ascending, kp_is_ascending, b_is_ascending, kb_is_ascending⟩ := h_is_ascending.ex
  obtain ⟨f_is_index, fd_is_index, G_is_index, g_is_index, kp_is_index, b_is_index, kb_is_index⟩ := h_is_index.ex
  have kb : kb_is_lot_of fd := trivial
  have sc := sc_is_lot_of
  refine ⟨f, fd, FnG.byBody F sc rfl rfl (by decide) ?_, gf, F.kp, F.binds (ps := ["value", "many"]) fun _ _ _ _ _ _ us hl => match us, hl with | [_, _], _ => rfl, kb⟩
  intro cdv A out s H c hr
  have cl : Cl0 (A.deeper (envOfC "is_lot_of" (defScope s_is_lot_of) s.heap.objs.size f cdv)) := c
  exact ⟨_, (ss_one (s_ret (e_and (e_isi "tuple" (by rfl) bt.isinstance (by rfl) bt.tuple boot_tuple (e_var 0)) (e_and (e_cb s_all (cr_all rfl) (by rfl) bt.all boot_all (a_cons (e_f (F_lc (own := [("place", 2)]) rfl (show List.Nodup _ from sc.nd) (i_seq (e_var 0)) (by first | exact (show blkC ["value", "many", "place"] (defScope s_is_lot_of) _ _ = true from by decide +kernel) | rfl) (fun _ _ _ _ _ => (g_name 2 (show List.Nodup _ from sc.nd))) (gin_name (by decide)) (fun _ _ _ _ _ => ts_nil) (fun _ _ _ _ _ => (e_call G_is_index cl (hr.mono (by decide)) (by rfl) g_is_index kp_is_index b_is_index (c_cons (e_var 2) (c_cons (e_var 1) c_nil)))))) a_nil)) (e_one (e_call G_is_ascending cl (hr.mono (by decide)) (by rfl) g_is_ascending kp_is_ascending b_is_ascending (c_cons (e_var 0) c_nil)))))))⟩
/-! ### _law_odd -/
abbrev s__law_odd : Stmt := topS 32
theorem sc__law_odd : FnScope ["well", "some", "more"] ["well"] (defScope s__law_odd) := ⟨rfl, rfl, rfl, by decide +kernel, rfl, by decide +kernel, by decide +kernel⟩
def bd__law_odd : S1 := (sSeq (sAsg (fTup (fCons (fC .none) (fCons (fC (.bool true)) (fCons (fC (.bool false)) (fCons (fC (.int 0)) (fCons (fC (.int 1)) (fCons (fC (.int 2)) (fCons (f1 gNeg (fC (.int 1))) (fCons (fC (.int 7)) (fCons (fC (.int 5)) (fCons (fC (.str "")) (fCons (fC (.str "a")) (fCons (fC (.str "cycle")) (fCons (fTup fNil) (fCons (fTup (fCons (fC (.int 0)) fNil)) (fCons (fTup (fCons (fC (.int 1)) fNil)) (fCons (fTup (fCons (fC (.int 0)) (fCons (fC (.int 1)) fNil))) (fCons (fTup (fCons (fC (.int 1)) (fCons (fC (.int 0)) fNil))) (fCons (fTup (fCons (fC (.int 0)) (fCons (fC (.int 0)) fNil))) (fCons (fTup (fCons (fC (.int 1)) (fCons (fC (.int 2)) fNil))) fNil)))))))))))))))))))) (hName 1))
    (sSeq (sAsg (fTup (fCons (fTup (fCons (fC (.int 1)) (fCons (fC (.int 1)) fNil))) (fCons (fTup (fCons (fC (.int 3)) (fCons (f1 gNeg (fC (.int 2))) fNil))) (fCons (fTup (fCons (fC (.bool true)) (fCons (fC (.int 1)) fNil))) (fCons (fTup (fCons (fC (.int 0)) (fCons (fC (.bool true)) fNil))) (fCons (fTup (fCons (fTup (fCons (fC (.int 0)) (fCons (fC (.int 1)) fNil))) fNil)) (fCons (fTup (fCons (fTup (fCons (fC (.int 1)) (fCons (fC (.int 1)) fNil))) fNil)) (fCons (fTup (fCons (fTup (fCons (fC (.int 0)) (fCons (fC (.int 1)) fNil))) (fCons (fTup (fCons (fC (.int 1)) (fCons (fC (.int 2)) fNil))) fNil))) (fCons (fTup (fCons (fTup (fCons (fTup (fCons (fC (.int 0)) (fCons (fC (.int 1)) fNil))) fNil)) fNil)) (fCons (fTup (fCons (fC (.int 2)) (fCons (fC (.int 4)) fNil))) fNil)))))))))) (hName 2))
    (sSeq (sAsg (f2 gAdd (fVar 2) (fTup (fCons (fTup (fCons (fTup (fCons (fC (.int 0)) (fCons (fC (.int 1)) fNil))) (fCons (fTup (fCons (fC (.int 0)) (fCons (fC (.int 1)) fNil))) fNil))) (fCons (fF (fLst fNil)) (fCons (fF (fLst (fCons (fC (.int 1)) fNil))) (fCons (fF (fLst (fCons (fTup (fCons (fC (.int 0)) (fCons (fC (.int 1)) fNil))) fNil))) (fCons fDic (fCons (fTup (fCons (fC .none) fNil)) (fCons (fTup (fCons (fTup fNil) fNil)) (fCons (f2 gPow (fC (.int 10)) (fC (.int 20))) (fCons (fTup (fCons (fC (.int 0)) (fCons (fC (.int 1)) (fCons (fC (.int 2)) fNil)))) (fCons (fTup (fCons (fTup (fCons (fC (.int 2)) (fCons (fC (.int 2)) fNil))) (fCons (fTup (fCons (fTup (fCons (fC (.int 0)) (fCons (fC (.int 1)) fNil))) fNil)) fNil))) fNil)))))))))))) (hName 2))
    (sRet (fCallE fn__law_one (aBy 0 (aCons (f2 gAdd (fVar 1) (fVar 2)) aNil)))))))
def fn__law_odd : Fn := fnOf 3 bd__law_odd
def kb__law_odd (fd : FuncData) : Prop := True
theorem has__law_odd (bt : Bts K mg) {f : Addr} {fd : FuncData} (F : L2.Fun K "_law_odd" "_law_odd" s__law_odd f fd) (gf : mg "_law_odd" = some (.ref f)) (h__law_one : Has P w K mg base 2 "_law_one" ["well", "some"] 2 fn__law_one kb__law_one) :
    Has P w K mg base 3 "_law_odd" ["well"] 1 fn__law_odd kb__law_odd := by
  obtain ⟨f__law_one, fd__law_one, G__law_one, g__law_one, kp__law_one, b__law_one, kb__law_one⟩ := h__law_one.ex
  have kb : kb__law_odd fd := trivial
  have sc := sc__law_odd
  refine ⟨f, fd, FnG.byBody F sc rfl rfl (by decide) ?_, gf, F.kp, F.binds (ps := ["well"]) fun _ _ _ _ _ _ us hl => match us, hl with | [_], _ => rfl, kb⟩
  intro cdv A out s H c hr
  have cl : Cl0 (A.deeper (envOfC "_law_odd" (defScope s__law_odd) s.heap.objs.size f cdv)) := c
  exact ⟨_, (ss_cons (s_set 1 (show List.Nodup _ from sc.nd) (e_tup (a_cons e_non (a_cons e_bl (a_cons e_bl (a_cons e_int (a_cons e_int (a_cons e_int (a_cons (e_neg e_int) (a_cons e_int (a_cons e_int (a_cons e_str (a_cons e_str (a_cons e_str (a_cons (e_tup a_nil) (a_cons (e_tup (a_cons e_int a_nil)) (a_cons (e_tup (a_cons e_int a_nil)) (a_cons (e_tup (a_cons e_int (a_cons e_int a_nil))) (a_cons (e_tup (a_cons e_int (a_cons e_int a_nil))) (a_cons (e_tup (a_cons e_int (a_cons e_int a_nil))) (a_cons (e_tup (a_cons e_int (a_cons e_int a_nil))) a_nil)))))))))))))))))))))
      (ss_cons (s_set 2 (show List.Nodup _ from sc.nd) (e_tup (a_cons (e_tup (a_cons e_int (a_cons e_int a_nil))) (a_cons (e_tup (a_cons e_int (a_cons (e_neg e_int) a_nil))) (a_cons (e_tup (a_cons e_bl (a_cons e_int a_nil))) (a_cons (e_tup (a_cons e_int (a_cons e_bl a_nil))) (a_cons (e_tup (a_cons (e_tup (a_cons e_int (a_cons e_int a_nil))) a_nil)) (a_cons (e_tup (a_cons (e_tup (a_cons e_int (a_cons e_int a_nil))) a_nil)) (a_cons (e_tup (a_cons (e_tup (a_cons e_int (a_cons e_int a_nil))) (a_cons (e_tup (a_cons e_int (a_cons e_int a_nil))) a_nil))) (a_cons (e_tup (a_cons (e_tup (a_cons (e_tup (a_cons e_int (a_cons e_int a_nil))) a_nil)) a_nil)) (a_cons (e_tup (a_cons e_int (a_cons e_int a_nil))) a_nil)))))))))))
      (ss_cons (s_set 2 (show List.Nodup _ from sc.nd) (e_op s_add o_add (e_var 2) (e_tup (a_cons (e_tup (a_cons (e_tup (a_cons e_int (a_cons e_int a_nil))) (a_cons (e_tup (a_cons e_int (a_cons e_int a_nil))) a_nil))) (a_cons (e_f (F_lst a_nil)) (a_cons (e_f (F_lst (a_cons e_int a_nil))) (a_cons (e_f (F_lst (a_cons (e_tup (a_cons e_int (a_cons e_int a_nil))) a_nil))) (a_cons e_dic (a_cons (e_tup (a_cons e_non a_nil)) (a_cons (e_tup (a_cons (e_tup a_nil) a_nil)) (a_cons (e_op s_pow op_pow e_int e_int) (a_cons (e_tup (a_cons e_int (a_cons e_int (a_cons e_int a_nil)))) (a_cons (e_tup (a_cons (e_tup (a_cons e_int (a_cons e_int a_nil))) (a_cons (e_tup (a_cons (e_tup (a_cons e_int (a_cons e_int a_nil))) a_nil)) a_nil))) a_nil)))))))))))))
      (ss_one (s_ret (e_call G__law_one cl (hr.mono (by decide)) (by rfl) g__law_one kp__law_one b__law_one (c_by (pv 0) (c_cons (e_op s_add o_add (e_var 1) (e_var 2)) c_nil))))))))⟩
/-! ### _law_scenario -/
abbrev s__law_scenario : Stmt := topS 38
theorem sc__law_scenario : FnScope ["well", "most", "few", "outcomes"] ["well", "most"] (defScope s__law_scenario) := ⟨rfl, rfl, rfl, by decide +kernel, rfl, by decide +kernel, by decide +kernel⟩
def bd__law_scenario : S1 := (sSeq (sAsg (fCallE fn__law_one (aBy 0 (aCons (fTup (fCons (fC (.int 1)) (fCons (fC (.int 2)) (fCons (fC (.int 3)) (fCons (fC (.int 3)) (fCons (fC (.int 4)) (fCons (fC (.int 4)) (fCons (fVar 1) fNil)))))))) aNil))) (hName 2))
    (sSeq (sAsg (fCB gMin2 (fCons (fVar 2) (fCons (fVar 1) fNil))) (hName 2))
    (sSeq (sOwn (f2F gRepL (fF (fLst (fCons (fC (.int 2)) fNil))) (fVar 2)) 3)
    (sSeq (sIf (fAndT (fT (f2 gLt (fVar 2) (fC (.int 5)))) (fT (f2 gEqA (fCallE fn__law_draw (aBy 0 (aCons (fC (.int 5)) aNil))) (fC (.int 0))))) (sAsg (fIf (fT (f2 gGt (fVar 2) (fC (.int 2)))) (fC (.int 3)) (f2 gAdd (fC (.int 3)) (fCallE fn__law_draw (aBy 0 (aCons (fC (.int 2)) aNil))))) (hSub 3 (fCallE fn__law_draw (aBy 0 (aCons (fVar 2) aNil))))) sNext)
    (sRet (fTup (fCons (fOU (fun y => gTuple [y]) 3) (fCons (fCallE fn__law_web (aBy 0 (aCons (fVar 2) aNil))) fNil))))))))
def fn__law_scenario : Fn := fnOf 4 bd__law_scenario
def kb__law_scenario (fd : FuncData) : Prop := True
theorem has__law_scenario (bt : Bts K mg) {f : Addr} {fd : FuncData} (F : L2.Fun K "_law_scenario" "_law_scenario" s__law_scenario f fd) (gf : mg "_law_scenario" = some (.ref f)) (h__law_web : Has P w K mg base 2 "_law_web" ["well", "few"] 2 fn__law_web kb__law_web) (h__law_draw : Has P w K mg base 1 "_law_draw" ["well", "few"] 2 fn__law_draw kb__law_draw) (h__law_one : Has P w K mg base 2 "_law_one" ["well", "some"] 2 fn__law_one kb__law_one) :
    Has P w K mg base 3 "_law_scenario" ["well", "most"] 2 fn__law_scenario kb__law_scenario := by
  obtain ⟨f__law_web, fd__law_web, G__law_web, g__law_web, kp__law_web, b__law_web, kb__law_web⟩ := h__law_web.ex
  obtain ⟨f__law_draw, fd__law_draw, G__law_draw, g__law_draw, kp__law_draw, b__law_draw, kb__law_draw⟩ := h__law_draw.ex
  obtain ⟨f__law_one, fd__law_one, G__law_one, g__law_one, kp__law_one, b__law_one, kb__law_one⟩ := h__law_one.ex
  have kb : kb__law_scenario fd := trivial
  have sc := sc__law_scenario
  refine ⟨f, fd, FnG.byBody F sc rfl rfl (by decide) ?_, gf, F.kp, F.binds (ps := ["well", "most"]) fun _ _ _ _ _ _ us hl => match us, hl with | [_, _], _ => rfl, kb⟩
  intro cdv A out s H c hr
  have cl : Cl0 (A.deeper (envOfC "_law_scenario" (defScope s__law_scenario) s.heap.objs.size f cdv)) := c
  exact ⟨_, (ss_cons (s_set 2 (show List.Nodup _ from sc.nd) (e_call G__law_one cl (hr.mono (by decide)) (by rfl) g__law_one kp__law_one b__law_one (c_by (pv 0) (c_cons (e_tup (a_cons e_int (a_cons e_int (a_cons e_int (a_cons e_int (a_cons e_int (a_cons e_int (a_cons (e_var 1) a_nil)))))))) c_nil))))
      (ss_cons (s_set 2 (show List.Nodup _ from sc.nd) (e_cb s_min2 (call_min2 rfl) (by rfl) bt.min boot_min (a_cons (e_var 2) (a_cons (e_var 1) a_nil))))
      (ss_cons (s_own 3 (show List.Nodup _ from sc.nd) (F_op opF_rep op_rep (e_f (F_lst (a_cons e_int a_nil))) (e_var 2)))
      (ss_cons (s_if (t_w (w_and (t_cmp s_lt (o_lt hr.units0) (e_var 2) e_int (nomark _)) (w_and1 (t_cmp s_eqA (o_eqA hr.units) (e_call G__law_draw cl (hr.mono (by decide)) (by rfl) g__law_draw kp__law_draw b__law_draw (c_by (pv 0) (c_cons e_int c_nil))) e_int (nomark _))))) (ss_one (s_asg (e_if (t_cmp s_gt op_gt (e_var 2) e_int (nomark _)) e_int (e_op s_add o_add e_int (e_call G__law_draw cl (hr.mono (by decide)) (by rfl) g__law_draw kp__law_draw b__law_draw (c_by (pv 0) (c_cons e_int c_nil))))) (g_sub (i := 3) (e_call G__law_draw cl (hr.mono (by decide)) (by rfl) g__law_draw kp__law_draw b__law_draw (c_by (pv 0) (c_cons (e_var 2) c_nil))) (fun hb => pg_sub (pv 3) hb set_list)))) ss_nil)
      (ss_one (s_ret (e_tup (a_cons (e_ctO s_tuple c_tuple (by rfl) bt.tuple boot_tuple (pv 3)) (a_cons (e_call G__law_web cl (hr.mono (by decide)) (by rfl) g__law_web kp__law_web b__law_web (c_by (pv 0) (c_cons (e_var 2) c_nil))) a_nil)))))))))⟩
/-! ### _law_is_scenario -/
abbrev s__law_is_scenario : Stmt := topS 40
theorem sc__law_is_scenario : FnScope ["thing", "outcomes", "contexts", "whole", "each", "at"] ["thing"] (defScope s__law_is_scenario) := ⟨rfl, rfl, rfl, by decide +kernel, rfl, by decide +kernel, by decide +kernel⟩
def bd__law_is_scenario : S1 := (sSeq (sIf (fOrT (fNotT (fT (fCallE fn__law_is_tuple (aCons (fVar 0) (aCons (fC (.int 2)) aNil))))) (fOrT (fNotT (fT (fIsi "tuple" (f2 gIx (fVar 0) (fC (.int 0)))))) (fNotT (fT (fIsi "tuple" (f2 gIx (fVar 0) (fC (.int 1)))))))) (sRet (fC (.bool false))) sNext)
    (sSeq (sAsg (fVar 0) (hTup 2 (hCons (hName 1) (hCons (hName 2) hNil))))
    (sSeq (sIf (fOrT (fNotT (fT (fChain gLe gLe (fC (.int 1)) (fCB gLen (fCons (fVar 1) fNil)) (fC (.int 6))))) (fNotT (fT (fCB gAll (fCons (fF (fLc (fItems (fVar 1)) (hName 4) fYes (fAndV (fCallE fn__law_is_whole (aCons (fVar 4) aNil)) (fChain gLe gLe (fC (.int 2)) (fVar 4) (fC (.int 4)))) [4])) fNil))))) (sRet (fC (.bool false))) sNext)
    (sSeq (sAsg (fC (.int 1)) (hName 3))
    (sSeq (sFor (fItems (fVar 1)) (hName 4) (sAsg (f2 gMul (fVar 3) (fVar 4)) (hName 3)))
    (sSeq (sIf (fOrT (fT (f2 gGt (fVar 3) (fC (.int 64)))) (fNotT (fT (fCB gAll (fCons (fF (fLc (fItems (fVar 2)) (hName 4) fYes (fAndV (fCallE fn__law_is_lot (aCons (fVar 4) (aCons (fCB gLen (fCons (fVar 1) fNil)) aNil))) (f2 gNeA (fVar 4) (fTup fNil))) [4])) fNil))))) (sRet (fC (.bool false))) sNext)
    (sSeq (sIf (fNotT (fT (fCB gAll (fCons (fF (fLc (fRng1 (fCons (f2 gSub (fCB gLen (fCons (fVar 2) fNil)) (fC (.int 1))) fNil)) (hName 5) fYes (f2 gLt (f2 gIx (fVar 2) (fVar 5)) (f2 gIx (fVar 2) (f2 gAdd (fVar 5) (fC (.int 1))))) [5])) fNil)))) (sRet (fC (.bool false))) sNext)
    (sSeq (sIf (fT (f2 gNeA (fF (fLc (fRng1 (fCons (fCB gLen (fCons (fVar 1) fNil)) fNil)) (hName 5) (fT (f2 gEqA (fF (fLc (fItems (fVar 2)) (hName 4) (fT (f2 gIn (fVar 5) (fVar 4))) (fVar 4) [4])) (fF (fLst fNil)))) (fVar 5) [5])) (fF (fLst fNil)))) (sRet (fC (.bool false))) sNext)
    (sRet (f2 gEqA (fCallE fn__law_maximal (aCons (fVar 2) aNil)) (fVar 2)))))))))))
def fn__law_is_scenario : Fn := fnOf 6 bd__law_is_scenario
def kb__law_is_scenario (fd : FuncData) : Prop := True
theorem has__law_is_scenario (bt : Bts K mg) {f : Addr} {fd : FuncData} (F : L2.Fun K "_law_is_scenario" "_law_is_scenario" s__law_is_scenario f fd) (gf : mg "_law_is_scenario" = some (.ref f)) (h__law_maximal : Has P w K mg base 1 "_law_maximal" ["lots"] 1 fn__law_maximal kb__law_maximal) (h__law_is_lot : Has P w K mg base 2 "_law_is_lot" ["thing", "few"] 2 fn__law_is_lot kb__law_is_lot) (h__law_is_whole : Has P w K mg base 1 "_law_is_whole" ["thing"] 1 fn__law_is_whole kb__law_is_whole) (h__law_is_tuple : Has P w K mg base 1 "_law_is_tuple" ["thing", "few"] 2 fn__law_is_tuple kb__law_is_tuple) :
    Has P w K mg base 3 "_law_is_scenario" ["thing"] 1 fn__law_is_scenario kb__law_is_scenario := by
  obtain ⟨f__law_maximal, fd__law_maximal, G__law_maximal, g__law_maximal, kp__law_maximal, b__law_maximal, kb__law_maximal⟩ := h__law_maximal.ex
  obtain ⟨f__law_is_lot, fd__law_is_lot, G__law_is_lot, g__law_is_lot, kp__law_is_lot, b__law_is_lot, kb__law_is_lot⟩ := h__law_is_lot.ex
  obtain ⟨f__law_is_whole, fd__law_is_whole, G__law_is_whole, g__law_is_whole, kp__law_is_whole, b__law_is_whole, kb__law_is_whole⟩ := h__law_is_whole.ex
  obtain ⟨f__law_is_tuple, fd__law_is_tuple, G__law_is_tuple, g__law_is_tuple, kp__law_is_tuple, b__law_is_tuple, kb__law_is_tuple⟩ := h__law_is_tuple.ex
  have kb : kb__law_is_scenario fd := trivial
  have sc := sc__law_is_scenario
  refine ⟨f, fd, FnG.byBody F sc rfl rfl (by decide) ?_, gf, F.kp, F.binds (ps := ["thing"]) fun _ _ _ _ _ _ us hl => match us, hl with | [_], _ => rfl, kb⟩
  intro cdv A out s H c hr
  have cl : Cl0 (A.deeper (envOfC "_law_is_scenario" (defScope s__law_is_scenario) s.heap.objs.size f cdv)) := c
  exact ⟨_, (ss_cons (s_if (t_w (w_or (t_not (t_val (e_call G__law_is_tuple cl (hr.mono (by decide)) (by rfl) g__law_is_tuple kp__law_is_tuple b__law_is_tuple (c_cons (e_var 0) (c_cons e_int c_nil))))) (w_or (t_not (t_val (e_isi "tuple" (by rfl) bt.isinstance (by rfl) bt.tuple boot_tuple (e_ix (e_var 0) e_int (fun _ _ => rfl))))) (w_or1 (t_not (t_val (e_isi "tuple" (by rfl) bt.isinstance (by rfl) bt.tuple boot_tuple (e_ix (e_var 0) e_int (fun _ _ => rfl))))))))) (ss_one (s_ret e_bl)) ss_nil)
      (ss_cons (s_asg (e_var 0) (g_tup rfl (gs_cons (g_name 1 (show List.Nodup _ from sc.nd)) (gs_cons (g_name 2 (show List.Nodup _ from sc.nd)) gs_nil))))
      (ss_cons (s_if (t_w (w_or (t_not (t_chain s_le op_le s_le op_le e_int (e_cb s_len c_len (by rfl) bt.len boot_len (a_cons (e_var 1) a_nil)) e_int)) (w_or1 (t_not (t_val (e_cb s_all (cr_all rfl) (by rfl) bt.all boot_all (a_cons (e_f (F_lc (own := [("each", 4)]) rfl (show List.Nodup _ from sc.nd) (i_seq (e_var 1)) (by first | exact (show blkC ["thing", "outcomes", "contexts", "whole", "each", "at"] (defScope s__law_is_scenario) _ _ = true from by decide +kernel) | rfl) (fun _ _ _ _ _ => (g_name 4 (show List.Nodup _ from sc.nd))) (gin_name (by decide)) (fun _ _ _ _ _ => ts_nil) (fun _ _ _ _ _ => (e_and (e_call G__law_is_whole cl (hr.mono (by decide)) (by rfl) g__law_is_whole kp__law_is_whole b__law_is_whole (c_cons (e_var 4) c_nil)) (e_one (e_chain s_le op_le s_le op_le e_int (e_var 4) e_int)))))) a_nil))))))) (ss_one (s_ret e_bl)) ss_nil)
      (ss_cons (s_set 3 (show List.Nodup _ from sc.nd) e_int)
      (ss_cons (s_for PassesOwn.never rfl (i_seq (e_var 1)) (g_name 4 (show List.Nodup _ from sc.nd)) (ss_one (s_set 3 (show List.Nodup _ from sc.nd) (e_op s_mul o_mul (e_var 3) (e_var 4)))))
      (ss_cons (s_if (t_w (w_or (t_cmp s_gt op_gt (e_var 3) e_int (nomark _)) (w_or1 (t_not (t_val (e_cb s_all (cr_all rfl) (by rfl) bt.all boot_all (a_cons (e_f (F_lc (own := [("each", 4)]) rfl (show List.Nodup _ from sc.nd) (i_seq (e_var 2)) (by first | exact (show blkC ["thing", "outcomes", "contexts", "whole", "each", "at"] (defScope s__law_is_scenario) _ _ = true from by decide +kernel) | rfl) (fun _ _ _ _ _ => (g_name 4 (show List.Nodup _ from sc.nd))) (gin_name (by decide)) (fun _ _ _ _ _ => ts_nil) (fun _ _ _ _ _ => (e_and (e_call G__law_is_lot cl (hr.mono (by decide)) (by rfl) g__law_is_lot kp__law_is_lot b__law_is_lot (c_cons (e_var 4) (c_cons (e_cb s_len c_len (by rfl) bt.len boot_len (a_cons (e_var 1) a_nil)) c_nil))) (e_one (e_cmp s_neA (o_neA hr.units) (e_var 4) (e_tup a_nil) (nomark _))))))) a_nil))))))) (ss_one (s_ret e_bl)) ss_nil)
      (ss_cons (s_if (t_not (t_val (e_cb s_all (cr_all rfl) (by rfl) bt.all boot_all (a_cons (e_f (F_lc (own := [("at", 5)]) rfl (show List.Nodup _ from sc.nd) (i_rng1 (by rfl) bt.range (a_cons (e_op s_sub op_sub (e_cb s_len c_len (by rfl) bt.len boot_len (a_cons (e_var 2) a_nil)) e_int) a_nil)) (by first | exact (show blkC ["thing", "outcomes", "contexts", "whole", "each", "at"] (defScope s__law_is_scenario) _ _ = true from by decide +kernel) | rfl) (fun _ _ _ _ _ => (g_name 5 (show List.Nodup _ from sc.nd))) (gin_name (by decide)) (fun _ _ _ _ _ => ts_nil) (fun _ _ _ _ _ => (e_cmp s_lt (o_lt hr.units0) (e_ix (e_var 2) (e_var 5) (fun _ _ => rfl)) (e_ix (e_var 2) (e_op s_add o_add (e_var 5) e_int) (fun _ _ => rfl)) (nomark _))))) a_nil)))) (ss_one (s_ret e_bl)) ss_nil)
      (ss_cons (s_if (t_cmp s_neA (o_neA hr.units) (e_f (F_lc (own := [("at", 5)]) rfl (show List.Nodup _ from sc.nd) (i_rng1 (by rfl) bt.range (a_cons (e_cb s_len c_len (by rfl) bt.len boot_len (a_cons (e_var 1) a_nil)) a_nil)) (by first | exact (show blkC ["thing", "outcomes", "contexts", "whole", "each", "at"] (defScope s__law_is_scenario) _ _ = true from by decide +kernel) | rfl) (fun _ _ _ _ _ => (g_name 5 (show List.Nodup _ from sc.nd))) (gin_name (by decide)) (fun _ _ _ _ _ => (ts_one (t_cmp s_eqA (o_eqA hr.units) (e_f (F_lc (own := [("each", 4)]) rfl (show List.Nodup _ from sc.nd) (i_seq (e_var 2)) (by first | exact (show blkC ["thing", "outcomes", "contexts", "whole", "each", "at"] (defScope s__law_is_scenario) _ _ = true from by decide +kernel) | rfl) (fun _ _ _ _ _ => (g_name 4 (show List.Nodup _ from sc.nd))) (gin_name (by decide)) (fun _ _ _ _ _ => (ts_one (t_cmp s_in (o_in (room65 hr)) (e_var 5) (e_var 4) rfl))) (fun _ _ _ _ _ => (e_var 4)))) (e_f (F_lst a_nil)) (nomark _)))) (fun _ _ _ _ _ => (e_var 5)))) (e_f (F_lst a_nil)) (nomark _)) (ss_one (s_ret e_bl)) ss_nil)
      (ss_one (s_ret (e_cmp s_eqA (o_eqA hr.units) (e_call G__law_maximal cl (hr.mono (by decide)) (by rfl) g__law_maximal kp__law_maximal b__law_maximal (c_cons (e_var 2) c_nil)) (e_var 2) (nomark _))))))))))))⟩
/-! ### are_contexts -/
abbrev s_are_contexts : Stmt := topS 13
theorem sc_are_contexts : FnScope ["value", "many", "context", "observable"] ["value", "many"] (defScope s_are_contexts) := ⟨rfl, rfl, rfl, by decide +kernel, rfl, by decide +kernel, by decide +kernel⟩
def bd_are_contexts : S1 := (sSeq (sIf (fNotT (fT (fIsi "tuple" (fVar 0)))) (sRet (fC (.bool false))) sNext)
    (sSeq (sFor (fItems (fVar 0)) (hName 2) (sIf (fOrT (fNotT (fT (fCallE fn_is_lot_of (aCons (fVar 2) (aCons (fVar 1) aNil))))) (fT (f2 gEqA (fCB gLen (fCons (fVar 2) fNil)) (fC (.int 0))))) (sRet (fC (.bool false))) sNext))
    (sSeq (sIf (fNotT (fT (fCallE fn_is_ascending (aCons (fVar 0) aNil)))) (sRet (fC (.bool false))) sNext)
    (sSeq (sFor (fRng1 (fCons (fVar 1) fNil)) (hName 3) (sIf (fNotT (fT (fCB gAny (fCons (fF (fLc (fItems (fVar 0)) (hName 2) fYes (f2 gIn (fVar 3) (fVar 2)) [2])) fNil)))) (sRet (fC (.bool false))) sNext))
    (sRet (fNotV (fCallE fn_is_within_another (aCons (fVar 0) aNil))))))))
def fn_are_contexts : Fn := fnOf 4 bd_are_contexts
def kb_are_contexts (fd : FuncData) : Prop := True
theorem has_are_contexts (bt : Bts K mg) {f : Addr} {fd : FuncData} (F : L2.Fun K "are_contexts" "are_contexts" s_are_contexts f fd) (gf : mg "are_contexts" = some (.ref f)) (h_is_within_another : Has P w K mg base 2 "is_within_another" ["contexts"] 1 fn_is_within_another kb_is_within_another) (h_is_ascending : Has P w K mg base 1 "is_ascending" ["value"] 1 fn_is_ascending kb_is_ascending) (h_is_lot_of : Has P w K mg base 3 "is_lot_of" ["value", "many"] 2 fn_is_lot_of kb_is_lot_of) :
    Has P w K mg base 4 "are_contexts" ["value", "many"] 2 fn_are_contexts kb_are_contexts := by
  obtain ⟨f_is_within_another, fd_is_within_another, G_is_within_another, g_is_within_another, kp_is_within_another, b_is_within_another, kb_is_within_another⟩ := h_is_within_another.ex
  obtain ⟨f_is_ascending, fd_is_ascending, G_is_ascending, g_is_ascending, kp_is_ascending, b_is_ascending, kb_is_ascending⟩ := h_is_ascending.ex
  obtain ⟨f_is_lot_of, fd_is_lot_of, G_is_lot_of, g_is_lot_of, kp_is_lot_of, b_is_lot_of, kb_is_lot_of⟩ := h_is_lot_of.ex
  have kb : kb_are_contexts fd := trivial
  have sc := sc_are_contexts
  refine ⟨f, fd, FnG.byBody F sc rfl rfl (by decide) ?_, gf, F.kp, F.binds (ps := ["value", "many"]) fun _ _ _ _ _ _ us hl => match us, hl with | [_, _], _ => rfl, kb⟩
  intro cdv A out s H c hr
  have cl : Cl0 (A.deeper (envOfC "are_contexts" (defScope s_are_contexts) s.heap.objs.size f cdv)) := c
  exact ⟨_, (ss_cons (s_if (t_not (t_val (e_isi "tuple" (by rfl) bt.isinstance (by rfl) bt.tuple boot_tuple (e_var 0)))) (ss_one (s_ret e_bl)) ss_nil)
      (ss_cons (s_for PassesOwn.never rfl (i_seq (e_var 0)) (g_name 2 (show List.Nodup _ from sc.nd)) (ss_one (s_if (t_w (w_or (t_not (t_val (e_call G_is_lot_of cl (hr.mono (by decide)) (by rfl) g_is_lot_of kp_is_lot_of b_is_lot_of (c_cons (e_var 2) (c_cons (e_var 1) c_nil))))) (w_or1 (t_cmp s_eqA (o_eqA hr.units) (e_cb s_len c_len (by rfl) bt.len boot_len (a_cons (e_var 2) a_nil)) e_int (nomark _))))) (ss_one (s_ret e_bl)) ss_nil)))
      (ss_cons (s_if (t_not (t_val (e_call G_is_ascending cl (hr.mono (by decide)) (by rfl) g_is_ascending kp_is_ascending b_is_ascending (c_cons (e_var 0) c_nil)))) (ss_one (s_ret e_bl)) ss_nil)
      (ss_cons (s_for PassesOwn.never rfl (i_rng1 (by rfl) bt.range (a_cons (e_var 1) a_nil)) (g_name 3 (show List.Nodup _ from sc.nd)) (ss_one (s_if (t_not (t_val (e_cb s_any (cr_any rfl) (by rfl) bt.any boot_any (a_cons (e_f (F_lc (own := [("context", 2)]) rfl (show List.Nodup _ from sc.nd) (i_seq (e_var 0)) (by first | exact (show blkC ["value", "many", "context", "observable"] (defScope s_are_contexts) _ _ = true from by decide +kernel) | rfl) (fun _ _ _ _ _ => (g_name 2 (show List.Nodup _ from sc.nd))) (gin_name (by decide)) (fun _ _ _ _ _ => ts_nil) (fun _ _ _ _ _ => (e_cmp s_in (o_in (room65 hr)) (e_var 3) (e_var 2) rfl)))) a_nil)))) (ss_one (s_ret e_bl)) ss_nil)))
      (ss_one (s_ret (e_not (e_call G_is_within_another cl (hr.mono (by decide)) (by rfl) g_is_within_another kp_is_within_another b_is_within_another (c_cons (e_var 0) c_nil)))))))))⟩
/-! ### need_lot -/
abbrev s_need_lot : Stmt := topS 22
theorem sc_need_lot : FnScope ["scenario", "lot"] ["scenario", "lot"] (defScope s_need_lot) := ⟨rfl, rfl, rfl, by decide +kernel, rfl, by decide +kernel, by decide +kernel⟩
def bd_need_lot : S1 := (sIf (fNotT (fT (fCallE fn_is_lot_of (aCons (fVar 1) (aCons (fCB gLen (fCons (f2 gIx (fVar 0) (fC (.int 0))) fNil)) aNil))))) sNever sNext)
def fn_need_lot : Fn := fnOf 2 bd_need_lot
def kb_need_lot (fd : FuncData) : Prop := True
theorem has_need_lot (bt : Bts K mg) {f : Addr} {fd : FuncData} (F : L2.Fun K "need_lot" "need_lot" s_need_lot f fd) (gf : mg "need_lot" = some (.ref f)) (h_is_lot_of : Has P w K mg base 3 "is_lot_of" ["value", "many"] 2 fn_is_lot_of kb_is_lot_of) :
    Has P w K mg base 4 "need_lot" ["scenario", "lot"] 2 fn_need_lot kb_need_lot := by
  obtain ⟨f_is_lot_of, fd_is_lot_of, G_is_lot_of, g_is_lot_of, kp_is_lot_of, b_is_lot_of, kb_is_lot_of⟩ := h_is_lot_of.ex
  have kb : kb_need_lot fd := trivial
  have sc := sc_need_lot
  refine ⟨f, fd, FnG.byBody F sc rfl rfl (by decide) ?_, gf, F.kp, F.binds (ps := ["scenario", "lot"]) fun _ _ _ _ _ _ us hl => match us, hl with | [_, _], _ => rfl, kb⟩
  intro cdv A out s H c hr
  have cl : Cl0 (A.deeper (envOfC "need_lot" (defScope s_need_lot) s.heap.objs.size f cdv)) := c
  exact ⟨_, (ss_one (s_if (t_not (t_val (e_call G_is_lot_of cl (hr.mono (by decide)) (by rfl) g_is_lot_of kp_is_lot_of b_is_lot_of (c_cons (e_var 1) (c_cons (e_cb s_len c_len (by rfl) bt.len boot_len (a_cons (e_ix (e_var 0) e_int (fun _ _ => rfl)) a_nil)) c_nil))))) (ss_one s_never) ss_nil))⟩
/-! ### _law_bent -/
abbrev s__law_bent : Stmt := topS 33
theorem sc__law_bent : FnScope ["well", "thing", "path", "here", "turn", "at", "way", "whole"] ["well", "thing"] (defScope s__law_bent) := ⟨rfl, rfl, rfl, by decide +kernel, rfl, by decide +kernel, by decide +kernel⟩
def bd__law_bent : S1 := (sSeq (sParF 2 3 (fLst fNil) (fVar 1))
    (sSeq (sFor (fRng1 (fCons (fCallE fn__law_draw (aBy 0 (aCons (fC (.int 5)) aNil))) fNil)) (hName 4) (sSeq (sIf (fOrT (fNotT (fT (fIsi "tuple" (fVar 3)))) (fT (f2 gEqA (fVar 3) (fTup fNil)))) sBreak sNext)
    (sSeq (sAsg (fCallE fn__law_draw (aBy 0 (aCons (fCB gLen (fCons (fVar 3) fNil)) aNil))) (hName 5))
    (sSeq (sApp 2 (fTup (fCons (fVar 3) (fCons (fVar 5) fNil))))
    (sAsg (f2 gIx (fVar 3) (fVar 5)) (hName 3))))))
    (sSeq (sAsg (fCallE fn__law_draw (aBy 0 (aCons (fC (.int 8)) aNil))) (hName 6))
    (sSeq (sIf (fAndT (fT (fIsi "tuple" (fVar 3))) (fT (f2 gLt (fVar 6) (fC (.int 5))))) (sAsg (f2 gIx (fTup (fCons (fF (fCBF gList (fCons (fVar 3) fNil))) (fCons (fSl (fVar 3) fNo (fPart (f1 gNeg (fC (.int 1))))) (fCons (f2 gAdd (fVar 3) (fSl (fVar 3) fNo (fPart (fC (.int 1))))) (fCons (fSl (fVar 3) (fPart (fC (.int 1))) fNo) (fCons (f1 gRev (fVar 3)) fNil)))))) (fVar 6)) (hName 3)) (sIf (fAndT (fT (fCallE fn__law_is_whole (aCons (fVar 3) aNil))) (fT (f2 gLt (fVar 6) (fC (.int 5))))) (sAsg (f2 gIx (fTup (fCons (f2 gAdd (fVar 3) (fC (.int 1))) (fCons (f2 gSub (fVar 3) (fC (.int 1))) (fCons (f2 gSub (fC (.int 0)) (fVar 3)) (fCons (f2 gGt (fVar 3) (fC (.int 0))) (fCons (f2 gSub (fC (.int 1)) (fVar 3)) fNil)))))) (fVar 6)) (hName 3)) (sAsg (fCallE fn__law_odd (aBy 0 aNil)) (hName 3))))
    (sSeq (sFor (fItems (fOU gRev 2)) (hTup 2 (hCons (hName 7) (hCons (hName 5) hNil))) (sAsg (f2 gAdd (f2 gAdd (fSl (fVar 7) fNo (fPart (fVar 5))) (fTup (fCons (fVar 3) fNil))) (fSl (fVar 7) (fPart (f2 gAdd (fVar 5) (fC (.int 1)))) fNo)) (hName 3)))
    (sRet (fVar 3)))))))
def fn__law_bent : Fn := fnOf 8 bd__law_bent
def kb__law_bent (fd : FuncData) : Prop := True
theorem has__law_bent (bt : Bts K mg) {f : Addr} {fd : FuncData} (F : L2.Fun K "_law_bent" "_law_bent" s__law_bent f fd) (gf : mg "_law_bent" = some (.ref f)) (h__law_is_whole : Has P w K mg base 1 "_law_is_whole" ["thing"] 1 fn__law_is_whole kb__law_is_whole) (h__law_odd : Has P w K mg base 3 "_law_odd" ["well"] 1 fn__law_odd kb__law_odd) (h__law_draw : Has P w K mg base 1 "_law_draw" ["well", "few"] 2 fn__law_draw kb__law_draw) :
    Has P w K mg base 4 "_law_bent" ["well", "thing"] 2 fn__law_bent kb__law_bent := by
  obtain ⟨f__law_is_whole, fd__law_is_whole, G__law_is_whole, g__law_is_whole, kp__law_is_whole, b__law_is_whole, kb__law_is_whole⟩ := h__law_is_whole.ex
  obtain ⟨f__law_odd, fd__law_odd, G__law_odd, g__law_odd, kp__law_odd, b__law_odd, kb__law_odd⟩ := h__law_odd.ex
  obtain ⟨f__law_draw, fd__law_draw, G__law_draw, g__law_draw, kp__law_draw, b__law_draw, kb__law_draw⟩ := h__law_draw.ex
  have kb : kb__law_bent fd := trivial
  have sc := sc__law_bent
  refine ⟨f, fd, FnG.byBody F sc rfl rfl (by decide) ?_, gf, F.kp, F.binds (ps := ["well", "thing"]) fun _ _ _ _ _ _ us hl => match us, hl with | [_, _], _ => rfl, kb⟩
  intro cdv A out s H c hr
  have cl : Cl0 (A.deeper (envOfC "_law_bent" (defScope s__law_bent) s.heap.objs.size f cdv)) := c
  exact ⟨_, (ss_cons (s_parF 2 3 rfl (show List.Nodup _ from sc.nd) (F_lst a_nil) (e_var 1))
      (ss_cons (s_for PassesOwn.never rfl (i_rng1 (by rfl) bt.range (a_cons (e_call G__law_draw cl (hr.mono (by decide)) (by rfl) g__law_draw kp__law_draw b__law_draw (c_by (pv 0) (c_cons e_int c_nil))) a_nil)) (g_name 4 (show List.Nodup _ from sc.nd)) (ss_cons (s_if (t_w (w_or (t_not (t_val (e_isi "tuple" (by rfl) bt.isinstance (by rfl) bt.tuple boot_tuple (e_var 3)))) (w_or1 (t_cmp s_eqA (o_eqA hr.units) (e_var 3) (e_tup a_nil) (nomark _))))) (ss_one s_break) ss_nil)
      (ss_cons (s_set 5 (show List.Nodup _ from sc.nd) (e_call G__law_draw cl (hr.mono (by decide)) (by rfl) g__law_draw kp__law_draw b__law_draw (c_by (pv 0) (c_cons (e_cb s_len c_len (by rfl) bt.len boot_len (a_cons (e_var 3) a_nil)) c_nil))))
      (ss_cons (s_app (pv 2) (e_tup (a_cons (e_var 3) (a_cons (e_var 5) a_nil))))
      (ss_one (s_set 3 (show List.Nodup _ from sc.nd) (e_ix (e_var 3) (e_var 5) (fun _ _ => rfl))))))))
      (ss_cons (s_set 6 (show List.Nodup _ from sc.nd) (e_call G__law_draw cl (hr.mono (by decide)) (by rfl) g__law_draw kp__law_draw b__law_draw (c_by (pv 0) (c_cons e_int c_nil))))
      (ss_cons (s_if (t_w (w_and (t_val (e_isi "tuple" (by rfl) bt.isinstance (by rfl) bt.tuple boot_tuple (e_var 3))) (w_and1 (t_cmp s_lt (o_lt hr.units0) (e_var 6) e_int (nomark _))))) (ss_one (s_set 3 (show List.Nodup _ from sc.nd) (e_ix (e_tup (a_cons (e_f (F_ct sF_list c_list (by rfl) bt.list boot_list (a_cons (e_var 3) a_nil))) (a_cons (e_sl (e_var 3) o_no (o_part (e_neg e_int))) (a_cons (e_op s_add o_add (e_var 3) (e_sl (e_var 3) o_no (o_part e_int))) (a_cons (e_sl (e_var 3) (o_part e_int) o_no) (a_cons (e_rev (e_var 3)) a_nil)))))) (e_var 6) (fun _ _ => rfl)))) (ss_one (s_if (t_w (w_and (t_val (e_call G__law_is_whole cl (hr.mono (by decide)) (by rfl) g__law_is_whole kp__law_is_whole b__law_is_whole (c_cons (e_var 3) c_nil))) (w_and1 (t_cmp s_lt (o_lt hr.units0) (e_var 6) e_int (nomark _))))) (ss_one (s_set 3 (show List.Nodup _ from sc.nd) (e_ix (e_tup (a_cons (e_op s_add o_add (e_var 3) e_int) (a_cons (e_op s_sub op_sub (e_var 3) e_int) (a_cons (e_op s_sub op_sub e_int (e_var 3)) (a_cons (e_cmp s_gt op_gt (e_var 3) e_int (nomark _)) (a_cons (e_op s_sub op_sub e_int (e_var 3)) a_nil)))))) (e_var 6) (fun _ _ => rfl)))) (ss_one (s_set 3 (show List.Nodup _ from sc.nd) (e_call G__law_odd cl (hr.mono (by decide)) (by rfl) g__law_odd kp__law_odd b__law_odd (c_by (pv 0) c_nil)))))))
      (ss_cons (s_for PassesOwn.never rfl (i_seq (e_revO (pv 2))) (g_tup rfl (gs_cons (g_name 7 (show List.Nodup _ from sc.nd)) (gs_cons (g_name 5 (show List.Nodup _ from sc.nd)) gs_nil))) (ss_one (s_set 3 (show List.Nodup _ from sc.nd) (e_op s_add o_add (e_op s_add o_add (e_sl (e_var 7) o_no (o_part (e_var 5))) (e_tup (a_cons (e_var 3) a_nil))) (e_sl (e_var 7) (o_part (e_op s_add o_add (e_var 5) e_int)) o_no)))))
      (ss_one (s_ret (e_var 3))))))))⟩
/-! ### is_scenario_form -/
abbrev s_is_scenario_form : Stmt := topS 15
theorem sc_is_scenario_form : FnScope ["value"] ["value"] (defScope s_is_scenario_form) := ⟨rfl, rfl, rfl, by decide +kernel, rfl, by decide +kernel, by decide +kernel⟩
def bd_is_scenario_form : S1 := (sRet (fAndV (fCallE fn_is_tuple_of (aCons (fVar 0) (aCons (fC (.int 2)) aNil))) (fAndV (fCallE fn_are_outcomes (aCons (f2 gIx (fVar 0) (fC (.int 0))) aNil)) (fCallE fn_are_contexts (aCons (f2 gIx (fVar 0) (fC (.int 1))) (aCons (fCB gLen (fCons (f2 gIx (fVar 0) (fC (.int 0))) fNil)) aNil))))))
def fn_is_scenario_form : Fn := fnOf 1 bd_is_scenario_form
def kb_is_scenario_form (fd : FuncData) : Prop := True
theorem has_is_scenario_form (bt : Bts K mg) {f : Addr} {fd : FuncData} (F : L2.Fun K "is_scenario_form" "is_scenario_form" s_is_scenario_form f fd) (gf : mg "is_scenario_form" = some (.ref f)) (h_are_contexts : Has P w K mg base 4 "are_contexts" ["value", "many"] 2 fn_are_contexts kb_are_contexts) (h_are_outcomes : Has P w K mg base 2 "are_outcomes" ["value"] 1 fn_are_outcomes kb_are_outcomes) (h_is_tuple_of : Has P w K mg base 1 "is_tuple_of" ["value", "many"] 2 fn_is_tuple_of kb_is_tuple_of) :
    Has P w K mg base 5 "is_scenario_form" ["value"] 1 fn_is_scenario_form kb_is_scenario_form := by
  obtain ⟨f_are_contexts, fd_are_contexts, G_are_contexts, g_are_contexts, kp_are_contexts, b_are_contexts, kb_are_contexts⟩ := h_are_contexts.ex
  obtain ⟨f_are_outcomes, fd_are_outcomes, G_are_outcomes, g_are_outcomes, kp_are_outcomes, b_are_outcomes, kb_are_outcomes⟩ := h_are_outcomes.ex
  obtain ⟨f_is_tuple_of, fd_is_tuple_of, G_is_tuple_of, g_is_tuple_of, kp_is_tuple_of, b_is_tuple_of, kb_is_tuple_of⟩ := h_is_tuple_of.ex
  have kb : kb_is_scenario_form fd := trivial
  have sc := sc_is_scenario_form
  refine ⟨f, fd, FnG.byBody F sc rfl rfl (by decide) ?_, gf, F.kp, F.binds (ps := ["value"]) fun _ _ _ _ _ _ us hl => match us, hl with | [_], _ => rfl, kb⟩
  intro cdv A out s H c hr
  have cl : Cl0 (A.deeper (envOfC "is_scenario_form" (defScope s_is_scenario_form) s.heap.objs.size f cdv)) := c
  exact ⟨_, (ss_one (s_ret (e_and (e_call G_is_tuple_of cl (hr.mono (by decide)) (by rfl) g_is_tuple_of kp_is_tuple_of b_is_tuple_of (c_cons (e_var 0) (c_cons e_int c_nil))) (e_and (e_call G_are_outcomes cl (hr.mono (by decide)) (by rfl) g_are_outcomes kp_are_outcomes b_are_outcomes (c_cons (e_ix (e_var 0) e_int (fun _ _ => rfl)) c_nil)) (e_one (e_call G_are_contexts cl (hr.mono (by decide)) (by rfl) g_are_contexts kp_are_contexts b_are_contexts (c_cons (e_ix (e_var 0) e_int (fun _ _ => rfl)) (c_cons (e_cb s_len c_len (by rfl) bt.len boot_len (a_cons (e_ix (e_var 0) e_int (fun _ _ => rfl)) a_nil)) c_nil))))))))⟩
/-! ### _law_maybe -/
abbrev s__law_maybe : Stmt := topS 34
theorem sc__law_maybe : FnScope ["well", "thing", "way"] ["well", "thing"] (defScope s__law_maybe) := ⟨rfl, rfl, rfl, by decide +kernel, rfl, by decide +kernel, by decide +kernel⟩
def bd__law_maybe : S1 := (sSeq (sAsg (fCallE fn__law_draw (aBy 0 (aCons (fC (.int 10)) aNil))) (hName 2))
    (sSeq (sIf (fT (f2 gLt (fVar 2) (fC (.int 5)))) (sRet (fVar 1)) sNext)
    (sRet (fIf (fT (f2 gLt (fVar 2) (fC (.int 9)))) (fCallE fn__law_bent (aBy 0 (aCons (fVar 1) aNil))) (fCallE fn__law_odd (aBy 0 aNil))))))
def fn__law_maybe : Fn := fnOf 3 bd__law_maybe
def kb__law_maybe (fd : FuncData) : Prop := True
theorem has__law_maybe (bt : Bts K mg) {f : Addr} {fd : FuncData} (F : L2.Fun K "_law_maybe" "_law_maybe" s__law_maybe f fd) (gf : mg "_law_maybe" = some (.ref f)) (h__law_bent : Has P w K mg base 4 "_law_bent" ["well", "thing"] 2 fn__law_bent kb__law_bent) (h__law_odd : Has P w K mg base 3 "_law_odd" ["well"] 1 fn__law_odd kb__law_odd) (h__law_draw : Has P w K mg base 1 "_law_draw" ["well", "few"] 2 fn__law_draw kb__law_draw) :
    Has P w K mg base 5 "_law_maybe" ["well", "thing"] 2 fn__law_maybe kb__law_maybe := by
  obtain ⟨f__law_bent, fd__law_bent, G__law_bent, g__law_bent, kp__law_bent, b__law_bent, kb__law_bent⟩ := h__law_bent.ex
  obtain ⟨f__law_odd, fd__law_odd, G__law_odd, g__law_odd, kp__law_odd, b__law_odd, kb__law_odd⟩ := h__law_odd.ex
  obtain ⟨f__law_draw, fd__law_draw, G__law_draw, g__law_draw, kp__law_draw, b__law_draw, kb__law_draw⟩ := h__law_draw.ex
  have kb : kb__law_maybe fd := trivial
  have sc := sc__law_maybe
  refine ⟨f, fd, FnG.byBody F sc rfl rfl (by decide) ?_, gf, F.kp, F.binds (ps := ["well", "thing"]) fun _ _ _ _ _ _ us hl => match us, hl with | [_, _], _ => rfl, kb⟩
  intro cdv A out s H c hr
  have cl : Cl0 (A.deeper (envOfC "_law_maybe" (defScope s__law_maybe) s.heap.objs.size f cdv)) := c
  exact ⟨_, (ss_cons (s_set 2 (show List.Nodup _ from sc.nd) (e_call G__law_draw cl (hr.mono (by decide)) (by rfl) g__law_draw kp__law_draw b__law_draw (c_by (pv 0) (c_cons e_int c_nil))))
      (ss_cons (s_if (t_cmp s_lt (o_lt hr.units0) (e_var 2) e_int (nomark _)) (ss_one (s_ret (e_var 1))) ss_nil)
      (ss_one (s_ret (e_if (t_cmp s_lt (o_lt hr.units0) (e_var 2) e_int (nomark _)) (e_call G__law_bent cl (hr.mono (by decide)) (by rfl) g__law_bent kp__law_bent b__law_bent (c_by (pv 0) (c_cons (e_var 1) c_nil))) (e_call G__law_odd cl (hr.mono (by decide)) (by rfl) g__law_odd kp__law_odd b__law_odd (c_by (pv 0) c_nil)))))))⟩
/-! ### need_scenario -/
abbrev s_need_scenario : Stmt := topS 21
theorem sc_need_scenario : FnScope ["scenario"] ["scenario"] (defScope s_need_scenario) := ⟨rfl, rfl, rfl, by decide +kernel, rfl, by decide +kernel, by decide +kernel⟩
def bd_need_scenario : S1 := (sIf (fNotT (fT (fCallE fn_is_scenario_form (aCons (fVar 0) aNil)))) sNever sNext)
def fn_need_scenario : Fn := fnOf 1 bd_need_scenario
def kb_need_scenario (fd : FuncData) : Prop := True
theorem has_need_scenario (bt : Bts K mg) {f : Addr} {fd : FuncData} (F : L2.Fun K "need_scenario" "need_scenario" s_need_scenario f fd) (gf : mg "need_scenario" = some (.ref f)) (h_is_scenario_form : Has P w K mg base 5 "is_scenario_form" ["value"] 1 fn_is_scenario_form kb_is_scenario_form) :
    Has P w K mg base 6 "need_scenario" ["scenario"] 1 fn_need_scenario kb_need_scenario := by
  obtain ⟨f_is_scenario_form, fd_is_scenario_form, G_is_scenario_form, g_is_scenario_form, kp_is_scenario_form, b_is_scenario_form, kb_is_scenario_form⟩ := h_is_scenario_form.ex
  have kb : kb_need_scenario fd := trivial
  have sc := sc_need_scenario
  refine ⟨f, fd, FnG.byBody F sc rfl rfl (by decide) ?_, gf, F.kp, F.binds (ps := ["scenario"]) fun _ _ _ _ _ _ us hl => match us, hl with | [_], _ => rfl, kb⟩
  intro cdv A out s H c hr
  have cl : Cl0 (A.deeper (envOfC "need_scenario" (defScope s_need_scenario) s.heap.objs.size f cdv)) := c
  exact ⟨_, (ss_one (s_if (t_not (t_val (e_call G_is_scenario_form cl (hr.mono (by decide)) (by rfl) g_is_scenario_form kp_is_scenario_form b_is_scenario_form (c_cons (e_var 0) c_nil)))) (ss_one s_never) ss_nil))⟩
/-! ### is_scenario -/
abbrev s_is_scenario : Stmt := topS 24
theorem sc_is_scenario : FnScope ["value"] ["value"] (defScope s_is_scenario) := ⟨rfl, rfl, rfl, by decide +kernel, rfl, by decide +kernel, by decide +kernel⟩
def bd_is_scenario : S1 := (sRet (fCallE fn_is_scenario_form (aCons (fVar 0) aNil)))
def fn_is_scenario : Fn := fnOf 1 bd_is_scenario
def kb_is_scenario (fd : FuncData) : Prop := (∀ (s : Shared) (us : List Value), us.length = ["value"].length → BindsTo s fd ⟨[], (["value"] : List Str).zip us⟩ ((["value"] : List Str).zip (pick [0] us)))
theorem has_is_scenario (bt : Bts K mg) {f : Addr} {fd : FuncData} (F : L2.Fun K "is_scenario" "is_scenario" s_is_scenario f fd) (gf : mg "is_scenario" = some (.ref f)) (h_is_scenario_form : Has P w K mg base 5 "is_scenario_form" ["value"] 1 fn_is_scenario_form kb_is_scenario_form) :
    Has P w K mg base 6 "is_scenario" ["value"] 1 fn_is_scenario kb_is_scenario := by
  obtain ⟨f_is_scenario_form, fd_is_scenario_form, G_is_scenario_form, g_is_scenario_form, kp_is_scenario_form, b_is_scenario_form, kb_is_scenario_form⟩ := h_is_scenario_form.ex
  have kb : kb_is_scenario fd := by
    obtain ⟨_, _, _, _, _, _, _, _, _, e, _⟩ := F.ex
    subst e
    exact fun s us hl => match us, hl with | [_], _ => .of_eq rfl
  have sc := sc_is_scenario
  refine ⟨f, fd, FnG.byBody F sc rfl rfl (by decide) ?_, gf, F.kp, F.binds (ps := ["value"]) fun _ _ _ _ _ _ us hl => match us, hl with | [_], _ => rfl, kb⟩
  intro cdv A out s H c hr
  have cl : Cl0 (A.deeper (envOfC "is_scenario" (defScope s_is_scenario) s.heap.objs.size f cdv)) := c
  exact ⟨_, (ss_one (s_ret (e_call G_is_scenario_form cl (hr.mono (by decide)) (by rfl) g_is_scenario_form kp_is_scenario_form b_is_scenario_form (c_cons (e_var 0) c_nil))))⟩
/-! ### sections_of -/
abbrev s_sections_of : Stmt := topS 25
theorem sc_sections_of : FnScope ["scenario", "lot"] ["scenario", "lot"] (defScope s_sections_of) := ⟨rfl, rfl, rfl, by decide +kernel, rfl, by decide +kernel, by decide +kernel⟩
def bd_sections_of : S1 := (sSeq (sDrop (fCallE fn_need_scenario (aCons (fVar 0) aNil)))
    (sSeq (sDrop (fCallE fn_need_lot (aCons (fVar 0) (aCons (fVar 1) aNil))))
    (sRet (fCB gTuple (fCons (fCallE fn_sections_in (aCons (fVar 0) (aCons (fVar 1) aNil))) fNil)))))
def fn_sections_of : Fn := fnOf 2 bd_sections_of
def kb_sections_of (fd : FuncData) : Prop := (∀ (s : Shared) (us : List Value), us.length = ["lot", "scenario"].length → BindsTo s fd ⟨[], (["lot", "scenario"] : List Str).zip us⟩ ((["scenario", "lot"] : List Str).zip (pick [1, 0] us)))
theorem has_sections_of (bt : Bts K mg) {f : Addr} {fd : FuncData} (F : L2.Fun K "sections_of" "sections_of" s_sections_of f fd) (gf : mg "sections_of" = some (.ref f)) (h_sections_in : Has P w K mg base 2 "sections_in" ["scenario", "lot"] 2 fn_sections_in kb_sections_in) (h_need_lot : Has P w K mg base 4 "need_lot" ["scenario", "lot"] 2 fn_need_lot kb_need_lot) (h_need_scenario : Has P w K mg base 6 "need_scenario" ["scenario"] 1 fn_need_scenario kb_need_scenario) :
    Has P w K mg base 7 "sections_of" ["scenario", "lot"] 2 fn_sections_of kb_sections_of := by
  obtain ⟨f_sections_in, fd_sections_in, G_sections_in, g_sections_in, kp_sections_in, b_sections_in, kb_sections_in⟩ := h_sections_in.ex
  obtain ⟨f_need_lot, fd_need_lot, G_need_lot, g_need_lot, kp_need_lot, b_need_lot, kb_need_lot⟩ := h_need_lot.ex
  obtain ⟨f_need_scenario, fd_need_scenario, G_need_scenario, g_need_scenario, kp_need_scenario, b_need_scenario, kb_need_scenario⟩ := h_need_scenario.ex
  have kb : kb_sections_of fd := by
    obtain ⟨_, _, _, _, _, _, _, _, _, e, _⟩ := F.ex
    subst e
    exact fun s us hl => match us, hl with | [_, _], _ => .of_eq rfl
  have sc := sc_sections_of
  refine ⟨f, fd, FnG.byBody F sc rfl rfl (by decide) ?_, gf, F.kp, F.binds (ps := ["scenario", "lot"]) fun _ _ _ _ _ _ us hl => match us, hl with | [_, _], _ => rfl, kb⟩
  intro cdv A out s H c hr
  have cl : Cl0 (A.deeper (envOfC "sections_of" (defScope s_sections_of) s.heap.objs.size f cdv)) := c
  exact ⟨_, (ss_cons (s_expr (e_call G_need_scenario cl (hr.mono (by decide)) (by rfl) g_need_scenario kp_need_scenario b_need_scenario (c_cons (e_var 0) c_nil)))
      (ss_cons (s_expr (e_call G_need_lot cl (hr.mono (by decide)) (by rfl) g_need_lot kp_need_lot b_need_lot (c_cons (e_var 0) (c_cons (e_var 1) c_nil))))
      (ss_one (s_ret (e_ct s_tuple c_tuple (by rfl) bt.tuple boot_tuple (a_cons (e_call G_sections_in cl (hr.mono (by decide)) (by rfl) g_sections_in kp_sections_in b_sections_in (c_cons (e_var 0) (c_cons (e_var 1) c_nil))) a_nil))))))⟩
/-! ### _law_right -/
abbrev s__law_right : Stmt := topS 42
theorem sc__law_right : FnScope ["well", "turn", "scenario", "some", "each", "due", "lot", "at", "told"] ["well"] (defScope s__law_right) := ⟨rfl, rfl, rfl, by decide +kernel, rfl, by decide +kernel, by decide +kernel⟩
def bd__law_right : S1 := (sSeq (sFor (fRng1 (fCons (fC (.int 4)) fNil)) (hName 1) (sSeq (sAsg (fCallE fn__law_scenario (aBy 0 (aCons (fC (.int 6)) aNil))) (hName 2))
    (sSeq (sAsg (fF (fLst (fCons (fVar 2) (fCons (fCallE fn__law_bent (aBy 0 (aCons (fVar 2) aNil))) (fCons (fCallE fn__law_maybe (aBy 0 (aCons (fVar 2) aNil))) (fCons (fCallE fn__law_odd (aBy 0 aNil)) (fCons (fCallE fn__law_planted (aBy 0 aNil)) fNil))))))) (hName 3))
    (sSeq (sFor (fItems (f2 gAdd (fVar 3) (fF (fLst (fCons (f2 gAdd (fVar 2) (fTup (fCons (fTup fNil) fNil))) (fCons (fF (fCBF gList (fCons (fVar 2) fNil))) (fCons (fTup (fCons (f2 gIx (fVar 2) (fC (.int 0))) (fCons (f2 gAdd (f2 gIx (fVar 2) (fC (.int 1))) (fSl (f2 gIx (fVar 2) (fC (.int 1))) fNo (fPart (fC (.int 1))))) fNil))) fNil))))))) (hName 4) (sSeq (sAsg (fCallE fn__law_is_scenario (aCons (fVar 4) aNil)) (hName 5))
    (sIf (fT (f2 gNeA (fCB gRepr (fCons (fF (fLst (fCons (fCallE fn_is_scenario (aCons (fVar 4) aNil)) (fCons (fCallK fn_is_scenario [0] 1 (fCons (fVar 4) fNil)) fNil)))) fNil)) (fCB gRepr (fCons (fF (fLst (fCons (fVar 5) (fCons (fVar 5) fNil)))) fNil)))) (sRet (fC (.bool false))) sNext)))
    (sSeq (sAsg (fF (fLst fNil)) (hName 6))
    (sSeq (sFor (fRng1 (fCons (fCB gLen (fCons (f2 gIx (fVar 2) (fC (.int 0))) fNil)) fNil)) (hName 7) (sAsg (f2 gAdd (fVar 6) (fIf (fT (f2 gEqA (fCallE fn__law_draw (aBy 0 (aCons (fC (.int 2)) aNil))) (fC (.int 0)))) (fF (fLst (fCons (fVar 7) fNil))) (fF (fLst fNil)))) (hName 6)))
    (sSeq (sAsg (fCallE fn__law_sections (aCons (f2 gIx (fVar 2) (fC (.int 0))) (aCons (fVar 6) aNil))) (hName 5))
    (sSeq (sAsg (fF (fLst (fCons (fCallE fn_sections_of (aCons (fVar 2) (aCons (fCB gTuple (fCons (fVar 6) fNil)) aNil))) (fCons (fCallK fn_sections_of [1, 0] 2 (fCons (fCB gTuple (fCons (fVar 6) fNil)) (fCons (fVar 2) fNil))) fNil)))) (hName 8))
    (sIf (fT (f2 gNeA (fCB gRepr (fCons (fVar 8) fNil)) (fCB gRepr (fCons (fF (fLst (fCons (fVar 5) (fCons (fVar 5) fNil)))) fNil)))) (sRet (fC (.bool false))) sNext)))))))))
    (sRet (fC (.bool true))))
def fn__law_right : Fn := fnOf 9 bd__law_right
def kb__law_right (fd : FuncData) : Prop := True
theorem has__law_right (bt : Bts K mg) {f : Addr} {fd : FuncData} (F : L2.Fun K "_law_right" "_law_right" s__law_right f fd) (gf : mg "_law_right" = some (.ref f)) (h_sections_of : Has P w K mg base 7 "sections_of" ["scenario", "lot"] 2 fn_sections_of kb_sections_of) (h__law_sections : Has P w K mg base 1 "_law_sections" ["outcomes", "lot"] 2 fn__law_sections kb__law_sections) (h__law_draw : Has P w K mg base 1 "_law_draw" ["well", "few"] 2 fn__law_draw kb__law_draw) (h_is_scenario : Has P w K mg base 6 "is_scenario" ["value"] 1 fn_is_scenario kb_is_scenario) (h__law_is_scenario : Has P w K mg base 3 "_law_is_scenario" ["thing"] 1 fn__law_is_scenario kb__law_is_scenario) (h__law_planted : Has P w K mg base 2 "_law_planted" ["well"] 1 fn__law_planted kb__law_planted) (h__law_odd : Has P w K mg base 3 "_law_odd" ["well"] 1 fn__law_odd kb__law_odd) (h__law_maybe : Has P w K mg base 5 "_law_maybe" ["well", "thing"] 2 fn__law_maybe kb__law_maybe) (h__law_bent : Has P w K mg base 4 "_law_bent" ["well", "thing"] 2 fn__law_bent kb__law_bent) (h__law_scenario : Has P w K mg base 3 "_law_scenario" ["well", "most"] 2 fn__law_scenario kb__law_scenario) :
    Has P w K mg base 8 "_law_right" ["well"] 1 fn__law_right kb__law_right := by
  obtain ⟨f_sections_of, fd_sections_of, G_sections_of, g_sections_of, kp_sections_of, b_sections_of, kb_sections_of⟩ := h_sections_of.ex
  obtain ⟨f__law_sections, fd__law_sections, G__law_sections, g__law_sections, kp__law_sections, b__law_sections, kb__law_sections⟩ := h__law_sections.ex
  obtain ⟨f__law_draw, fd__law_draw, G__law_draw, g__law_draw, kp__law_draw, b__law_draw, kb__law_draw⟩ := h__law_draw.ex
  obtain ⟨f_is_scenario, fd_is_scenario, G_is_scenario, g_is_scenario, kp_is_scenario, b_is_scenario, kb_is_scenario⟩ := h_is_scenario.ex
  obtain ⟨f__law_is_scenario, fd__law_is_scenario, G__law_is_scenario, g__law_is_scenario, kp__law_is_scenario, b__law_is_scenario, kb__law_is_scenario⟩ := h__law_is_scenario.ex
  obtain ⟨f__law_planted, fd__law_planted, G__law_planted, g__law_planted, kp__law_planted, b__law_planted, kb__law_planted⟩ := h__law_planted.ex
  obtain ⟨f__law_odd, fd__law_odd, G__law_odd, g__law_odd, kp__law_odd, b__law_odd, kb__law_odd⟩ := h__law_odd.ex
  obtain ⟨f__law_maybe, fd__law_maybe, G__law_maybe, g__law_maybe, kp__law_maybe, b__law_maybe, kb__law_maybe⟩ := h__law_maybe.ex
  obtain ⟨f__law_bent, fd__law_bent, G__law_bent, g__law_bent, kp__law_bent, b__law_bent, kb__law_bent⟩ := h__law_bent.ex
  obtain ⟨f__law_scenario, fd__law_scenario, G__law_scenario, g__law_scenario, kp__law_scenario, b__law_scenario, kb__law_scenario⟩ := h__law_scenario.ex
  have kb : kb__law_right fd := trivial
  have sc := sc__law_right
  refine ⟨f, fd, FnG.byBody F sc rfl rfl (by decide) ?_, gf, F.kp, F.binds (ps := ["well"]) fun _ _ _ _ _ _ us hl => match us, hl with | [_], _ => rfl, kb⟩
  intro cdv A out s H c hr
  have cl : Cl0 (A.deeper (envOfC "_law_right" (defScope s__law_right) s.heap.objs.size f cdv)) := c
  exact ⟨_, (ss_cons (s_for PassesOwn.never rfl (i_rng1 (by rfl) bt.range (a_cons e_int a_nil)) (g_name 1 (show List.Nodup _ from sc.nd)) (ss_cons (s_set 2 (show List.Nodup _ from sc.nd) (e_call G__law_scenario cl (hr.mono (by decide)) (by rfl) g__law_scenario kp__law_scenario b__law_scenario (c_by (pv 0) (c_cons e_int c_nil))))
      (ss_cons (s_set 3 (show List.Nodup _ from sc.nd) (e_f (F_lst (a_cons (e_var 2) (a_cons (e_call G__law_bent cl (hr.mono (by decide)) (by rfl) g__law_bent kp__law_bent b__law_bent (c_by (pv 0) (c_cons (e_var 2) c_nil))) (a_cons (e_call G__law_maybe cl (hr.mono (by decide)) (by rfl) g__law_maybe kp__law_maybe b__law_maybe (c_by (pv 0) (c_cons (e_var 2) c_nil))) (a_cons (e_call G__law_odd cl (hr.mono (by decide)) (by rfl) g__law_odd kp__law_odd b__law_odd (c_by (pv 0) c_nil)) (a_cons (e_call G__law_planted cl (hr.mono (by decide)) (by rfl) g__law_planted kp__law_planted b__law_planted (c_by (pv 0) c_nil)) a_nil))))))))
      (ss_cons (s_for PassesOwn.never rfl (i_seq (e_op s_add o_add (e_var 3) (e_f (F_lst (a_cons (e_op s_add o_add (e_var 2) (e_tup (a_cons (e_tup a_nil) a_nil))) (a_cons (e_f (F_ct sF_list c_list (by rfl) bt.list boot_list (a_cons (e_var 2) a_nil))) (a_cons (e_tup (a_cons (e_ix (e_var 2) e_int (fun _ _ => rfl)) (a_cons (e_op s_add o_add (e_ix (e_var 2) e_int (fun _ _ => rfl)) (e_sl (e_ix (e_var 2) e_int (fun _ _ => rfl)) o_no (o_part e_int))) a_nil))) a_nil))))))) (g_name 4 (show List.Nodup _ from sc.nd)) (ss_cons (s_set 5 (show List.Nodup _ from sc.nd) (e_call G__law_is_scenario cl (hr.mono (by decide)) (by rfl) g__law_is_scenario kp__law_is_scenario b__law_is_scenario (c_cons (e_var 4) c_nil)))
      (ss_one (s_if (t_cmp s_neA (o_neA hr.units) (e_cb s_repr (c_repr cl hr.units) (by rfl) bt.repr boot_repr (a_cons (e_f (F_lst (a_cons (e_call G_is_scenario cl (hr.mono (by decide)) (by rfl) g_is_scenario kp_is_scenario b_is_scenario (c_cons (e_var 4) c_nil)) (a_cons (e_callK (ks := ["value"]) [0] G_is_scenario cl (hr.mono (by decide)) (by rfl) g_is_scenario kp_is_scenario kb_is_scenario (fun ds h => match ds, h with | [_], _ => rfl) (k_cons (e_var 4) k_nil)) a_nil)))) a_nil)) (e_cb s_repr (c_repr cl hr.units) (by rfl) bt.repr boot_repr (a_cons (e_f (F_lst (a_cons (e_var 5) (a_cons (e_var 5) a_nil)))) a_nil)) (nomark _)) (ss_one (s_ret e_bl)) ss_nil))))
      (ss_cons (s_set 6 (show List.Nodup _ from sc.nd) (e_f (F_lst a_nil)))
      (ss_cons (s_for PassesOwn.never rfl (i_rng1 (by rfl) bt.range (a_cons (e_cb s_len c_len (by rfl) bt.len boot_len (a_cons (e_ix (e_var 2) e_int (fun _ _ => rfl)) a_nil)) a_nil)) (g_name 7 (show List.Nodup _ from sc.nd)) (ss_one (s_set 6 (show List.Nodup _ from sc.nd) (e_op s_add o_add (e_var 6) (e_if (t_cmp s_eqA (o_eqA hr.units) (e_call G__law_draw cl (hr.mono (by decide)) (by rfl) g__law_draw kp__law_draw b__law_draw (c_by (pv 0) (c_cons e_int c_nil))) e_int (nomark _)) (e_f (F_lst (a_cons (e_var 7) a_nil))) (e_f (F_lst a_nil)))))))
      (ss_cons (s_set 5 (show List.Nodup _ from sc.nd) (e_call G__law_sections cl (hr.mono (by decide)) (by rfl) g__law_sections kp__law_sections b__law_sections (c_cons (e_ix (e_var 2) e_int (fun _ _ => rfl)) (c_cons (e_var 6) c_nil))))
      (ss_cons (s_set 8 (show List.Nodup _ from sc.nd) (e_f (F_lst (a_cons (e_call G_sections_of cl (hr.mono (by decide)) (by rfl) g_sections_of kp_sections_of b_sections_of (c_cons (e_var 2) (c_cons (e_ct s_tuple c_tuple (by rfl) bt.tuple boot_tuple (a_cons (e_var 6) a_nil)) c_nil))) (a_cons (e_callK (ks := ["lot", "scenario"]) [1, 0] G_sections_of cl (hr.mono (by decide)) (by rfl) g_sections_of kp_sections_of kb_sections_of (fun ds h => match ds, h with | [_, _], _ => rfl) (k_cons (e_ct s_tuple c_tuple (by rfl) bt.tuple boot_tuple (a_cons (e_var 6) a_nil)) (k_cons (e_var 2) k_nil))) a_nil)))))
      (ss_one (s_if (t_cmp s_neA (o_neA hr.units) (e_cb s_repr (c_repr cl hr.units) (by rfl) bt.repr boot_repr (a_cons (e_var 8) a_nil)) (e_cb s_repr (c_repr cl hr.units) (by rfl) bt.repr boot_repr (a_cons (e_f (F_lst (a_cons (e_var 5) (a_cons (e_var 5) a_nil)))) a_nil)) (nomark _)) (ss_one (s_ret e_bl)) ss_nil))))))))))
      (ss_one (s_ret e_bl)))⟩
/-! ### law -/
abbrev s_law : Stmt := topS 43
theorem sc_law : FnScope ["script", "lap"] ["script"] (defScope s_law) := ⟨rfl, rfl, rfl, by decide +kernel, rfl, by decide +kernel, by decide +kernel⟩
def bd_law : S1 := (sRet (fCB gAll (fCons (fF (fLc (fRng1 (fCons (fCB gMax2 (fCons (fC (.int 2)) (fCons (fCB gMin2 (fCons (fCB gLen (fCons (fVar 0) fNil)) (fCons (fC (.int 4)) fNil))) fNil))) fNil)) (hName 1) fYes (fTmpE fn__law_right (fCallF fn__law_well (aCons (fVar 0) (aCons (fVar 1) aNil)))) [1])) fNil)))
def fn_law : Fn := fnOf 2 bd_law
def kb_law (fd : FuncData) : Prop := True
theorem has_law (bt : Bts K mg) {f : Addr} {fd : FuncData} (F : L2.Fun K "law" "law" s_law f fd) (gf : mg "law" = some (.ref f)) (h__law_right : Has P w K mg base 8 "_law_right" ["well"] 1 fn__law_right kb__law_right) (h__law_well : Has P w K mg base 1 "_law_well" ["script", "lap"] 2 fn__law_well kb__law_well) :
    Has P w K mg base 9 "law" ["script"] 1 fn_law kb_law := by
  obtain ⟨f__law_right, fd__law_right, G__law_right, g__law_right, kp__law_right, b__law_right, kb__law_right⟩ := h__law_right.ex
  obtain ⟨f__law_well, fd__law_well, G__law_well, g__law_well, kp__law_well, b__law_well, kb__law_well⟩ := h__law_well.ex
  have kb : kb_law fd := trivial
  have sc := sc_law
  refine ⟨f, fd, FnG.byBody F sc rfl rfl (by decide) ?_, gf, F.kp, F.binds (ps := ["script"]) fun _ _ _ _ _ _ us hl => match us, hl with | [_], _ => rfl, kb⟩
  intro cdv A out s H c hr
  have cl : Cl0 (A.deeper (envOfC "law" (defScope s_law) s.heap.objs.size f cdv)) := c
  exact ⟨_, (ss_one (s_ret (e_cb s_all (cr_all rfl) (by rfl) bt.all boot_all (a_cons (e_f (F_lc (own := [("lap", 1)]) rfl (show List.Nodup _ from sc.nd) (i_rng1 (by rfl) bt.range (a_cons (e_cb s_max2 (call_max2 rfl) (by rfl) bt.max boot_max (a_cons e_int (a_cons (e_cb s_min2 (call_min2 rfl) (by rfl) bt.min boot_min (a_cons (e_cb s_len c_len (by rfl) bt.len boot_len (a_cons (e_var 0) a_nil)) (a_cons e_int a_nil))) a_nil))) a_nil)) (by first | exact (show blkC ["script", "lap"] (defScope s_law) _ _ = true from by decide +kernel) | rfl) (fun _ _ _ _ _ => (g_name 1 (show List.Nodup _ from sc.nd))) (gin_name (by decide)) (fun _ _ _ _ _ => ts_nil) (fun _ _ _ _ _ => (e_callTmp G__law_right cl (hr.mono (by decide)) (by rfl) g__law_right kp__law_right b__law_right (F_call G__law_well cl (hr.mono (by decide)) (by rfl) g__law_well kp__law_well b__law_well (c_cons (e_var 0) (c_cons (e_var 1) c_nil))))))) a_nil))))⟩
end
/-! ### what the top has written -/
theorem all_mk {P : Program} {w : World} {K : PySem.W.Frag} {base : Heap} {mg : Str → Option Value} {f_is_whole f_sections_by f_sizes_of f_is_within f_is_tuple_of f_is_ascending f__law_well f__law_draw f__law_is_whole f__law_is_tuple f__law_sections f__law_maximal f_sections_in f_is_index f_are_outcomes f_is_within_another f__law_one f__law_web f__law_is_lot f__law_planted f_is_lot_of f__law_odd f__law_scenario f__law_is_scenario f_are_contexts f_need_lot f__law_bent f_is_scenario_form f__law_maybe f_need_scenario f_is_scenario f_sections_of f__law_right f_law : Addr} (X : K.In base) (G : base.Ns mainGlobals mg)
    {od_is_whole an_is_whole od_sections_by an_sections_by od_sizes_of an_sizes_of od_is_within an_is_within od_is_tuple_of an_is_tuple_of od_is_ascending an_is_ascending od__law_well an__law_well od__law_draw an__law_draw od__law_is_whole an__law_is_whole od__law_is_tuple an__law_is_tuple od__law_sections an__law_sections od__law_maximal an__law_maximal od_sections_in an_sections_in od_is_index an_is_index od_are_outcomes an_are_outcomes od_is_within_another an_is_within_another od__law_one an__law_one od__law_web an__law_web od__law_is_lot an__law_is_lot od__law_planted an__law_planted od_is_lot_of an_is_lot_of od__law_odd an__law_odd od__law_scenario an__law_scenario od__law_is_scenario an__law_is_scenario od_are_contexts an_are_contexts od_need_lot an_need_lot od__law_bent an__law_bent od_is_scenario_form an_is_scenario_form od__law_maybe an__law_maybe od_need_scenario an_need_scenario od_is_scenario an_is_scenario od_sections_of an_sections_of od__law_right an__law_right od_law an_law : Option Addr} {sl_is_whole sl_sections_by sl_sizes_of sl_is_within sl_is_tuple_of sl_is_ascending sl__law_well sl__law_draw sl__law_is_whole sl__law_is_tuple sl__law_sections sl__law_maximal sl_sections_in sl_is_index sl_are_outcomes sl_is_within_another sl__law_one sl__law_web sl__law_is_lot sl__law_planted sl_is_lot_of sl__law_odd sl__law_scenario sl__law_is_scenario sl_are_contexts sl_need_lot sl__law_bent sl_is_scenario_form sl__law_maybe sl_need_scenario sl_is_scenario sl_sections_of sl__law_right sl_law : Array (Option Value)} {oc_is_whole kV_is_whole dc_is_whole pm_is_whole cd_is_whole ct_is_whole oc_sections_by kV_sections_by dc_sections_by pm_sections_by cd_sections_by ct_sections_by oc_sizes_of kV_sizes_of dc_sizes_of pm_sizes_of cd_sizes_of ct_sizes_of oc_is_within kV_is_within dc_is_within pm_is_within cd_is_within ct_is_within oc_is_tuple_of kV_is_tuple_of dc_is_tuple_of pm_is_tuple_of cd_is_tuple_of ct_is_tuple_of oc_is_ascending kV_is_ascending dc_is_ascending pm_is_ascending cd_is_ascending ct_is_ascending oc__law_well kV__law_well dc__law_well pm__law_well cd__law_well ct__law_well oc__law_draw kV__law_draw dc__law_draw pm__law_draw cd__law_draw ct__law_draw oc__law_is_whole kV__law_is_whole dc__law_is_whole pm__law_is_whole cd__law_is_whole ct__law_is_whole oc__law_is_tuple kV__law_is_tuple dc__law_is_tuple pm__law_is_tuple cd__law_is_tuple ct__law_is_tuple oc__law_sections kV__law_sections dc__law_sections pm__law_sections cd__law_sections ct__law_sections oc__law_maximal kV__law_maximal dc__law_maximal pm__law_maximal cd__law_maximal ct__law_maximal oc_sections_in kV_sections_in dc_sections_in pm_sections_in cd_sections_in ct_sections_in oc_is_index kV_is_index dc_is_index pm_is_index cd_is_index ct_is_index oc_are_outcomes kV_are_outcomes dc_are_outcomes pm_are_outcomes cd_are_outcomes ct_are_outcomes oc_is_within_another kV_is_within_another dc_is_within_another pm_is_within_another cd_is_within_another ct_is_within_another oc__law_one kV__law_one dc__law_one pm__law_one cd__law_one ct__law_one oc__law_web kV__law_web dc__law_web pm__law_web cd__law_web ct__law_web oc__law_is_lot kV__law_is_lot dc__law_is_lot pm__law_is_lot cd__law_is_lot ct__law_is_lot oc__law_planted kV__law_planted dc__law_planted pm__law_planted cd__law_planted ct__law_planted oc_is_lot_of kV_is_lot_of dc_is_lot_of pm_is_lot_of cd_is_lot_of ct_is_lot_of oc__law_odd kV__law_odd dc__law_odd pm__law_odd cd__law_odd ct__law_odd oc__law_scenario kV__law_scenario dc__law_scenario pm__law_scenario cd__law_scenario ct__law_scenario oc__law_is_scenario kV__law_is_scenario dc__law_is_scenario pm__law_is_scenario cd__law_is_scenario ct__law_is_scenario oc_are_contexts kV_are_contexts dc_are_contexts pm_are_contexts cd_are_contexts ct_are_contexts oc_need_lot kV_need_lot dc_need_lot pm_need_lot cd_need_lot ct_need_lot oc__law_bent kV__law_bent dc__law_bent pm__law_bent cd__law_bent ct__law_bent oc_is_scenario_form kV_is_scenario_form dc_is_scenario_form pm_is_scenario_form cd_is_scenario_form ct_is_scenario_form oc__law_maybe kV__law_maybe dc__law_maybe pm__law_maybe cd__law_maybe ct__law_maybe oc_need_scenario kV_need_scenario dc_need_scenario pm_need_scenario cd_need_scenario ct_need_scenario oc_is_scenario kV_is_scenario dc_is_scenario pm_is_scenario cd_is_scenario ct_is_scenario oc_sections_of kV_sections_of dc_sections_of pm_sections_of cd_sections_of ct_sections_of oc__law_right kV__law_right dc__law_right pm__law_right cd__law_right ct__law_right oc_law kV_law dc_law pm_law cd_law ct_law : Value}
    (a_is_whole : PySem.W.nsIn K mainGlobals "is_whole" = some (some (.ref f_is_whole))) (l_is_whole : K.lookup f_is_whole = some ⟨oc_is_whole, od_is_whole, .func (PySem.W.fnOf "is_whole" "is_whole" (defArgs s_is_whole) (defBody s_is_whole) (defScope s_is_whole) .none kV_is_whole dc_is_whole pm_is_whole an_is_whole cd_is_whole ct_is_whole), sl_is_whole⟩) (c_is_whole : PySem.W.codeIn K cd_is_whole "is_whole" = true) (k_is_whole : PySem.W.keepIn K (.ref f_is_whole) = true)
    (a_sections_by : PySem.W.nsIn K mainGlobals "sections_by" = some (some (.ref f_sections_by))) (l_sections_by : K.lookup f_sections_by = some ⟨oc_sections_by, od_sections_by, .func (PySem.W.fnOf "sections_by" "sections_by" (defArgs s_sections_by) (defBody s_sections_by) (defScope s_sections_by) .none kV_sections_by dc_sections_by pm_sections_by an_sections_by cd_sections_by ct_sections_by), sl_sections_by⟩) (c_sections_by : PySem.W.codeIn K cd_sections_by "sections_by" = true) (k_sections_by : PySem.W.keepIn K (.ref f_sections_by) = true)
    (a_sizes_of : PySem.W.nsIn K mainGlobals "sizes_of" = some (some (.ref f_sizes_of))) (l_sizes_of : K.lookup f_sizes_of = some ⟨oc_sizes_of, od_sizes_of, .func (PySem.W.fnOf "sizes_of" "sizes_of" (defArgs s_sizes_of) (defBody s_sizes_of) (defScope s_sizes_of) .none kV_sizes_of dc_sizes_of pm_sizes_of an_sizes_of cd_sizes_of ct_sizes_of), sl_sizes_of⟩) (c_sizes_of : PySem.W.codeIn K cd_sizes_of "sizes_of" = true) (k_sizes_of : PySem.W.keepIn K (.ref f_sizes_of) = true)
    (a_is_within : PySem.W.nsIn K mainGlobals "is_within" = some (some (.ref f_is_within))) (l_is_within : K.lookup f_is_within = some ⟨oc_is_within, od_is_within, .func (PySem.W.fnOf "is_within" "is_within" (defArgs s_is_within) (defBody s_is_within) (defScope s_is_within) .none kV_is_within dc_is_within pm_is_within an_is_within cd_is_within ct_is_within), sl_is_within⟩) (c_is_within : PySem.W.codeIn K cd_is_within "is_within" = true) (k_is_within : PySem.W.keepIn K (.ref f_is_within) = true)
    (a_is_tuple_of : PySem.W.nsIn K mainGlobals "is_tuple_of" = some (some (.ref f_is_tuple_of))) (l_is_tuple_of : K.lookup f_is_tuple_of = some ⟨oc_is_tuple_of, od_is_tuple_of, .func (PySem.W.fnOf "is_tuple_of" "is_tuple_of" (defArgs s_is_tuple_of) (defBody s_is_tuple_of) (defScope s_is_tuple_of) .none kV_is_tuple_of dc_is_tuple_of pm_is_tuple_of an_is_tuple_of cd_is_tuple_of ct_is_tuple_of), sl_is_tuple_of⟩) (c_is_tuple_of : PySem.W.codeIn K cd_is_tuple_of "is_tuple_of" = true) (k_is_tuple_of : PySem.W.keepIn K (.ref f_is_tuple_of) = true)
    (a_is_ascending : PySem.W.nsIn K mainGlobals "is_ascending" = some (some (.ref f_is_ascending))) (l_is_ascending : K.lookup f_is_ascending = some ⟨oc_is_ascending, od_is_ascending, .func (PySem.W.fnOf "is_ascending" "is_ascending" (defArgs s_is_ascending) (defBody s_is_ascending) (defScope s_is_ascending) .none kV_is_ascending dc_is_ascending pm_is_ascending an_is_ascending cd_is_ascending ct_is_ascending), sl_is_ascending⟩) (c_is_ascending : PySem.W.codeIn K cd_is_ascending "is_ascending" = true) (k_is_ascending : PySem.W.keepIn K (.ref f_is_ascending) = true)
    (a__law_well : PySem.W.nsIn K mainGlobals "_law_well" = some (some (.ref f__law_well))) (l__law_well : K.lookup f__law_well = some ⟨oc__law_well, od__law_well, .func (PySem.W.fnOf "_law_well" "_law_well" (defArgs s__law_well) (defBody s__law_well) (defScope s__law_well) .none kV__law_well dc__law_well pm__law_well an__law_well cd__law_well ct__law_well), sl__law_well⟩) (c__law_well : PySem.W.codeIn K cd__law_well "_law_well" = true) (k__law_well : PySem.W.keepIn K (.ref f__law_well) = true)
    (a__law_draw : PySem.W.nsIn K mainGlobals "_law_draw" = some (some (.ref f__law_draw))) (l__law_draw : K.lookup f__law_draw = some ⟨oc__law_draw, od__law_draw, .func (PySem.W.fnOf "_law_draw" "_law_draw" (defArgs s__law_draw) (defBody s__law_draw) (defScope s__law_draw) .none kV__law_draw dc__law_draw pm__law_draw an__law_draw cd__law_draw ct__law_draw), sl__law_draw⟩) (c__law_draw : PySem.W.codeIn K cd__law_draw "_law_draw" = true) (k__law_draw : PySem.W.keepIn K (.ref f__law_draw) = true)
    (a__law_is_whole : PySem.W.nsIn K mainGlobals "_law_is_whole" = some (some (.ref f__law_is_whole))) (l__law_is_whole : K.lookup f__law_is_whole = some ⟨oc__law_is_whole, od__law_is_whole, .func (PySem.W.fnOf "_law_is_whole" "_law_is_whole" (defArgs s__law_is_whole) (defBody s__law_is_whole) (defScope s__law_is_whole) .none kV__law_is_whole dc__law_is_whole pm__law_is_whole an__law_is_whole cd__law_is_whole ct__law_is_whole), sl__law_is_whole⟩) (c__law_is_whole : PySem.W.codeIn K cd__law_is_whole "_law_is_whole" = true) (k__law_is_whole : PySem.W.keepIn K (.ref f__law_is_whole) = true)
    (a__law_is_tuple : PySem.W.nsIn K mainGlobals "_law_is_tuple" = some (some (.ref f__law_is_tuple))) (l__law_is_tuple : K.lookup f__law_is_tuple = some ⟨oc__law_is_tuple, od__law_is_tuple, .func (PySem.W.fnOf "_law_is_tuple" "_law_is_tuple" (defArgs s__law_is_tuple) (defBody s__law_is_tuple) (defScope s__law_is_tuple) .none kV__law_is_tuple dc__law_is_tuple pm__law_is_tuple an__law_is_tuple cd__law_is_tuple ct__law_is_tuple), sl__law_is_tuple⟩) (c__law_is_tuple : PySem.W.codeIn K cd__law_is_tuple "_law_is_tuple" = true) (k__law_is_tuple : PySem.W.keepIn K (.ref f__law_is_tuple) = true)
    (a__law_sections : PySem.W.nsIn K mainGlobals "_law_sections" = some (some (.ref f__law_sections))) (l__law_sections : K.lookup f__law_sections = some ⟨oc__law_sections, od__law_sections, .func (PySem.W.fnOf "_law_sections" "_law_sections" (defArgs s__law_sections) (defBody s__law_sections) (defScope s__law_sections) .none kV__law_sections dc__law_sections pm__law_sections an__law_sections cd__law_sections ct__law_sections), sl__law_sections⟩) (c__law_sections : PySem.W.codeIn K cd__law_sections "_law_sections" = true) (k__law_sections : PySem.W.keepIn K (.ref f__law_sections) = true)
    (a__law_maximal : PySem.W.nsIn K mainGlobals "_law_maximal" = some (some (.ref f__law_maximal))) (l__law_maximal : K.lookup f__law_maximal = some ⟨oc__law_maximal, od__law_maximal, .func (PySem.W.fnOf "_law_maximal" "_law_maximal" (defArgs s__law_maximal) (defBody s__law_maximal) (defScope s__law_maximal) .none kV__law_maximal dc__law_maximal pm__law_maximal an__law_maximal cd__law_maximal ct__law_maximal), sl__law_maximal⟩) (c__law_maximal : PySem.W.codeIn K cd__law_maximal "_law_maximal" = true) (k__law_maximal : PySem.W.keepIn K (.ref f__law_maximal) = true)
    (a_sections_in : PySem.W.nsIn K mainGlobals "sections_in" = some (some (.ref f_sections_in))) (l_sections_in : K.lookup f_sections_in = some ⟨oc_sections_in, od_sections_in, .func (PySem.W.fnOf "sections_in" "sections_in" (defArgs s_sections_in) (defBody s_sections_in) (defScope s_sections_in) .none kV_sections_in dc_sections_in pm_sections_in an_sections_in cd_sections_in ct_sections_in), sl_sections_in⟩) (c_sections_in : PySem.W.codeIn K cd_sections_in "sections_in" = true) (k_sections_in : PySem.W.keepIn K (.ref f_sections_in) = true)
    (a_is_index : PySem.W.nsIn K mainGlobals "is_index" = some (some (.ref f_is_index))) (l_is_index : K.lookup f_is_index = some ⟨oc_is_index, od_is_index, .func (PySem.W.fnOf "is_index" "is_index" (defArgs s_is_index) (defBody s_is_index) (defScope s_is_index) .none kV_is_index dc_is_index pm_is_index an_is_index cd_is_index ct_is_index), sl_is_index⟩) (c_is_index : PySem.W.codeIn K cd_is_index "is_index" = true) (k_is_index : PySem.W.keepIn K (.ref f_is_index) = true)
    (a_are_outcomes : PySem.W.nsIn K mainGlobals "are_outcomes" = some (some (.ref f_are_outcomes))) (l_are_outcomes : K.lookup f_are_outcomes = some ⟨oc_are_outcomes, od_are_outcomes, .func (PySem.W.fnOf "are_outcomes" "are_outcomes" (defArgs s_are_outcomes) (defBody s_are_outcomes) (defScope s_are_outcomes) .none kV_are_outcomes dc_are_outcomes pm_are_outcomes an_are_outcomes cd_are_outcomes ct_are_outcomes), sl_are_outcomes⟩) (c_are_outcomes : PySem.W.codeIn K cd_are_outcomes "are_outcomes" = true) (k_are_outcomes : PySem.W.keepIn K (.ref f_are_outcomes) = true)
    (a_is_within_another : PySem.W.nsIn K mainGlobals "is_within_another" = some (some (.ref f_is_within_another))) (l_is_within_another : K.lookup f_is_within_another = some ⟨oc_is_within_another, od_is_within_another, .func (PySem.W.fnOf "is_within_another" "is_within_another" (defArgs s_is_within_another) (defBody s_is_within_another) (defScope s_is_within_another) .none kV_is_within_another dc_is_within_another pm_is_within_another an_is_within_another cd_is_within_another ct_is_within_another), sl_is_within_another⟩) (c_is_within_another : PySem.W.codeIn K cd_is_within_another "is_within_another" = true) (k_is_within_another : PySem.W.keepIn K (.ref f_is_within_another) = true)
    (a__law_one : PySem.W.nsIn K mainGlobals "_law_one" = some (some (.ref f__law_one))) (l__law_one : K.lookup f__law_one = some ⟨oc__law_one, od__law_one, .func (PySem.W.fnOf "_law_one" "_law_one" (defArgs s__law_one) (defBody s__law_one) (defScope s__law_one) .none kV__law_one dc__law_one pm__law_one an__law_one cd__law_one ct__law_one), sl__law_one⟩) (c__law_one : PySem.W.codeIn K cd__law_one "_law_one" = true) (k__law_one : PySem.W.keepIn K (.ref f__law_one) = true)
    (a__law_web : PySem.W.nsIn K mainGlobals "_law_web" = some (some (.ref f__law_web))) (l__law_web : K.lookup f__law_web = some ⟨oc__law_web, od__law_web, .func (PySem.W.fnOf "_law_web" "_law_web" (defArgs s__law_web) (defBody s__law_web) (defScope s__law_web) .none kV__law_web dc__law_web pm__law_web an__law_web cd__law_web ct__law_web), sl__law_web⟩) (c__law_web : PySem.W.codeIn K cd__law_web "_law_web" = true) (k__law_web : PySem.W.keepIn K (.ref f__law_web) = true)
    (a__law_is_lot : PySem.W.nsIn K mainGlobals "_law_is_lot" = some (some (.ref f__law_is_lot))) (l__law_is_lot : K.lookup f__law_is_lot = some ⟨oc__law_is_lot, od__law_is_lot, .func (PySem.W.fnOf "_law_is_lot" "_law_is_lot" (defArgs s__law_is_lot) (defBody s__law_is_lot) (defScope s__law_is_lot) .none kV__law_is_lot dc__law_is_lot pm__law_is_lot an__law_is_lot cd__law_is_lot ct__law_is_lot), sl__law_is_lot⟩) (c__law_is_lot : PySem.W.codeIn K cd__law_is_lot "_law_is_lot" = true) (k__law_is_lot : PySem.W.keepIn K (.ref f__law_is_lot) = true)
    (a__law_planted : PySem.W.nsIn K mainGlobals "_law_planted" = some (some (.ref f__law_planted))) (l__law_planted : K.lookup f__law_planted = some ⟨oc__law_planted, od__law_planted, .func (PySem.W.fnOf "_law_planted" "_law_planted" (defArgs s__law_planted) (defBody s__law_planted) (defScope s__law_planted) .none kV__law_planted dc__law_planted pm__law_planted an__law_planted cd__law_planted ct__law_planted), sl__law_planted⟩) (c__law_planted : PySem.W.codeIn K cd__law_planted "_law_planted" = true) (k__law_planted : PySem.W.keepIn K (.ref f__law_planted) = true)
    (a_is_lot_of : PySem.W.nsIn K mainGlobals "is_lot_of" = some (some (.ref f_is_lot_of))) (l_is_lot_of : K.lookup f_is_lot_of = some ⟨oc_is_lot_of, od_is_lot_of, .func (PySem.W.fnOf "is_lot_of" "is_lot_of" (defArgs s_is_lot_of) (defBody s_is_lot_of) (defScope s_is_lot_of) .none kV_is_lot_of dc_is_lot_of pm_is_lot_of an_is_lot_of cd_is_lot_of ct_is_lot_of), sl_is_lot_of⟩) (c_is_lot_of : PySem.W.codeIn K cd_is_lot_of "is_lot_of" = true) (k_is_lot_of : PySem.W.keepIn K (.ref f_is_lot_of) = true)
    (a__law_odd : PySem.W.nsIn K mainGlobals "_law_odd" = some (some (.ref f__law_odd))) (l__law_odd : K.lookup f__law_odd = some ⟨oc__law_odd, od__law_odd, .func (PySem.W.fnOf "_law_odd" "_law_odd" (defArgs s__law_odd) (defBody s__law_odd) (defScope s__law_odd) .none kV__law_odd dc__law_odd pm__law_odd an__law_odd cd__law_odd ct__law_odd), sl__law_odd⟩) (c__law_odd : PySem.W.codeIn K cd__law_odd "_law_odd" = true) (k__law_odd : PySem.W.keepIn K (.ref f__law_odd) = true)
    (a__law_scenario : PySem.W.nsIn K mainGlobals "_law_scenario" = some (some (.ref f__law_scenario))) (l__law_scenario : K.lookup f__law_scenario = some ⟨oc__law_scenario, od__law_scenario, .func (PySem.W.fnOf "_law_scenario" "_law_scenario" (defArgs s__law_scenario) (defBody s__law_scenario) (defScope s__law_scenario) .none kV__law_scenario dc__law_scenario pm__law_scenario an__law_scenario cd__law_scenario ct__law_scenario), sl__law_scenario⟩) (c__law_scenario : PySem.W.codeIn K cd__law_scenario "_law_scenario" = true) (k__law_scenario : PySem.W.keepIn K (.ref f__law_scenario) = true)
    (a__law_is_scenario : PySem.W.nsIn K mainGlobals "_law_is_scenario" = some (some (.ref f__law_is_scenario))) (l__law_is_scenario : K.lookup f__law_is_scenario = some ⟨oc__law_is_scenario, od__law_is_scenario, .func (PySem.W.fnOf "_law_is_scenario" "_law_is_scenario" (defArgs s__law_is_scenario) (defBody s__law_is_scenario) (defScope s__law_is_scenario) .none kV__law_is_scenario dc__law_is_scenario pm__law_is_scenario an__law_is_scenario cd__law_is_scenario ct__law_is_scenario), sl__law_is_scenario⟩) (c__law_is_scenario : PySem.W.codeIn K cd__law_is_scenario "_law_is_scenario" = true) (k__law_is_scenario : PySem.W.keepIn K (.ref f__law_is_scenario) = true)
    (a_are_contexts : PySem.W.nsIn K mainGlobals "are_contexts" = some (some (.ref f_are_contexts))) (l_are_contexts : K.lookup f_are_contexts = some ⟨oc_are_contexts, od_are_contexts, .func (PySem.W.fnOf "are_contexts" "are_contexts" (defArgs s_are_contexts) (defBody s_are_contexts) (defScope s_are_contexts) .none kV_are_contexts dc_are_contexts pm_are_contexts an_are_contexts cd_are_contexts ct_are_contexts), sl_are_contexts⟩) (c_are_contexts : PySem.W.codeIn K cd_are_contexts "are_contexts" = true) (k_are_contexts : PySem.W.keepIn K (.ref f_are_contexts) = true)
    (a_need_lot : PySem.W.nsIn K mainGlobals "need_lot" = some (some (.ref f_need_lot))) (l_need_lot : K.lookup f_need_lot = some ⟨oc_need_lot, od_need_lot, .func (PySem.W.fnOf "need_lot" "need_lot" (defArgs s_need_lot) (defBody s_need_lot) (defScope s_need_lot) .none kV_need_lot dc_need_lot pm_need_lot an_need_lot cd_need_lot ct_need_lot), sl_need_lot⟩) (c_need_lot : PySem.W.codeIn K cd_need_lot "need_lot" = true) (k_need_lot : PySem.W.keepIn K (.ref f_need_lot) = true)
    (a__law_bent : PySem.W.nsIn K mainGlobals "_law_bent" = some (some (.ref f__law_bent))) (l__law_bent : K.lookup f__law_bent = some ⟨oc__law_bent, od__law_bent, .func (PySem.W.fnOf "_law_bent" "_law_bent" (defArgs s__law_bent) (defBody s__law_bent) (defScope s__law_bent) .none kV__law_bent dc__law_bent pm__law_bent an__law_bent cd__law_bent ct__law_bent), sl__law_bent⟩) (c__law_bent : PySem.W.codeIn K cd__law_bent "_law_bent" = true) (k__law_bent : PySem.W.keepIn K (.ref f__law_bent) = true)
    (a_is_scenario_form : PySem.W.nsIn K mainGlobals "is_scenario_form" = some (some (.ref f_is_scenario_form))) (l_is_scenario_form : K.lookup f_is_scenario_form = some ⟨oc_is_scenario_form, od_is_scenario_form, .func (PySem.W.fnOf "is_scenario_form" "is_scenario_form" (defArgs s_is_scenario_form) (defBody s_is_scenario_form) (defScope s_is_scenario_form) .none kV_is_scenario_form dc_is_scenario_form pm_is_scenario_form an_is_scenario_form cd_is_scenario_form ct_is_scenario_form), sl_is_scenario_form⟩) (c_is_scenario_form : PySem.W.codeIn K cd_is_scenario_form "is_scenario_form" = true) (k_is_scenario_form : PySem.W.keepIn K (.ref f_is_scenario_form) = true)
    (a__law_maybe : PySem.W.nsIn K mainGlobals "_law_maybe" = some (some (.ref f__law_maybe))) (l__law_maybe : K.lookup f__law_maybe = some ⟨oc__law_maybe, od__law_maybe, .func (PySem.W.fnOf "_law_maybe" "_law_maybe" (defArgs s__law_maybe) (defBody s__law_maybe) (defScope s__law_maybe) .none kV__law_maybe dc__law_maybe pm__law_maybe an__law_maybe cd__law_maybe ct__law_maybe), sl__law_maybe⟩) (c__law_maybe : PySem.W.codeIn K cd__law_maybe "_law_maybe" = true) (k__law_maybe : PySem.W.keepIn K (.ref f__law_maybe) = true)
    (a_need_scenario : PySem.W.nsIn K mainGlobals "need_scenario" = some (some (.ref f_need_scenario))) (l_need_scenario : K.lookup f_need_scenario = some ⟨oc_need_scenario, od_need_scenario, .func (PySem.W.fnOf "need_scenario" "need_scenario" (defArgs s_need_scenario) (defBody s_need_scenario) (defScope s_need_scenario) .none kV_need_scenario dc_need_scenario pm_need_scenario an_need_scenario cd_need_scenario ct_need_scenario), sl_need_scenario⟩) (c_need_scenario : PySem.W.codeIn K cd_need_scenario "need_scenario" = true) (k_need_scenario : PySem.W.keepIn K (.ref f_need_scenario) = true)
    (a_is_scenario : PySem.W.nsIn K mainGlobals "is_scenario" = some (some (.ref f_is_scenario))) (l_is_scenario : K.lookup f_is_scenario = some ⟨oc_is_scenario, od_is_scenario, .func (PySem.W.fnOf "is_scenario" "is_scenario" (defArgs s_is_scenario) (defBody s_is_scenario) (defScope s_is_scenario) .none kV_is_scenario dc_is_scenario pm_is_scenario an_is_scenario cd_is_scenario ct_is_scenario), sl_is_scenario⟩) (c_is_scenario : PySem.W.codeIn K cd_is_scenario "is_scenario" = true) (k_is_scenario : PySem.W.keepIn K (.ref f_is_scenario) = true)
    (a_sections_of : PySem.W.nsIn K mainGlobals "sections_of" = some (some (.ref f_sections_of))) (l_sections_of : K.lookup f_sections_of = some ⟨oc_sections_of, od_sections_of, .func (PySem.W.fnOf "sections_of" "sections_of" (defArgs s_sections_of) (defBody s_sections_of) (defScope s_sections_of) .none kV_sections_of dc_sections_of pm_sections_of an_sections_of cd_sections_of ct_sections_of), sl_sections_of⟩) (c_sections_of : PySem.W.codeIn K cd_sections_of "sections_of" = true) (k_sections_of : PySem.W.keepIn K (.ref f_sections_of) = true)
    (a__law_right : PySem.W.nsIn K mainGlobals "_law_right" = some (some (.ref f__law_right))) (l__law_right : K.lookup f__law_right = some ⟨oc__law_right, od__law_right, .func (PySem.W.fnOf "_law_right" "_law_right" (defArgs s__law_right) (defBody s__law_right) (defScope s__law_right) .none kV__law_right dc__law_right pm__law_right an__law_right cd__law_right ct__law_right), sl__law_right⟩) (c__law_right : PySem.W.codeIn K cd__law_right "_law_right" = true) (k__law_right : PySem.W.keepIn K (.ref f__law_right) = true)
    (a_law : PySem.W.nsIn K mainGlobals "law" = some (some (.ref f_law))) (l_law : K.lookup f_law = some ⟨oc_law, od_law, .func (PySem.W.fnOf "law" "law" (defArgs s_law) (defBody s_law) (defScope s_law) .none kV_law dc_law pm_law an_law cd_law ct_law), sl_law⟩) (c_law : PySem.W.codeIn K cd_law "law" = true) (k_law : PySem.W.keepIn K (.ref f_law) = true)
    (z_abs : PySem.W.nsIn K mainGlobals "abs" = some none)
    (z_all : PySem.W.nsIn K mainGlobals "all" = some none)
    (z_any : PySem.W.nsIn K mainGlobals "any" = some none)
    (z_bool : PySem.W.nsIn K mainGlobals "bool" = some none)
    (z_divmod : PySem.W.nsIn K mainGlobals "divmod" = some none)
    (z_int : PySem.W.nsIn K mainGlobals "int" = some none)
    (z_isinstance : PySem.W.nsIn K mainGlobals "isinstance" = some none)
    (z_len : PySem.W.nsIn K mainGlobals "len" = some none)
    (z_list : PySem.W.nsIn K mainGlobals "list" = some none)
    (z_max : PySem.W.nsIn K mainGlobals "max" = some none)
    (z_min : PySem.W.nsIn K mainGlobals "min" = some none)
    (z_range : PySem.W.nsIn K mainGlobals "range" = some none)
    (z_repr : PySem.W.nsIn K mainGlobals "repr" = some none)
    (z_sorted : PySem.W.nsIn K mainGlobals "sorted" = some none)
    (z_tuple : PySem.W.nsIn K mainGlobals "tuple" = some none)
    : Has P w K mg base 9 "law" ["script"] 1 fn_law kb_law := by
  have bt : Bts K mg := ⟨PySem.W.mg_none_of X G z_abs, PySem.W.mg_none_of X G z_all, PySem.W.mg_none_of X G z_any, PySem.W.mg_none_of X G z_bool, PySem.W.mg_none_of X G z_divmod, PySem.W.mg_none_of X G z_int, PySem.W.mg_none_of X G z_isinstance, PySem.W.mg_none_of X G z_len, PySem.W.mg_none_of X G z_list, PySem.W.mg_none_of X G z_max, PySem.W.mg_none_of X G z_min, PySem.W.mg_none_of X G z_range, PySem.W.mg_none_of X G z_repr, PySem.W.mg_none_of X G z_sorted, PySem.W.mg_none_of X G z_tuple⟩
  have h_is_whole := has_is_whole (P := P) (w := w) (base := base) bt (fun_mk (st := s_is_whole) l_is_whole c_is_whole k_is_whole) (PySem.W.mg_of X G a_is_whole)
  have h_sections_by := has_sections_by (P := P) (w := w) (base := base) bt (fun_mk (st := s_sections_by) l_sections_by c_sections_by k_sections_by) (PySem.W.mg_of X G a_sections_by)
  have h_sizes_of := has_sizes_of (P := P) (w := w) (base := base) bt (fun_mk (st := s_sizes_of) l_sizes_of c_sizes_of k_sizes_of) (PySem.W.mg_of X G a_sizes_of)
  have h_is_within := has_is_within (P := P) (w := w) (base := base) bt (fun_mk (st := s_is_within) l_is_within c_is_within k_is_within) (PySem.W.mg_of X G a_is_within)
  have h_is_tuple_of := has_is_tuple_of (P := P) (w := w) (base := base) bt (fun_mk (st := s_is_tuple_of) l_is_tuple_of c_is_tuple_of k_is_tuple_of) (PySem.W.mg_of X G a_is_tuple_of)
  have h_is_ascending := has_is_ascending (P := P) (w := w) (base := base) bt (fun_mk (st := s_is_ascending) l_is_ascending c_is_ascending k_is_ascending) (PySem.W.mg_of X G a_is_ascending)
  have h__law_well := has__law_well (P := P) (w := w) (base := base) bt (fun_mk (st := s__law_well) l__law_well c__law_well k__law_well) (PySem.W.mg_of X G a__law_well)
  have h__law_draw := has__law_draw (P := P) (w := w) (base := base) bt (fun_mk (st := s__law_draw) l__law_draw c__law_draw k__law_draw) (PySem.W.mg_of X G a__law_draw)
  have h__law_is_whole := has__law_is_whole (P := P) (w := w) (base := base) bt (fun_mk (st := s__law_is_whole) l__law_is_whole c__law_is_whole k__law_is_whole) (PySem.W.mg_of X G a__law_is_whole)
  have h__law_is_tuple := has__law_is_tuple (P := P) (w := w) (base := base) bt (fun_mk (st := s__law_is_tuple) l__law_is_tuple c__law_is_tuple k__law_is_tuple) (PySem.W.mg_of X G a__law_is_tuple)
  have h__law_sections := has__law_sections (P := P) (w := w) (base := base) bt (fun_mk (st := s__law_sections) l__law_sections c__law_sections k__law_sections) (PySem.W.mg_of X G a__law_sections)
  have h__law_maximal := has__law_maximal (P := P) (w := w) (base := base) bt (fun_mk (st := s__law_maximal) l__law_maximal c__law_maximal k__law_maximal) (PySem.W.mg_of X G a__law_maximal)
  have h_sections_in := has_sections_in (P := P) (w := w) (base := base) bt (fun_mk (st := s_sections_in) l_sections_in c_sections_in k_sections_in) (PySem.W.mg_of X G a_sections_in) h_sections_by h_sizes_of
  have h_is_index := has_is_index (P := P) (w := w) (base := base) bt (fun_mk (st := s_is_index) l_is_index c_is_index k_is_index) (PySem.W.mg_of X G a_is_index) h_is_whole
  have h_are_outcomes := has_are_outcomes (P := P) (w := w) (base := base) bt (fun_mk (st := s_are_outcomes) l_are_outcomes c_are_outcomes k_are_outcomes) (PySem.W.mg_of X G a_are_outcomes) h_is_whole
  have h_is_within_another := has_is_within_another (P := P) (w := w) (base := base) bt (fun_mk (st := s_is_within_another) l_is_within_another c_is_within_another k_is_within_another) (PySem.W.mg_of X G a_is_within_another) h_is_within
  have h__law_one := has__law_one (P := P) (w := w) (base := base) bt (fun_mk (st := s__law_one) l__law_one c__law_one k__law_one) (PySem.W.mg_of X G a__law_one) h__law_draw
  have h__law_web := has__law_web (P := P) (w := w) (base := base) bt (fun_mk (st := s__law_web) l__law_web c__law_web k__law_web) (PySem.W.mg_of X G a__law_web) h__law_maximal h__law_draw
  have h__law_is_lot := has__law_is_lot (P := P) (w := w) (base := base) bt (fun_mk (st := s__law_is_lot) l__law_is_lot c__law_is_lot k__law_is_lot) (PySem.W.mg_of X G a__law_is_lot) h__law_is_whole
  have h__law_planted := has__law_planted (P := P) (w := w) (base := base) bt (fun_mk (st := s__law_planted) l__law_planted c__law_planted k__law_planted) (PySem.W.mg_of X G a__law_planted) h__law_draw
  have h_is_lot_of := has_is_lot_of (P := P) (w := w) (base := base) bt (fun_mk (st := s_is_lot_of) l_is_lot_of c_is_lot_of k_is_lot_of) (PySem.W.mg_of X G a_is_lot_of) h_is_ascending h_is_index
  have h__law_odd := has__law_odd (P := P) (w := w) (base := base) bt (fun_mk (st := s__law_odd) l__law_odd c__law_odd k__law_odd) (PySem.W.mg_of X G a__law_odd) h__law_one
  have h__law_scenario := has__law_scenario (P := P) (w := w) (base := base) bt (fun_mk (st := s__law_scenario) l__law_scenario c__law_scenario k__law_scenario) (PySem.W.mg_of X G a__law_scenario) h__law_web h__law_draw h__law_one
  have h__law_is_scenario := has__law_is_scenario (P := P) (w := w) (base := base) bt (fun_mk (st := s__law_is_scenario) l__law_is_scenario c__law_is_scenario k__law_is_scenario) (PySem.W.mg_of X G a__law_is_scenario) h__law_maximal h__law_is_lot h__law_is_whole h__law_is_tuple
  have h_are_contexts := has_are_contexts (P := P) (w := w) (base := base) bt (fun_mk (st := s_are_contexts) l_are_contexts c_are_contexts k_are_contexts) (PySem.W.mg_of X G a_are_contexts) h_is_within_another h_is_ascending h_is_lot_of
  have h_need_lot := has_need_lot (P := P) (w := w) (base := base) bt (fun_mk (st := s_need_lot) l_need_lot c_need_lot k_need_lot) (PySem.W.mg_of X G a_need_lot) h_is_lot_of
  have h__law_bent := has__law_bent (P := P) (w := w) (base := base) bt (fun_mk (st := s__law_bent) l__law_bent c__law_bent k__law_bent) (PySem.W.mg_of X G a__law_bent) h__law_is_whole h__law_odd h__law_draw
  have h_is_scenario_form := has_is_scenario_form (P := P) (w := w) (base := base) bt (fun_mk (st := s_is_scenario_form) l_is_scenario_form c_is_scenario_form k_is_scenario_form) (PySem.W.mg_of X G a_is_scenario_form) h_are_contexts h_are_outcomes h_is_tuple_of
  have h__law_maybe := has__law_maybe (P := P) (w := w) (base := base) bt (fun_mk (st := s__law_maybe) l__law_maybe c__law_maybe k__law_maybe) (PySem.W.mg_of X G a__law_maybe) h__law_bent h__law_odd h__law_draw
  have h_need_scenario := has_need_scenario (P := P) (w := w) (base := base) bt (fun_mk (st := s_need_scenario) l_need_scenario c_need_scenario k_need_scenario) (PySem.W.mg_of X G a_need_scenario) h_is_scenario_form
  have h_is_scenario := has_is_scenario (P := P) (w := w) (base := base) bt (fun_mk (st := s_is_scenario) l_is_scenario c_is_scenario k_is_scenario) (PySem.W.mg_of X G a_is_scenario) h_is_scenario_form
  have h_sections_of := has_sections_of (P := P) (w := w) (base := base) bt (fun_mk (st := s_sections_of) l_sections_of c_sections_of k_sections_of) (PySem.W.mg_of X G a_sections_of) h_sections_in h_need_lot h_need_scenario
  have h__law_right := has__law_right (P := P) (w := w) (base := base) bt (fun_mk (st := s__law_right) l__law_right c__law_right k__law_right) (PySem.W.mg_of X G a__law_right) h_sections_of h__law_sections h__law_draw h_is_scenario h__law_is_scenario h__law_planted h__law_odd h__law_maybe h__law_bent h__law_scenario
  have h_law := has_law (P := P) (w := w) (base := base) bt (fun_mk (st := s_law) l_law c_law k_law) (PySem.W.mg_of X G a_law) h__law_right h__law_well
  exact h_law
end Lk02

end
section
set_option maxHeartbeats 1000000
namespace Lk02
open PySem Dv
/-! ### is_whole -/
noncomputable def v_is_whole (p_value : PyData) : Option (PyData) := (andO (isi "int" (p_value)) (notO (isi "bool" (p_value)))).bind fun x1 => some (x1)
theorem v_is_whole_ok : ∀ (p_value : PyData) a, v_is_whole p_value = some a → fn_is_whole [.pl p_value] = some ((fun a : PyData => Ret.pl a) a, (fun _ : PyData => [none]) a) := fun p_value a h => by
  have e : Sim bd_is_whole [some (.pl (p_value))] _ (Pf [.pl p_value] (fun a : PyData => Ret.pl a) (fun _ : PyData => [none])) := (sim_last (sim_ret (c := fun d => d) (ev_andV (ev_isi "int" (ev_var 0)) (ev_notV (ev_isi "bool" (ev_var 0)))) (fun _ => ⟨rfl, rfl⟩)))
  exact fn_sim (m := 1) (f := bd_is_whole) (xs := [.pl p_value]) (r := (fun a : PyData => Ret.pl a)) (os := (fun _ : PyData => [none])) (a := a) e h
/-! ### sections_by -/
noncomputable def v_sections_by (p_sizes : PyData) : Option (PyData) := ((((tupO []).bind fun x2 => some ([x2])).bind fun x3 => lstO x3).bind fun x4 => some ((PyData.list x4))).bind fun x5 => (itemsOf (p_sizes)).bind fun x28 => (loopM (fun (s18 : PyData) (a20 : PyData) => (((itemsOf s18).bind fun x24 => lc2O (fun a21 => some true) (fun a21 => (rngO a20).bind some) (fun a21 b22 => some true) (fun a21 b22 => (tupO [b22]).bind fun x23 => gAdd a21 x23) x24).bind fun x25 => some ((PyData.list x25))).bind fun x26 => some (x26)) x28 x5).bind fun (s18 : PyData) => some (s18)
theorem v_sections_by_ok : ∀ (p_sizes : PyData) a, v_sections_by p_sizes = some a → fn_sections_by [.pl p_sizes] = some ((fun a : PyData => Ret.pl a) a, (fun _ : PyData => [none]) a) := fun p_sizes a h => by
  have e : Sim bd_sections_by [some (.pl (p_sizes)), none, none, none, none] _ (Pf [.pl p_sizes] (fun a : PyData => Ret.pl a) (fun _ : PyData => [none])) := (sim_asg (ev_f (ev_lst (ev_cons (ev_tup ev_nil) ev_nil))) (fun x6 => (sim_forM (C := (fun (s : PyData) (j : Option PyData) => [some (.pl (p_sizes)), some (.pl s), (j).map PV.pl, none, none])) (fun a : PyData => a) (fun s7 j8 a9 => [some (.pl (p_sizes)), some (.pl s7), some (.pl a9), none, none]) some some_map x6 none (ev_items (ev_var 0)) rfl (fun _ _ _ => rfl) (fun s7 j8 a9 => (sim_last (sim_asg (ev_f (ev_lc2nn (ev_items (ev_var 1)) (fun _ => ev_yes) (fun _ => (ev_rng1 (ev_var 2))) (fun _ _ => ev_yes) (fun _ _ => (ev_2 (ev_var 3) (ev_tup (ev_cons (ev_var 4) ev_nil)))))) (fun x16 => (sim_end (a := x16) ⟨.inl rfl, (some a9), rfl⟩))))) (fun s7 j8 => (sim_last (sim_ret (c := fun d => d) (ev_var 1) (fun _ => ⟨rfl, rfl⟩)))))))
  exact fn_sim (m := 5) (f := bd_sections_by) (xs := [.pl p_sizes]) (r := (fun a : PyData => Ret.pl a)) (os := (fun _ : PyData => [none])) (a := a) e h
/-! ### sizes_of -/
noncomputable def v_sizes_of (p_scenario : PyData) (p_lot : PyData) : Option (PyData) := (((((itemsOf (p_lot)).bind fun x31 => lmO (fun a29 => (gIx (p_scenario) (PyData.int 0)).bind fun x30 => gIx x30 a29) x31).bind fun x32 => some ((PyData.list x32))).bind fun x33 => some ([x33])).bind fun x34 => gTuple x34).bind fun x35 => some (x35)
theorem v_sizes_of_ok : ∀ (p_scenario : PyData) (p_lot : PyData) a, v_sizes_of p_scenario p_lot = some a → fn_sizes_of [.pl p_scenario, .pl p_lot] = some ((fun a : PyData => Ret.pl a) a, (fun _ : PyData => [none, none]) a) := fun p_scenario p_lot a h => by
  have e : Sim bd_sizes_of [some (.pl (p_scenario)), some (.pl (p_lot)), none] _ (Pf [.pl p_scenario, .pl p_lot] (fun a : PyData => Ret.pl a) (fun _ : PyData => [none, none])) := (sim_last (sim_ret (c := fun d => d) (ev_cb (ev_cons (ev_f (ev_lcm (ev_items (ev_var 1)) (fun _ => (ev_2 (ev_2 (ev_var 0) (ev_c (.int 0))) (ev_var 2))))) ev_nil)) (fun _ => ⟨rfl, rfl⟩)))
  exact fn_sim (m := 3) (f := bd_sizes_of) (xs := [.pl p_scenario, .pl p_lot]) (r := (fun a : PyData => Ret.pl a)) (os := (fun _ : PyData => [none, none])) (a := a) e h
/-! ### is_within -/
noncomputable def v_is_within (p_lot : PyData) (p_other : PyData) : Option (PyData) := (((((itemsOf (p_lot)).bind fun x37 => lmO (fun a36 => gIn a36 (p_other)) x37).bind fun x38 => some ((PyData.list x38))).bind fun x39 => some ([x39])).bind fun x40 => gAll x40).bind fun x41 => some (x41)
theorem v_is_within_ok : ∀ (p_lot : PyData) (p_other : PyData) a, v_is_within p_lot p_other = some a → fn_is_within [.pl p_lot, .pl p_other] = some ((fun a : PyData => Ret.pl a) a, (fun _ : PyData => [none, none]) a) := fun p_lot p_other a h => by
  have e : Sim bd_is_within [some (.pl (p_lot)), some (.pl (p_other)), none] _ (Pf [.pl p_lot, .pl p_other] (fun a : PyData => Ret.pl a) (fun _ : PyData => [none, none])) := (sim_last (sim_ret (c := fun d => d) (ev_cb (ev_cons (ev_f (ev_lcm (ev_items (ev_var 0)) (fun _ => (ev_2 (ev_var 2) (ev_var 1))))) ev_nil)) (fun _ => ⟨rfl, rfl⟩)))
  exact fn_sim (m := 3) (f := bd_is_within) (xs := [.pl p_lot, .pl p_other]) (r := (fun a : PyData => Ret.pl a)) (os := (fun _ : PyData => [none, none])) (a := a) e h
/-! ### is_tuple_of -/
noncomputable def v_is_tuple_of (p_value : PyData) (p_many : PyData) : Option (PyData) := (andO (isi "tuple" (p_value)) ((gLen [p_value]).bind fun x42 => gEqA x42 (p_many))).bind fun x43 => some (x43)
theorem v_is_tuple_of_ok : ∀ (p_value : PyData) (p_many : PyData) a, v_is_tuple_of p_value p_many = some a → fn_is_tuple_of [.pl p_value, .pl p_many] = some ((fun a : PyData => Ret.pl a) a, (fun _ : PyData => [none, none]) a) := fun p_value p_many a h => by
  have e : Sim bd_is_tuple_of [some (.pl (p_value)), some (.pl (p_many))] _ (Pf [.pl p_value, .pl p_many] (fun a : PyData => Ret.pl a) (fun _ : PyData => [none, none])) := (sim_last (sim_ret (c := fun d => d) (ev_andV (ev_isi "tuple" (ev_var 0)) (ev_2 (ev_cb (ev_cons (ev_var 0) ev_nil)) (ev_var 1))) (fun _ => ⟨rfl, rfl⟩)))
  exact fn_sim (m := 2) (f := bd_is_tuple_of) (xs := [.pl p_value, .pl p_many]) (r := (fun a : PyData => Ret.pl a)) (os := (fun _ : PyData => [none, none])) (a := a) e h
/-! ### is_ascending -/
noncomputable def v_is_ascending (p_value : PyData) : Option (PyData) := ((((((gLen [p_value]).bind fun x48 => rng2O (PyData.int 1) x48).bind fun x49 => lmO (fun a44 => ((gSub a44 (PyData.int 1)).bind fun x45 => gIx (p_value) x45).bind fun x46 => (gIx (p_value) a44).bind fun x47 => gLt x46 x47) x49).bind fun x50 => some ((PyData.list x50))).bind fun x51 => some ([x51])).bind fun x52 => gAll x52).bind fun x53 => some (x53)
theorem v_is_ascending_ok : ∀ (p_value : PyData) a, v_is_ascending p_value = some a → fn_is_ascending [.pl p_value] = some ((fun a : PyData => Ret.pl a) a, (fun _ : PyData => [none]) a) := fun p_value a h => by
  have e : Sim bd_is_ascending [some (.pl (p_value)), none] _ (Pf [.pl p_value] (fun a : PyData => Ret.pl a) (fun _ : PyData => [none])) := (sim_last (sim_ret (c := fun d => d) (ev_cb (ev_cons (ev_f (ev_lcm (ev_rng2 (ev_c (.int 1)) (ev_cb (ev_cons (ev_var 0) ev_nil))) (fun _ => (ev_2 (ev_2 (ev_var 0) (ev_2 (ev_var 1) (ev_c (.int 1)))) (ev_2 (ev_var 0) (ev_var 1)))))) ev_nil)) (fun _ => ⟨rfl, rfl⟩)))
  exact fn_sim (m := 2) (f := bd_is_ascending) (xs := [.pl p_value]) (r := (fun a : PyData => Ret.pl a)) (os := (fun _ : PyData => [none])) (a := a) e h
/-! ### _law_well -/
noncomputable def v__law_well (p_script : PyData) (p_lap : PyData) : Option (List PyData) := ((gMul (PyData.int 7919) (p_lap)).bind fun x54 => gAdd (PyData.int 50023) x54).bind fun x55 => (((partO (PyData.int 10)).bind fun x204 => gSl (p_script) none x204).bind fun x205 => itemsOf x205).bind fun x206 => (loopM (fun (s132 : PyData) (a134 : PyData) => ((((((gMul s132 (PyData.int 52361)).bind fun x135 => (((gInt [a134]).bind fun x136 => gMod x136 (PyData.int 2147483489)).bind fun x137 => gMul x137 (PyData.int 7)).bind fun x138 => gAdd x135 x138).bind fun x139 => gAdd x139 (PyData.int 19)).bind fun x140 => some ([x140])).bind fun x141 => gInt x141).bind fun x142 => gMod x142 (PyData.int 2147483489)).bind fun x143 => some (x143)) x206 x55).bind fun (s132 : PyData) => ((((gLen [p_script]).bind fun x145 => gLt (p_lap) x145).bind fun x146 => tBd x146).bind fun x147 => if x147 then ((gIx (p_script) (p_lap)).bind fun x148 => some ([x148])).bind fun x149 => gInt x149 else some ((PyData.int 0))).bind fun x150 => ((((((gMul s132 (PyData.int 47)).bind fun x178 => (((gInt [x150]).bind fun x179 => gMod x179 (PyData.int 2147483489)).bind fun x180 => gMul x180 (PyData.int 30109)).bind fun x181 => gAdd x178 x181).bind fun x182 => gAdd x182 (PyData.int 5)).bind fun x183 => some ([x183])).bind fun x184 => gInt x184).bind fun x185 => gMod x185 (PyData.int 2147483489)).bind fun x186 => ((((((gLt x150 (PyData.int 0)).bind fun x196 => tBd x196).bind fun x197 => if x197 then some true else ((gPow (PyData.int 10) (PyData.int 14)).bind fun x198 => gGe x150 x198).bind fun x199 => tBd x199).bind fun x200 => if x200 then gAbs [x150] else some ((PyData.int 0))).bind fun x201 => some ([x201, x186, (PyData.int 0)])).bind fun x202 => lstO x202).bind fun x203 => some (x203)
theorem v__law_well_ok : ∀ (p_script : PyData) (p_lap : PyData) a, v__law_well p_script p_lap = some a → fn__law_well [.pl p_script, .pl p_lap] = some ((fun a : List PyData => Ret.fr a) a, (fun _ : List PyData => [none, none]) a) := fun p_script p_lap a h => by
  have e : Sim bd__law_well [some (.pl (p_script)), some (.pl (p_lap)), none, none, none] _ (Pf [.pl p_script, .pl p_lap] (fun a : List PyData => Ret.fr a) (fun _ : List PyData => [none, none])) := (sim_asg (ev_2 (ev_c (.int 50023)) (ev_2 (ev_c (.int 7919)) (ev_var 1))) (fun x56 => (sim_forM (C := (fun (s : PyData) (j : Option PyData) => [some (.pl (p_script)), some (.pl (p_lap)), some (.pl s), (j).map PV.pl, none])) (fun a : PyData => a) (fun s57 j58 a59 => [some (.pl (p_script)), some (.pl (p_lap)), some (.pl s57), some (.pl a59), none]) some some_map x56 none (ev_items (ev_sl (ev_var 0) ev_no (ev_part (ev_c (.int 10))))) rfl (fun _ _ _ => rfl) (fun s57 j58 a59 => (sim_last (sim_asg (ev_2 (ev_cb (ev_cons (ev_2 (ev_2 (ev_2 (ev_var 2) (ev_c (.int 52361))) (ev_2 (ev_2 (ev_cb (ev_cons (ev_var 3) ev_nil)) (ev_c (.int 2147483489))) (ev_c (.int 7)))) (ev_c (.int 19))) ev_nil)) (ev_c (.int 2147483489))) (fun x69 => (sim_end (a := x69) ⟨.inl rfl, (some a59), rfl⟩))))) (fun s57 j58 => (sim_asg (ev_if (ev_T (ev_2 (ev_var 1) (ev_cb (ev_cons (ev_var 0) ev_nil)))) (ev_cb (ev_cons (ev_2 (ev_var 0) (ev_var 1)) ev_nil)) (ev_c (.int 0))) (fun x76 => (sim_asg (ev_2 (ev_cb (ev_cons (ev_2 (ev_2 (ev_2 (ev_var 2) (ev_c (.int 47))) (ev_2 (ev_2 (ev_cb (ev_cons (ev_var 4) ev_nil)) (ev_c (.int 2147483489))) (ev_c (.int 30109)))) (ev_c (.int 5))) ev_nil)) (ev_c (.int 2147483489))) (fun x86 => (sim_last (sim_retF (c := fun d => d) (ev_lst (ev_cons (ev_if (ev_orT (ev_T (ev_2 (ev_var 4) (ev_c (.int 0)))) (ev_T (ev_2 (ev_var 4) (ev_2 (ev_c (.int 10)) (ev_c (.int 14)))))) (ev_cb (ev_cons (ev_var 4) ev_nil)) (ev_c (.int 0))) (ev_cons (ev_var 2) (ev_cons (ev_c (.int 0)) ev_nil)))) (fun _ => ⟨rfl, rfl⟩)))))))))))
  exact fn_sim (m := 5) (f := bd__law_well) (xs := [.pl p_script, .pl p_lap]) (r := (fun a : List PyData => Ret.fr a)) (os := (fun _ : List PyData => [none, none])) (a := a) e h
/-! ### _law_draw -/
noncomputable def v__law_draw (p_well : List PyData) (p_few : PyData) : Option (PyData × List PyData) := match fn__law_draw [.rf p_well, .pl p_few] with
  | some (.pl d, [some w, none]) => some (d, w)
  | _ => none
theorem v__law_draw_ok : ∀ (p_well : List PyData) (p_few : PyData) a, v__law_draw p_well p_few = some a → fn__law_draw [.rf p_well, .pl p_few] = some ((fun p : PyData × List PyData => Ret.pl p.1) a, (fun p : PyData × List PyData => [some p.2, none]) a) := fun p_well p_few a h => by
  unfold v__law_draw at h
  split at h
  · rename_i e; cases h; rw [e]
  · cases h
/-! ### _law_is_whole -/
noncomputable def v__law_is_whole (p_thing : PyData) : Option (PyData) := (andO (isi "int" (p_thing)) (notO (isi "bool" (p_thing)))).bind fun x207 => some (x207)
theorem v__law_is_whole_ok : ∀ (p_thing : PyData) a, v__law_is_whole p_thing = some a → fn__law_is_whole [.pl p_thing] = some ((fun a : PyData => Ret.pl a) a, (fun _ : PyData => [none]) a) := fun p_thing a h => by
  have e : Sim bd__law_is_whole [some (.pl (p_thing))] _ (Pf [.pl p_thing] (fun a : PyData => Ret.pl a) (fun _ : PyData => [none])) := (sim_last (sim_ret (c := fun d => d) (ev_andV (ev_isi "int" (ev_var 0)) (ev_notV (ev_isi "bool" (ev_var 0)))) (fun _ => ⟨rfl, rfl⟩)))
  exact fn_sim (m := 1) (f := bd__law_is_whole) (xs := [.pl p_thing]) (r := (fun a : PyData => Ret.pl a)) (os := (fun _ : PyData => [none])) (a := a) e h
/-! ### _law_is_tuple -/
noncomputable def v__law_is_tuple (p_thing : PyData) (p_few : PyData) : Option (PyData) := (andO (isi "tuple" (p_thing)) ((gLen [p_thing]).bind fun x208 => gEqA x208 (p_few))).bind fun x209 => some (x209)
theorem v__law_is_tuple_ok : ∀ (p_thing : PyData) (p_few : PyData) a, v__law_is_tuple p_thing p_few = some a → fn__law_is_tuple [.pl p_thing, .pl p_few] = some ((fun a : PyData => Ret.pl a) a, (fun _ : PyData => [none, none]) a) := fun p_thing p_few a h => by
  have e : Sim bd__law_is_tuple [some (.pl (p_thing)), some (.pl (p_few))] _ (Pf [.pl p_thing, .pl p_few] (fun a : PyData => Ret.pl a) (fun _ : PyData => [none, none])) := (sim_last (sim_ret (c := fun d => d) (ev_andV (ev_isi "tuple" (ev_var 0)) (ev_2 (ev_cb (ev_cons (ev_var 0) ev_nil)) (ev_var 1))) (fun _ => ⟨rfl, rfl⟩)))
  exact fn_sim (m := 2) (f := bd__law_is_tuple) (xs := [.pl p_thing, .pl p_few]) (r := (fun a : PyData => Ret.pl a)) (os := (fun _ : PyData => [none, none])) (a := a) e h
/-! ### _law_sections -/
noncomputable def v__law_sections (p_outcomes : PyData) (p_lot : PyData) : Option (PyData) := ((((tupO []).bind fun x210 => some ([x210])).bind fun x211 => lstO x211).bind fun x212 => some ((PyData.list x212))).bind fun x213 => (itemsOf (p_lot)).bind fun x282 => (loopM (fun (s249 : PyData) (a251 : PyData) => ((lstO []).bind fun x252 => some ((PyData.list x252))).bind fun x253 => (itemsOf s249).bind fun x280 => (loopM (fun (s268 : PyData) (a270 : PyData) => (((((gIx (p_outcomes) a251).bind fun x273 => rngO x273).bind fun x274 => lmO (fun a271 => (tupO [a271]).bind fun x272 => gAdd a270 x272) x274).bind fun x275 => some ((PyData.list x275))).bind fun x276 => gAdd s268 x276).bind fun x277 => some (x277)) x280 x253).bind fun (s268 : PyData) => some (s268)) x282 x213).bind fun (s249 : PyData) => (gTuple [s249]).bind fun x281 => some (x281)
theorem v__law_sections_ok : ∀ (p_outcomes : PyData) (p_lot : PyData) a, v__law_sections p_outcomes p_lot = some a → fn__law_sections [.pl p_outcomes, .pl p_lot] = some ((fun a : PyData => Ret.pl a) a, (fun _ : PyData => [none, none]) a) := fun p_outcomes p_lot a h => by
  have e : Sim bd__law_sections [some (.pl (p_outcomes)), some (.pl (p_lot)), none, none, none, none, none] _ (Pf [.pl p_outcomes, .pl p_lot] (fun a : PyData => Ret.pl a) (fun _ : PyData => [none, none])) := (sim_asg (ev_f (ev_lst (ev_cons (ev_tup ev_nil) ev_nil))) (fun x214 => (sim_forM (C := (fun (s : PyData) (j : Option PyData × Option PyData × Option PyData) => [some (.pl (p_outcomes)), some (.pl (p_lot)), some (.pl s), (j.1).map PV.pl, (j.2.1).map PV.pl, (j.2.2).map PV.pl, none])) (fun a : PyData => a) (fun s215 j216 a217 => [some (.pl (p_outcomes)), some (.pl (p_lot)), some (.pl s215), some (.pl a217), (j216.2.1).map PV.pl, (j216.2.2).map PV.pl, none]) some some_map x214 (none, none, none) (ev_items (ev_var 1)) rfl (fun _ _ _ => rfl) (fun s215 j216 a217 => (sim_asg (ev_f (ev_lst ev_nil)) (fun x220 => (sim_forM (C := (fun (s : PyData) (j : Option PyData) => [some (.pl (p_outcomes)), some (.pl (p_lot)), some (.pl s215), some (.pl a217), some (.pl s), (j).map PV.pl, none])) (fun a : PyData => a) (fun s221 j222 a223 => [some (.pl (p_outcomes)), some (.pl (p_lot)), some (.pl s215), some (.pl a217), some (.pl s221), some (.pl a223), none]) some some_map x220 (j216.2.2) (ev_items (ev_var 2)) rfl (fun _ _ _ => rfl) (fun s221 j222 a223 => (sim_last (sim_asg (ev_2 (ev_var 4) (ev_f (ev_lcm (ev_rng1 (ev_2 (ev_var 0) (ev_var 3))) (fun _ => (ev_2 (ev_var 5) (ev_tup (ev_cons (ev_var 6) ev_nil))))))) (fun x231 => (sim_end (a := x231) ⟨.inl rfl, (some a223), rfl⟩))))) (fun s221 j222 => (sim_last (sim_asg (ev_var 4) (fun x232 => (sim_end (a := x232) ⟨.inl rfl, (some a217, some s221, j222), rfl⟩))))))))) (fun s215 j216 => (sim_last (sim_ret (c := fun d => d) (ev_cb (ev_cons (ev_var 2) ev_nil)) (fun _ => ⟨rfl, rfl⟩)))))))
  exact fn_sim (m := 7) (f := bd__law_sections) (xs := [.pl p_outcomes, .pl p_lot]) (r := (fun a : PyData => Ret.pl a)) (os := (fun _ : PyData => [none, none])) (a := a) e h
/-! ### _law_maximal -/
noncomputable def v__law_maximal (p_lots : PyData) : Option (PyData) := (lstO []).bind fun x283 => ((gSorted [p_lots]).bind fun x357 => itemsOf x357).bind fun x358 => (loopM (fun (s322 : List PyData) (a324 : PyData) => (((itemsOf (p_lots)).bind fun x338 => lcO (fun a325 => (((gLen [a325]).bind fun x326 => (gLen [a324]).bind fun x327 => gGt x326 x327).bind fun x328 => tBd x328).bind fun x329 => if x329 then ((((itemsOf a324).bind fun x332 => lcO (fun a330 => (gNotIn a330 a325).bind fun x331 => tBd x331) (fun a330 => some (a330)) x332).bind fun x333 => some ((PyData.list x333))).bind fun x334 => ((lstO []).bind fun x335 => some ((PyData.list x335))).bind fun x336 => gEqA x334 x336).bind fun x337 => tBd x337 else some false) (fun a325 => some (a325)) x338).bind fun x339 => some ((PyData.list x339))).bind fun x340 => (((((lstO []).bind fun x350 => some ((PyData.list x350))).bind fun x351 => gEqA x340 x351).bind fun x352 => tBd x352).bind fun x353 => if x353 then (gNotIn a324 (.list s322)).bind fun x354 => tBd x354 else some false).bind fun x355 => if x355 then (appO s322 a324).bind fun l349 => some (l349) else some (s322)) x358 x283).bind fun (s322 : List PyData) => (gTuple [.list s322]).bind fun x356 => some (x356)
theorem v__law_maximal_ok : ∀ (p_lots : PyData) a, v__law_maximal p_lots = some a → fn__law_maximal [.pl p_lots] = some ((fun a : PyData => Ret.pl a) a, (fun _ : PyData => [none]) a) := fun p_lots a h => by
  have e : Sim bd__law_maximal [some (.pl (p_lots)), none, none, none, none, none] _ (Pf [.pl p_lots] (fun a : PyData => Ret.pl a) (fun _ : PyData => [none])) := (sim_own (ev_lst ev_nil) (fun x284 => (sim_forM (C := (fun (s : List PyData) (j : Option PyData × Option PyData) => [some (.pl (p_lots)), some (.ow s), (j.1).map PV.pl, (j.2).map PV.pl, none, none])) (fun a : PyData => a) (fun s285 j286 a287 => [some (.pl (p_lots)), some (.ow s285), some (.pl a287), (j286.2).map PV.pl, none, none]) some some_map x284 (none, none) (ev_items (ev_cb (ev_cons (ev_var 0) ev_nil))) rfl (fun _ _ _ => rfl) (fun s285 j286 a287 => (sim_asg (ev_f (ev_lcf (ev_items (ev_var 0)) (fun _ => (ev_andT (ev_T (ev_2 (ev_cb (ev_cons (ev_var 4) ev_nil)) (ev_cb (ev_cons (ev_var 2) ev_nil)))) (ev_T (ev_2 (ev_f (ev_lcf (ev_items (ev_var 2)) (fun _ => (ev_T (ev_2 (ev_var 5) (ev_var 4)))) (fun _ => (ev_var 5)))) (ev_f (ev_lst ev_nil)))))) (fun _ => (ev_var 4)))) (fun x304 => (sim_last (sim_if (ev_andT (ev_T (ev_2 (ev_var 3) (ev_f (ev_lst ev_nil)))) (ev_T (ev_OR 1 (ev_var 2)))) (sim_app (ev_var 2) (fun l305 => (sim_end (a := l305) ⟨.inl rfl, (some a287, some x304), rfl⟩))) (sim_next (sim_end (a := s285) ⟨.inl rfl, (some a287, some x304), rfl⟩))))))) (fun s285 j286 => (sim_last (sim_ret (c := fun d => d) (ev_OU (g := fun y => gTuple [y]) 1) (fun _ => ⟨rfl, rfl⟩)))))))
  exact fn_sim (m := 6) (f := bd__law_maximal) (xs := [.pl p_lots]) (r := (fun a : PyData => Ret.pl a)) (os := (fun _ : PyData => [none])) (a := a) e h
/-! ### sections_in -/
noncomputable def v_sections_in (p_scenario : PyData) (p_lot : PyData) : Option (PyData) := ((v_sizes_of (p_scenario) (p_lot)).bind fun x359 => v_sections_by x359).bind fun x360 => some (x360)
theorem v_sections_in_ok : ∀ (p_scenario : PyData) (p_lot : PyData) a, v_sections_in p_scenario p_lot = some a → fn_sections_in [.pl p_scenario, .pl p_lot] = some ((fun a : PyData => Ret.pl a) a, (fun _ : PyData => [none, none]) a) := fun p_scenario p_lot a h => by
  have e : Sim bd_sections_in [some (.pl (p_scenario)), some (.pl (p_lot))] _ (Pf [.pl p_scenario, .pl p_lot] (fun a : PyData => Ret.pl a) (fun _ : PyData => [none, none])) := (sim_last (sim_ret (c := fun d => d) (ev_call1 (ev_call2 (ev_var 0) (ev_var 1) v_sizes_of_ok) v_sections_by_ok) (fun _ => ⟨rfl, rfl⟩)))
  exact fn_sim (m := 2) (f := bd_sections_in) (xs := [.pl p_scenario, .pl p_lot]) (r := (fun a : PyData => Ret.pl a)) (os := (fun _ : PyData => [none, none])) (a := a) e h
/-! ### is_index -/
noncomputable def v_is_index (p_value : PyData) (p_many : PyData) : Option (PyData) := (andO (v_is_whole (p_value)) (andO (gLe (PyData.int 0) (p_value)) (gLt (p_value) (p_many)))).bind fun x361 => some (x361)
theorem v_is_index_ok : ∀ (p_value : PyData) (p_many : PyData) a, v_is_index p_value p_many = some a → fn_is_index [.pl p_value, .pl p_many] = some ((fun a : PyData => Ret.pl a) a, (fun _ : PyData => [none, none]) a) := fun p_value p_many a h => by
  have e : Sim bd_is_index [some (.pl (p_value)), some (.pl (p_many))] _ (Pf [.pl p_value, .pl p_many] (fun a : PyData => Ret.pl a) (fun _ : PyData => [none, none])) := (sim_last (sim_ret (c := fun d => d) (ev_andV (ev_call1 (ev_var 0) v_is_whole_ok) (ev_chain (ev_c (.int 0)) (ev_var 0) (ev_var 1))) (fun _ => ⟨rfl, rfl⟩)))
  exact fn_sim (m := 2) (f := bd_is_index) (xs := [.pl p_value, .pl p_many]) (r := (fun a : PyData => Ret.pl a)) (os := (fun _ : PyData => [none, none])) (a := a) e h
/-! ### are_outcomes -/
noncomputable def v_are_outcomes (p_value : PyData) : Option (PyData) := ((((isi "tuple" (p_value)).bind fun x387 => tBd x387).bind fun x388 => some ((!x388))).bind fun x389 => if x389 then some true else (((gLen [p_value]).bind fun x390 => andO (gLe (PyData.int 1) x390) (gLe x390 (PyData.int 6))).bind fun x391 => tBd x391).bind fun x392 => some ((!x392))).bind fun x393 => if x393 then some ((PyData.bool false)) else (itemsOf (p_value)).bind fun x386 => (loopW (fun (s375 : PyData) (a377 : PyData) => ((((v_is_whole a377).bind fun x379 => tBd x379).bind fun x380 => some ((!x380))).bind fun x381 => if x381 then some true else ((andO (gLe (PyData.int 2) a377) (gLe a377 (PyData.int 4))).bind fun x382 => tBd x382).bind fun x383 => some ((!x383))).bind fun x384 => if x384 then some (Fw.rt (PyData.bool false)) else (gMulI s375 a377).bind fun x378 => some (Fw.nx x378)) x386 (PyData.int 1)).bind fun o => goW id (fun (s375 : PyData) => (gLe s375 (PyData.int 64)).bind fun x385 => some (x385)) o
theorem v_are_outcomes_ok : ∀ (p_value : PyData) a, v_are_outcomes p_value = some a → fn_are_outcomes [.pl p_value] = some ((fun a : PyData => Ret.pl a) a, (fun _ : PyData => [none]) a) := fun p_value a h => by
  have e : Sim bd_are_outcomes [some (.pl (p_value)), none, none] _ (Pf [.pl p_value] (fun a : PyData => Ret.pl a) (fun _ : PyData => [none])) := (sim_if (ev_orT (ev_notT (ev_T (ev_isi "tuple" (ev_var 0)))) (ev_notT (ev_T (ev_chain (ev_c (.int 1)) (ev_cb (ev_cons (ev_var 0) ev_nil)) (ev_c (.int 6)))))) (sim_ret (c := fun d => d) (ev_c (.bool false)) (fun _ => ⟨rfl, rfl⟩)) (sim_next (sim_asg (ev_c (.int 1)) (fun x362 => (sim_forW (C := (fun (s : PyData) (j : Option PyData) => [some (.pl (p_value)), some (.pl s), (j).map PV.pl])) (R := Pf [.pl p_value] (fun a : PyData => Ret.pl a) (fun _ : PyData => [none])) id (fun a : PyData => a) (fun s363 j364 a365 => [some (.pl (p_value)), some (.pl s363), some (.pl a365)]) some some_map x362 none (ev_items (ev_var 0)) rfl (fun _ _ _ => rfl) (fun s363 j364 a365 => (sim_if (ev_orT (ev_notT (ev_T (ev_call1 (ev_var 2) v_is_whole_ok))) (ev_notT (ev_T (ev_chain (ev_c (.int 2)) (ev_var 2) (ev_c (.int 4)))))) (sim_ret (c := fun d => Fw.rt d) (ev_c (.bool false)) (fun _ => ⟨⟨_, rfl⟩, rfl, rfl⟩)) (sim_next (sim_last (sim_aug (ev_var 2) (fun x366 => (sim_end (a := Fw.nx x366) ⟨.inl rfl, (some a365), rfl⟩))))))) (fun s363 j364 => (sim_last (sim_ret (c := fun d => d) (ev_2 (ev_var 1) (ev_c (.int 64))) (fun _ => ⟨rfl, rfl⟩)))) (fun _ _ _ h => h))))))
  exact fn_sim (m := 3) (f := bd_are_outcomes) (xs := [.pl p_value]) (r := (fun a : PyData => Ret.pl a)) (os := (fun _ : PyData => [none])) (a := a) e h
/-! ### is_within_another -/
noncomputable def v_is_within_another (p_contexts : PyData) : Option (PyData) := (((((itemsOf (p_contexts)).bind fun x397 => lc2O (fun a394 => some true) (fun a394 => (itemsOf (p_contexts)).bind some) (fun a394 b395 => (gNeA a394 b395).bind fun x396 => tBd x396) (fun a394 b395 => v_is_within a394 b395) x397).bind fun x398 => some ((PyData.list x398))).bind fun x399 => some ([x399])).bind fun x400 => gAny x400).bind fun x401 => some (x401)
theorem v_is_within_another_ok : ∀ (p_contexts : PyData) a, v_is_within_another p_contexts = some a → fn_is_within_another [.pl p_contexts] = some ((fun a : PyData => Ret.pl a) a, (fun _ : PyData => [none]) a) := fun p_contexts a h => by
  have e : Sim bd_is_within_another [some (.pl (p_contexts)), none, none] _ (Pf [.pl p_contexts] (fun a : PyData => Ret.pl a) (fun _ : PyData => [none])) := (sim_last (sim_ret (c := fun d => d) (ev_cb (ev_cons (ev_f (ev_lc2nn (ev_items (ev_var 0)) (fun _ => ev_yes) (fun _ => (ev_items (ev_var 0))) (fun _ _ => (ev_T (ev_2 (ev_var 1) (ev_var 2)))) (fun _ _ => (ev_call2 (ev_var 1) (ev_var 2) v_is_within_ok)))) ev_nil)) (fun _ => ⟨rfl, rfl⟩)))
  exact fn_sim (m := 3) (f := bd_is_within_another) (xs := [.pl p_contexts]) (r := (fun a : PyData => Ret.pl a)) (os := (fun _ : PyData => [none])) (a := a) e h
/-! ### _law_one -/
noncomputable def v__law_one (p_well : List PyData) (p_some : PyData) : Option (PyData × List PyData) := (((gLen [p_some]).bind fun x405 => v__law_draw (p_well) x405).bind fun q403 => (gIx (p_some) q403.1).bind fun z404 => some (z404, q403.2)).bind fun p402 => some ((p402.1, p402.2))
theorem v__law_one_ok : ∀ (p_well : List PyData) (p_some : PyData) a, v__law_one p_well p_some = some a → fn__law_one [.rf p_well, .pl p_some] = some ((fun p : PyData × List PyData => Ret.pl p.1) a, (fun p : PyData × List PyData => [some p.2, none]) a) := fun p_well p_some a h => by
  have e : Sim bd__law_one [some (.rf (p_well)), some (.pl (p_some))] _ (Pf [.rf p_well, .pl p_some] (fun p : PyData × List PyData => Ret.pl p.1) (fun p : PyData × List PyData => [some p.2, none])) := (sim_last (sim_retS (E := fun w => [some (.rf w), some (.pl (p_some))]) (c := fun d w => (d, w)) (evs_2pe (ev_var 1) (evs_call1 (ev_cb (ev_cons (ev_var 1) ev_nil)) (v__law_draw_ok _))) (fun _ _ => ⟨rfl, rfl⟩)))
  exact fn_sim (m := 2) (f := bd__law_one) (xs := [.rf p_well, .pl p_some]) (r := (fun p : PyData × List PyData => Ret.pl p.1)) (os := (fun p : PyData × List PyData => [some p.2, none])) (a := a) e h
/-! ### _law_web -/
noncomputable def v__law_web (p_well : List PyData) (p_few : PyData) : Option (PyData × List PyData) := ((v__law_draw (p_well) (PyData.int 8)).bind fun p712 => ((((rngO (p_few)).bind fun x714 => lmO (fun a713 => tupO [a713]) x714).bind fun x715 => some ((PyData.list x715))).bind fun x716 => some ([x716])).bind fun x717 => some (((p712.1 :: x717), p712.2))).bind fun p406 => match p406.1 with | [u407, u408] => (((((gLt u407 (PyData.int 2)).bind fun x705 => tBd x705).bind fun x706 => if x706 then (gGt (p_few) (PyData.int 2)).bind fun x707 => tBd x707 else some false).bind fun x708 => if x708 then ((((((gSub (p_few) (PyData.int 1)).bind fun x565 => rngO x565).bind fun x566 => lmO (fun a561 => (((gAdd a561 (PyData.int 1)).bind fun x562 => some ([x562])).bind fun x563 => some ((a561 :: x563))).bind fun x564 => tupO x564) x566).bind fun x567 => some ((PyData.list x567))).bind fun x568 => gAdd u408 x568).bind fun x569 => (((((((gSub (p_few) (PyData.int 1)).bind fun x570 => some ([x570])).bind fun x571 => some (((PyData.int 0) :: x571))).bind fun x572 => tupO x572).bind fun x573 => some ([x573])).bind fun x574 => lstO x574).bind fun x575 => some ((PyData.list x575))).bind fun x576 => gAdd x569 x576).bind fun x577 => some ((p406.2, x577)) else (((gEqA u407 (PyData.int 2)).bind fun x701 => tBd x701).bind fun x702 => if x702 then (gGt (p_few) (PyData.int 1)).bind fun x703 => tBd x703 else some false).bind fun x704 => if x704 then (((((gSub (p_few) (PyData.int 1)).bind fun x583 => rngO x583).bind fun x584 => lmO (fun a579 => (((gAdd a579 (PyData.int 1)).bind fun x580 => some ([x580])).bind fun x581 => some ((a579 :: x581))).bind fun x582 => tupO x582) x584).bind fun x585 => some ((PyData.list x585))).bind fun x586 => gAdd u408 x586).bind fun x587 => some ((p406.2, x587)) else (((gEqA u407 (PyData.int 3)).bind fun x697 => tBd x697).bind fun x698 => if x698 then (gGt (p_few) (PyData.int 2)).bind fun x699 => tBd x699 else some false).bind fun x700 => if x700 then ((((rngO (p_few)).bind fun x596 => lmO (fun a589 => ((((rngO (p_few)).bind fun x592 => lcO (fun a590 => (gNeA a590 a589).bind fun x591 => tBd x591) (fun a590 => some (a590)) x592).bind fun x593 => some ((PyData.list x593))).bind fun x594 => some ([x594])).bind fun x595 => gTuple x595) x596).bind fun x597 => some ((PyData.list x597))).bind fun x598 => gAdd u408 x598).bind fun x599 => some ((p406.2, x599)) else (((gEqA u407 (PyData.int 4)).bind fun x693 => tBd x693).bind fun x694 => if x694 then (gEqA (p_few) (PyData.int 4)).bind fun x695 => tBd x695 else some false).bind fun x696 => if x696 then (((((tupO [(PyData.int 0), (PyData.int 2)]).bind fun x601 => ((tupO [(PyData.int 0), (PyData.int 3)]).bind fun x602 => ((tupO [(PyData.int 1), (PyData.int 2)]).bind fun x603 => ((tupO [(PyData.int 1), (PyData.int 3)]).bind fun x604 => some ([x604])).bind fun x605 => some ((x603 :: x605))).bind fun x606 => some ((x602 :: x606))).bind fun x607 => some ((x601 :: x607))).bind fun x608 => lstO x608).bind fun x609 => some ((PyData.list x609))).bind fun x610 => gAdd u408 x610).bind fun x611 => some ((p406.2, x611)) else (((gEqA u407 (PyData.int 5)).bind fun x689 => tBd x689).bind fun x690 => if x690 then (gGt (p_few) (PyData.int 1)).bind fun x691 => tBd x691 else some false).bind fun x692 => if x692 then ((((rng2O (PyData.int 1) (p_few)).bind fun x614 => lmO (fun a613 => tupO [(PyData.int 0), a613]) x614).bind fun x615 => some ((PyData.list x615))).bind fun x616 => gAdd u408 x616).bind fun x617 => some ((p406.2, x617)) else (((v__law_draw (p406.2) (PyData.int 5)).bind fun q687 => (gAdd (PyData.int 1) q687.1).bind fun z688 => some (z688, q687.2)).bind fun p685 => (rngO (p685.1)).bind fun x686 => some ((x686, p685.2))).bind fun p684 => (loopM (fun (s619 : List PyData × PyData) (a621 : PyData) => ((lstO []).bind fun x622 => some ((PyData.list x622))).bind fun x623 => (rngO (p_few)).bind fun x682 => (loopM (fun (s654 : List PyData × PyData) (a656 : PyData) => (((((v__law_draw (s654.1) (PyData.int 2)).bind fun p665 => (gEqA p665.1 (PyData.int 0)).bind fun z666 => some (z666, p665.2)).bind fun p663 => (tBd (p663.1)).bind fun x664 => some ((x664, p663.2))).bind fun p662 => if p662.1 then ((lstO [a656]).bind fun x667 => some ((PyData.list x667))).bind fun x668 => some ((x668, p662.2)) else ((lstO []).bind fun x669 => some ((PyData.list x669))).bind fun x670 => some ((x670, p662.2))).bind fun q660 => (gAdd (s654.2) q660.1).bind fun z661 => some (z661, q660.2)).bind fun p657 => some ((p657.2, p657.1))) x682 (s619.1, x623)).bind fun (s654 : List PyData × PyData) => ((((((lstO []).bind fun x671 => some ((PyData.list x671))).bind fun x672 => gNeA (s654.2) x672).bind fun x673 => tBd x673).bind fun x674 => if x674 then (((gTuple [s654.2]).bind fun x675 => some ([x675])).bind fun x676 => lstO x676).bind fun x677 => some ((PyData.list x677)) else (lstO []).bind fun x678 => some ((PyData.list x678))).bind fun x679 => gAdd (s619.2) x679).bind fun x680 => some ((s654.1, x680))) p684.1 (p684.2, u408)).bind fun (s619 : List PyData × PyData) => some ((s619.1, s619.2))).bind fun (s709 : List PyData × PyData) => (v__law_maximal (s709.2)).bind fun x711 => some ((x711, s709.1))) | _ => none
theorem v__law_web_ok : ∀ (p_well : List PyData) (p_few : PyData) a, v__law_web p_well p_few = some a → fn__law_web [.rf p_well, .pl p_few] = some ((fun p : PyData × List PyData => Ret.pl p.1) a, (fun p : PyData × List PyData => [some p.2, none]) a) := fun p_well p_few a h => by
  have e : Sim bd__law_web [some (.rf (p_well)), some (.pl (p_few)), none, none, none, none, none, none] _ (Pf [.rf p_well, .pl p_few] (fun p : PyData × List PyData => Ret.pl p.1) (fun p : PyData × List PyData => [some p.2, none])) := (sim_parS (E := fun w => [some (.rf w), some (.pl (p_few)), none, none, none, none, none, none]) (evs_consep (evs_call1 (ev_c (.int 8)) (v__law_draw_ok _)) (fun _ => (ev_cons (ev_f (ev_lcm (ev_rng1 (ev_var 1)) (fun _ => (ev_tup (ev_cons (ev_var 6) ev_nil))))) ev_nil))) (fun u407 u408 w409 => (sim_join (C := (fun (s : List PyData × PyData) (j : Option PyData × Option PyData × Option PyData) => [some (.rf (s.1)), some (.pl (p_few)), some (.pl u407), some (.pl (s.2)), (j.1).map PV.pl, (j.2.1).map PV.pl, (j.2.2).map PV.pl, none])) (sim_last (sim_if (ev_andT (ev_T (ev_2 (ev_var 2) (ev_c (.int 2)))) (ev_T (ev_2 (ev_var 1) (ev_c (.int 2))))) (sim_asg (ev_2 (ev_2 (ev_var 3) (ev_f (ev_lcm (ev_rng1 (ev_2 (ev_var 1) (ev_c (.int 1)))) (fun _ => (ev_tup (ev_cons (ev_var 6) (ev_cons (ev_2 (ev_var 6) (ev_c (.int 1))) ev_nil))))))) (ev_f (ev_lst (ev_cons (ev_tup (ev_cons (ev_c (.int 0)) (ev_cons (ev_2 (ev_var 1) (ev_c (.int 1))) ev_nil))) ev_nil)))) (fun x427 => (sim_end (a := (w409, x427)) ⟨rfl, (none, none, none), rfl⟩))) (sim_if (ev_andT (ev_T (ev_2 (ev_var 2) (ev_c (.int 2)))) (ev_T (ev_2 (ev_var 1) (ev_c (.int 1))))) (sim_asg (ev_2 (ev_var 3) (ev_f (ev_lcm (ev_rng1 (ev_2 (ev_var 1) (ev_c (.int 1)))) (fun _ => (ev_tup (ev_cons (ev_var 6) (ev_cons (ev_2 (ev_var 6) (ev_c (.int 1))) ev_nil))))))) (fun x437 => (sim_end (a := (w409, x437)) ⟨rfl, (none, none, none), rfl⟩))) (sim_if (ev_andT (ev_T (ev_2 (ev_var 2) (ev_c (.int 3)))) (ev_T (ev_2 (ev_var 1) (ev_c (.int 2))))) (sim_asg (ev_2 (ev_var 3) (ev_f (ev_lcm (ev_rng1 (ev_var 1)) (fun _ => (ev_cb (ev_cons (ev_f (ev_lcf (ev_rng1 (ev_var 1)) (fun _ => (ev_T (ev_2 (ev_var 7) (ev_var 6)))) (fun _ => (ev_var 7)))) ev_nil)))))) (fun x449 => (sim_end (a := (w409, x449)) ⟨rfl, (none, none, none), rfl⟩))) (sim_if (ev_andT (ev_T (ev_2 (ev_var 2) (ev_c (.int 4)))) (ev_T (ev_2 (ev_var 1) (ev_c (.int 4))))) (sim_asg (ev_2 (ev_var 3) (ev_f (ev_lst (ev_cons (ev_tup (ev_cons (ev_c (.int 0)) (ev_cons (ev_c (.int 2)) ev_nil))) (ev_cons (ev_tup (ev_cons (ev_c (.int 0)) (ev_cons (ev_c (.int 3)) ev_nil))) (ev_cons (ev_tup (ev_cons (ev_c (.int 1)) (ev_cons (ev_c (.int 2)) ev_nil))) (ev_cons (ev_tup (ev_cons (ev_c (.int 1)) (ev_cons (ev_c (.int 3)) ev_nil))) ev_nil))))))) (fun x461 => (sim_end (a := (w409, x461)) ⟨rfl, (none, none, none), rfl⟩))) (sim_if (ev_andT (ev_T (ev_2 (ev_var 2) (ev_c (.int 5)))) (ev_T (ev_2 (ev_var 1) (ev_c (.int 1))))) (sim_asg (ev_2 (ev_var 3) (ev_f (ev_lcm (ev_rng2 (ev_c (.int 1)) (ev_var 1)) (fun _ => (ev_tup (ev_cons (ev_c (.int 0)) (ev_cons (ev_var 6) ev_nil))))))) (fun x467 => (sim_end (a := (w409, x467)) ⟨rfl, (none, none, none), rfl⟩))) (sim_forMS (E := fun w => [some (.rf w), some (.pl (p_few)), some (.pl u407), some (.pl u408), none, none, none, none]) (C := (fun (s : List PyData × PyData) (j : Option PyData × Option PyData × Option PyData) => [some (.rf (s.1)), some (.pl (p_few)), some (.pl u407), some (.pl (s.2)), (j.1).map PV.pl, (j.2.1).map PV.pl, (j.2.2).map PV.pl, none])) (fun a : PyData => a) (fun s468 j469 a470 => [some (.rf (s468.1)), some (.pl (p_few)), some (.pl u407), some (.pl (s468.2)), some (.pl a470), (j469.2.1).map PV.pl, (j469.2.2).map PV.pl, none]) some some_map (fun w532 => (w532, u408)) (none, none, none) (evs_rng1 (evs_2pe (ev_c (.int 1)) (evs_call1 (ev_c (.int 5)) (v__law_draw_ok _)))) (fun _ => rfl) (fun _ _ _ => rfl) (fun s468 j469 a470 => (sim_asg (ev_f (ev_lst ev_nil)) (fun x473 => (sim_forM (C := (fun (s : List PyData × PyData) (j : Option PyData) => [some (.rf (s.1)), some (.pl (p_few)), some (.pl u407), some (.pl (s468.2)), some (.pl a470), some (.pl (s.2)), (j).map PV.pl, none])) (fun a : PyData => a) (fun s474 j475 a476 => [some (.rf (s474.1)), some (.pl (p_few)), some (.pl u407), some (.pl (s468.2)), some (.pl a470), some (.pl (s474.2)), some (.pl a476), none]) some some_map (s468.1, x473) (j469.2.2) (ev_rng1 (ev_var 1)) rfl (fun _ _ _ => rfl) (fun s474 j475 a476 => (sim_last (sim_asgS (E := fun w => [some (.rf w), some (.pl (p_few)), some (.pl u407), some (.pl (s468.2)), some (.pl a470), some (.pl (s474.2)), some (.pl a476), none]) (evs_2pe (ev_var 5) (evs_if (evs_T (evs_2ep (evs_call1 (ev_c (.int 2)) (v__law_draw_ok _)) (fun _ => (ev_c (.int 0))))) (fun _ => (evs_pure _ (ev_f (ev_lst (ev_cons (ev_var 6) ev_nil))))) (fun _ => (evs_pure _ (ev_f (ev_lst ev_nil)))))) (fun x478 w479 => (sim_end (a := (w479, x478)) ⟨.inl rfl, (some a476), rfl⟩))))) (fun s474 j475 => (sim_last (sim_asg (ev_2 (ev_var 3) (ev_if (ev_T (ev_2 (ev_var 5) (ev_f (ev_lst ev_nil)))) (ev_f (ev_lst (ev_cons (ev_cb (ev_cons (ev_var 5) ev_nil)) ev_nil))) (ev_f (ev_lst ev_nil)))) (fun x501 => (sim_end (a := (s474.1, x501)) ⟨.inl rfl, (some a470, some (s474.2), j475), rfl⟩))))))))) (fun s468 j469 => (sim_end (a := (s468.1, s468.2)) ⟨rfl, (j469.1, j469.2.1, j469.2.2), rfl⟩))))))))) (fun s558 j559 => (sim_last (sim_ret (c := fun d => (d, s558.1)) (ev_call1 (ev_var 3) v__law_maximal_ok) (fun _ => ⟨rfl, rfl⟩)))))))
  exact fn_sim (m := 8) (f := bd__law_web) (xs := [.rf p_well, .pl p_few]) (r := (fun p : PyData × List PyData => Ret.pl p.1)) (os := (fun p : PyData × List PyData => [some p.2, none])) (a := a) e h
/-! ### _law_is_lot -/
noncomputable def v__law_is_lot (p_thing : PyData) (p_few : PyData) : Option (PyData) := ((((isi "tuple" (p_thing)).bind fun x729 => tBd x729).bind fun x730 => some ((!x730))).bind fun x731 => if x731 then some true else ((((((itemsOf (p_thing)).bind fun x733 => lmO (fun a732 => andO (v__law_is_whole a732) (andO (gLe (PyData.int 0) a732) (gLt a732 (p_few)))) x733).bind fun x734 => some ((PyData.list x734))).bind fun x735 => some ([x735])).bind fun x736 => gAll x736).bind fun x737 => tBd x737).bind fun x738 => some ((!x738))).bind fun x739 => if x739 then some ((PyData.bool false)) else (((((((gLen [p_thing]).bind fun x722 => gSub x722 (PyData.int 1)).bind fun x723 => rngO x723).bind fun x724 => lmO (fun a718 => (gIx (p_thing) a718).bind fun x719 => ((gAdd a718 (PyData.int 1)).bind fun x720 => gIx (p_thing) x720).bind fun x721 => gLt x719 x721) x724).bind fun x725 => some ((PyData.list x725))).bind fun x726 => some ([x726])).bind fun x727 => gAll x727).bind fun x728 => some (x728)
theorem v__law_is_lot_ok : ∀ (p_thing : PyData) (p_few : PyData) a, v__law_is_lot p_thing p_few = some a → fn__law_is_lot [.pl p_thing, .pl p_few] = some ((fun a : PyData => Ret.pl a) a, (fun _ : PyData => [none, none]) a) := fun p_thing p_few a h => by
  have e : Sim bd__law_is_lot [some (.pl (p_thing)), some (.pl (p_few)), none, none] _ (Pf [.pl p_thing, .pl p_few] (fun a : PyData => Ret.pl a) (fun _ : PyData => [none, none])) := (sim_if (ev_orT (ev_notT (ev_T (ev_isi "tuple" (ev_var 0)))) (ev_notT (ev_T (ev_cb (ev_cons (ev_f (ev_lcm (ev_items (ev_var 0)) (fun _ => (ev_andV (ev_call1 (ev_var 2) v__law_is_whole_ok) (ev_chain (ev_c (.int 0)) (ev_var 2) (ev_var 1)))))) ev_nil))))) (sim_ret (c := fun d => d) (ev_c (.bool false)) (fun _ => ⟨rfl, rfl⟩)) (sim_next (sim_last (sim_ret (c := fun d => d) (ev_cb (ev_cons (ev_f (ev_lcm (ev_rng1 (ev_2 (ev_cb (ev_cons (ev_var 0) ev_nil)) (ev_c (.int 1)))) (fun _ => (ev_2 (ev_2 (ev_var 0) (ev_var 3)) (ev_2 (ev_var 0) (ev_2 (ev_var 3) (ev_c (.int 1)))))))) ev_nil)) (fun _ => ⟨rfl, rfl⟩)))))
  exact fn_sim (m := 4) (f := bd__law_is_lot) (xs := [.pl p_thing, .pl p_few]) (r := (fun a : PyData => Ret.pl a)) (os := (fun _ : PyData => [none, none])) (a := a) e h
/-! ### _law_planted -/
noncomputable def v__law_planted (p_well : List PyData) : Option (PyData × List PyData) := ((v__law_draw (p_well) (PyData.int 6)).bind fun p970 => ((v__law_draw (p970.2) (PyData.int 2)).bind fun p972 => some (([p972.1], p972.2))).bind fun q971 => some (p970.1 :: q971.1, q971.2)).bind fun p740 => match p740.1 with | [u741, u742] => (((gEqA u741 (PyData.int 0)).bind fun x968 => tBd x968).bind fun x969 => if x969 then (((((tupO [(PyData.int 2)]).bind fun x863 => (gAdd (PyData.int 5) u742).bind fun x864 => gMul x863 x864).bind fun x865 => ((((v__law_draw (p740.2) (PyData.int 2)).bind fun p869 => (gEqA p869.1 (PyData.int 0)).bind fun z870 => some (z870, p869.2)).bind fun p867 => (tBd (p867.1)).bind fun x868 => some ((x868, p867.2))).bind fun p866 => if p866.1 then (tupO [(PyData.int 2)]).bind fun x871 => some ((x871, p866.2)) else (tupO []).bind fun x872 => some ((x872, p866.2))).bind fun q861 => (gAdd x865 q861.1).bind fun z862 => some (z862, q861.2)).bind fun p860 => ((((tupR (PyData.int 5)).bind fun x873 => ((tupO [(PyData.int 4), (PyData.int 5)]).bind fun x874 => some ([x874])).bind fun x875 => some ((x873 :: x875))).bind fun x876 => tupO x876).bind fun x877 => some ([x877])).bind fun x878 => some (((p860.1 :: x878), p860.2))).bind fun p858 => (tupO (p858.1)).bind fun x859 => some ((x859, p858.2))).bind fun p857 => some ((p857.1, p857.2)) else ((gEqA u741 (PyData.int 1)).bind fun x966 => tBd x966).bind fun x967 => if x967 then (((((gEqA u742 (PyData.int 0)).bind fun x879 => tBd x879).bind fun x880 => if x880 then tupO [(PyData.int 4), (PyData.int 4), (PyData.int 4)] else tupO [(PyData.int 4), (PyData.int 3), (PyData.int 3), (PyData.int 2)]).bind fun x881 => ((((gEqA u742 (PyData.int 0)).bind fun x882 => tBd x882).bind fun x883 => if x883 then ((tupO [(PyData.int 0), (PyData.int 1)]).bind fun x884 => ((tupO [(PyData.int 1), (PyData.int 2)]).bind fun x885 => some ([x885])).bind fun x886 => some ((x884 :: x886))).bind fun x887 => tupO x887 else ((tupO [(PyData.int 0), (PyData.int 1)]).bind fun x888 => ((tupO [(PyData.int 2), (PyData.int 3)]).bind fun x889 => some ([x889])).bind fun x890 => some ((x888 :: x890))).bind fun x891 => tupO x891).bind fun x892 => some ([x892])).bind fun x893 => some ((x881 :: x893))).bind fun x894 => tupO x894).bind fun x895 => some ((x895, p740.2)) else ((gEqA u741 (PyData.int 2)).bind fun x964 => tBd x964).bind fun x965 => if x965 then ((((((gAdd (PyData.int 2) u742).bind fun x896 => some ([x896, (PyData.int 3)])).bind fun x897 => some (((PyData.int 2) :: x897))).bind fun x898 => tupO x898).bind fun x899 => ((((tupO [(PyData.int 0), (PyData.int 1)]).bind fun x900 => ((tupO [(PyData.int 0), (PyData.int 1), (PyData.int 2)]).bind fun x901 => some ([x901])).bind fun x902 => some ((x900 :: x902))).bind fun x903 => tupO x903).bind fun x904 => some ([x904])).bind fun x905 => some ((x899 :: x905))).bind fun x906 => tupO x906).bind fun x907 => some ((x907, p740.2)) else ((gEqA u741 (PyData.int 3)).bind fun x962 => tBd x962).bind fun x963 => if x963 then (((tupO [(PyData.int 2), (PyData.int 2), (PyData.int 2)]).bind fun x908 => ((((gEqA u742 (PyData.int 0)).bind fun x909 => tBd x909).bind fun x910 => if x910 then ((tupO [(PyData.int 0), (PyData.int 1)]).bind fun x911 => ((tupO [(PyData.int 2)]).bind fun x912 => some ([x912])).bind fun x913 => some ((x911 :: x913))).bind fun x914 => tupO x914 else ((tupO [(PyData.int 0), (PyData.int 1)]).bind fun x915 => some ([x915])).bind fun x916 => tupO x916).bind fun x917 => some ([x917])).bind fun x918 => some ((x908 :: x918))).bind fun x919 => tupO x919).bind fun x920 => some ((x920, p740.2)) else ((gEqA u741 (PyData.int 4)).bind fun x960 => tBd x960).bind fun x961 => if x961 then (((tupO [(PyData.int 2), (PyData.int 2), (PyData.int 2)]).bind fun x921 => ((((gEqA u742 (PyData.int 0)).bind fun x922 => tBd x922).bind fun x923 => if x923 then ((tupO [(PyData.int 1), (PyData.int 2)]).bind fun x924 => ((tupO [(PyData.int 0)]).bind fun x925 => some ([x925])).bind fun x926 => some ((x924 :: x926))).bind fun x927 => tupO x927 else ((tupO [(PyData.int 0)]).bind fun x928 => ((tupO [(PyData.int 1), (PyData.int 2)]).bind fun x929 => some ([x929])).bind fun x930 => some ((x928 :: x930))).bind fun x931 => tupO x931).bind fun x932 => some ([x932])).bind fun x933 => some ((x921 :: x933))).bind fun x934 => tupO x934).bind fun x935 => some ((x935, p740.2)) else ((((v__law_draw (p740.2) (PyData.int 2)).bind fun p940 => (gEqA p940.1 (PyData.int 0)).bind fun z941 => some (z941, p940.2)).bind fun p938 => (tBd (p938.1)).bind fun x939 => some ((x939, p938.2))).bind fun p937 => if p937.1 then (((((gAdd (PyData.int 1) u742).bind fun x942 => some ([x942, (PyData.int 2)])).bind fun x943 => tupO x943).bind fun x944 => ((((tupO [(PyData.int 0), (PyData.int 1)]).bind fun x945 => some ([x945])).bind fun x946 => tupO x946).bind fun x947 => some ([x947])).bind fun x948 => some ((x944 :: x948))).bind fun x949 => tupO x949).bind fun x950 => some ((x950, p937.2)) else (((((gAdd (PyData.int 4) u742).bind fun x951 => some ([x951, (PyData.int 2)])).bind fun x952 => tupO x952).bind fun x953 => ((((tupO [(PyData.int 0), (PyData.int 1)]).bind fun x954 => some ([x954])).bind fun x955 => tupO x955).bind fun x956 => some ([x956])).bind fun x957 => some ((x953 :: x957))).bind fun x958 => tupO x958).bind fun x959 => some ((x959, p937.2))).bind fun p936 => some ((p936.1, p936.2))) | _ => none
theorem v__law_planted_ok : ∀ (p_well : List PyData) a, v__law_planted p_well = some a → fn__law_planted [.rf p_well] = some ((fun p : PyData × List PyData => Ret.pl p.1) a, (fun p : PyData × List PyData => [some p.2]) a) := fun p_well a h => by
  have e : Sim bd__law_planted [some (.rf (p_well)), none, none] _ (Pf [.rf p_well] (fun p : PyData × List PyData => Ret.pl p.1) (fun p : PyData × List PyData => [some p.2])) := (sim_parS (E := fun w => [some (.rf w), none, none]) (evs_consee (evs_call1 (ev_c (.int 6)) (v__law_draw_ok _)) (fun _ => (evs_consep (evs_call1 (ev_c (.int 2)) (v__law_draw_ok _)) (fun _ => ev_nil)))) (fun u741 u742 w743 => (sim_if (ev_T (ev_2 (ev_var 1) (ev_c (.int 0)))) (sim_retS (E := fun w => [some (.rf w), some (.pl u741), some (.pl u742)]) (c := fun d w => (d, w)) (evs_tup (evs_consep (evs_2pe (ev_2 (ev_tup (ev_cons (ev_c (.int 2)) ev_nil)) (ev_2 (ev_c (.int 5)) (ev_var 2))) (evs_if (evs_T (evs_2ep (evs_call1 (ev_c (.int 2)) (v__law_draw_ok _)) (fun _ => (ev_c (.int 0))))) (fun _ => (evs_pure _ (ev_tup (ev_cons (ev_c (.int 2)) ev_nil)))) (fun _ => (evs_pure _ (ev_tup ev_nil))))) (fun _ => (ev_cons (ev_tup (ev_cons (ev_tupR (ev_c (.int 5))) (ev_cons (ev_tup (ev_cons (ev_c (.int 4)) (ev_cons (ev_c (.int 5)) ev_nil))) ev_nil))) ev_nil)))) (fun _ _ => ⟨rfl, rfl⟩)) (sim_next (sim_if (ev_T (ev_2 (ev_var 1) (ev_c (.int 1)))) (sim_ret (c := fun d => (d, w743)) (ev_tup (ev_cons (ev_if (ev_T (ev_2 (ev_var 2) (ev_c (.int 0)))) (ev_tup (ev_cons (ev_c (.int 4)) (ev_cons (ev_c (.int 4)) (ev_cons (ev_c (.int 4)) ev_nil)))) (ev_tup (ev_cons (ev_c (.int 4)) (ev_cons (ev_c (.int 3)) (ev_cons (ev_c (.int 3)) (ev_cons (ev_c (.int 2)) ev_nil)))))) (ev_cons (ev_if (ev_T (ev_2 (ev_var 2) (ev_c (.int 0)))) (ev_tup (ev_cons (ev_tup (ev_cons (ev_c (.int 0)) (ev_cons (ev_c (.int 1)) ev_nil))) (ev_cons (ev_tup (ev_cons (ev_c (.int 1)) (ev_cons (ev_c (.int 2)) ev_nil))) ev_nil))) (ev_tup (ev_cons (ev_tup (ev_cons (ev_c (.int 0)) (ev_cons (ev_c (.int 1)) ev_nil))) (ev_cons (ev_tup (ev_cons (ev_c (.int 2)) (ev_cons (ev_c (.int 3)) ev_nil))) ev_nil)))) ev_nil))) (fun _ => ⟨rfl, rfl⟩)) (sim_next (sim_if (ev_T (ev_2 (ev_var 1) (ev_c (.int 2)))) (sim_ret (c := fun d => (d, w743)) (ev_tup (ev_cons (ev_tup (ev_cons (ev_c (.int 2)) (ev_cons (ev_2 (ev_c (.int 2)) (ev_var 2)) (ev_cons (ev_c (.int 3)) ev_nil)))) (ev_cons (ev_tup (ev_cons (ev_tup (ev_cons (ev_c (.int 0)) (ev_cons (ev_c (.int 1)) ev_nil))) (ev_cons (ev_tup (ev_cons (ev_c (.int 0)) (ev_cons (ev_c (.int 1)) (ev_cons (ev_c (.int 2)) ev_nil)))) ev_nil))) ev_nil))) (fun _ => ⟨rfl, rfl⟩)) (sim_next (sim_if (ev_T (ev_2 (ev_var 1) (ev_c (.int 3)))) (sim_ret (c := fun d => (d, w743)) (ev_tup (ev_cons (ev_tup (ev_cons (ev_c (.int 2)) (ev_cons (ev_c (.int 2)) (ev_cons (ev_c (.int 2)) ev_nil)))) (ev_cons (ev_if (ev_T (ev_2 (ev_var 2) (ev_c (.int 0)))) (ev_tup (ev_cons (ev_tup (ev_cons (ev_c (.int 0)) (ev_cons (ev_c (.int 1)) ev_nil))) (ev_cons (ev_tup (ev_cons (ev_c (.int 2)) ev_nil)) ev_nil))) (ev_tup (ev_cons (ev_tup (ev_cons (ev_c (.int 0)) (ev_cons (ev_c (.int 1)) ev_nil))) ev_nil))) ev_nil))) (fun _ => ⟨rfl, rfl⟩)) (sim_next (sim_if (ev_T (ev_2 (ev_var 1) (ev_c (.int 4)))) (sim_ret (c := fun d => (d, w743)) (ev_tup (ev_cons (ev_tup (ev_cons (ev_c (.int 2)) (ev_cons (ev_c (.int 2)) (ev_cons (ev_c (.int 2)) ev_nil)))) (ev_cons (ev_if (ev_T (ev_2 (ev_var 2) (ev_c (.int 0)))) (ev_tup (ev_cons (ev_tup (ev_cons (ev_c (.int 1)) (ev_cons (ev_c (.int 2)) ev_nil))) (ev_cons (ev_tup (ev_cons (ev_c (.int 0)) ev_nil)) ev_nil))) (ev_tup (ev_cons (ev_tup (ev_cons (ev_c (.int 0)) ev_nil)) (ev_cons (ev_tup (ev_cons (ev_c (.int 1)) (ev_cons (ev_c (.int 2)) ev_nil))) ev_nil)))) ev_nil))) (fun _ => ⟨rfl, rfl⟩)) (sim_next (sim_last (sim_retS (E := fun w => [some (.rf w), some (.pl u741), some (.pl u742)]) (c := fun d w => (d, w)) (evs_if (evs_T (evs_2ep (evs_call1 (ev_c (.int 2)) (v__law_draw_ok _)) (fun _ => (ev_c (.int 0))))) (fun _ => (evs_pure _ (ev_tup (ev_cons (ev_tup (ev_cons (ev_2 (ev_c (.int 1)) (ev_var 2)) (ev_cons (ev_c (.int 2)) ev_nil))) (ev_cons (ev_tup (ev_cons (ev_tup (ev_cons (ev_c (.int 0)) (ev_cons (ev_c (.int 1)) ev_nil))) ev_nil)) ev_nil))))) (fun _ => (evs_pure _ (ev_tup (ev_cons (ev_tup (ev_cons (ev_2 (ev_c (.int 4)) (ev_var 2)) (ev_cons (ev_c (.int 2)) ev_nil))) (ev_cons (ev_tup (ev_cons (ev_tup (ev_cons (ev_c (.int 0)) (ev_cons (ev_c (.int 1)) ev_nil))) ev_nil)) ev_nil)))))) (fun _ _ => ⟨rfl, rfl⟩)))))))))))))))
  exact fn_sim (m := 3) (f := bd__law_planted) (xs := [.rf p_well]) (r := (fun p : PyData × List PyData => Ret.pl p.1)) (os := (fun p : PyData × List PyData => [some p.2])) (a := a) e h
/-! ### is_lot_of -/
noncomputable def v_is_lot_of (p_value : PyData) (p_many : PyData) : Option (PyData) := (andO (isi "tuple" (p_value)) (andO (((((itemsOf (p_value)).bind fun x974 => lmO (fun a973 => v_is_index a973 (p_many)) x974).bind fun x975 => some ((PyData.list x975))).bind fun x976 => some ([x976])).bind fun x977 => gAll x977) (v_is_ascending (p_value)))).bind fun x978 => some (x978)
theorem v_is_lot_of_ok : ∀ (p_value : PyData) (p_many : PyData) a, v_is_lot_of p_value p_many = some a → fn_is_lot_of [.pl p_value, .pl p_many] = some ((fun a : PyData => Ret.pl a) a, (fun _ : PyData => [none, none]) a) := fun p_value p_many a h => by
  have e : Sim bd_is_lot_of [some (.pl (p_value)), some (.pl (p_many)), none] _ (Pf [.pl p_value, .pl p_many] (fun a : PyData => Ret.pl a) (fun _ : PyData => [none, none])) := (sim_last (sim_ret (c := fun d => d) (ev_andV (ev_isi "tuple" (ev_var 0)) (ev_andV (ev_cb (ev_cons (ev_f (ev_lcm (ev_items (ev_var 0)) (fun _ => (ev_call2 (ev_var 2) (ev_var 1) v_is_index_ok)))) ev_nil)) (ev_call1 (ev_var 0) v_is_ascending_ok))) (fun _ => ⟨rfl, rfl⟩)))
  exact fn_sim (m := 3) (f := bd_is_lot_of) (xs := [.pl p_value, .pl p_many]) (r := (fun a : PyData => Ret.pl a)) (os := (fun _ : PyData => [none, none])) (a := a) e h
/-! ### _law_odd -/
noncomputable def v__law_odd (p_well : List PyData) : Option (PyData × List PyData) := (((((((((gNeg (PyData.int 1)).bind fun x979 => (((((((tupO []).bind fun x980 => ((tupO [(PyData.int 0)]).bind fun x981 => ((tupO [(PyData.int 1)]).bind fun x982 => ((tupO [(PyData.int 0), (PyData.int 1)]).bind fun x983 => ((tupO [(PyData.int 1), (PyData.int 0)]).bind fun x984 => ((tupO [(PyData.int 0), (PyData.int 0)]).bind fun x985 => ((tupO [(PyData.int 1), (PyData.int 2)]).bind fun x986 => some ([x986])).bind fun x987 => some ((x985 :: x987))).bind fun x988 => some ((x984 :: x988))).bind fun x989 => some ((x983 :: x989))).bind fun x990 => some ((x982 :: x990))).bind fun x991 => some ((x981 :: x991))).bind fun x992 => some ((x980 :: x992))).bind fun x993 => some (((PyData.str "cycle") :: x993))).bind fun x994 => some (((PyData.str "a") :: x994))).bind fun x995 => some (((PyData.str "") :: x995))).bind fun x996 => some (((PyData.int 5) :: x996))).bind fun x997 => some (((PyData.int 7) :: x997))).bind fun x998 => some ((x979 :: x998))).bind fun x999 => some (((PyData.int 2) :: x999))).bind fun x1000 => some (((PyData.int 1) :: x1000))).bind fun x1001 => some (((PyData.int 0) :: x1001))).bind fun x1002 => some (((PyData.bool false) :: x1002))).bind fun x1003 => some (((PyData.bool true) :: x1003))).bind fun x1004 => some ((PyData.none :: x1004))).bind fun x1005 => tupO x1005).bind fun x1006 => (((tupO [(PyData.int 1), (PyData.int 1)]).bind fun x1129 => (((((gNeg (PyData.int 2)).bind fun x1130 => some ([x1130])).bind fun x1131 => some (((PyData.int 3) :: x1131))).bind fun x1132 => tupO x1132).bind fun x1133 => ((tupO [(PyData.bool true), (PyData.int 1)]).bind fun x1134 => ((tupO [(PyData.int 0), (PyData.bool true)]).bind fun x1135 => ((((tupO [(PyData.int 0), (PyData.int 1)]).bind fun x1136 => some ([x1136])).bind fun x1137 => tupO x1137).bind fun x1138 => ((((tupO [(PyData.int 1), (PyData.int 1)]).bind fun x1139 => some ([x1139])).bind fun x1140 => tupO x1140).bind fun x1141 => ((((tupO [(PyData.int 0), (PyData.int 1)]).bind fun x1142 => ((tupO [(PyData.int 1), (PyData.int 2)]).bind fun x1143 => some ([x1143])).bind fun x1144 => some ((x1142 :: x1144))).bind fun x1145 => tupO x1145).bind fun x1146 => ((((((tupO [(PyData.int 0), (PyData.int 1)]).bind fun x1147 => some ([x1147])).bind fun x1148 => tupO x1148).bind fun x1149 => some ([x1149])).bind fun x1150 => tupO x1150).bind fun x1151 => ((tupO [(PyData.int 2), (PyData.int 4)]).bind fun x1152 => some ([x1152])).bind fun x1153 => some ((x1151 :: x1153))).bind fun x1154 => some ((x1146 :: x1154))).bind fun x1155 => some ((x1141 :: x1155))).bind fun x1156 => some ((x1138 :: x1156))).bind fun x1157 => some ((x1135 :: x1157))).bind fun x1158 => some ((x1134 :: x1158))).bind fun x1159 => some ((x1133 :: x1159))).bind fun x1160 => some ((x1129 :: x1160))).bind fun x1161 => tupO x1161).bind fun x1162 => ((((((tupO [(PyData.int 0), (PyData.int 1)]).bind fun x1207 => ((tupO [(PyData.int 0), (PyData.int 1)]).bind fun x1208 => some ([x1208])).bind fun x1209 => some ((x1207 :: x1209))).bind fun x1210 => tupO x1210).bind fun x1211 => (((lstO []).bind fun x1212 => some ((PyData.list x1212))).bind fun x1213 => (((lstO [(PyData.int 1)]).bind fun x1214 => some ((PyData.list x1214))).bind fun x1215 => (((((tupO [(PyData.int 0), (PyData.int 1)]).bind fun x1216 => some ([x1216])).bind fun x1217 => lstO x1217).bind fun x1218 => some ((PyData.list x1218))).bind fun x1219 => (((tupO [PyData.none]).bind fun x1220 => ((((tupO []).bind fun x1221 => some ([x1221])).bind fun x1222 => tupO x1222).bind fun x1223 => ((gPow (PyData.int 10) (PyData.int 20)).bind fun x1224 => ((tupO [(PyData.int 0), (PyData.int 1), (PyData.int 2)]).bind fun x1225 => ((((tupO [(PyData.int 2), (PyData.int 2)]).bind fun x1226 => ((((tupO [(PyData.int 0), (PyData.int 1)]).bind fun x1227 => some ([x1227])).bind fun x1228 => tupO x1228).bind fun x1229 => some ([x1229])).bind fun x1230 => some ((x1226 :: x1230))).bind fun x1231 => tupO x1231).bind fun x1232 => some ([x1232])).bind fun x1233 => some ((x1225 :: x1233))).bind fun x1234 => some ((x1224 :: x1234))).bind fun x1235 => some ((x1223 :: x1235))).bind fun x1236 => some ((x1220 :: x1236))).bind fun x1237 => some (((PyData.dict []) :: x1237))).bind fun x1238 => some ((x1219 :: x1238))).bind fun x1239 => some ((x1215 :: x1239))).bind fun x1240 => some ((x1213 :: x1240))).bind fun x1241 => some ((x1211 :: x1241))).bind fun x1242 => tupO x1242).bind fun x1243 => gAdd x1162 x1243).bind fun x1244 => ((gAdd x1006 x1244).bind fun x1249 => v__law_one (p_well) x1249).bind fun p1248 => some ((p1248.1, p1248.2))
theorem v__law_odd_ok : ∀ (p_well : List PyData) a, v__law_odd p_well = some a → fn__law_odd [.rf p_well] = some ((fun p : PyData × List PyData => Ret.pl p.1) a, (fun p : PyData × List PyData => [some p.2]) a) := fun p_well a h => by
  have e : Sim bd__law_odd [some (.rf (p_well)), none, none] _ (Pf [.rf p_well] (fun p : PyData × List PyData => Ret.pl p.1) (fun p : PyData × List PyData => [some p.2])) := (sim_asg (ev_tup (ev_cons (ev_c .none) (ev_cons (ev_c (.bool true)) (ev_cons (ev_c (.bool false)) (ev_cons (ev_c (.int 0)) (ev_cons (ev_c (.int 1)) (ev_cons (ev_c (.int 2)) (ev_cons (ev_1 (ev_c (.int 1))) (ev_cons (ev_c (.int 7)) (ev_cons (ev_c (.int 5)) (ev_cons (ev_c (.str "")) (ev_cons (ev_c (.str "a")) (ev_cons (ev_c (.str "cycle")) (ev_cons (ev_tup ev_nil) (ev_cons (ev_tup (ev_cons (ev_c (.int 0)) ev_nil)) (ev_cons (ev_tup (ev_cons (ev_c (.int 1)) ev_nil)) (ev_cons (ev_tup (ev_cons (ev_c (.int 0)) (ev_cons (ev_c (.int 1)) ev_nil))) (ev_cons (ev_tup (ev_cons (ev_c (.int 1)) (ev_cons (ev_c (.int 0)) ev_nil))) (ev_cons (ev_tup (ev_cons (ev_c (.int 0)) (ev_cons (ev_c (.int 0)) ev_nil))) (ev_cons (ev_tup (ev_cons (ev_c (.int 1)) (ev_cons (ev_c (.int 2)) ev_nil))) ev_nil)))))))))))))))))))) (fun x1007 => (sim_asg (ev_tup (ev_cons (ev_tup (ev_cons (ev_c (.int 1)) (ev_cons (ev_c (.int 1)) ev_nil))) (ev_cons (ev_tup (ev_cons (ev_c (.int 3)) (ev_cons (ev_1 (ev_c (.int 2))) ev_nil))) (ev_cons (ev_tup (ev_cons (ev_c (.bool true)) (ev_cons (ev_c (.int 1)) ev_nil))) (ev_cons (ev_tup (ev_cons (ev_c (.int 0)) (ev_cons (ev_c (.bool true)) ev_nil))) (ev_cons (ev_tup (ev_cons (ev_tup (ev_cons (ev_c (.int 0)) (ev_cons (ev_c (.int 1)) ev_nil))) ev_nil)) (ev_cons (ev_tup (ev_cons (ev_tup (ev_cons (ev_c (.int 1)) (ev_cons (ev_c (.int 1)) ev_nil))) ev_nil)) (ev_cons (ev_tup (ev_cons (ev_tup (ev_cons (ev_c (.int 0)) (ev_cons (ev_c (.int 1)) ev_nil))) (ev_cons (ev_tup (ev_cons (ev_c (.int 1)) (ev_cons (ev_c (.int 2)) ev_nil))) ev_nil))) (ev_cons (ev_tup (ev_cons (ev_tup (ev_cons (ev_tup (ev_cons (ev_c (.int 0)) (ev_cons (ev_c (.int 1)) ev_nil))) ev_nil)) ev_nil)) (ev_cons (ev_tup (ev_cons (ev_c (.int 2)) (ev_cons (ev_c (.int 4)) ev_nil))) ev_nil)))))))))) (fun x1042 => (sim_asg (ev_2 (ev_var 2) (ev_tup (ev_cons (ev_tup (ev_cons (ev_tup (ev_cons (ev_c (.int 0)) (ev_cons (ev_c (.int 1)) ev_nil))) (ev_cons (ev_tup (ev_cons (ev_c (.int 0)) (ev_cons (ev_c (.int 1)) ev_nil))) ev_nil))) (ev_cons (ev_f (ev_lst ev_nil)) (ev_cons (ev_f (ev_lst (ev_cons (ev_c (.int 1)) ev_nil))) (ev_cons (ev_f (ev_lst (ev_cons (ev_tup (ev_cons (ev_c (.int 0)) (ev_cons (ev_c (.int 1)) ev_nil))) ev_nil))) (ev_cons ev_dic (ev_cons (ev_tup (ev_cons (ev_c .none) ev_nil)) (ev_cons (ev_tup (ev_cons (ev_tup ev_nil) ev_nil)) (ev_cons (ev_2 (ev_c (.int 10)) (ev_c (.int 20))) (ev_cons (ev_tup (ev_cons (ev_c (.int 0)) (ev_cons (ev_c (.int 1)) (ev_cons (ev_c (.int 2)) ev_nil)))) (ev_cons (ev_tup (ev_cons (ev_tup (ev_cons (ev_c (.int 2)) (ev_cons (ev_c (.int 2)) ev_nil))) (ev_cons (ev_tup (ev_cons (ev_tup (ev_cons (ev_c (.int 0)) (ev_cons (ev_c (.int 1)) ev_nil))) ev_nil)) ev_nil))) ev_nil)))))))))))) (fun x1081 => (sim_last (sim_retS (E := fun w => [some (.rf w), some (.pl x1007), some (.pl x1081)]) (c := fun d w => (d, w)) (evs_call1 (ev_2 (ev_var 1) (ev_var 2)) (v__law_one_ok _)) (fun _ _ => ⟨rfl, rfl⟩)))))))))
  exact fn_sim (m := 3) (f := bd__law_odd) (xs := [.rf p_well]) (r := (fun p : PyData × List PyData => Ret.pl p.1)) (os := (fun p : PyData × List PyData => [some p.2])) (a := a) e h
/-! ### _law_scenario -/
noncomputable def v__law_scenario (p_well : List PyData) (p_most : PyData) : Option (PyData × List PyData) := ((tupO [(PyData.int 1), (PyData.int 2), (PyData.int 3), (PyData.int 3), (PyData.int 4), (PyData.int 4), p_most]).bind fun x1529 => v__law_one (p_well) x1529).bind fun p1250 => (gMin2 [p1250.1, p_most]).bind fun x1391 => (((lstO [(PyData.int 2)]).bind fun x1461 => some ((PyData.list x1461))).bind fun x1462 => gRepL x1462 x1391).bind fun x1463 => ((((gLt x1391 (PyData.int 5)).bind fun x1515 => tBd x1515).bind fun x1516 => if x1516 then ((v__law_draw (p1250.2) (PyData.int 5)).bind fun p1519 => (gEqA p1519.1 (PyData.int 0)).bind fun z1520 => some (z1520, p1519.2)).bind fun p1517 => (tBd (p1517.1)).bind fun x1518 => some ((x1518, p1517.2)) else some (false, p1250.2)).bind fun p1497 => if p1497.1 then (((gGt x1391 (PyData.int 2)).bind fun x1503 => tBd x1503).bind fun x1504 => if x1504 then some (((PyData.int 3), p1497.2)) else (v__law_draw (p1497.2) (PyData.int 2)).bind fun q1505 => (gAdd (PyData.int 3) q1505.1).bind fun z1506 => some (z1506, q1505.2)).bind fun p1501 => (v__law_draw (p1501.2) x1391).bind fun q1502 => (setO x1463 q1502.1 p1501.1).bind fun l1499 => some ((q1502.2, l1499)) else some ((p1497.2, x1463))).bind fun (s1521 : List PyData × List PyData) => (((gTuple [.list (s1521.2)]).bind fun x1527 => ((v__law_web (s1521.1) x1391).bind fun p1528 => some (([p1528.1], p1528.2))).bind fun q1526 => some (x1527 :: q1526.1, q1526.2)).bind fun p1524 => (tupO (p1524.1)).bind fun x1525 => some ((x1525, p1524.2))).bind fun p1523 => some ((p1523.1, p1523.2))
theorem v__law_scenario_ok : ∀ (p_well : List PyData) (p_most : PyData) a, v__law_scenario p_well p_most = some a → fn__law_scenario [.rf p_well, .pl p_most] = some ((fun p : PyData × List PyData => Ret.pl p.1) a, (fun p : PyData × List PyData => [some p.2, none]) a) := fun p_well p_most a h => by
  have e : Sim bd__law_scenario [some (.rf (p_well)), some (.pl (p_most)), none, none] _ (Pf [.rf p_well, .pl p_most] (fun p : PyData × List PyData => Ret.pl p.1) (fun p : PyData × List PyData => [some p.2, none])) := (sim_asgS (E := fun w => [some (.rf w), some (.pl (p_most)), none, none]) (evs_call1 (ev_tup (ev_cons (ev_c (.int 1)) (ev_cons (ev_c (.int 2)) (ev_cons (ev_c (.int 3)) (ev_cons (ev_c (.int 3)) (ev_cons (ev_c (.int 4)) (ev_cons (ev_c (.int 4)) (ev_cons (ev_var 1) ev_nil)))))))) (v__law_one_ok _)) (fun x1251 w1252 => (sim_asg (ev_cb (ev_cons (ev_var 2) (ev_cons (ev_var 1) ev_nil))) (fun x1254 => (sim_own (ev_2F (ev_f (ev_lst (ev_cons (ev_c (.int 2)) ev_nil))) (ev_var 2)) (fun x1258 => (sim_join (C := (fun (s : List PyData × List PyData) (j : Unit) => [some (.rf (s.1)), some (.pl (p_most)), some (.pl x1254), some (.ow (s.2))])) (sim_last (sim_ifS (E := fun w => [some (.rf w), some (.pl (p_most)), some (.pl x1254), some (.ow x1258)]) (evs_andTpe rfl (ev_T (ev_2 (ev_var 2) (ev_c (.int 5)))) (evs_T (evs_2ep (evs_call1 (ev_c (.int 5)) (v__law_draw_ok _)) (fun _ => (ev_c (.int 0)))))) (fun w1260 => (sim_stee (E := fun w => [some (.rf w), some (.pl (p_most)), some (.pl x1254), some (.ow x1258)]) (evs_ifp (ev_T (ev_2 (ev_var 2) (ev_c (.int 2)))) (evs_pure _ (ev_c (.int 3))) (evs_2pe (ev_c (.int 3)) (evs_call1 (ev_c (.int 2)) (v__law_draw_ok _)))) (fun _ => (evs_call1 (ev_var 2) (v__law_draw_ok _))) (fun l1269 w1270 => (sim_end (a := (w1270, l1269)) ⟨rfl, (), rfl⟩)))) (fun w1260 => (sim_next (sim_end (a := (w1260, x1258)) ⟨rfl, (), rfl⟩))))) (fun s1283 j1284 => (sim_last (sim_retS (E := fun w => [some (.rf w), some (.pl (p_most)), some (.pl x1254), some (.ow (s1283.2))]) (c := fun d w => (d, w)) (evs_tup (evs_conspe (ev_OU (g := fun y => gTuple [y]) 3) (evs_consep (evs_call1 (ev_var 2) (v__law_web_ok _)) (fun _ => ev_nil)))) (fun _ _ => ⟨rfl, rfl⟩)))))))))))
  exact fn_sim (m := 4) (f := bd__law_scenario) (xs := [.rf p_well, .pl p_most]) (r := (fun p : PyData × List PyData => Ret.pl p.1)) (os := (fun p : PyData × List PyData => [some p.2, none])) (a := a) e h
/-! ### _law_is_scenario -/
noncomputable def v__law_is_scenario (p_thing : PyData) : Option (PyData) := ((((v__law_is_tuple (p_thing) (PyData.int 2)).bind fun x1759 => tBd x1759).bind fun x1760 => some ((!x1760))).bind fun x1761 => if x1761 then some true else ((((gIx (p_thing) (PyData.int 0)).bind fun x1762 => isi "tuple" x1762).bind fun x1763 => tBd x1763).bind fun x1764 => some ((!x1764))).bind fun x1765 => if x1765 then some true else (((gIx (p_thing) (PyData.int 1)).bind fun x1766 => isi "tuple" x1766).bind fun x1767 => tBd x1767).bind fun x1768 => some ((!x1768))).bind fun x1769 => if x1769 then some ((PyData.bool false)) else (un2 (p_thing)).bind fun p1645 => (((((gLen [p1645.1]).bind fun x1747 => andO (gLe (PyData.int 1) x1747) (gLe x1747 (PyData.int 6))).bind fun x1748 => tBd x1748).bind fun x1749 => some ((!x1749))).bind fun x1750 => if x1750 then some true else ((((((itemsOf (p1645.1)).bind fun x1752 => lmO (fun a1751 => andO (v__law_is_whole a1751) (andO (gLe (PyData.int 2) a1751) (gLe a1751 (PyData.int 4)))) x1752).bind fun x1753 => some ((PyData.list x1753))).bind fun x1754 => some ([x1754])).bind fun x1755 => gAll x1755).bind fun x1756 => tBd x1756).bind fun x1757 => some ((!x1757))).bind fun x1758 => if x1758 then some ((PyData.bool false)) else (itemsOf (p1645.1)).bind fun x1746 => (loopM (fun (s1697 : PyData) (a1699 : PyData) => (gMul s1697 a1699).bind fun x1700 => some (x1700)) x1746 (PyData.int 1)).bind fun (s1697 : PyData) => (((gGt s1697 (PyData.int 64)).bind fun x1734 => tBd x1734).bind fun x1735 => if x1735 then some true else ((((((itemsOf (p1645.2)).bind fun x1739 => lmO (fun a1736 => andO ((gLen [p1645.1]).bind fun x1737 => v__law_is_lot a1736 x1737) ((tupO []).bind fun x1738 => gNeA a1736 x1738)) x1739).bind fun x1740 => some ((PyData.list x1740))).bind fun x1741 => some ([x1741])).bind fun x1742 => gAll x1742).bind fun x1743 => tBd x1743).bind fun x1744 => some ((!x1744))).bind fun x1745 => if x1745 then some ((PyData.bool false)) else (((((((((gLen [p1645.2]).bind fun x1725 => gSub x1725 (PyData.int 1)).bind fun x1726 => rngO x1726).bind fun x1727 => lmO (fun a1721 => (gIx (p1645.2) a1721).bind fun x1722 => ((gAdd a1721 (PyData.int 1)).bind fun x1723 => gIx (p1645.2) x1723).bind fun x1724 => gLt x1722 x1724) x1727).bind fun x1728 => some ((PyData.list x1728))).bind fun x1729 => some ([x1729])).bind fun x1730 => gAll x1730).bind fun x1731 => tBd x1731).bind fun x1732 => some ((!x1732))).bind fun x1733 => if x1733 then some ((PyData.bool false)) else ((((((gLen [p1645.1]).bind fun x1713 => rngO x1713).bind fun x1714 => lcO (fun a1704 => ((((itemsOf (p1645.2)).bind fun x1707 => lcO (fun a1705 => (gIn a1704 a1705).bind fun x1706 => tBd x1706) (fun a1705 => some (a1705)) x1707).bind fun x1708 => some ((PyData.list x1708))).bind fun x1709 => ((lstO []).bind fun x1710 => some ((PyData.list x1710))).bind fun x1711 => gEqA x1709 x1711).bind fun x1712 => tBd x1712) (fun a1704 => some (a1704)) x1714).bind fun x1715 => some ((PyData.list x1715))).bind fun x1716 => ((lstO []).bind fun x1717 => some ((PyData.list x1717))).bind fun x1718 => gNeA x1716 x1718).bind fun x1719 => tBd x1719).bind fun x1720 => if x1720 then some ((PyData.bool false)) else ((v__law_maximal (p1645.2)).bind fun x1702 => gEqA x1702 (p1645.2)).bind fun x1703 => some (x1703)
theorem v__law_is_scenario_ok : ∀ (p_thing : PyData) a, v__law_is_scenario p_thing = some a → fn__law_is_scenario [.pl p_thing] = some ((fun a : PyData => Ret.pl a) a, (fun _ : PyData => [none]) a) := fun p_thing a h => by
  have e : Sim bd__law_is_scenario [some (.pl (p_thing)), none, none, none, none, none] _ (Pf [.pl p_thing] (fun a : PyData => Ret.pl a) (fun _ : PyData => [none])) := (sim_if (ev_orT (ev_notT (ev_T (ev_call2 (ev_var 0) (ev_c (.int 2)) v__law_is_tuple_ok))) (ev_orT (ev_notT (ev_T (ev_isi "tuple" (ev_2 (ev_var 0) (ev_c (.int 0)))))) (ev_notT (ev_T (ev_isi "tuple" (ev_2 (ev_var 0) (ev_c (.int 1)))))))) (sim_ret (c := fun d => d) (ev_c (.bool false)) (fun _ => ⟨rfl, rfl⟩)) (sim_next (sim_asg2 (ev_var 0) (fun u1530 u1531 => (sim_if (ev_orT (ev_notT (ev_T (ev_chain (ev_c (.int 1)) (ev_cb (ev_cons (ev_var 1) ev_nil)) (ev_c (.int 6))))) (ev_notT (ev_T (ev_cb (ev_cons (ev_f (ev_lcm (ev_items (ev_var 1)) (fun _ => (ev_andV (ev_call1 (ev_var 4) v__law_is_whole_ok) (ev_chain (ev_c (.int 2)) (ev_var 4) (ev_c (.int 4))))))) ev_nil))))) (sim_ret (c := fun d => d) (ev_c (.bool false)) (fun _ => ⟨rfl, rfl⟩)) (sim_next (sim_asg (ev_c (.int 1)) (fun x1532 => (sim_forM (C := (fun (s : PyData) (j : Option PyData) => [some (.pl (p_thing)), some (.pl u1530), some (.pl u1531), some (.pl s), (j).map PV.pl, none])) (fun a : PyData => a) (fun s1533 j1534 a1535 => [some (.pl (p_thing)), some (.pl u1530), some (.pl u1531), some (.pl s1533), some (.pl a1535), none]) some some_map x1532 none (ev_items (ev_var 1)) rfl (fun _ _ _ => rfl) (fun s1533 j1534 a1535 => (sim_last (sim_asg (ev_2 (ev_var 3) (ev_var 4)) (fun x1537 => (sim_end (a := x1537) ⟨.inl rfl, (some a1535), rfl⟩))))) (fun s1533 j1534 => (sim_if (ev_orT (ev_T (ev_2 (ev_var 3) (ev_c (.int 64)))) (ev_notT (ev_T (ev_cb (ev_cons (ev_f (ev_lcm (ev_items (ev_var 2)) (fun _ => (ev_andV (ev_call2 (ev_var 4) (ev_cb (ev_cons (ev_var 1) ev_nil)) v__law_is_lot_ok) (ev_2 (ev_var 4) (ev_tup ev_nil)))))) ev_nil))))) (sim_ret (c := fun d => d) (ev_c (.bool false)) (fun _ => ⟨rfl, rfl⟩)) (sim_next (sim_if (ev_notT (ev_T (ev_cb (ev_cons (ev_f (ev_lcm (ev_rng1 (ev_2 (ev_cb (ev_cons (ev_var 2) ev_nil)) (ev_c (.int 1)))) (fun _ => (ev_2 (ev_2 (ev_var 2) (ev_var 5)) (ev_2 (ev_var 2) (ev_2 (ev_var 5) (ev_c (.int 1)))))))) ev_nil)))) (sim_ret (c := fun d => d) (ev_c (.bool false)) (fun _ => ⟨rfl, rfl⟩)) (sim_next (sim_if (ev_T (ev_2 (ev_f (ev_lcf (ev_rng1 (ev_cb (ev_cons (ev_var 1) ev_nil))) (fun _ => (ev_T (ev_2 (ev_f (ev_lcf (ev_items (ev_var 2)) (fun _ => (ev_T (ev_2 (ev_var 5) (ev_var 4)))) (fun _ => (ev_var 4)))) (ev_f (ev_lst ev_nil))))) (fun _ => (ev_var 5)))) (ev_f (ev_lst ev_nil)))) (sim_ret (c := fun d => d) (ev_c (.bool false)) (fun _ => ⟨rfl, rfl⟩)) (sim_next (sim_last (sim_ret (c := fun d => d) (ev_2 (ev_call1 (ev_var 2) v__law_maximal_ok) (ev_var 2)) (fun _ => ⟨rfl, rfl⟩)))))))))))))))))))
  exact fn_sim (m := 6) (f := bd__law_is_scenario) (xs := [.pl p_thing]) (r := (fun a : PyData => Ret.pl a)) (os := (fun _ : PyData => [none])) (a := a) e h
/-! ### are_contexts -/
noncomputable def v_are_contexts (p_value : PyData) (p_many : PyData) : Option (PyData) := (((isi "tuple" (p_value)).bind fun x1796 => tBd x1796).bind fun x1797 => some ((!x1797))).bind fun x1798 => if x1798 then some ((PyData.bool false)) else (itemsOf (p_value)).bind fun x1795 => (loopW (fun (s1770 : Unit) (a1772 : PyData) => ((((v_is_lot_of a1772 (p_many)).bind fun x1773 => tBd x1773).bind fun x1774 => some ((!x1774))).bind fun x1775 => if x1775 then some true else ((gLen [a1772]).bind fun x1776 => gEqA x1776 (PyData.int 0)).bind fun x1777 => tBd x1777).bind fun x1778 => if x1778 then some (Fw.rt (PyData.bool false)) else some (Fw.nx ())) x1795 ()).bind fun o => goW id (fun (s1770 : Unit) => (((v_is_ascending (p_value)).bind fun x1792 => tBd x1792).bind fun x1793 => some ((!x1793))).bind fun x1794 => if x1794 then some ((PyData.bool false)) else (rngO (p_many)).bind fun x1791 => (loopW (fun (s1779 : Unit) (a1781 : PyData) => (((((((itemsOf (p_value)).bind fun x1783 => lmO (fun a1782 => gIn a1781 a1782) x1783).bind fun x1784 => some ((PyData.list x1784))).bind fun x1785 => some ([x1785])).bind fun x1786 => gAny x1786).bind fun x1787 => tBd x1787).bind fun x1788 => some ((!x1788))).bind fun x1789 => if x1789 then some (Fw.rt (PyData.bool false)) else some (Fw.nx ())) x1791 ()).bind fun o => goW id (fun (s1779 : Unit) => (notO (v_is_within_another (p_value))).bind fun x1790 => some (x1790)) o) o
theorem v_are_contexts_ok : ∀ (p_value : PyData) (p_many : PyData) a, v_are_contexts p_value p_many = some a → fn_are_contexts [.pl p_value, .pl p_many] = some ((fun a : PyData => Ret.pl a) a, (fun _ : PyData => [none, none]) a) := fun p_value p_many a h => by
  have e : Sim bd_are_contexts [some (.pl (p_value)), some (.pl (p_many)), none, none] _ (Pf [.pl p_value, .pl p_many] (fun a : PyData => Ret.pl a) (fun _ : PyData => [none, none])) := (sim_if (ev_notT (ev_T (ev_isi "tuple" (ev_var 0)))) (sim_ret (c := fun d => d) (ev_c (.bool false)) (fun _ => ⟨rfl, rfl⟩)) (sim_next (sim_forW (C := (fun (s : Unit) (j : Option PyData) => [some (.pl (p_value)), some (.pl (p_many)), (j).map PV.pl, none])) (R := Pf [.pl p_value, .pl p_many] (fun a : PyData => Ret.pl a) (fun _ : PyData => [none, none])) id (fun a : PyData => a) (fun s1770 j1771 a1772 => [some (.pl (p_value)), some (.pl (p_many)), some (.pl a1772), none]) some some_map () none (ev_items (ev_var 0)) rfl (fun _ _ _ => rfl) (fun s1770 j1771 a1772 => (sim_last (sim_if (ev_orT (ev_notT (ev_T (ev_call2 (ev_var 2) (ev_var 1) v_is_lot_of_ok))) (ev_T (ev_2 (ev_cb (ev_cons (ev_var 2) ev_nil)) (ev_c (.int 0))))) (sim_ret (c := fun d => Fw.rt d) (ev_c (.bool false)) (fun _ => ⟨⟨_, rfl⟩, rfl, rfl⟩)) (sim_next (sim_end (a := Fw.nx ()) ⟨.inl rfl, (some a1772), rfl⟩))))) (fun s1770 j1771 => (sim_if (ev_notT (ev_T (ev_call1 (ev_var 0) v_is_ascending_ok))) (sim_ret (c := fun d => d) (ev_c (.bool false)) (fun _ => ⟨rfl, rfl⟩)) (sim_next (sim_forW (C := (fun (s : Unit) (j : Option PyData) => [some (.pl (p_value)), some (.pl (p_many)), (j1771).map PV.pl, (j).map PV.pl])) (R := Pf [.pl p_value, .pl p_many] (fun a : PyData => Ret.pl a) (fun _ : PyData => [none, none])) id (fun a : PyData => a) (fun s1779 j1780 a1781 => [some (.pl (p_value)), some (.pl (p_many)), (j1771).map PV.pl, some (.pl a1781)]) some some_map () none (ev_rng1 (ev_var 1)) rfl (fun _ _ _ => rfl) (fun s1779 j1780 a1781 => (sim_last (sim_if (ev_notT (ev_T (ev_cb (ev_cons (ev_f (ev_lcm (ev_items (ev_var 0)) (fun _ => (ev_2 (ev_var 3) (ev_var 2))))) ev_nil)))) (sim_ret (c := fun d => Fw.rt d) (ev_c (.bool false)) (fun _ => ⟨⟨_, rfl⟩, rfl, rfl⟩)) (sim_next (sim_end (a := Fw.nx ()) ⟨.inl rfl, (some a1781), rfl⟩))))) (fun s1779 j1780 => (sim_last (sim_ret (c := fun d => d) (ev_notV (ev_call1 (ev_var 0) v_is_within_another_ok)) (fun _ => ⟨rfl, rfl⟩)))) (fun _ _ _ h => h))))) (fun _ _ _ h => h))))
  exact fn_sim (m := 4) (f := bd_are_contexts) (xs := [.pl p_value, .pl p_many]) (r := (fun a : PyData => Ret.pl a)) (os := (fun _ : PyData => [none, none])) (a := a) e h
/-! ### need_lot -/
noncomputable def v_need_lot (p_scenario : PyData) (p_lot : PyData) : Option (PyData) := ((((((gIx (p_scenario) (PyData.int 0)).bind fun x1799 => some ([x1799])).bind fun x1800 => gLen x1800).bind fun x1801 => v_is_lot_of (p_lot) x1801).bind fun x1802 => tBd x1802).bind fun x1803 => some ((!x1803))).bind fun x1804 => if x1804 then none else some (PyData.none)
theorem v_need_lot_ok : ∀ (p_scenario : PyData) (p_lot : PyData) a, v_need_lot p_scenario p_lot = some a → fn_need_lot [.pl p_scenario, .pl p_lot] = some ((fun a : PyData => Ret.pl a) a, (fun _ : PyData => [none, none]) a) := fun p_scenario p_lot a h => by
  have e : Sim bd_need_lot [some (.pl (p_scenario)), some (.pl (p_lot))] _ (Pf [.pl p_scenario, .pl p_lot] (fun a : PyData => Ret.pl a) (fun _ : PyData => [none, none])) := (sim_last (sim_if (ev_notT (ev_T (ev_call2 (ev_var 1) (ev_cb (ev_cons (ev_2 (ev_var 0) (ev_c (.int 0))) ev_nil)) v_is_lot_of_ok))) sim_never (sim_next (sim_end (a := PyData.none) ⟨rfl, rfl⟩))))
  exact fn_sim (m := 2) (f := bd_need_lot) (xs := [.pl p_scenario, .pl p_lot]) (r := (fun a : PyData => Ret.pl a)) (os := (fun _ : PyData => [none, none])) (a := a) e h
/-! ### _law_bent -/
noncomputable def v__law_bent (p_well : List PyData) (p_thing : PyData) : Option (PyData × List PyData) := (lstO []).bind fun x1805 => ((v__law_draw (p_well) (PyData.int 5)).bind fun p2102 => (rngO (p2102.1)).bind fun x2103 => some ((x2103, p2102.2))).bind fun p2101 => (loopW (fun (s1956 : List PyData × List PyData × PyData) (a1958 : PyData) => ((((isi "tuple" (s1956.2.2)).bind fun x1971 => tBd x1971).bind fun x1972 => some ((!x1972))).bind fun x1973 => if x1973 then some true else ((tupO []).bind fun x1974 => gEqA (s1956.2.2) x1974).bind fun x1975 => tBd x1975).bind fun x1976 => if x1976 then some (Fw.bk (s1956.1, s1956.2.1, s1956.2.2)) else ((gLen [s1956.2.2]).bind fun x1970 => v__law_draw (s1956.1) x1970).bind fun p1959 => (tupO [s1956.2.2, p1959.1]).bind fun x1966 => (appO (s1956.2.1) x1966).bind fun l1967 => (gIx (s1956.2.2) (p1959.1)).bind fun x1968 => some (Fw.nx (p1959.2, l1967, x1968))) p2101.1 (p2101.2, x1805, p_thing)).bind fun o => goW id (fun (s1956 : List PyData × List PyData × PyData) => (v__law_draw (s1956.1) (PyData.int 8)).bind fun p1977 => ((((isi "tuple" (s1956.2.2)).bind fun x2079 => tBd x2079).bind fun x2080 => if x2080 then (gLt (p1977.1) (PyData.int 5)).bind fun x2081 => tBd x2081 else some false).bind fun x2082 => if x2082 then (((((gList [s1956.2.2]).bind fun x2040 => some ((PyData.list x2040))).bind fun x2041 => ((((gNeg (PyData.int 1)).bind fun x2042 => partO x2042).bind fun x2043 => gSl (s1956.2.2) none x2043).bind fun x2044 => ((((partO (PyData.int 1)).bind fun x2045 => gSl (s1956.2.2) none x2045).bind fun x2046 => gAdd (s1956.2.2) x2046).bind fun x2047 => (((partO (PyData.int 1)).bind fun x2048 => gSl (s1956.2.2) x2048 none).bind fun x2049 => ((gRev (s1956.2.2)).bind fun x2050 => some ([x2050])).bind fun x2051 => some ((x2049 :: x2051))).bind fun x2052 => some ((x2047 :: x2052))).bind fun x2053 => some ((x2044 :: x2053))).bind fun x2054 => some ((x2041 :: x2054))).bind fun x2055 => tupO x2055).bind fun x2056 => gIx x2056 (p1977.1)).bind fun x2057 => some ((p1977.2, x2057)) else (((v__law_is_whole (s1956.2.2)).bind fun x2075 => tBd x2075).bind fun x2076 => if x2076 then (gLt (p1977.1) (PyData.int 5)).bind fun x2077 => tBd x2077 else some false).bind fun x2078 => if x2078 then ((((gAdd (s1956.2.2) (PyData.int 1)).bind fun x2059 => ((gSub (s1956.2.2) (PyData.int 1)).bind fun x2060 => ((gSub (PyData.int 0) (s1956.2.2)).bind fun x2061 => ((gGt (s1956.2.2) (PyData.int 0)).bind fun x2062 => ((gSub (PyData.int 1) (s1956.2.2)).bind fun x2063 => some ([x2063])).bind fun x2064 => some ((x2062 :: x2064))).bind fun x2065 => some ((x2061 :: x2065))).bind fun x2066 => some ((x2060 :: x2066))).bind fun x2067 => some ((x2059 :: x2067))).bind fun x2068 => tupO x2068).bind fun x2069 => gIx x2069 (p1977.1)).bind fun x2070 => some ((p1977.2, x2070)) else (v__law_odd (p1977.2)).bind fun p2072 => some ((p2072.2, p2072.1))).bind fun (s2083 : List PyData × PyData) => ((gRev (.list (s1956.2.1))).bind fun x2097 => itemsOf x2097).bind fun x2098 => (un2s x2098).bind fun x2099 => (loopM (fun (s2085 : PyData) (a2087 : PyData × PyData) => ((((partO (a2087.2)).bind fun x2088 => gSl (a2087.1) none x2088).bind fun x2089 => (tupO [s2085]).bind fun x2090 => gAdd x2089 x2090).bind fun x2091 => (((gAdd (a2087.2) (PyData.int 1)).bind fun x2092 => partO x2092).bind fun x2093 => gSl (a2087.1) x2093 none).bind fun x2094 => gAdd x2091 x2094).bind fun x2095 => some (x2095)) x2099 (s2083.2)).bind fun (s2085 : PyData) => some ((s2085, s2083.1))) o
theorem v__law_bent_ok : ∀ (p_well : List PyData) (p_thing : PyData) a, v__law_bent p_well p_thing = some a → fn__law_bent [.rf p_well, .pl p_thing] = some ((fun p : PyData × List PyData => Ret.pl p.1) a, (fun p : PyData × List PyData => [some p.2, none]) a) := fun p_well p_thing a h => by
  have e : Sim bd__law_bent [some (.rf (p_well)), some (.pl (p_thing)), none, none, none, none, none, none] _ (Pf [.rf p_well, .pl p_thing] (fun p : PyData × List PyData => Ret.pl p.1) (fun p : PyData × List PyData => [some p.2, none])) := (sim_parF (ev_lst ev_nil) (ev_var 1) (fun u1806 u1807 => (sim_forWS (E := fun w => [some (.rf w), some (.pl (p_thing)), some (.ow u1806), some (.pl u1807), none, none, none, none]) (C := (fun (s : List PyData × List PyData × PyData) (j : Option PyData × Option PyData) => [some (.rf (s.1)), some (.pl (p_thing)), some (.ow (s.2.1)), some (.pl (s.2.2)), (j.1).map PV.pl, (j.2).map PV.pl, none, none])) (R := Pf [.rf p_well, .pl p_thing] (fun p : PyData × List PyData => Ret.pl p.1) (fun p : PyData × List PyData => [some p.2, none])) id (fun a : PyData => a) (fun s1808 j1809 a1810 => [some (.rf (s1808.1)), some (.pl (p_thing)), some (.ow (s1808.2.1)), some (.pl (s1808.2.2)), some (.pl a1810), (j1809.2).map PV.pl, none, none]) some some_map (fun w1952 => (w1952, u1806, u1807)) (none, none) (evs_rng1 (evs_call1 (ev_c (.int 5)) (v__law_draw_ok _))) (fun _ => rfl) (fun _ _ _ => rfl) (fun s1808 j1809 a1810 => (sim_if (ev_orT (ev_notT (ev_T (ev_isi "tuple" (ev_var 3)))) (ev_T (ev_2 (ev_var 3) (ev_tup ev_nil)))) (sim_bk (a := Fw.bk (s1808.1, s1808.2.1, s1808.2.2)) ⟨rfl, (some a1810, j1809.2), rfl⟩) (sim_next (sim_asgS (E := fun w => [some (.rf w), some (.pl (p_thing)), some (.ow (s1808.2.1)), some (.pl (s1808.2.2)), some (.pl a1810), (j1809.2).map PV.pl, none, none]) (evs_call1 (ev_cb (ev_cons (ev_var 3) ev_nil)) (v__law_draw_ok _)) (fun x1812 w1813 => (sim_app (ev_tup (ev_cons (ev_var 3) (ev_cons (ev_var 5) ev_nil))) (fun l1815 => (sim_last (sim_asg (ev_2 (ev_var 3) (ev_var 5)) (fun x1817 => (sim_end (a := Fw.nx (w1813, l1815, x1817)) ⟨.inl rfl, (some a1810, some x1812), rfl⟩))))))))))) (fun s1808 j1809 => (sim_asgS (E := fun w => [some (.rf w), some (.pl (p_thing)), some (.ow (s1808.2.1)), some (.pl (s1808.2.2)), (j1809.1).map PV.pl, (j1809.2).map PV.pl, none, none]) (evs_call1 (ev_c (.int 8)) (v__law_draw_ok _)) (fun x1830 w1831 => (sim_join (C := (fun (s : List PyData × PyData) (j : Unit) => [some (.rf (s.1)), some (.pl (p_thing)), some (.ow (s1808.2.1)), some (.pl (s.2)), (j1809.1).map PV.pl, (j1809.2).map PV.pl, some (.pl x1830), none])) (sim_last (sim_if (ev_andT (ev_T (ev_isi "tuple" (ev_var 3))) (ev_T (ev_2 (ev_var 6) (ev_c (.int 5))))) (sim_asg (ev_2 (ev_tup (ev_cons (ev_f (ev_cbF (ev_cons (ev_var 3) ev_nil))) (ev_cons (ev_sl (ev_var 3) ev_no (ev_part (ev_1 (ev_c (.int 1))))) (ev_cons (ev_2 (ev_var 3) (ev_sl (ev_var 3) ev_no (ev_part (ev_c (.int 1))))) (ev_cons (ev_sl (ev_var 3) (ev_part (ev_c (.int 1))) ev_no) (ev_cons (ev_1 (ev_var 3)) ev_nil)))))) (ev_var 6)) (fun x1850 => (sim_end (a := (w1831, x1850)) ⟨rfl, (), rfl⟩))) (sim_if (ev_andT (ev_T (ev_call1 (ev_var 3) v__law_is_whole_ok)) (ev_T (ev_2 (ev_var 6) (ev_c (.int 5))))) (sim_asg (ev_2 (ev_tup (ev_cons (ev_2 (ev_var 3) (ev_c (.int 1))) (ev_cons (ev_2 (ev_var 3) (ev_c (.int 1))) (ev_cons (ev_2 (ev_c (.int 0)) (ev_var 3)) (ev_cons (ev_2 (ev_var 3) (ev_c (.int 0))) (ev_cons (ev_2 (ev_c (.int 1)) (ev_var 3)) ev_nil)))))) (ev_var 6)) (fun x1863 => (sim_end (a := (w1831, x1863)) ⟨rfl, (), rfl⟩))) (sim_asgS (E := fun w => [some (.rf w), some (.pl (p_thing)), some (.ow (s1808.2.1)), some (.pl (s1808.2.2)), (j1809.1).map PV.pl, (j1809.2).map PV.pl, some (.pl x1830), none]) (evs_call0 (v__law_odd_ok _)) (fun x1865 w1866 => (sim_end (a := (w1866, x1865)) ⟨rfl, (), rfl⟩)))))) (fun s1875 j1876 => (sim_forM (C := (fun (s : PyData) (j : Option PyData × Option PyData) => [some (.rf (s1875.1)), some (.pl (p_thing)), some (.ow (s1808.2.1)), some (.pl s), (j1809.1).map PV.pl, (j.1).map PV.pl, some (.pl x1830), (j.2).map PV.pl])) tup2 (fun s1877 j1878 a1879 => [some (.rf (s1875.1)), some (.pl (p_thing)), some (.ow (s1808.2.1)), some (.pl s1877), (j1809.1).map PV.pl, some (.pl (a1879.2)), some (.pl x1830), some (.pl (a1879.1))]) un2s (fun _ _ h => un2s_some h) (s1875.2) (j1809.2, none) (ev_items (ev_OU 2)) rfl (fun _ _ _ => rfl) (fun s1877 j1878 a1879 => (sim_last (sim_asg (ev_2 (ev_2 (ev_sl (ev_var 7) ev_no (ev_part (ev_var 5))) (ev_tup (ev_cons (ev_var 3) ev_nil))) (ev_sl (ev_var 7) (ev_part (ev_2 (ev_var 5) (ev_c (.int 1)))) ev_no)) (fun x1888 => (sim_end (a := x1888) ⟨.inl rfl, (some (a1879.2), some (a1879.1)), rfl⟩))))) (fun s1877 j1878 => (sim_last (sim_ret (c := fun d => (d, s1875.1)) (ev_var 3) (fun _ => ⟨rfl, rfl⟩)))))))))) (fun _ _ _ h => h))))
  exact fn_sim (m := 8) (f := bd__law_bent) (xs := [.rf p_well, .pl p_thing]) (r := (fun p : PyData × List PyData => Ret.pl p.1)) (os := (fun p : PyData × List PyData => [some p.2, none])) (a := a) e h
/-! ### is_scenario_form -/
noncomputable def v_is_scenario_form (p_value : PyData) : Option (PyData) := (andO (v_is_tuple_of (p_value) (PyData.int 2)) (andO ((gIx (p_value) (PyData.int 0)).bind fun x2104 => v_are_outcomes x2104) ((gIx (p_value) (PyData.int 1)).bind fun x2105 => (((gIx (p_value) (PyData.int 0)).bind fun x2106 => some ([x2106])).bind fun x2107 => gLen x2107).bind fun x2108 => v_are_contexts x2105 x2108))).bind fun x2109 => some (x2109)
theorem v_is_scenario_form_ok : ∀ (p_value : PyData) a, v_is_scenario_form p_value = some a → fn_is_scenario_form [.pl p_value] = some ((fun a : PyData => Ret.pl a) a, (fun _ : PyData => [none]) a) := fun p_value a h => by
  have e : Sim bd_is_scenario_form [some (.pl (p_value))] _ (Pf [.pl p_value] (fun a : PyData => Ret.pl a) (fun _ : PyData => [none])) := (sim_last (sim_ret (c := fun d => d) (ev_andV (ev_call2 (ev_var 0) (ev_c (.int 2)) v_is_tuple_of_ok) (ev_andV (ev_call1 (ev_2 (ev_var 0) (ev_c (.int 0))) v_are_outcomes_ok) (ev_call2 (ev_2 (ev_var 0) (ev_c (.int 1))) (ev_cb (ev_cons (ev_2 (ev_var 0) (ev_c (.int 0))) ev_nil)) v_are_contexts_ok))) (fun _ => ⟨rfl, rfl⟩)))
  exact fn_sim (m := 1) (f := bd_is_scenario_form) (xs := [.pl p_value]) (r := (fun a : PyData => Ret.pl a)) (os := (fun _ : PyData => [none])) (a := a) e h
/-! ### _law_maybe -/
noncomputable def v__law_maybe (p_well : List PyData) (p_thing : PyData) : Option (PyData × List PyData) := (v__law_draw (p_well) (PyData.int 10)).bind fun p2110 => ((gLt (p2110.1) (PyData.int 5)).bind fun x2121 => tBd x2121).bind fun x2122 => if x2122 then some ((p_thing, p2110.2)) else (((gLt (p2110.1) (PyData.int 9)).bind fun x2119 => tBd x2119).bind fun x2120 => if x2120 then v__law_bent (p2110.2) (p_thing) else v__law_odd (p2110.2)).bind fun p2118 => some ((p2118.1, p2118.2))
theorem v__law_maybe_ok : ∀ (p_well : List PyData) (p_thing : PyData) a, v__law_maybe p_well p_thing = some a → fn__law_maybe [.rf p_well, .pl p_thing] = some ((fun p : PyData × List PyData => Ret.pl p.1) a, (fun p : PyData × List PyData => [some p.2, none]) a) := fun p_well p_thing a h => by
  have e : Sim bd__law_maybe [some (.rf (p_well)), some (.pl (p_thing)), none] _ (Pf [.rf p_well, .pl p_thing] (fun p : PyData × List PyData => Ret.pl p.1) (fun p : PyData × List PyData => [some p.2, none])) := (sim_asgS (E := fun w => [some (.rf w), some (.pl (p_thing)), none]) (evs_call1 (ev_c (.int 10)) (v__law_draw_ok _)) (fun x2111 w2112 => (sim_if (ev_T (ev_2 (ev_var 2) (ev_c (.int 5)))) (sim_ret (c := fun d => (d, w2112)) (ev_var 1) (fun _ => ⟨rfl, rfl⟩)) (sim_next (sim_last (sim_retS (E := fun w => [some (.rf w), some (.pl (p_thing)), some (.pl x2111)]) (c := fun d w => (d, w)) (evs_ifp (ev_T (ev_2 (ev_var 2) (ev_c (.int 9)))) (evs_call1 (ev_var 1) (v__law_bent_ok _)) (evs_call0 (v__law_odd_ok _))) (fun _ _ => ⟨rfl, rfl⟩)))))))
  exact fn_sim (m := 3) (f := bd__law_maybe) (xs := [.rf p_well, .pl p_thing]) (r := (fun p : PyData × List PyData => Ret.pl p.1)) (os := (fun p : PyData × List PyData => [some p.2, none])) (a := a) e h
/-! ### need_scenario -/
noncomputable def v_need_scenario (p_scenario : PyData) : Option (PyData) := (((v_is_scenario_form (p_scenario)).bind fun x2123 => tBd x2123).bind fun x2124 => some ((!x2124))).bind fun x2125 => if x2125 then none else some (PyData.none)
theorem v_need_scenario_ok : ∀ (p_scenario : PyData) a, v_need_scenario p_scenario = some a → fn_need_scenario [.pl p_scenario] = some ((fun a : PyData => Ret.pl a) a, (fun _ : PyData => [none]) a) := fun p_scenario a h => by
  have e : Sim bd_need_scenario [some (.pl (p_scenario))] _ (Pf [.pl p_scenario] (fun a : PyData => Ret.pl a) (fun _ : PyData => [none])) := (sim_last (sim_if (ev_notT (ev_T (ev_call1 (ev_var 0) v_is_scenario_form_ok))) sim_never (sim_next (sim_end (a := PyData.none) ⟨rfl, rfl⟩))))
  exact fn_sim (m := 1) (f := bd_need_scenario) (xs := [.pl p_scenario]) (r := (fun a : PyData => Ret.pl a)) (os := (fun _ : PyData => [none])) (a := a) e h
/-! ### is_scenario -/
noncomputable def v_is_scenario (p_value : PyData) : Option (PyData) := (v_is_scenario_form (p_value)).bind fun x2126 => some (x2126)
theorem v_is_scenario_ok : ∀ (p_value : PyData) a, v_is_scenario p_value = some a → fn_is_scenario [.pl p_value] = some ((fun a : PyData => Ret.pl a) a, (fun _ : PyData => [none]) a) := fun p_value a h => by
  have e : Sim bd_is_scenario [some (.pl (p_value))] _ (Pf [.pl p_value] (fun a : PyData => Ret.pl a) (fun _ : PyData => [none])) := (sim_last (sim_ret (c := fun d => d) (ev_call1 (ev_var 0) v_is_scenario_form_ok) (fun _ => ⟨rfl, rfl⟩)))
  exact fn_sim (m := 1) (f := bd_is_scenario) (xs := [.pl p_value]) (r := (fun a : PyData => Ret.pl a)) (os := (fun _ : PyData => [none])) (a := a) e h
/-! ### sections_of -/
noncomputable def v_sections_of (p_scenario : PyData) (p_lot : PyData) : Option (PyData) := (v_need_scenario (p_scenario)).bind fun x2131 => (v_need_lot (p_scenario) (p_lot)).bind fun x2130 => (((v_sections_in (p_scenario) (p_lot)).bind fun x2127 => some ([x2127])).bind fun x2128 => gTuple x2128).bind fun x2129 => some (x2129)
theorem v_sections_of_ok : ∀ (p_scenario : PyData) (p_lot : PyData) a, v_sections_of p_scenario p_lot = some a → fn_sections_of [.pl p_scenario, .pl p_lot] = some ((fun a : PyData => Ret.pl a) a, (fun _ : PyData => [none, none]) a) := fun p_scenario p_lot a h => by
  have e : Sim bd_sections_of [some (.pl (p_scenario)), some (.pl (p_lot))] _ (Pf [.pl p_scenario, .pl p_lot] (fun a : PyData => Ret.pl a) (fun _ : PyData => [none, none])) := (sim_drop (ev_call1 (ev_var 0) v_need_scenario_ok) (fun _ => (sim_drop (ev_call2 (ev_var 0) (ev_var 1) v_need_lot_ok) (fun _ => (sim_last (sim_ret (c := fun d => d) (ev_cb (ev_cons (ev_call2 (ev_var 0) (ev_var 1) v_sections_in_ok) ev_nil)) (fun _ => ⟨rfl, rfl⟩)))))))
  exact fn_sim (m := 2) (f := bd_sections_of) (xs := [.pl p_scenario, .pl p_lot]) (r := (fun a : PyData => Ret.pl a)) (os := (fun _ : PyData => [none, none])) (a := a) e h
/-! ### _law_right -/
noncomputable def v__law_right (p_well : List PyData) : Option (PyData × List PyData) := (rngO (PyData.int 4)).bind fun x2974 => (loopW (fun (s2132 : List PyData) (a2134 : PyData) => (v__law_scenario s2132 (PyData.int 6)).bind fun p2135 => (((((v__law_bent (p2135.2) (p2135.1)).bind fun p2967 => ((v__law_maybe (p2967.2) (p2135.1)).bind fun p2969 => ((v__law_odd (p2969.2)).bind fun p2971 => ((v__law_planted (p2971.2)).bind fun p2973 => some (([p2973.1], p2973.2))).bind fun q2972 => some (p2971.1 :: q2972.1, q2972.2)).bind fun q2970 => some (p2969.1 :: q2970.1, q2970.2)).bind fun q2968 => some (p2967.1 :: q2968.1, q2968.2)).bind fun q2966 => some (p2135.1 :: q2966.1, q2966.2)).bind fun p2964 => (lstO (p2964.1)).bind fun x2965 => some ((x2965, p2964.2))).bind fun p2963 => some (((PyData.list (p2963.1)), p2963.2))).bind fun p2556 => (((((((((tupO []).bind fun x2941 => some ([x2941])).bind fun x2942 => tupO x2942).bind fun x2943 => gAdd (p2135.1) x2943).bind fun x2944 => (((gList [p2135.1]).bind fun x2945 => some ((PyData.list x2945))).bind fun x2946 => ((((gIx (p2135.1) (PyData.int 0)).bind fun x2947 => (((gIx (p2135.1) (PyData.int 1)).bind fun x2948 => ((gIx (p2135.1) (PyData.int 1)).bind fun x2949 => (partO (PyData.int 1)).bind fun x2950 => gSl x2949 none x2950).bind fun x2951 => gAdd x2948 x2951).bind fun x2952 => some ([x2952])).bind fun x2953 => some ((x2947 :: x2953))).bind fun x2954 => tupO x2954).bind fun x2955 => some ([x2955])).bind fun x2956 => some ((x2946 :: x2956))).bind fun x2957 => some ((x2944 :: x2957))).bind fun x2958 => lstO x2958).bind fun x2959 => some ((PyData.list x2959))).bind fun x2960 => gAdd (p2556.1) x2960).bind fun x2961 => itemsOf x2961).bind fun x2962 => (loopW (fun (s2761 : Unit) (a2763 : PyData) => (v__law_is_scenario a2763).bind fun x2764 => ((((((((v_is_scenario a2763).bind fun x2780 => (((fun ds => match ds with | [y0] => v_is_scenario y0 | _ => none) [a2763]).bind fun x2781 => some ([x2781])).bind fun x2782 => some ((x2780 :: x2782))).bind fun x2783 => lstO x2783).bind fun x2784 => some ((PyData.list x2784))).bind fun x2785 => some ([x2785])).bind fun x2786 => gRepr x2786).bind fun x2787 => ((((lstO [x2764, x2764]).bind fun x2788 => some ((PyData.list x2788))).bind fun x2789 => some ([x2789])).bind fun x2790 => gRepr x2790).bind fun x2791 => gNeA x2787 x2791).bind fun x2792 => tBd x2792).bind fun x2793 => if x2793 then some (Fw.rt ((PyData.bool false), p2556.2)) else some (Fw.nx ())) x2962 ()).bind fun o => goW Fw.rt (fun (s2761 : Unit) => ((lstO []).bind fun x2794 => some ((PyData.list x2794))).bind fun x2795 => ((((gIx (p2135.1) (PyData.int 0)).bind fun x2937 => some ([x2937])).bind fun x2938 => gLen x2938).bind fun x2939 => rngO x2939).bind fun x2940 => (loopM (fun (s2869 : List PyData × PyData) (a2871 : PyData) => (((((v__law_draw (s2869.1) (PyData.int 2)).bind fun p2880 => (gEqA p2880.1 (PyData.int 0)).bind fun z2881 => some (z2881, p2880.2)).bind fun p2878 => (tBd (p2878.1)).bind fun x2879 => some ((x2879, p2878.2))).bind fun p2877 => if p2877.1 then ((lstO [a2871]).bind fun x2882 => some ((PyData.list x2882))).bind fun x2883 => some ((x2883, p2877.2)) else ((lstO []).bind fun x2884 => some ((PyData.list x2884))).bind fun x2885 => some ((x2885, p2877.2))).bind fun q2875 => (gAdd (s2869.2) q2875.1).bind fun z2876 => some (z2876, q2875.2)).bind fun p2872 => some ((p2872.2, p2872.1))) x2940 (p2556.2, x2795)).bind fun (s2869 : List PyData × PyData) => ((gIx (p2135.1) (PyData.int 0)).bind fun x2886 => v__law_sections x2886 (s2869.2)).bind fun x2887 => (((((gTuple [s2869.2]).bind fun x2913 => v_sections_of (p2135.1) x2913).bind fun x2914 => ((((gTuple [s2869.2]).bind fun x2915 => some ([x2915, p2135.1])).bind fun x2916 => (fun ds => match ds with | [y0, y1] => v_sections_of y1 y0 | _ => none) x2916).bind fun x2917 => some ([x2917])).bind fun x2918 => some ((x2914 :: x2918))).bind fun x2919 => lstO x2919).bind fun x2920 => some ((PyData.list x2920))).bind fun x2921 => (((gRepr [x2921]).bind fun x2930 => ((((lstO [x2887, x2887]).bind fun x2931 => some ((PyData.list x2931))).bind fun x2932 => some ([x2932])).bind fun x2933 => gRepr x2933).bind fun x2934 => gNeA x2930 x2934).bind fun x2935 => tBd x2935).bind fun x2936 => if x2936 then some (Fw.rt ((PyData.bool false), s2869.1)) else some (Fw.nx (s2869.1))) o) x2974 (p_well)).bind fun o => goW id (fun (s2132 : List PyData) => some (((PyData.bool true), s2132))) o
theorem v__law_right_ok : ∀ (p_well : List PyData) a, v__law_right p_well = some a → fn__law_right [.rf p_well] = some ((fun p : PyData × List PyData => Ret.pl p.1) a, (fun p : PyData × List PyData => [some p.2]) a) := fun p_well a h => by
  have e : Sim bd__law_right [some (.rf (p_well)), none, none, none, none, none, none, none, none] _ (Pf [.rf p_well] (fun p : PyData × List PyData => Ret.pl p.1) (fun p : PyData × List PyData => [some p.2])) := (sim_forW (C := (fun (s : List PyData) (j : Option PyData × Option PyData × Option PyData × Option PyData × Option PyData × Option PyData × Option PyData × Option PyData) => [some (.rf s), (j.1).map PV.pl, (j.2.1).map PV.pl, (j.2.2.1).map PV.pl, (j.2.2.2.1).map PV.pl, (j.2.2.2.2.1).map PV.pl, (j.2.2.2.2.2.1).map PV.pl, (j.2.2.2.2.2.2.1).map PV.pl, (j.2.2.2.2.2.2.2).map PV.pl])) (R := Pf [.rf p_well] (fun p : PyData × List PyData => Ret.pl p.1) (fun p : PyData × List PyData => [some p.2])) id (fun a : PyData => a) (fun s2132 j2133 a2134 => [some (.rf s2132), some (.pl a2134), (j2133.2.1).map PV.pl, (j2133.2.2.1).map PV.pl, (j2133.2.2.2.1).map PV.pl, (j2133.2.2.2.2.1).map PV.pl, (j2133.2.2.2.2.2.1).map PV.pl, (j2133.2.2.2.2.2.2.1).map PV.pl, (j2133.2.2.2.2.2.2.2).map PV.pl]) some some_map (p_well) (none, none, none, none, none, none, none, none) (ev_rng1 (ev_c (.int 4))) rfl (fun _ _ _ => rfl) (fun s2132 j2133 a2134 => (sim_asgS (E := fun w => [some (.rf w), some (.pl a2134), (j2133.2.1).map PV.pl, (j2133.2.2.1).map PV.pl, (j2133.2.2.2.1).map PV.pl, (j2133.2.2.2.2.1).map PV.pl, (j2133.2.2.2.2.2.1).map PV.pl, (j2133.2.2.2.2.2.2.1).map PV.pl, (j2133.2.2.2.2.2.2.2).map PV.pl]) (evs_call1 (ev_c (.int 6)) (v__law_scenario_ok _)) (fun x2136 w2137 => (sim_asgS (E := fun w => [some (.rf w), some (.pl a2134), some (.pl x2136), (j2133.2.2.1).map PV.pl, (j2133.2.2.2.1).map PV.pl, (j2133.2.2.2.2.1).map PV.pl, (j2133.2.2.2.2.2.1).map PV.pl, (j2133.2.2.2.2.2.2.1).map PV.pl, (j2133.2.2.2.2.2.2.2).map PV.pl]) (evs_f (evs_lst (evs_conspe (ev_var 2) (evs_consee (evs_call1 (ev_var 2) (v__law_bent_ok _)) (fun _ => (evs_consee (evs_call1 (ev_var 2) (v__law_maybe_ok _)) (fun _ => (evs_consee (evs_call0 (v__law_odd_ok _)) (fun _ => (evs_consep (evs_call0 (v__law_planted_ok _)) (fun _ => ev_nil))))))))))) (fun x2139 w2140 => (sim_forW (C := (fun (s : Unit) (j : Option PyData × Option PyData) => [some (.rf w2140), some (.pl a2134), some (.pl x2136), some (.pl x2139), (j.1).map PV.pl, (j.2).map PV.pl, (j2133.2.2.2.2.2.1).map PV.pl, (j2133.2.2.2.2.2.2.1).map PV.pl, (j2133.2.2.2.2.2.2.2).map PV.pl])) (R := Pf [.rf p_well] (fun p : PyData × List PyData => Ret.pl p.1) (fun p : PyData × List PyData => [some p.2])) Fw.rt (fun a : PyData => a) (fun s2141 j2142 a2143 => [some (.rf w2140), some (.pl a2134), some (.pl x2136), some (.pl x2139), some (.pl a2143), (j2142.2).map PV.pl, (j2133.2.2.2.2.2.1).map PV.pl, (j2133.2.2.2.2.2.2.1).map PV.pl, (j2133.2.2.2.2.2.2.2).map PV.pl]) some some_map () (j2133.2.2.2.1, j2133.2.2.2.2.1) (ev_items (ev_2 (ev_var 3) (ev_f (ev_lst (ev_cons (ev_2 (ev_var 2) (ev_tup (ev_cons (ev_tup ev_nil) ev_nil))) (ev_cons (ev_f (ev_cbF (ev_cons (ev_var 2) ev_nil))) (ev_cons (ev_tup (ev_cons (ev_2 (ev_var 2) (ev_c (.int 0))) (ev_cons (ev_2 (ev_2 (ev_var 2) (ev_c (.int 1))) (ev_sl (ev_2 (ev_var 2) (ev_c (.int 1))) ev_no (ev_part (ev_c (.int 1))))) ev_nil))) ev_nil))))))) rfl (fun _ _ _ => rfl) (fun s2141 j2142 a2143 => (sim_asg (ev_call1 (ev_var 4) v__law_is_scenario_ok) (fun x2145 => (sim_last (sim_if (ev_T (ev_2 (ev_cb (ev_cons (ev_f (ev_lst (ev_cons (ev_call1 (ev_var 4) v_is_scenario_ok) (ev_cons (ev_callK (v := (fun ds => match ds with | [y0] => v_is_scenario y0 | _ => none)) (ev_cons (ev_var 4) ev_nil) (fun ds d h => by
      split at h
      · exact ⟨rfl, _, v_is_scenario_ok _ _ h⟩
      · cases h)) ev_nil)))) ev_nil)) (ev_cb (ev_cons (ev_f (ev_lst (ev_cons (ev_var 5) (ev_cons (ev_var 5) ev_nil)))) ev_nil)))) (sim_ret (c := fun d => Fw.rt (d, w2140)) (ev_c (.bool false)) (fun _ => ⟨⟨_, rfl⟩, rfl, rfl⟩)) (sim_next (sim_end (a := Fw.nx ()) ⟨.inl rfl, (some a2143, some x2145), rfl⟩))))))) (fun s2141 j2142 => (sim_asg (ev_f (ev_lst ev_nil)) (fun x2176 => (sim_forM (C := (fun (s : List PyData × PyData) (j : Option PyData) => [some (.rf (s.1)), some (.pl a2134), some (.pl x2136), some (.pl x2139), (j2142.1).map PV.pl, (j2142.2).map PV.pl, some (.pl (s.2)), (j).map PV.pl, (j2133.2.2.2.2.2.2.2).map PV.pl])) (fun a : PyData => a) (fun s2177 j2178 a2179 => [some (.rf (s2177.1)), some (.pl a2134), some (.pl x2136), some (.pl x2139), (j2142.1).map PV.pl, (j2142.2).map PV.pl, some (.pl (s2177.2)), some (.pl a2179), (j2133.2.2.2.2.2.2.2).map PV.pl]) some some_map (w2140, x2176) (j2133.2.2.2.2.2.2.1) (ev_rng1 (ev_cb (ev_cons (ev_2 (ev_var 2) (ev_c (.int 0))) ev_nil))) rfl (fun _ _ _ => rfl) (fun s2177 j2178 a2179 => (sim_last (sim_asgS (E := fun w => [some (.rf w), some (.pl a2134), some (.pl x2136), some (.pl x2139), (j2142.1).map PV.pl, (j2142.2).map PV.pl, some (.pl (s2177.2)), some (.pl a2179), (j2133.2.2.2.2.2.2.2).map PV.pl]) (evs_2pe (ev_var 6) (evs_if (evs_T (evs_2ep (evs_call1 (ev_c (.int 2)) (v__law_draw_ok _)) (fun _ => (ev_c (.int 0))))) (fun _ => (evs_pure _ (ev_f (ev_lst (ev_cons (ev_var 7) ev_nil))))) (fun _ => (evs_pure _ (ev_f (ev_lst ev_nil)))))) (fun x2181 w2182 => (sim_end (a := (w2182, x2181)) ⟨.inl rfl, (some a2179), rfl⟩))))) (fun s2177 j2178 => (sim_asg (ev_call2 (ev_2 (ev_var 2) (ev_c (.int 0))) (ev_var 6) v__law_sections_ok) (fun x2196 => (sim_asg (ev_f (ev_lst (ev_cons (ev_call2 (ev_var 2) (ev_cb (ev_cons (ev_var 6) ev_nil)) v_sections_of_ok) (ev_cons (ev_callK (v := (fun ds => match ds with | [y0, y1] => v_sections_of y1 y0 | _ => none)) (ev_cons (ev_cb (ev_cons (ev_var 6) ev_nil)) (ev_cons (ev_var 2) ev_nil)) (fun ds d h => by
      split at h
      · exact ⟨rfl, _, v_sections_of_ok _ _ _ h⟩
      · cases h)) ev_nil)))) (fun x2206 => (sim_last (sim_if (ev_T (ev_2 (ev_cb (ev_cons (ev_var 8) ev_nil)) (ev_cb (ev_cons (ev_f (ev_lst (ev_cons (ev_var 5) (ev_cons (ev_var 5) ev_nil)))) ev_nil)))) (sim_ret (c := fun d => Fw.rt (d, s2177.1)) (ev_c (.bool false)) (fun _ => ⟨⟨_, rfl⟩, rfl, rfl⟩)) (sim_next (sim_end (a := Fw.nx (s2177.1)) ⟨.inl rfl, (some a2134, some x2136, some x2139, j2142.1, some x2196, some (s2177.2), j2178, some x2206), rfl⟩))))))))))))) (fun _ x _ h => ⟨⟨x, rfl⟩, h⟩))))))) (fun s2132 j2133 => (sim_last (sim_ret (c := fun d => (d, s2132)) (ev_c (.bool true)) (fun _ => ⟨rfl, rfl⟩)))) (fun _ _ _ h => h))
  exact fn_sim (m := 9) (f := bd__law_right) (xs := [.rf p_well]) (r := (fun p : PyData × List PyData => Ret.pl p.1)) (os := (fun p : PyData × List PyData => [some p.2])) (a := a) e h
/-! ### law -/
noncomputable def v_law (p_script : PyData) : Option (PyData) := (((((((((((gLen [p_script]).bind fun x2978 => some ([x2978, (PyData.int 4)])).bind fun x2979 => gMin2 x2979).bind fun x2980 => some ([x2980])).bind fun x2981 => some (((PyData.int 2) :: x2981))).bind fun x2982 => gMax2 x2982).bind fun x2983 => rngO x2983).bind fun x2984 => lmO (fun a2975 => (v__law_well (p_script) a2975).bind fun x2976 => (v__law_right x2976).bind fun x2977 => some (x2977.1)) x2984).bind fun x2985 => some ((PyData.list x2985))).bind fun x2986 => some ([x2986])).bind fun x2987 => gAll x2987).bind fun x2988 => some (x2988)
theorem v_law_ok : ∀ (p_script : PyData) a, v_law p_script = some a → fn_law [.pl p_script] = some ((fun a : PyData => Ret.pl a) a, (fun _ : PyData => [none]) a) := fun p_script a h => by
  have e : Sim bd_law [some (.pl (p_script)), none] _ (Pf [.pl p_script] (fun a : PyData => Ret.pl a) (fun _ : PyData => [none])) := (sim_last (sim_ret (c := fun d => d) (ev_cb (ev_cons (ev_f (ev_lcm (ev_rng1 (ev_cb (ev_cons (ev_c (.int 2)) (ev_cons (ev_cb (ev_cons (ev_cb (ev_cons (ev_var 0) ev_nil)) (ev_cons (ev_c (.int 4)) ev_nil))) ev_nil)))) (fun _ => (ev_tmp (ev_callF2 (ev_var 0) (ev_var 1) v__law_well_ok) v__law_right_ok)))) ev_nil)) (fun _ => ⟨rfl, rfl⟩)))
  exact fn_sim (m := 2) (f := bd_law) (xs := [.pl p_script]) (r := (fun a : PyData => Ret.pl a)) (os := (fun _ : PyData => [none])) (a := a) e h
end Lk02

namespace Lk02
open PySem Dv
/-! ### scenarios, by the program -/
theorem t_is_whole {n : Nat} {d : PyData} (h : Gd n d) : v_is_whole d = some (.bool (isW d)) := by
  unfold v_is_whole; rw [isi_w n h]; rfl
theorem t_is_tuple_of {n : Nat} {d : PyData} (h : Gd n d) (m : Nat) : v_is_tuple_of d (.int m) = some (.bool (tupN m d)) := by
  unfold v_is_tuple_of
  rw [isi_tup' h, andO_of (c := tupN m d), bsome]
  · cases d <;> rfl
  · intro ht
    obtain ⟨xs, rfl⟩ := isT_ex ht
    rw [nLenT, bsome, eqNat]; rfl
theorem t_is_index {n : Nat} {d : PyData} (h : Gd n d) (m : Int) : v_is_index d (.int m) = some (.bool (isIdx m d)) := by
  unfold v_is_index
  rw [t_is_whole h, andO_of (c := isIdx m d), bsome]
  · cases d <;> rfl
  · intro ht
    obtain ⟨i, rfl⟩ := isW_ex ht
    rw [nLe, nLt, andO_bb]; rfl
theorem t_is_ascending {xs : List PyData} (hl : xs.length ≤ 100000) (lt : PyData → PyData → Bool) (h : ∀ x ∈ xs, ∀ y ∈ xs, gLt x y = some (.bool (lt x y))) : v_is_ascending (.tuple xs) = some (.bool (adjB lt xs)) := by
  unfold v_is_ascending
  simp only [nLenT, bsome, rng2O_1 hl]
  rw [lm_map (g := fun i => .bool (lt (xs.getD i .none) (xs.getD (i + 1) .none)))]
  · simp only [bsome, all_map, adj_range]
  · intro i hi
    have hi' := List.mem_range.mp hi
    have a1 := oIxT' (xs := xs) i (by omega)
    have a2 := oIxT' (xs := xs) (i + 1) (by omega)
    have a3 := h _ (List.mem_iff_getElem?.mpr ⟨i, getD_some .none (by omega)⟩) _ (List.mem_iff_getElem?.mpr ⟨i + 1, getD_some .none (by omega)⟩)
    have b1 : (1 + (i : Int)) - 1 = (i : Int) := by omega
    have b2 : (1 + (i : Int)) = ((i + 1 : Nat) : Int) := by omega
    rw [nSub, b1, bsome, a1, bsome, b2, a2, bsome, a3]
  · rw [List.length_range]; exact Nat.le_trans (Nat.sub_le _ _) hl
theorem t_is_lot_of {n : Nat} {d : PyData} (hn : n ≤ 100000) (h : Gd n d) (m : Int) : v_is_lot_of d (.int m) = some (.bool (isLot m d)) := by
  unfold v_is_lot_of
  rw [isi_tup' h, andO_of (c := isLot m d), bsome]
  · cases d <;> rfl
  · intro ht
    obtain ⟨xs, rfl⟩ := isT_ex ht
    rw [nItT, bsome, lm_some (g := fun x => .bool (isIdx m x)) (fun a ha => t_is_index (h.mem a ha) m) (k5 (Nat.le_trans h.len hn))]
    simp only [bsome, all_map]
    exact andO_of fun ha => t_is_ascending (Nat.le_trans h.len hn) ltI fun x hx y hy => gLt_idx (List.all_eq_true.mp ha x hx) (List.all_eq_true.mp ha y hy)
theorem t_is_within (a b : List Int) (ha : a.length ≤ 100000) : v_is_within (ti a) (ti b) = some (.bool (a.all fun x => decide (x ∈ b))) := by
  unfold v_is_within
  rw [nItT, bsome, lm_map (g := fun x => .bool (decide (x ∈ b))) (fun x _ => in_ti x b) ha]
  simp only [bsome, all_map]
def okOut : PyData → Bool
  | .int i => decide (2 ≤ i) && decide (i ≤ 4)
  | _ => false
def prodO : List PyData → Int → Int
  | .int i :: r, p => prodO r (p * i)
  | _ :: r, p => prodO r p
  | [], p => p
def outs1 : PyData → Bool
  | .tuple xs => decide (1 ≤ xs.length) && decide (xs.length ≤ 6)
  | _ => false
def outs2 : PyData → Bool
  | .tuple xs => xs.all okOut && decide (prodO xs 1 ≤ 64)
  | _ => false
def areOut (d : PyData) : Bool := outs1 d && outs2 d
theorem okOut_ex {d : PyData} (h : okOut d = true) : ∃ i, d = .int i ∧ 2 ≤ i ∧ i ≤ 4 := by
  cases d <;> simp [okOut] at h
  exact ⟨_, rfl, h⟩
theorem t_out_loop {n : Nat} : ∀ (xs : List PyData) (p : Int), 0 < p → p * 4 ^ xs.length < 2 ^ 60 → (∀ d ∈ xs, Gd n d) → ∀ f : PyData → PyData → Option (Fw PyData PyData),
    (∀ p a, Gd n a → okOut a = false → f (.int p) a = some (.rt (.bool false))) → (∀ p i, 0 < p → p < 2 ^ 60 → 2 ≤ i → i ≤ 4 → f (.int p) (.int i) = some (.nx (.int (p * i)))) →
    loopW f xs (.int p) = if xs.all okOut then some (.nx (.int (prodO xs p))) else some (.rt (.bool false))
  | [], p, _, _, _, f, _, _ => rfl
  | x :: xs, p, h0, h1, hg, f, f1, f2 => by
    unfold loopW
    cases hx : okOut x with
    | false => rw [f1 p x (hg x List.mem_cons_self) hx, bsome, List.all_cons, hx]; rfl
    | true =>
      obtain ⟨i, rfl, h2, h4⟩ := okOut_ex hx
      have hp : (0 : Int) < 4 ^ xs.length := Int.pow_pos (by omega)
      rw [List.length_cons, Int.pow_succ] at h1
      have hp1 : p < 2 ^ 60 := by
        have := Int.mul_le_mul_of_nonneg_left (show (1 : Int) ≤ 4 ^ xs.length * 4 by omega) (Int.le_of_lt h0)
        omega
      rw [f2 p i h0 hp1 h2 h4, bsome]
      have h3 : p * i * 4 ^ xs.length < 2 ^ 60 := by
        have e : p * (4 ^ xs.length * 4) = (p * 4 ^ xs.length) * 4 := by rw [Int.mul_assoc]
        have e2 : p * i * 4 ^ xs.length = (p * 4 ^ xs.length) * i := by rw [Int.mul_assoc, Int.mul_comm i, ← Int.mul_assoc]
        have := Int.mul_le_mul_of_nonneg_left h4 (Int.mul_nonneg (Int.le_of_lt h0) (Int.le_of_lt hp))
        rw [e2]; rw [e] at h1; omega
      have hpi : 0 < p * i := Int.mul_pos h0 (by omega)
      show loopW f xs (.int (p * i)) = _
      rw [t_out_loop xs (p * i) hpi h3 (fun d m => hg d (List.mem_cons_of_mem _ m)) f f1 f2, List.all_cons, hx]; rfl
theorem t_are_outcomes {n : Nat} {d : PyData} (h : Gd n d) : v_are_outcomes d = some (.bool (areOut d)) := by
  unfold v_are_outcomes
  rw [isi_tup' h]
  cases ht : isT d with
  | false => cases d <;> first | rfl | simp [isT] at ht
  | true =>
    obtain ⟨xs, rfl⟩ := isT_ex ht
    simp only [bsome, tBd_b, nLenT, nLe, andO_bb, nNotT, Bool.false_eq_true, if_false, nItT]
    cases ho : (decide ((1 : Int) ≤ (xs.length : Int)) && decide ((xs.length : Int) ≤ 6)) with
    | false =>
      have : outs1 (.tuple xs) = false := by
        show (decide (1 ≤ xs.length) && decide (xs.length ≤ 6)) = false
        rw [← ho]; congr 1 <;> (apply Bool.eq_iff_iff.mpr; simp; omega)
      simp [areOut, this]
    | true =>
      have ho' : outs1 (.tuple xs) = true := by
        show (decide (1 ≤ xs.length) && decide (xs.length ≤ 6)) = true
        rw [← ho]; congr 1 <;> (apply Bool.eq_iff_iff.mpr; simp; omega)
      simp only [Bool.and_eq_true, decide_eq_true_eq] at ho
      simp only [nNotT, Bool.false_eq_true, if_false]
      have hl : xs.length ≤ 6 := by omega
      have hb : (1 : Int) * 4 ^ xs.length < 2 ^ 60 := by
        have : (4 : Int) ^ xs.length ≤ 4 ^ 6 := by
          have : ∀ k : Nat, k ≤ 6 → (4 : Int) ^ k ≤ 4 ^ 6 := by decide
          exact this _ hl
        omega
      rw [t_out_loop (n := n) xs 1 (by omega) hb h.mem]
      · cases ha : xs.all okOut with
        | false =>
          have : outs2 (.tuple xs) = false := by simp only [outs2, ha, Bool.false_and]
          simp [areOut, this, nGoN, nGoR]
        | true =>
          have : outs2 (.tuple xs) = decide (prodO xs 1 ≤ 64) := by simp only [outs2, ha, Bool.true_and]
          simp only [if_true, bsome, nGoN, nLe, areOut, ho', this, Bool.true_and]
      · intro p a ga hz
        rw [t_is_whole ga]
        cases a <;> try (simp [isW, tBd]; done)
        simp only [okOut] at hz
        simp [isW, tBd_b, nLe, andO_bb, hz]
      · intro p i h0 h1 h2 h4
        have hw : v_is_whole (.int i) = some (.bool true) := t_is_whole (n := 0) (.int i)
        have hm : gMulI (.int p) (.int i) = some (.int (p * i)) := by
          have : small64 p = true := by simp [small64]; omega
          simp [gMulI, gI, this]
        have h2' : decide ((2 : Int) ≤ i) = true := by simpa using h2
        have h4' : decide (i ≤ (4 : Int)) = true := by simpa using h4
        simp only [hw, bsome, tBd_b, nNotT, Bool.false_eq_true, if_false, nLe, h2', h4', andO_bb, Bool.and_self, hm]
/-! ### contexts, by the program -/
def nonE : PyData → Bool
  | .tuple (_ :: _) => true
  | _ => false
def ctxA (m : Int) : PyData → Bool
  | .tuple xs => xs.all fun x => isLot m x && nonE x
  | _ => false
theorem ctxA_ex {m : Int} {d : PyData} (h : ctxA m d = true) : ∃ ls : List (List Int), d = tt ls ∧ (∀ l ∈ ls, IsLot m l) ∧ ∀ l ∈ ls, l ≠ [] := by
  cases d <;> simp only [ctxA, Bool.false_eq_true] at h
  rename_i xs
  have h1 : xs.all (isLot m) = true := List.all_eq_true.mpr fun x hx => by
    have := List.all_eq_true.mp h x hx
    simp only [Bool.and_eq_true] at this
    exact this.1
  obtain ⟨ls, rfl, hl⟩ := lots_of h1
  refine ⟨ls, rfl, hl, fun l hm e => ?_⟩
  have := List.all_eq_true.mp h (ti l) (List.mem_map.mpr ⟨l, hm, rfl⟩)
  subst e
  simp [nonE] at this
theorem ctxA_tt {m : Int} {ls : List (List Int)} (h : ∀ l ∈ ls, IsLot m l) (g : ∀ l ∈ ls, l ≠ []) : ctxA m (tt ls) = true := by
  simp only [ctxA, List.all_map, List.all_eq_true]
  intro l hl
  show (isLot m (ti l) && nonE (ti l)) = true
  rw [isLot_ti (h l hl), Bool.true_and]
  cases l with
  | nil => exact absurd rfl (g [] hl)
  | cons a r => rfl
theorem flat_any {α : Type} (ls : List α) (p q : α → α → Bool) : ((ls.flatMap fun a => (ls.filter (p a)).map fun b => PyData.bool (q a b))) = (ls.flatMap fun a => (ls.filter (p a)).map fun b => q a b).map PyData.bool := by
  rw [List.map_flatMap]
  congr 1
  funext a
  rw [List.map_map]; rfl
theorem pairs_any (ls : List (List Int)) : ((ls.flatMap fun a => (ls.filter fun b => !decide (a = b)).map fun b => within a b).any id) = !noneIn ls := by
  apply Bool.eq_iff_iff.mpr
  unfold noneIn
  simp only [List.any_eq_true, List.mem_flatMap, List.mem_map, List.mem_filter, Bool.not_eq_true', id, ← Bool.not_eq_true, List.all_eq_true, Bool.or_eq_true, decide_eq_true_eq]
  constructor
  · rintro ⟨x, ⟨a, ha, b, ⟨hb, hab⟩, rfl⟩, hw⟩ h
    rcases h a ha b hb with e | e
    · exact hab e
    · exact e hw
  · intro h
    apply Classical.byContradiction
    intro hc
    refine h fun a ha b hb => ?_
    by_cases hab : a = b
    · exact .inl hab
    · exact .inr fun hw => hc ⟨_, ⟨a, ha, b, ⟨hb, hab⟩, rfl⟩, hw⟩
theorem flat_len {α β : Type} (f : α → List β) (k : Nat) : ∀ ls : List α, (∀ a ∈ ls, (f a).length ≤ k) → (ls.flatMap f).length ≤ ls.length * k
  | [], _ => by simp
  | a :: ls, h => by
    have ih := flat_len f k ls fun b hb => h b (List.mem_cons_of_mem _ hb)
    have := h a List.mem_cons_self
    rw [List.flatMap_cons, List.length_append, List.length_cons, Nat.succ_mul]
    omega
theorem t_are_contexts_no {n : Nat} {d : PyData} (hn : n ≤ 100000) (h : Gd n d) (m : Int) (hc : ctxA m d = false) : v_are_contexts d (.int m) = some (.bool false) := by
  unfold v_are_contexts
  rw [isi_tup' h]
  cases ht : isT d with
  | false => simp only [bsome, tBd_b, nNotF, if_true]
  | true =>
    obtain ⟨xs, rfl⟩ := isT_ex ht
    simp only [bsome, tBd_b, nNotT, Bool.false_eq_true, if_false, nItT]
    rw [loopW_find (r := PyData.bool false) (fun a => !(isLot m a && nonE a))]
    · have : xs.any (fun a => !(isLot m a && nonE a)) = true := by
        simp only [ctxA] at hc
        rw [← List.not_all_eq_any_not, hc]; rfl
      rw [this, if_pos rfl, bsome]; rfl
    · intro a ha
      rw [t_is_lot_of hn (h.mem a ha)]
      cases hl : isLot m a with
      | false => simp [bsome, tBd_b]
      | true =>
        obtain ⟨ns, rfl, _⟩ := lot_of hl
        have e0 : ((0 : Int)) = ((0 : Nat) : Int) := rfl
        simp only [bsome, tBd_b, nNotT, Bool.false_eq_true, if_false, nLenT]
        rw [e0, eqNat, bsome, tBd_b, bsome]
        cases ns <;> rfl
theorem t_within_another {ls : List (List Int)} (hl : ls.length ≤ 300) (hs : ∀ l ∈ ls, l.length ≤ 100000) : v_is_within_another (tt ls) = some (.bool (!noneIn ls)) := by
  unfold v_is_within_another
  rw [nItT, bsome, lc2_map (p := fun _ => true) (m := fun _ => ls) (f1 := ti) (p1 := fun a b => !decide (a = b)) (g := fun a b => .bool (within a b))]
  · have e2 : (ls.filter fun _ => true) = ls := List.filter_eq_self.mpr fun _ _ => rfl
    rw [e2, flat_any]
    simp only [bsome, any_bool, pairs_any]
  · intro a _; rfl
  · intro a _ _; rfl
  · intro a _ _ b _
    rw [ne_ti, bsome, tBd_b]
  · intro a hA _ b _ _
    exact t_is_within a b (hs a hA)
  · refine Nat.le_trans (flat_len _ 300 _ fun a _ => ?_) ?_
    · rw [List.length_map]
      exact Nat.le_trans (List.length_filter_le _ _) hl
    · exact Nat.le_trans (Nat.mul_le_mul_right 300 (Nat.le_trans (List.length_filter_le _ _) hl)) (by omega)
theorem t_are_contexts {m : Nat} {ls : List (List Int)} (hm : m ≤ 100) (hl : ls.length ≤ 300) (h : ∀ l ∈ ls, IsLot m l) (g : ∀ l ∈ ls, l ≠ []) (hs : ∀ l ∈ ls, l.length ≤ 100000) (hd : Gd 100000 (tt ls)) : v_are_contexts (tt ls) (.int m) = some (.bool (ctxB m ls)) := by
  unfold v_are_contexts
  rw [isi_tup' hd]
  simp only [bsome, tBd_b, nItT, show isT (tt ls) = true from rfl, nNotT, Bool.false_eq_true, if_false]
  have hA := ctxA_tt h g
  rw [loopW_find (r := PyData.bool false) (fun a => !(isLot m a && nonE a))]
  · have : (ls.map ti).any (fun a => !(isLot m a && nonE a)) = false := by
      have e : (ls.map ti).all (fun x => isLot m x && nonE x) = true := hA
      rw [← List.not_all_eq_any_not, e]; rfl
    rw [this, if_neg (by simp), bsome]
    rw [nGoN]
    rw [t_is_ascending (by rw [List.length_map]; omega) (fun x y => match x, y with | .tuple a, .tuple b => HT.lexLt ((intsOf a).getD []) ((intsOf b).getD []) | _, _ => false)]
    · rw [adj_map _ HT.lexLt ti fun a b => by simp only [intsOf_map, Option.getD_some]]
      cases ha : adjB HT.lexLt ls with
      | false => simp [bsome, tBd_b, ctxB, ha]
      | true =>
        simp only [bsome, tBd_b, nNotT, Bool.false_eq_true, if_false]
        rw [rngO_nat (by omega), bsome, loopW_find (r := PyData.bool false) (fun a => match a with | .int i => !(ls.any fun l => decide (i ∈ l)) | _ => false)]
        · have e1 : ((List.range m).map fun (i : Nat) => PyData.int i).any (fun a => match a with | .int i => !(ls.any fun l => decide (i ∈ l)) | _ => false) = !((List.range m).all fun i => ls.any fun l => decide ((i : Int) ∈ l)) := by
            rw [List.any_map, List.not_all_eq_any_not]; rfl
          rw [e1]
          cases hb : ((List.range m).all fun i => ls.any fun l => decide ((i : Int) ∈ l)) with
          | false => simp [bsome, ctxB, hb, nGoN, nGoR]
          | true =>
            rw [nNotT, if_neg (by simp), bsome]
            rw [nGoN]
            rw [t_within_another hl hs, notO_b, bsome, Bool.not_not]
            simp [ctxB, ha, hb]
        · intro a ha
          obtain ⟨i, _, rfl⟩ := List.mem_map.mp ha
          rw [lm_map (g := fun l => .bool (decide ((i : Int) ∈ l))) (fun l _ => in_ti i l) (by omega)]
          simp only [bsome, any_map, tBd_b]
    · intro x hx y hy
      obtain ⟨a, _, rfl⟩ := List.mem_map.mp hx
      obtain ⟨b, _, rfl⟩ := List.mem_map.mp hy
      simp only [lt_ti, intsOf_map, Option.getD_some]
  · intro a ha
    obtain ⟨l, hl', rfl⟩ := List.mem_map.mp ha
    have hla : Gd 100000 (ti l) := hd.mem _ ha
    have hlt := isLot_ti (h l hl')
    rw [t_is_lot_of (Nat.le_refl _) hla, hlt]
    have e0 : ((0 : Int)) = ((0 : Nat) : Int) := rfl
    simp only [bsome, tBd_b, nNotT, Bool.false_eq_true, if_false, nLenT]
    rw [e0, eqNat, bsome, tBd_b, bsome]
    cases l <;> rfl
/-! ### is_scenario, both -/
def isForm (d : PyData) : Bool := match d with
  | .tuple [a, b] => match a with
    | .tuple xs => areOut a && (ctxA xs.length b && match b with
      | .tuple ys => ctxB xs.length (ys.map fun y => match y with
        | .tuple z => (intsOf z).getD []
        | _ => [])
      | _ => false)
    | _ => false
  | _ => false
theorem back_ti (ls : List (List Int)) : ((ls.map ti).map fun y => match y with
        | .tuple z => (intsOf z).getD []
        | _ => []) = ls := by
  rw [List.map_map]
  have : ((fun y => match y with
        | PyData.tuple z => (intsOf z).getD []
        | _ => []) ∘ ti) = id := by
    funext l; simp only [Function.comp, intsOf_map, Option.getD_some, id]
  rw [this, List.map_id]
theorem gd_lotLen {n : Nat} {ls : List (List Int)} (h : Gd n (tt ls)) : ∀ l ∈ ls, l.length ≤ n := fun l hl => by
  have := (h.mem (ti l) (List.mem_map.mpr ⟨l, hl, rfl⟩)).len
  rwa [List.length_map] at this
theorem areOut_len {xs : List PyData} (h : areOut (.tuple xs) = true) : 1 ≤ xs.length ∧ xs.length ≤ 6 := by
  simp only [areOut, outs1, Bool.and_eq_true, decide_eq_true_eq] at h
  exact h.1
theorem t_is_scenario_form {d : PyData} (h : Gd 300 d) : v_is_scenario_form d = some (.bool (isForm d)) := by
  unfold v_is_scenario_form
  have e2 : ((2 : Int)) = ((2 : Nat) : Int) := rfl
  rw [e2, t_is_tuple_of h]
  cases ht : tupN 2 d with
  | false =>
    have : isForm d = false := by
      cases d <;> try rfl
      rename_i xs
      simp only [tupN, decide_eq_false_iff_not] at ht
      match xs, ht with
      | [], _ => rfl
      | [_], _ => rfl
      | [_, _], h => exact absurd rfl h
      | _ :: _ :: _ :: _, _ => rfl
    rw [this]; rfl
  | true =>
    obtain ⟨a, b, rfl⟩ : ∃ a b, d = .tuple [a, b] := by
      cases d <;> simp only [tupN, Bool.false_eq_true] at ht
      rename_i xs
      match xs, ht with
      | [a, b], _ => exact ⟨a, b, rfl⟩
    have ha : Gd 300 a := h.mem a (by simp)
    have hb : Gd 300 b := h.mem b (by simp)
    rw [nIx2a, nIx2b, bsome, t_are_outcomes ha, bsome, bsome, bsome]
    cases hc : areOut a with
    | false =>
      have : isForm (.tuple [a, b]) = false := by
        cases a <;> try rfl
        simp only [isForm, hc, Bool.false_and]
      rw [this]; rfl
    | true =>
      obtain ⟨xs, rfl⟩ : ∃ xs, a = .tuple xs := by
        cases a <;> simp only [areOut, outs1, Bool.false_and, Bool.false_eq_true] at hc
        exact ⟨_, rfl⟩
      have hl := areOut_len hc
      rw [nLenT, bsome]
      cases hA : ctxA xs.length b with
      | false =>
        rw [t_are_contexts_no (by omega) hb _ hA]
        simp only [isForm, hc, hA, Bool.false_and, Bool.and_false]; rfl
      | true =>
        obtain ⟨ls, rfl, h1, h2⟩ := ctxA_ex hA
        have hlen : ls.length ≤ 300 := by have := hb.len; rwa [List.length_map] at this
        rw [t_are_contexts (by omega) hlen h1 h2 (fun l hl => Nat.le_trans (gd_lotLen hb l hl) (by omega)) (hb.up (by omega))]
        simp only [isForm, hc, hA, back_ti, Bool.true_and]
        rfl

theorem t_is_scenario {d : PyData} (h : Gd 300 d) : v_is_scenario d = some (.bool (isForm d)) := by
  unfold v_is_scenario; rw [t_is_scenario_form h]; rfl
/-! ### the law's own -/
theorem t_law_is_whole {n : Nat} {d : PyData} (h : Gd n d) : v__law_is_whole d = some (.bool (isW d)) := by
  unfold v__law_is_whole; rw [isi_w n h]; rfl
theorem t_law_is_tuple {n : Nat} {d : PyData} (h : Gd n d) (m : Nat) : v__law_is_tuple d (.int m) = some (.bool (tupN m d)) := t_is_tuple_of h m
theorem t_law_is_lot {n : Nat} {d : PyData} (hn : n ≤ 50000) (h : Gd n d) (m : Int) : v__law_is_lot d (.int m) = some (.bool (isLot m d)) := by
  unfold v__law_is_lot
  rw [isi_tup' h, bsome, tBd_b, bsome, bsome]
  cases ht : isT d with
  | false =>
    have : isLot m d = false := by cases d <;> first | rfl | simp [isT] at ht
    rw [this]; rfl
  | true =>
    obtain ⟨xs, rfl⟩ := isT_ex ht
    rw [nNotT, if_neg (by simp), nItT, bsome, lm_some (g := fun x => .bool (isIdx m x)) (fun a ha => ?_) (k5 (Nat.le_trans h.len (by omega)))]
    · rw [bsome, bsome, bsome, all_map, bsome, tBd_b, bsome, bsome]
      cases hA : xs.all (isIdx m) with
      | false => simp only [isLot, hA, Bool.false_and]; rfl
      | true =>
        rw [nNotT, if_neg (by simp), nLenT, bsome, nSub, bsome, rngO_int (by have := h.len; omega), bsome]
        have e0 : ((xs.length : Int) - 1).toNat = xs.length - 1 := by omega
        rw [e0, lm_map (g := fun i => .bool (ltI (xs.getD i .none) (xs.getD (i + 1) .none)))]
        · rw [bsome, bsome, bsome, all_map, adj_range, bsome]
          simp only [isLot, hA, Bool.true_and]
        · intro i hi
          have hi' := List.mem_range.mp hi
          have a1 := oIxT' (xs := xs) i (by omega)
          have a2 := oIxT' (xs := xs) (i + 1) (by omega)
          have a3 := gLt_idx (List.all_eq_true.mp hA _ (List.mem_iff_getElem?.mpr ⟨i, getD_some .none (by omega)⟩)) (List.all_eq_true.mp hA _ (List.mem_iff_getElem?.mpr ⟨i + 1, getD_some .none (by omega)⟩))
          have b2 : (i : Int) + 1 = ((i + 1 : Nat) : Int) := by omega
          rw [a1, bsome, nAdd, bsome, b2, a2, bsome, a3]
        · rw [List.length_range]; have := h.len; omega
    · rw [t_law_is_whole (h.mem a ha), andO_of (c := isIdx m a)]
      · cases a <;> rfl
      · intro hw
        obtain ⟨i, rfl⟩ := isW_ex hw
        rw [nLe, nLt, andO_bb]; rfl
theorem t_law_maximal_gen {p : PyData} {ls : List (List Int)} (hp : itemsOf p = some (ls.map ti)) (hs : gSorted [p] = some (.list ((sortK ls).map ti))) (hl : ls.length ≤ 1000) (hw : ∀ l ∈ ls, l.length ≤ 1000) : v__law_maximal p = some (tt (maxi ls)) := by
  unfold v__law_maximal
  rw [lstO_ok (by simp), bsome, hs, bsome, nItL, bsome]
  suffices h : ∀ (L acc : List (List Int)), L.length + acc.length ≤ 1000 → (∀ l ∈ L, l.length ≤ 1000) → ∀ f : List PyData → PyData → Option (List PyData), (∀ acc l, acc.length ≤ 1000 → l.length ≤ 1000 → f (acc.map ti) (ti l) = some ((if decide (wider ls l = []) && !decide (l ∈ acc) then acc ++ [l] else acc).map ti)) →
      loopM f (L.map ti) (acc.map ti) = some ((L.foldl (fun found l => if decide (wider ls l = []) && !decide (l ∈ found) then found ++ [l] else found) acc).map ti) by
    have q := h (sortK ls) [] (by rw [(sortK_perm ls).length_eq]; simpa using hl) (fun l m => hw l ((sortK_perm ls).mem_iff.mp m))
    show (loopM _ ((sortK ls).map ti) (([] : List (List Int)).map ti)).bind _ = _
    rw [q, bsome, nTupL, bsome]
    · rfl
    · intro acc l ha hll
      rw [hp, bsome, lc_map (f := ti) (p := fun e => decide (l.length < e.length) && decide ((l.filter fun x => !decide (x ∈ e)) = [])) (g := ti)]
      · simp only [bsome, eq_ln, tBd_b]
        show Option.bind (if decide (wider ls l = []) = true then _ else _) _ = _
        cases h1 : decide (wider ls l = []) with
        | false => rw [if_neg (by simp), bsome, if_neg (by simp)]; simp
        | true =>
          rw [if_pos rfl, notin_lt, bsome, tBd_b, bsome]
          cases h2 : decide (l ∈ acc) with
          | true => simp
          | false =>
            rw [nNotF, if_pos rfl, appO_ok (by rw [List.length_map]; omega), bsome]
            simp
      · intro e he
        rw [show gLen [ti e] = some (.int e.length) by rw [nLenT, List.length_map], bsome, show gLen [ti l] = some (.int l.length) by rw [nLenT, List.length_map], bsome, nGt, bsome, tBd_b, bsome]
        have e1 : decide ((l.length : Int) < (e.length : Int)) = decide (l.length < e.length) := by apply Bool.eq_iff_iff.mpr; simp
        rw [e1]
        cases h3 : decide (l.length < e.length) with
        | false => rw [if_neg (by simp)]; rfl
        | true =>
          rw [if_pos rfl, nItT, bsome, lc_map (f := PyData.int) (p := fun x => !decide (x ∈ e)) (g := PyData.int) (fun x _ => by rw [notin_ti, bsome, tBd_b]) (fun _ _ _ => rfl) (by omega)]
          simp only [bsome, eq_in, tBd_b, Bool.true_and]
      · intro e _ _; rfl
      · omega
  intro L
  induction L with
  | nil => intro acc _ _ f _; rfl
  | cons l L ih =>
    intro acc h1 h2 f hf
    rw [List.map_cons]
    unfold loopM
    rw [hf acc l (by simp only [List.length_cons] at h1; omega) (h2 l List.mem_cons_self), bsome, List.foldl_cons]
    refine ih _ ?_ (fun x m => h2 x (List.mem_cons_of_mem _ m)) f hf
    simp only [List.length_cons] at h1
    split
    · rw [List.length_append]; simp; omega
    · omega
theorem t_prod : ∀ (xs : List PyData) (p : Int), 0 < p → p * 4 ^ xs.length < 2 ^ 60 → xs.all okOut = true → ∀ f : PyData → PyData → Option PyData, (∀ p i : Int, 0 < p → p < 2 ^ 60 → f (.int p) (.int i) = some (.int (p * i))) → loopM f xs (.int p) = some (.int (prodO xs p))
  | [], p, _, _, _, f, _ => rfl
  | x :: xs, p, h0, h1, ha, f, hf => by
    simp only [List.all_cons, Bool.and_eq_true] at ha
    obtain ⟨i, rfl, h2, h4⟩ := okOut_ex ha.1
    have hp : (0 : Int) < 4 ^ xs.length := Int.pow_pos (by omega)
    rw [List.length_cons, Int.pow_succ] at h1
    have hp1 : p < 2 ^ 60 := by
      have := Int.mul_le_mul_of_nonneg_left (show (1 : Int) ≤ 4 ^ xs.length * 4 by omega) (Int.le_of_lt h0)
      omega
    have h3 : p * i * 4 ^ xs.length < 2 ^ 60 := by
      have e : p * (4 ^ xs.length * 4) = (p * 4 ^ xs.length) * 4 := by rw [Int.mul_assoc]
      have e2 : p * i * 4 ^ xs.length = (p * 4 ^ xs.length) * i := by rw [Int.mul_assoc, Int.mul_comm i, ← Int.mul_assoc]
      have := Int.mul_le_mul_of_nonneg_left h4 (Int.mul_nonneg (Int.le_of_lt h0) (Int.le_of_lt hp))
      rw [e2]; rw [e] at h1; omega
    unfold loopM
    rw [hf p i h0 hp1, bsome]
    exact t_prod xs (p * i) (Int.mul_pos h0 (by omega)) h3 ha.2 f hf
theorem pow6 {k : Nat} (h : k ≤ 6) : (1 : Int) * 4 ^ k < 2 ^ 60 := by
  have : ∀ k : Nat, k ≤ 6 → (4 : Int) ^ k ≤ 4 ^ 6 := by decide
  have := this k h
  omega
theorem getD_map_ti (ls : List (List Int)) (i : Nat) (h : i < ls.length) : gIx (tt ls) (.int (i : Int)) = some (ti (ls.getD i [])) := by
  rw [oIxT' i (by rw [List.length_map]; exact h)]
  congr 1
  rw [List.getD_eq_getElem?_getD, List.getElem?_map, List.getElem?_eq_getElem h, List.getD_eq_getElem?_getD, List.getElem?_eq_getElem h]
  rfl
theorem t_law_is_scenario {d : PyData} (h : Gd 300 d) : v__law_is_scenario d = some (.bool (isForm d)) := by
  unfold v__law_is_scenario
  have e2 : ((2 : Int)) = ((2 : Nat) : Int) := rfl
  rw [e2, t_law_is_tuple h, bsome, tBd_b, bsome, bsome]
  cases ht : tupN 2 d with
  | false =>
    have : isForm d = false := by
      cases d <;> try rfl
      rename_i xs
      simp only [tupN, decide_eq_false_iff_not] at ht
      match xs, ht with
      | [], _ => rfl
      | [_], _ => rfl
      | [_, _], h => exact absurd rfl h
      | _ :: _ :: _ :: _, _ => rfl
    rw [this]; rfl
  | true =>
    obtain ⟨a, b, rfl⟩ : ∃ a b, d = .tuple [a, b] := by
      cases d <;> simp only [tupN, Bool.false_eq_true] at ht
      rename_i xs
      match xs, ht with
      | [a, b], _ => exact ⟨a, b, rfl⟩
    have ha : Gd 300 a := h.mem a (by simp)
    have hb : Gd 300 b := h.mem b (by simp)
    rw [nNotT, if_neg (by simp), nIx2a, bsome, isi_tup' ha, bsome, tBd_b, bsome, bsome]
    cases hTa : isT a with
    | false =>
      have : isForm (.tuple [a, b]) = false := by cases a <;> first | rfl | simp [isT] at hTa
      rw [this]; rfl
    | true =>
      rw [nNotT, if_neg (by simp), nIx2b, bsome, isi_tup' hb, bsome, tBd_b, bsome, bsome]
      obtain ⟨xs, rfl⟩ := isT_ex hTa
      cases hTb : isT b with
      | false =>
        have : isForm (.tuple [.tuple xs, b]) = false := by
          have : ctxA xs.length b = false := by cases b <;> first | rfl | simp [isT] at hTb
          simp only [isForm, this, Bool.false_and, Bool.and_false]
        rw [this]; rfl
      | true =>
        obtain ⟨ys, rfl⟩ := isT_ex hTb
        rw [nNotT, if_neg (by simp), nUn2, bsome]
        dsimp only
        rw [nLenT, bsome, nLe, nLe, andO_bb, bsome, tBd_b, bsome, bsome]
        have e1 : (decide ((1 : Int) ≤ (xs.length : Int)) && decide ((xs.length : Int) ≤ 6)) = outs1 (.tuple xs) := by
          show _ = (decide (1 ≤ xs.length) && decide (xs.length ≤ 6))
          congr 1 <;> (apply Bool.eq_iff_iff.mpr; simp; omega)
        rw [e1]
        cases ho : outs1 (.tuple xs) with
        | false =>
          simp only [isForm, areOut, ho, Bool.false_and]; rfl
        | true =>
          have hlen : 1 ≤ xs.length ∧ xs.length ≤ 6 := by simpa [outs1] using ho
          rw [nNotT, if_neg (by simp), nItT, bsome, lm_some (g := fun x => .bool (okOut x)) (fun x hx => ?_) (k5 (by omega))]
          · rw [bsome, bsome, bsome, all_map, bsome, tBd_b, bsome, bsome]
            cases hA : xs.all okOut with
            | false => simp only [isForm, areOut, outs2, hA, Bool.false_and, Bool.and_false]; rfl
            | true =>
              rw [nNotT, if_neg (by simp), nItT, bsome, t_prod xs 1 (by omega) (pow6 hlen.2) hA _ (fun p i h0 h1 => ?_), bsome, nGt, bsome, tBd_b, bsome]
              · have e3 : outs2 (.tuple xs) = !decide (64 < prodO xs 1) := by
                  simp only [outs2, hA, Bool.true_and]
                  apply Bool.eq_iff_iff.mpr; simp
                cases h64 : decide (64 < prodO xs 1) with
                | true => simp only [isForm, areOut, e3, h64, ho, Bool.not_true, Bool.and_false, Bool.false_and]; rfl
                | false =>
                  have hout : areOut (.tuple xs) = true := by simp only [areOut, ho, e3, h64]; rfl
                  rw [if_neg (by simp), bsome, lm_some (g := fun x => .bool (isLot xs.length x && nonE x)) (fun x hx => ?_) (k5 (Nat.le_trans hb.len (by omega)))]
                  · rw [bsome, bsome, bsome, all_map, bsome, tBd_b, bsome, bsome]
                    cases hC : ys.all (fun x => isLot xs.length x && nonE x) with
                    | false =>
                      have : ctxA xs.length (.tuple ys) = false := hC
                      simp only [isForm, this, Bool.false_and, Bool.and_false]; rfl
                    | true =>
                      have hCa : ctxA xs.length (.tuple ys) = true := hC
                      obtain ⟨ls, e4, h1, h2⟩ := ctxA_ex hCa
                      cases e4
                      have hll : ls.length ≤ 300 := by have := hb.len; rwa [List.length_map] at this
                      have hform : isForm (.tuple [.tuple xs, tt ls]) = ctxB xs.length ls := by
                        simp only [isForm, hout, hCa, back_ti, Bool.true_and]
                      rw [hform, nNotT, if_neg (by simp), nLenT, bsome, nSub, bsome, rngO_int (by rw [List.length_map]; omega), bsome]
                      have e0 : (((ls.map ti).length : Int) - 1).toNat = ls.length - 1 := by rw [List.length_map]; omega
                      rw [e0, lm_map (g := fun i => .bool (HT.lexLt (ls.getD i []) (ls.getD (i + 1) [])))]
                      · rw [bsome, bsome, bsome, all_map, adj_range, bsome, tBd_b, bsome, bsome]
                        cases hadj : adjB HT.lexLt ls with
                        | false => simp only [ctxB, hadj, Bool.false_and]; rfl
                        | true =>
                          rw [nNotT, if_neg (by simp), bsome, rngO_nat (by omega), bsome, lc_map (p := fun i : Nat => decide ((ls.filter fun l => decide ((i : Int) ∈ l)) = [])) (g := fun i : Nat => PyData.int i)]
                          · rw [bsome, bsome, lstO_ok (by simp), bsome, bsome]
                            have e5 : ((List.range xs.length).filter (fun (i : Nat) => decide ((ls.filter fun l => decide ((i : Int) ∈ l)) = []))).map (fun i : Nat => PyData.int i) = (((List.range xs.length).filter (fun (i : Nat) => decide ((ls.filter fun l => decide ((i : Int) ∈ l)) = []))).map fun i : Nat => (i : Int)).map PyData.int := by rw [List.map_map]; rfl
                            rw [e5, ne_in, bsome, tBd_b, bsome]
                            have e6 : (!decide ((((List.range xs.length).filter (fun (i : Nat) => decide ((ls.filter fun l => decide ((i : Int) ∈ l)) = []))).map fun i : Nat => (i : Int)) = [])) = !((List.range xs.length).all fun i => ls.any fun l => decide ((i : Int) ∈ l)) := by
                              congr 1
                              apply Bool.eq_iff_iff.mpr
                              rw [decide_eq_true_eq, List.map_eq_nil_iff, List.filter_eq_nil_iff, List.all_eq_true]
                              constructor
                              · intro hz i hi
                                have := hz i hi
                                simp only [decide_eq_true_eq, List.filter_eq_nil_iff] at this
                                rw [List.any_eq_true]
                                apply Classical.byContradiction
                                intro hn
                                exact this fun l hl hd => hn ⟨l, hl, decide_eq_true hd⟩
                              · intro hz i hi hd
                                obtain ⟨l, hl, hq⟩ := List.any_eq_true.mp (hz i hi)
                                simp only [decide_eq_true_eq, List.filter_eq_nil_iff] at hd
                                exact hd l hl (of_decide_eq_true hq)
                            rw [e6]
                            cases hcov : ((List.range xs.length).all fun i => ls.any fun l => decide ((i : Int) ∈ l)) with
                            | false => simp only [ctxB, hcov, Bool.false_and, Bool.and_false]; rfl
                            | true =>
                              have hpw := adj_pw lex_trans hadj
                              rw [nNotT, if_neg (by simp), t_law_maximal_gen (ls := ls) (nItT _) (sort_t ls h2) (by omega) (fun l hl => Nat.le_trans (gd_lotLen hb l hl) (by omega)), bsome, eq_tt, bsome, maxi_eq hpw fun l hl => lot_pw (h1 l hl)]
                              simp only [ctxB, hadj, hcov, Bool.true_and]
                          · intro i _
                            rw [bsome, lc_map (f := ti) (p := fun l => decide ((i : Int) ∈ l)) (g := ti) (fun l _ => by rw [in_ti, bsome, tBd_b]) (fun _ _ _ => rfl) (by omega)]
                            rw [bsome, bsome, lstO_ok (by simp), bsome, bsome, eq_ln, bsome, tBd_b]
                          · intro i _ _; rfl
                          · rw [List.length_range]; omega
                      · intro i hi
                        have hi' := List.mem_range.mp hi
                        have b2 : (i : Int) + 1 = ((i + 1 : Nat) : Int) := by omega
                        rw [getD_map_ti ls i (by omega), bsome, nAdd, bsome, b2, getD_map_ti ls (i + 1) (by omega), bsome, lt_ti]
                      · rw [List.length_range]; omega
                  · rw [bsome, t_law_is_lot (by omega) (hb.mem x hx), andO_of (c := nonE x)]
                    intro hl
                    obtain ⟨ns, rfl, _⟩ := lot_of hl
                    rw [tupO_ok (by simp), bsome, ne_t0]
                    cases ns <;> rfl
              · rw [oMulL p i (by simp [small64]; omega)]; rfl
          · rw [t_law_is_whole (ha.mem x hx), andO_of (c := okOut x)]
            · cases x <;> rfl
            · intro hw
              obtain ⟨i, rfl⟩ := isW_ex hw
              rw [nLe, nLe, andO_bb]; rfl

/-! ### scenarios told, sections -/
structure IsSc (os : List Int) (ls : List (List Int)) : Prop where
  l1 : 1 ≤ os.length
  l6 : os.length ≤ 6
  ok : ∀ z ∈ os, 2 ≤ z ∧ z ≤ 4
  pr : prodO (os.map .int) 1 ≤ 64
  cx : IsCx os.length ls
  few : ls.length ≤ 100
  len : ∀ l ∈ ls, l.length ≤ 100
abbrev scD (os : List Int) (ls : List (List Int)) : PyData := .tuple [ti os, tt ls]
theorem gd_ti {n : Nat} {l : List Int} (h : l.length ≤ n) : Gd n (ti l) := .tup (by rwa [List.length_map]) fun d hd => by
  obtain ⟨i, _, rfl⟩ := List.mem_map.mp hd; exact .int i
theorem gd_tt {n : Nat} {L : List (List Int)} (h : L.length ≤ n) (g : ∀ l ∈ L, l.length ≤ n) : Gd n (tt L) := .tup (by rwa [List.length_map]) fun d hd => by
  obtain ⟨l, hl, rfl⟩ := List.mem_map.mp hd; exact gd_ti (g l hl)
theorem IsSc.gd {os : List Int} {ls : List (List Int)} (h : IsSc os ls) : Gd 100 (scD os ls) := .tup (by simp) fun d hd => by
  simp only [List.mem_cons, List.not_mem_nil, or_false] at hd
  rcases hd with rfl | rfl
  · exact gd_ti (by have := h.l6; omega)
  · exact gd_tt h.few h.len
theorem IsSc.form {os : List Int} {ls : List (List Int)} (h : IsSc os ls) : isForm (scD os ls) = true := by
  have h1 : outs1 (ti os) = true := by
    have := h.l1; have := h.l6
    simp only [outs1, List.length_map, Bool.and_eq_true, decide_eq_true_eq]; omega
  have h2 : outs2 (ti os) = true := by
    have : (os.map PyData.int).all okOut = true := by
      rw [List.all_map, List.all_eq_true]
      intro z hz
      have := h.ok z hz
      simp [okOut, this]
    simp only [outs2, this, decide_eq_true h.pr, Bool.and_self]
  have h3 : ctxA ((os.map PyData.int).length : Nat) (tt ls) = true := by rw [List.length_map]; exact ctxA_tt h.cx.lot h.cx.ne
  have h4 := ctxB_of h.cx
  rw [List.length_map] at h3
  simp only [isForm, areOut, h1, h2, back_ti, Bool.true_and, List.length_map, h3, h4]
theorem gIx_ti (os : List Int) {i : Int} (h : 0 ≤ i ∧ i < os.length) : gIx (ti os) (.int i) = some (.int (os.getD i.toNat 0)) := by
  obtain ⟨n, rfl⟩ := Int.eq_ofNat_of_zero_le h.1
  have hn : n < os.length := by omega
  rw [oIxT' n (by rw [List.length_map]; exact hn)]
  congr 1
  rw [List.getD_eq_getElem?_getD, List.getElem?_map, List.getElem?_eq_getElem hn, Int.toNat_natCast, List.getD_eq_getElem?_getD, List.getElem?_eq_getElem hn]
  rfl
abbrev szs (os lot : List Int) : List Int := lot.map fun i => os.getD i.toNat 0
theorem szs_le {os lot : List Int} {ls : List (List Int)} (h : IsSc os ls) (hl : ∀ i ∈ lot, 0 ≤ i ∧ i < (os.length : Int)) : ∀ z ∈ szs os lot, 2 ≤ z ∧ z ≤ 4 := by
  intro z hz
  obtain ⟨i, hi, rfl⟩ := List.mem_map.mp hz
  have := hl i hi
  have hn : i.toNat < os.length := by omega
  rw [List.getD_eq_getElem?_getD, List.getElem?_eq_getElem hn]
  exact h.ok _ (List.getElem_mem hn)
theorem lot_len {m : Nat} {l : List Int} (h : IsLot m l) : l.length ≤ m := by
  have hp := lot_pw h
  have s : l.Sublist ((List.range m).map fun (i : Nat) => (i : Int)) := sub_of_subset hp (by
    rw [List.pairwise_map]
    exact List.pairwise_lt_range.imp fun h => by omega) fun x hx => by
      have := h.1 x hx
      exact List.mem_map.mpr ⟨x.toNat, List.mem_range.mpr (by omega), by omega⟩
  have := s.length_le
  rwa [List.length_map, List.length_range] at this
theorem t_sizes_of {os lot : List Int} {b : PyData} (hl : ∀ i ∈ lot, 0 ≤ i ∧ i < (os.length : Int)) (hk : lot.length ≤ 100) : v_sizes_of (.tuple [ti os, b]) (ti lot) = some (ti (szs os lot)) := by
  unfold v_sizes_of
  rw [nItT, bsome, lm_map (g := fun i : Int => PyData.int (os.getD i.toNat 0)) (fun i hi => by rw [nIx2a, bsome, gIx_ti os (hl i hi)]) (by omega)]
  rw [bsome, bsome, bsome, nTupL, bsome]
  simp
theorem secs_step (f : PyData → PyData → Option PyData) (hf : ∀ (k : Nat) (L : List (List Int)) (z : Int), k ≤ 5 → Rw4 k L → 0 ≤ z → z ≤ 4 → f (.list (L.map ti)) (.int z) = some (.list ((L.flatMap fun s => (List.range z.toNat).map fun (o : Nat) => s ++ [(o : Int)]).map ti))) :
    ∀ (zs : List Int) (k : Nat) (L : List (List Int)), k + zs.length ≤ 6 → (∀ z ∈ zs, 0 ≤ z ∧ z ≤ 4) → Rw4 k L → loopM f (zs.map .int) (.list (L.map ti)) = some (.list ((secs zs L).map ti))
  | [], k, L, _, _, _ => rfl
  | z :: zs, k, L, hk, hz, h => by
    rw [List.length_cons] at hk
    have hz0 := hz z List.mem_cons_self
    rw [List.map_cons]
    unfold loopM
    rw [hf k L z (by omega) h hz0.1 hz0.2, bsome]
    exact secs_step f hf zs (k + 1) _ (by omega) (fun y m => hz y (List.mem_cons_of_mem _ m)) (rw4_step h hz0.2)
theorem t_sections_by {zs : List Int} (hk : zs.length ≤ 6) (hz : ∀ z ∈ zs, 0 ≤ z ∧ z ≤ 4) : v_sections_by (ti zs) = some (.list ((secs zs [[]]).map ti)) := by
  unfold v_sections_by
  rw [tupO_ok (by simp), bsome, bsome, lstO_ok (by simp), bsome, bsome, nItT, bsome]
  show Option.bind (loopM _ (zs.map PyData.int) (PyData.list (([[]] : List (List Int)).map ti))) _ = _
  rw [secs_step _ _ zs 0 [[]] (by omega) hz rw4_nil, bsome]
  intro k L z hk h h0 h4
  have hp := pow4 (k := k) (by omega)
  have hL := h.1
  rw [nItL, bsome, lc2_map (f := ti) (f1 := fun (o : Nat) => PyData.int o) (p := fun _ => true) (m := fun _ => List.range z.toNat) (p1 := fun _ _ => true) (g := fun s o => ti (s ++ [(o : Int)]))]
  · rw [bsome, bsome]
    have e1 : (L.filter fun _ => true) = L := List.filter_eq_self.mpr fun _ _ => rfl
    have e2 : ((List.range z.toNat).filter fun _ => true) = List.range z.toNat := List.filter_eq_self.mpr fun _ _ => rfl
    rw [e1, e2, List.map_flatMap]
    congr 3
    funext s
    rw [List.map_map]; rfl
  · intro a _; rfl
  · intro a _ _
    rw [rngO_int (by omega)]; rfl
  · intro a _ _ b _; rfl
  · intro a ha _ b _ _
    rw [tupO_ok (by simp), bsome, tup_snoc a b (by rw [(h.2 a ha).1]; omega)]
  · have e1 : (L.filter fun _ => true) = L := List.filter_eq_self.mpr fun _ _ => rfl
    have e2 : ((List.range z.toNat).filter fun _ => true) = List.range z.toNat := List.filter_eq_self.mpr fun _ _ => rfl
    rw [e1, e2]
    refine Nat.le_trans (flat_len2 _ 4 L fun a _ => by rw [List.length_map, List.length_range]; omega) (by omega)
theorem t_sections_of {os lot : List Int} {ls : List (List Int)} (h : IsSc os ls) (hl : IsLot os.length lot) : v_sections_of (scD os ls) (ti lot) = some (tt (secs (szs os lot) [[]])) := by
  have h1 : v_need_scenario (scD os ls) = some .none := by
    unfold v_need_scenario
    rw [t_is_scenario_form (h.gd.up (by omega)), h.form, bsome, tBd_b, bsome, bsome]; rfl
  have hll := lot_len hl
  have h6 := h.l6
  have h2 : v_need_lot (scD os ls) (ti lot) = some .none := by
    unfold v_need_lot
    rw [nIx2a, bsome, bsome, nLenT, bsome, List.length_map, t_is_lot_of (n := 100) (by omega) (gd_ti (by omega)), isLot_ti hl, bsome, tBd_b, bsome, bsome]; rfl
  unfold v_sections_of
  rw [h1, h2, bsome, bsome]
  unfold v_sections_in
  rw [t_sizes_of hl.1 (by omega), bsome, t_sections_by (by rw [List.length_map]; omega) (fun z hz => by have := szs_le h hl.1 z hz; omega), bsome, bsome, bsome, nTupL, bsome]
theorem t_law_sections {os lot : List Int} {ls : List (List Int)} (h : IsSc os ls) (hl : IsLot os.length lot) : v__law_sections (ti os) (.list (lot.map .int)) = some (tt (secs (szs os lot) [[]])) := by
  have hll := lot_len hl
  have h6 := h.l6
  unfold v__law_sections
  rw [tupO_ok (by simp), bsome, bsome, lstO_ok (by simp), bsome, bsome, nItL, bsome]
  suffices hs : ∀ f : PyData → PyData → Option PyData, (∀ (k : Nat) (L : List (List Int)) (i : Int), k ≤ 5 → Rw4 k L → 0 ≤ i ∧ i < (os.length : Int) → f (.list (L.map ti)) (.int i) = some (.list ((L.flatMap fun s => (List.range (os.getD i.toNat 0).toNat).map fun (o : Nat) => s ++ [(o : Int)]).map ti))) →
      ∀ (lot : List Int) (k : Nat) (L : List (List Int)), k + lot.length ≤ 6 → (∀ i ∈ lot, 0 ≤ i ∧ i < (os.length : Int)) → Rw4 k L → loopM f (lot.map .int) (.list (L.map ti)) = some (.list ((secs (szs os lot) L).map ti)) by
    show Option.bind (loopM _ (lot.map PyData.int) (PyData.list (([[]] : List (List Int)).map ti))) _ = _
    rw [hs _ _ lot 0 [[]] (by omega) hl.1 rw4_nil, bsome, nTupL, bsome]
    intro k L i hk hR hi
    have hp := pow4 (k := k) (by omega)
    have hL := hR.1
    have hz : os.getD i.toNat 0 ≤ 4 ∧ 0 ≤ os.getD i.toNat 0 := by
      have := szs_le (lot := [i]) h (by simpa using hi) (os.getD i.toNat 0) (by simp)
      omega
    rw [lstO_ok (by simp), bsome, bsome, nItL, bsome]
    suffices hi2 : ∀ g : PyData → PyData → Option PyData, (∀ (acc : List (List Int)) (s : List Int), acc.length ≤ 20000 → s.length ≤ 6 → g (.list (acc.map ti)) (ti s) = some (.list ((acc ++ (List.range (os.getD i.toNat 0).toNat).map fun (o : Nat) => s ++ [(o : Int)]).map ti))) →
        ∀ (L acc : List (List Int)), acc.length + 4 * L.length ≤ 20000 → (∀ s ∈ L, s.length ≤ 6) → loopM g (L.map ti) (.list (acc.map ti)) = some (.list ((acc ++ L.flatMap fun s => (List.range (os.getD i.toNat 0).toNat).map fun (o : Nat) => s ++ [(o : Int)]).map ti)) by
      show Option.bind (loopM _ (L.map ti) (PyData.list (([] : List (List Int)).map ti))) _ = _
      rw [hi2 _ _ L [] (by simp; omega) (fun s hs => by rw [(hR.2 s hs).1]; omega), bsome, List.nil_append]
      intro acc s ha hs
      rw [gIx_ti os hi, bsome, rngO_int (by omega), bsome, lm_map (f := fun (o : Nat) => PyData.int o) (g := fun o => ti (s ++ [(o : Int)])) (fun o _ => by rw [tupO_ok (by simp), bsome, tup_snoc s o (by omega)]) (by rw [List.length_range]; omega), bsome, bsome, oCatL]
      · rw [bsome, List.map_append, List.map_map]; rfl
      · exact k5 (by rw [List.length_map, List.length_map, List.length_range]; omega)
    intro g hg L
    induction L with
    | nil => intro acc _ _; simp [loopM]
    | cons s L ih =>
      intro acc h1 h2
      rw [List.length_cons] at h1
      rw [List.map_cons]
      unfold loopM
      rw [hg acc s (by omega) (h2 s List.mem_cons_self), bsome, ih _ (by rw [List.length_append, List.length_map, List.length_range]; omega) (fun y m => h2 y (List.mem_cons_of_mem _ m)), List.flatMap_cons, List.append_assoc]
  intro f hf lot
  induction lot with
  | nil => intro k L _ _ _; rfl
  | cons i lot ih =>
    intro k L hk hi hR
    rw [List.length_cons] at hk
    have hz : os.getD i.toNat 0 ≤ 4 := (szs_le (lot := [i]) h (by simpa using hi i List.mem_cons_self) (os.getD i.toNat 0) (by simp)).2
    rw [List.map_cons]
    unfold loopM
    rw [hf k L i (by omega) hR (hi i List.mem_cons_self), bsome]
    exact ih (k + 1) _ (by omega) (fun y m => hi y (List.mem_cons_of_mem _ m)) (rw4_step hR hz)

/-! ### draws -/
local macro_rules | `(tactic| walk_at "ev") => `(tactic| simp [fnOf, sSeq, sAsg, sOwn, sPar, sParF, sAug, sApp, sIf, sRet, sRetF, sRetN, sNext, sNever, sBreak, sDrop, sFor, hName, hTup, hCons, hNil, hSub, fVar, fC, f1, f2, f2F, fF, fOL, fOR, fOU, ownAt, PV.lst?, PV.put, fNil, fCons, fTup, fLst, fT, fAndT, fOrT, fNotT, fAndV, fOrV, fNotV, fIf, fChain, fSl, fNo, fPart, fCB, fCBF, fIsi, fItems, fYes, fRng1, fRng2, aNil, aCons, aBy, toPV, oneBy, setOuts, fCall, fCallE, outsOf, gDivmod, gMin2, gMax2, gTuple, gList, itemsOf, sizeLine_eq, oAdd, oSub, oLt, oLe, oGt, oGe, oInt, oNeg, oLenT, oLenL, ixL0, ixL1, ixL2, ix30, ix31, ix32, *])
theorem fn_draw {w : List PyData} (hw : W3 w) {few : Int} (h1 : 0 < few) (h2 : few < 1073741824) :
    ∃ k w', W3 w' ∧ 0 ≤ k ∧ k < few ∧ fn__law_draw [.rf w, .pl (.int few)] = some (.pl (.int k), [some w', none]) := by
  obtain ⟨a, b, c, rfl⟩ := hw
  suffices h : ∃ t x y z, fn__law_draw [.rf [.int a, .int b, .int c], .pl (.int few)] = some (.pl (.int (t % few)), [some [.int x, .int y, .int z], none]) by
    obtain ⟨t, x, y, z, e⟩ := h
    exact ⟨_, _, ⟨x, y, z, rfl⟩, Int.emod_nonneg _ (by omega), Int.emod_lt_of_pos _ h1, e⟩
  by_cases ha : 0 < a
  · refine ⟨a, a / few, b, c, ?_⟩
    unfold fn__law_draw bd__law_draw
    walk_at "ev"
  · unfold fn__law_draw bd__law_draw
    have e1 : ∀ i, gMul (.int i) (.int 48271) = some (.int (i * 48271)) := fun i => oMulR _ _ (by decide)
    have e2 : ∀ i, gMul (.int 15017) (.int i) = some (.int (15017 * i)) := fun i => oMulL _ _ (by decide)
    have e3 : ∀ i, gMod (.int i) (.int 2147483489) = some (.int (i % 2147483489)) := fun i => oMod _ _ (by decide)
    have e4 : ∀ i, gMod (.int i) (.int 5003) = some (.int (i % 5003)) := fun i => oMod _ _ (by decide)
    have e5 : ∀ i j, gMul (.int (i % 2147483489)) (.int j) = some (.int (i % 2147483489 * j)) := fun i j => oMulL _ _ (sm_mod i)
    have e6 : ∀ i, gDiv (.int i) (.int 1009) = some (.int (i / 1009)) := fun i => oDiv _ _ (by decide)
    have e7 : ∀ i, gMod (.int i) (.int few) = some (.int (i % few)) := fun i => oMod _ _ h1
    walk_at "ev"
    exact ⟨_, rfl⟩
def Drw (few : Int) (p : PyData × List PyData) : Prop := W3 p.2 ∧ ∃ k : Nat, p.1 = .int k ∧ (k : Int) < few
theorem t_draw {w : List PyData} (hw : W3 w) {few : Int} (h1 : 0 < few) (h2 : few < 1073741824) : WP (v__law_draw w (.int few)) (Drw few) := by
  obtain ⟨k, w', hw', k0, k1, e⟩ := fn_draw hw h1 h2
  obtain ⟨n, rfl⟩ := Int.eq_ofNat_of_zero_le k0
  refine ⟨(.int n, w'), ?_, hw', n, rfl, k1⟩
  unfold v__law_draw
  rw [e]
theorem t_one {w : List PyData} (hw : W3 w) {ds : List PyData} (h1 : ds ≠ []) (h2 : ds.length < 1073741824) : WP (v__law_one w (.tuple ds)) fun p => W3 p.2 ∧ p.1 ∈ ds := by
  have hl : 0 < ds.length := List.length_pos_iff.mpr h1
  unfold v__law_one
  rw [nLenT, bsome]
  refine ((t_draw hw (few := (ds.length : Int)) (by omega) (by omega)).bind fun p hp => ?_).bind (P := fun p => W3 p.2 ∧ p.1 ∈ ds) fun p hp => WP.ret hp
  obtain ⟨hw', k, e, hk⟩ := hp
  rw [e]
  obtain ⟨d, hd, e2⟩ := gIx_nat (xs := ds) (k := k) (by omega)
  rw [e2, bsome]
  exact WP.ret ⟨hw', hd⟩
/-- a drawn value, none too long -/
def GdP (n : Nat) (p : PyData × List PyData) : Prop := W3 p.2 ∧ Gd n p.1
theorem t_odd {w : List PyData} (hw : W3 w) : WP (v__law_odd w) (GdP 20) := by
  unfold v__law_odd
  have c1 : ∀ a b : List PyData, a.length ≤ 100 → b.length ≤ 100 → gAdd (.tuple a) (.tuple b) = some (.tuple (a ++ b)) := fun a b h g => oCatT a b (k5 (by omega))
  have c2 : gPow (.int 10) (.int 20) = some (.int 100000000000000000000) := by
    show (if decide ((0 : Int) ≤ 20 ∧ (20 : Int) ≤ 1000000 ∧ (10 : Int).natAbs < 2 ^ 64) then some (PyData.int (10 ^ (20 : Int).toNat)) else none) = _
    rw [if_pos (by decide)]; rfl
  have t0 : ∀ xs : List PyData, xs.length ≤ 100 → tupO xs = some (.tuple xs) := fun xs h => tupO_ok (by omega)
  have l0 : ∀ xs : List PyData, xs.length ≤ 100 → lstO xs = some xs := fun xs h => lstO_ok (by omega)
  simp only [bsome, nNeg, t0, l0, c1, c2, List.length_cons, List.length_nil, Nat.reduceAdd, Nat.reduceLeDiff, List.cons_append, List.nil_append]
  refine (t_one hw (by simp) (by simp)).bind (P := fun p => W3 p.2 ∧ _) fun p hp => WP.ret ⟨hp.1, ?_⟩
  exact gdBs_ok (by decide +kernel) p.1 hp.2

/-! ### bent -/
/-- data that can be compared with () at any place -/
structure Bd (n : Nat) (d : PyData) : Prop where
  gd : Gd n d
  sh : SeqAt.shaped d = true
theorem Bd.mem {n : Nat} {xs : List PyData} (h : Bd n (.tuple xs)) : ∀ x ∈ xs, Bd n x := fun x hx => ⟨h.gd.mem x hx, shaped_mem h.sh x hx⟩
def BentI (n : Nat) (j : Nat) (s : List PyData × List PyData × PyData) : Prop := W3 s.1 ∧ s.2.1.length ≤ j ∧ (∀ q ∈ s.2.1, PathOk n q) ∧ Bd n s.2.2
def BentZ (n : Nat) (o : Fw (List PyData × List PyData × PyData) (PyData × List PyData)) : Prop := match o with
  | .nx s => BentI n 10 s
  | .bk s => BentI n 10 s
  | .rt _ => False
theorem BentI.up {n j : Nat} {s : List PyData × List PyData × PyData} (h : BentI n j s) (hj : j ≤ 10) : BentI n 10 s := ⟨h.1, Nat.le_trans h.2.1 hj, h.2.2.1, h.2.2.2⟩
theorem five {n : Nat} {a b c d e : PyData} (ha : Gd n a) (hb : Gd n b) (hc : Gd n c) (hd : Gd n d) (he : Gd n e) {k : Nat} (hk : k < 5) : ∃ x, gIx (.tuple [a, b, c, d, e]) (.int (k : Int)) = some x ∧ Gd n x := by
  obtain ⟨x, hx, e⟩ := gIx_nat (xs := [a, b, c, d, e]) (k := k) (by simpa using hk)
  refine ⟨x, e, ?_⟩
  simp only [List.mem_cons, List.not_mem_nil, or_false] at hx
  rcases hx with rfl | rfl | rfl | rfl | rfl <;> assumption
theorem t_bent {w : List PyData} (hw : W3 w) {n : Nat} (hn : 20 ≤ n) (hn2 : n ≤ 50000) {d : PyData} (hd : Bd n d) : WP (v__law_bent w d) (GdP (n + 1)) := by
  unfold v__law_bent
  rw [lstO_ok (by simp), bsome]
  refine ((t_draw hw (few := 5) (by omega) (by omega)).bind (Q := fun p => W3 p.2 ∧ ∃ k : Nat, k ≤ 5 ∧ p.1 = (List.range k).map fun (i : Nat) => PyData.int i) fun p hp => ?_).bind fun p hp => ?_
  · obtain ⟨h1, k, e, hk⟩ := hp
    rw [e, rngO_nat (by omega), bsome]
    exact WP.ret ⟨h1, k, by omega, rfl⟩
  obtain ⟨h1, k, hk, e⟩ := hp
  refine WP.bind (P := BentZ n) (loopW_wpn (BentI n) (BentZ n) 10 (fun j s hj h => h.up hj) p.1 0 _ (by rw [e, List.length_map, List.length_range]; omega) ⟨h1, by simp, by simp, hd⟩ fun j s a hj _ hs => ?_) fun o ho => ?_
  · -- a step in
    obtain ⟨g1, g2, g3, g4⟩ := hs
    rw [isi_tup' g4.gd, bsome, tBd_b, bsome, bsome]
    cases ht : isT s.2.2 with
    | false => rw [nNotF, if_pos rfl, bsome, if_pos rfl]; exact WP.ret (BentI.up (j := j) (s := s) ⟨g1, g2, g3, g4⟩ (by omega))
    | true =>
      obtain ⟨xs, ex⟩ := isT_ex ht
      rw [ex] at g4
      rw [nNotT, if_neg (by simp), ex, tupO_ok (by simp), bsome, eq_unit g4.sh, bsome, tBd_b, bsome]
      cases xs with
      | nil => rw [show ([] : List PyData).isEmpty = true from rfl, if_pos rfl]; exact WP.ret (BentI.up (j := j) (s := (s.1, s.2.1, .tuple [])) ⟨g1, g2, g3, g4⟩ (by omega))
      | cons y ys =>
        rw [show (y :: ys).isEmpty = false from rfl, if_neg (by simp), nLenT, bsome]
        refine (t_draw g1 (few := ((y :: ys).length : Int)) (by simp) (by have := g4.gd.len; omega)).bind fun q hq => ?_
        obtain ⟨q1, m, em, hm⟩ := hq
        obtain ⟨z, hz, ez⟩ := gIx_nat (xs := y :: ys) (k := m) (by omega)
        rw [em, tupO_ok (by simp), bsome, appO_ok (by omega), bsome, ez, bsome]
        refine WP.ret (show BentI n (j + 1) _ from ⟨q1, by show (s.2.1 ++ [_]).length ≤ j + 1; rw [List.length_append, List.length_singleton]; omega, fun r hr => ?_, g4.mem z hz⟩)
        rcases List.mem_append.mp hr with h | h
        · exact g3 r h
        · rw [List.mem_singleton.mp h]; exact ⟨_, m, rfl, g4.gd, by omega⟩
  · -- turned, and back out
    refine goW_wp (BentI n 10) (fun _ => False) (by cases o <;> exact ho) (fun s hs => ?_) (fun _ h => h.elim)
    obtain ⟨g1, g2, g3, g4⟩ := hs
    refine (t_draw g1 (few := 8) (by omega) (by omega)).bind fun q hq => ?_
    obtain ⟨q1, m, em, hm⟩ := hq
    rw [em]
    refine WP.bind (P := fun r : List PyData × PyData => W3 r.1 ∧ Gd (n + 1) r.2) ?_ fun r hr => ?_
    · rw [isi_tup' g4.gd, bsome, tBd_b, bsome, nLt]
      have odd : WP ((v__law_odd q.2).bind fun p850 => some (p850.2, p850.1)) (fun r : List PyData × PyData => W3 r.1 ∧ Gd (n + 1) r.2) :=
        (t_odd q1).bind fun r hr => WP.ret ⟨hr.1, hr.2.up (by omega)⟩
      cases ht : isT s.2.2 with
      | true =>
        obtain ⟨xs, ex⟩ := isT_ex ht
        rw [ex] at g4
        have hl := g4.gd.len
        rw [if_pos rfl, bsome, tBd_b, bsome, ex]
        cases h5 : decide ((m : Int) < 5) with
        | true =>
          have h5' : m < 5 := by have := of_decide_eq_true h5; omega
          obtain ⟨u, e1, _, e2⟩ := gd_cat (m := n + 1) g4.gd (gd_cut g4.gd none (some 1)) (by
            have := cut_to (xs := xs) (k := 1)
            by_cases hx : 1 ≤ xs.length
            · have := this hx
              show xs.length + (cutA xs none (some ((1 : Nat) : Int))).length ≤ _
              omega
            · have := cut_len xs none (some 1); omega) (by omega) (by omega)
          rw [if_pos rfl, nListT, bsome, bsome, nNeg, bsome, nPart, bsome, sl_tup, bsome, nPart, bsome, sl_tup, bsome, e1, bsome, bsome, sl_tup, bsome, rev_tup, bsome, bsome, bsome, bsome, bsome, bsome, tupO_ok (by simp), bsome]
          obtain ⟨x, ex, gx⟩ := five (n := n + 1) (k := m) (.lst (by omega) fun d hd => (g4.gd.mem d hd).up (by omega)) ((gd_cut g4.gd none (some (-1))).up (by omega)) e2 ((gd_cut g4.gd (some 1) none).up (by omega)) (Gd.up (n := n) (by omega) (.tup (by rw [List.length_reverse]; exact hl) fun d hd => g4.gd.mem d (List.mem_reverse.mp hd))) h5'
          rw [ex, bsome]
          exact WP.ret ⟨q1, gx⟩
        | false =>
          rw [if_neg (by simp), t_law_is_whole g4.gd, bsome, tBd_b, bsome, show isW (.tuple xs) = false from rfl, if_neg (by simp), bsome, if_neg (by simp)]
          exact odd
      | false =>
        rw [if_neg (by simp), bsome, if_neg (by simp), t_law_is_whole g4.gd, bsome, tBd_b, bsome]
        cases hW : isW s.2.2 with
        | false => rw [if_neg (by simp), bsome, if_neg (by simp)]; exact odd
        | true =>
          obtain ⟨i, ei⟩ := isW_ex hW
          rw [if_pos rfl, bsome, tBd_b, bsome, ei]
          cases h5 : decide ((m : Int) < 5) with
          | false => rw [if_neg (by simp)]; exact odd
          | true =>
            have h5' : m < 5 := by have := of_decide_eq_true h5; omega
            rw [if_pos rfl, nAdd, bsome, nSub, bsome, nSub, bsome, nGt, bsome, nSub, bsome, bsome, bsome, bsome, bsome, bsome, tupO_ok (by simp), bsome]
            obtain ⟨x, ex, gx⟩ := five (n := n + 1) (k := m) (.int (i + 1)) (.int (i - 1)) (.int (0 - i)) (.bl (decide (0 < i))) (.int (1 - i)) h5'
            rw [ex, bsome]
            exact WP.ret ⟨q1, gx⟩
    · obtain ⟨r1, r2⟩ := hr
      obtain ⟨ps, e1, e2⟩ := un2s_path (n := n) (l := s.2.1.reverse) fun q hq => g3 q (List.mem_reverse.mp hq)
      rw [rev_list, bsome, nItL, bsome, e1, bsome]
      refine WP.bind (P := fun x => Gd (n + 1) x) (loopM_wp (fun x => Gd (n + 1) x) ps r.2 r2 fun x a ha hx => ?_) fun x hx => WP.ret ⟨r1, hx⟩
      obtain ⟨xs, m, rfl, g5, g6⟩ := e2 a ha
      have hl := g5.len
      have c1 := cut_to (xs := xs) (k := m) (by omega)
      have c2 := cut_from (xs := xs) (k := m + 1) (by omega)
      have b2 : (m : Int) + 1 = ((m + 1 : Nat) : Int) := by omega
      dsimp only
      obtain ⟨u, f1, f2, f3⟩ := gd_cat (m := n + 1) (a := cutA xs none (some (m : Int))) (b := [x]) ((gd_cut g5 _ _).up (show n ≤ n + 1 by omega)) (.tup (by simp) (by simpa using hx)) (by rw [c1]; simp; omega) (by omega) (by omega)
      obtain ⟨u2, f4, f5, f6⟩ := gd_cat (m := n + 1) (a := u) (b := cutA xs (some ((m + 1 : Nat) : Int)) none) f3 ((gd_cut g5 _ _).up (show n ≤ n + 1 by omega)) (by rw [f2, List.length_append, c1, c2]; simp; omega) (by omega) (by omega)
      rw [nPart, bsome, sl_tup, bsome, tupO_ok (by simp), bsome, f1, bsome, nAdd, bsome, nPart, bsome, sl_tup, bsome, b2, f4, bsome]
      exact WP.ret f6
theorem t_maybe {w : List PyData} (hw : W3 w) {n : Nat} (hn : 20 ≤ n) (hn2 : n ≤ 50000) {d : PyData} (hd : Bd n d) : WP (v__law_maybe w d) (GdP (n + 1)) := by
  unfold v__law_maybe
  refine (t_draw hw (few := 10) (by omega) (by omega)).bind fun q hq => ?_
  obtain ⟨q1, m, em, hm⟩ := hq
  rw [em, nLt, bsome, tBd_b, bsome]
  refine WP.ite (fun _ => WP.ret ⟨q1, hd.gd.up (by omega)⟩) fun _ => ?_
  rw [nLt, bsome, tBd_b, bsome]
  refine WP.bind (P := GdP (n + 1)) (WP.ite (fun _ => t_bent q1 hn hn2 hd) fun _ => (t_odd q1).mono fun r hr => ⟨hr.1, hr.2.up (by omega)⟩) fun r hr => WP.ret hr

/-! ### drawn contexts -/
theorem ifand (b c : Bool) : (if b then some c else some false) = some (b && c) := by cases b <;> rfl
structure WebI (n : Nat) (ls : List (List Int)) : Prop where
  lot : ∀ l ∈ ls, IsLot n l
  ne : ∀ l ∈ ls, l ≠ []
  cov : ∀ i : Nat, i < n → ∃ l ∈ ls, (i : Int) ∈ l
theorem WebI.add {n : Nat} {ls ms : List (List Int)} (h : WebI n ls) (g : ∀ l ∈ ms, IsLot n l ∧ l ≠ []) : WebI n (ls ++ ms) where
  lot := fun l hl => (List.mem_append.mp hl).elim (h.lot l) fun m => (g l m).1
  ne := fun l hl => (List.mem_append.mp hl).elim (h.ne l) fun m => (g l m).2
  cov := fun i hi => by obtain ⟨l, hl, hm⟩ := h.cov i hi; exact ⟨l, List.mem_append_left _ hl, hm⟩
theorem cat_ll {a b : List (List Int)} (h : a.length + b.length ≤ 1000) : gAdd (.list (a.map ti)) (.list (b.map ti)) = some (.list ((a ++ b).map ti)) := by
  rw [oCatL, List.map_append]
  exact k5 (by rw [List.length_map, List.length_map]; omega)
theorem cat_li {a b : List Int} (h : a.length + b.length ≤ 1000) : gAdd (.list (a.map .int)) (.list (b.map .int)) = some (.list ((a ++ b).map .int)) := by
  rw [oCatL, List.map_append]
  exact k5 (by rw [List.length_map, List.length_map]; omega)
theorem lot_one {n i : Nat} (h : i < n) : IsLot n [(i : Int)] := ⟨fun j hj => by have := List.mem_singleton.mp hj; omega, rfl⟩
theorem lot_two {n : Nat} {a b : Int} (h0 : 0 ≤ a) (h : a < b) (h2 : b < n) : IsLot n [a, b] := lotPw (fun j hj => by simp only [List.mem_cons, List.not_mem_nil, or_false] at hj; omega) (by simpa using h)
/-- what a drawn web is like -/
def WebP (n : Nat) (r : List PyData × PyData) : Prop := W3 r.1 ∧ ∃ ls : List (List Int), r.2 = .list (ls.map ti) ∧ WebI n ls ∧ ls.length ≤ 60
theorem web_add {n : Nat} {w : List PyData} (hw : W3 w) {ls ms : List (List Int)} (h : WebI n ls) (g : ∀ l ∈ ms, IsLot n l ∧ l ≠ []) (hl : ls.length + ms.length ≤ 60) : WP ((gAdd (.list (ls.map ti)) (.list (ms.map ti))).bind fun x => some (w, x)) (WebP n) := by
  rw [cat_ll (by omega), bsome]
  exact WP.ret ⟨hw, _, rfl, h.add g, by rw [List.length_append]; omega⟩
theorem t_web {w : List PyData} (hw : W3 w) {n : Nat} (h1 : 1 ≤ n) (h6 : n ≤ 6) : WP (v__law_web w (.int n)) fun p => W3 p.2 ∧ ∃ ls, p.1 = tt ls ∧ IsCx n ls ∧ ls.length ≤ 60 := by
  unfold v__law_web
  have base : WebI n ((List.range n).map fun (i : Nat) => [(i : Int)]) := ⟨fun l hl => by
    obtain ⟨i, hi, rfl⟩ := List.mem_map.mp hl; exact lot_one (List.mem_range.mp hi), fun l hl => by
    obtain ⟨i, hi, rfl⟩ := List.mem_map.mp hl; simp, fun i hi => ⟨_, List.mem_map.mpr ⟨i, List.mem_range.mpr hi, rfl⟩, by simp⟩⟩
  have bl : ((List.range n).map fun (i : Nat) => [(i : Int)]).length = n := by rw [List.length_map, List.length_range]
  have e0 : lmO (fun a1351 => tupO [a1351]) ((List.range n).map fun (i : Nat) => PyData.int i) = some (((List.range n).map fun (i : Nat) => [(i : Int)]).map ti) := by
    rw [lm_map (e := fun a => tupO [a]) (f := fun (i : Nat) => PyData.int i) (g := fun (i : Nat) => ti [(i : Int)]) (l := List.range n) (fun i _ => tupO_ok (by simp)) (by rw [List.length_range]; omega), List.map_map]; rfl
  generalize hb : ((List.range n).map fun (i : Nat) => [(i : Int)]) = bs at base bl e0
  refine ((t_draw hw (few := 8) (by omega) (by omega)).bind (Q := fun p => W3 p.2 ∧ ∃ k : Nat, p.1 = [.int k, .list (bs.map ti)]) fun p hp => ?_).bind fun p hp => ?_
  · obtain ⟨q1, k, e, _⟩ := hp
    rw [rngO_nat (by omega), bsome, e0, bsome, bsome, bsome, e]
    exact WP.ret ⟨q1, k, rfl⟩
  obtain ⟨q1, k, e⟩ := hp
  rw [e]
  dsimp only
  refine WP.bind (P := WebP n) ?_ fun r hr => ?_
  · simp only [bassoc, nLt, nGt, eqInt, bsome, tBd_b, ifand, nSub]
    have eN : rngO (.int ((n : Int) - 1)) = some ((List.range (n - 1)).map fun (i : Nat) => PyData.int i) := by
      rw [show ((n : Int) - 1) = ((n - 1 : Nat) : Int) by omega, rngO_nat (by omega)]
    have eP : lmO (fun a => (gAdd a (.int 1)).bind fun x => tupO [a, x]) ((List.range (n - 1)).map fun (i : Nat) => PyData.int i) = some (((List.range (n - 1)).map fun (i : Nat) => [(i : Int), (i : Int) + 1]).map ti) := by
      rw [lm_map (g := fun (i : Nat) => ti [(i : Int), (i : Int) + 1]) (fun i _ => by rw [nAdd, bsome, tupO_ok (by simp)]; rfl) (by rw [List.length_range]; omega), List.map_map]; rfl
    have gP : ∀ l ∈ (List.range (n - 1)).map (fun (i : Nat) => [(i : Int), (i : Int) + 1]), IsLot n l ∧ l ≠ [] := fun l hl => by
      obtain ⟨i, hi, rfl⟩ := List.mem_map.mp hl
      have := List.mem_range.mp hi
      exact ⟨lot_two (by omega) (by omega) (by omega), by simp⟩
    have lP : ((List.range (n - 1)).map (fun (i : Nat) => [(i : Int), (i : Int) + 1])).length = n - 1 := by rw [List.length_map, List.length_range]
    refine WP.ite (fun hc => ?_) fun _ => ?_
    · simp only [Bool.and_eq_true, decide_eq_true_eq] at hc
      rw [eN, bsome, eP, bsome, cat_ll (by omega), bsome, tupO_ok (by simp), bsome, lstO_ok (by simp), bsome]
      exact web_add (ms := [[0, (n : Int) - 1]]) q1 (base.add gP) (fun l hl => by
        rw [List.mem_singleton.mp hl]; exact ⟨lot_two (by omega) (by omega) (by omega), by simp⟩) (by rw [List.length_append, lP, bl]; simp; omega)
    refine WP.ite (fun hc => ?_) fun _ => ?_
    · rw [eN, bsome, eP, bsome]
      exact web_add q1 base gP (by omega)
    refine WP.ite (fun hc => ?_) fun _ => ?_
    · simp only [Bool.and_eq_true, decide_eq_true_eq] at hc
      rw [rngO_nat (by omega), bsome, lm_map (g := fun (i : Nat) => ti (((List.range n).map fun (j : Nat) => (j : Int)).filter fun j => !decide (j = (i : Int)))) (fun i _ => ?_) (by rw [List.length_range]; omega), bsome]
      · have := web_add (n := n) (ms := (List.range n).map fun (i : Nat) => ((List.range n).map fun (j : Nat) => (j : Int)).filter fun j => !decide (j = (i : Int))) q1 base (fun l hl => by
          obtain ⟨i, hi, rfl⟩ := List.mem_map.mp hl
          have hi := List.mem_range.mp hi
          refine ⟨lotPw (fun j hj => ?_) ?_, fun h0 => ?_⟩
          · obtain ⟨m, hm, rfl⟩ := List.mem_map.mp (List.mem_filter.mp hj).1
            have := List.mem_range.mp hm; omega
          · refine List.Pairwise.filter _ ?_
            rw [List.pairwise_map]
            exact List.pairwise_lt_range.imp fun h => by omega
          · have hx := List.filter_eq_nil_iff.mp h0
            by_cases hz : i = 0
            · exact hx (1 : Nat) (List.mem_map.mpr ⟨1, List.mem_range.mpr (by omega), rfl⟩) (by simp; omega)
            · exact hx (0 : Nat) (List.mem_map.mpr ⟨0, List.mem_range.mpr (by omega), rfl⟩) (by simp; omega)) (by rw [List.length_map, List.length_range]; omega)
        rw [List.map_map] at this
        exact this
      · rw [bsome, lc_map (e := fun a => some a) (l := List.range n) (f := fun (j : Nat) => PyData.int j) (p := fun j : Nat => !decide ((j : Int) = (i : Int))) (g := fun j : Nat => PyData.int j) (fun j _ => by rw [neInt, bsome, tBd_b]) (fun _ _ _ => rfl) (by rw [List.length_range]; omega), bsome, nTupL]
        rw [List.filter_map]
        show _ = some (PyData.tuple (List.map PyData.int (List.map _ _)))
        rw [List.map_map]; rfl
    refine WP.ite (fun hc => ?_) fun _ => ?_
    · simp only [Bool.and_eq_true, decide_eq_true_eq] at hc
      have h4 : n = 4 := by omega
      subst h4
      rw [tupO_ok (by simp), bsome, tupO_ok (by simp), bsome, tupO_ok (by simp), bsome, tupO_ok (by simp), bsome, lstO_ok (by simp), bsome]
      exact web_add (ms := [[0, 2], [0, 3], [1, 2], [1, 3]]) q1 base (fun l hl => by
        simp only [List.mem_cons, List.not_mem_nil, or_false] at hl
        rcases hl with rfl | rfl | rfl | rfl <;> exact ⟨lot_two (by omega) (by omega) (by omega), by simp⟩) (by simp; omega)
    refine WP.ite (fun hc => ?_) fun _ => ?_
    · rw [rng2O_1 (by omega), bsome, lm_map (g := fun (i : Nat) => ti [0, 1 + (i : Int)]) (fun i _ => by rw [tupO_ok (by simp)]; rfl) (by rw [List.length_range]; omega), bsome]
      have := web_add (n := n) (ms := (List.range (n - 1)).map fun (i : Nat) => [0, 1 + (i : Int)]) q1 base (fun l hl => by
        obtain ⟨i, hi, rfl⟩ := List.mem_map.mp hl
        have := List.mem_range.mp hi
        exact ⟨lot_two (by omega) (by omega) (by omega), by simp⟩) (by rw [List.length_map, List.length_range]; omega)
      rw [List.map_map] at this
      exact this
    · -- any lots
      refine (t_draw q1 (few := 5) (by omega) (by omega)).bind fun d hd => ?_
      obtain ⟨g1, k, e, hk⟩ := hd
      rw [e, nAdd, bsome, show ((1 : Int) + (k : Int)) = ((k + 1 : Nat) : Int) by omega, rngO_nat (by omega), bsome]
      refine WP.bind (loopM_wpn (fun j (s : List PyData × PyData) => W3 s.1 ∧ ∃ ls : List (List Int), s.2 = .list (ls.map ti) ∧ WebI n ls ∧ ls.length ≤ n + j) 5 _ 0 _ (by rw [List.length_map, List.length_range]; omega) ⟨g1, bs, rfl, base, by omega⟩ fun j s a hj _ hs => ?_) fun s hs => ?_
      · obtain ⟨s1, ls, s2, s3, s4⟩ := hs
        rw [lstO_ok (by simp), bsome, rngO_nat (by omega), bsome]
        refine WP.bind (P := fun r : List PyData × PyData => W3 r.1 ∧ ∃ l : List Int, r.2 = .list (l.map .int) ∧ l.Pairwise (· < ·) ∧ l.length ≤ 6 ∧ ∀ i ∈ l, 0 ≤ i ∧ i < (n : Int)) ?_ fun r hr => ?_
        · suffices hI : ∀ (m : Nat) (f : List PyData × PyData → PyData → Option (List PyData × PyData)), (∀ (r : List PyData × PyData) (i : Nat) (l : List Int), W3 r.1 → r.2 = .list (l.map .int) → l.length ≤ i → i ≤ 6 → WP (f r (.int i)) fun q => W3 q.1 ∧ (q.2 = .list (l.map .int) ∨ q.2 = .list ((l ++ [(i : Int)]).map .int))) → m ≤ 6 →
              WP (loopM f ((List.range m).map fun (i : Nat) => PyData.int i) (s.1, PyData.list [])) fun r => W3 r.1 ∧ ∃ l : List Int, r.2 = .list (l.map .int) ∧ l.Pairwise (· < ·) ∧ l.length ≤ m ∧ ∀ i ∈ l, 0 ≤ i ∧ i < (m : Int) by
            refine (hI n _ (fun r i l r1 r2 r3 r4 => ?_) h6).mono fun r hr => ?_
            · refine (t_draw r1 (few := 2) (by omega) (by omega)).bind fun d hd => ?_
              obtain ⟨d1, k, ek, _⟩ := hd
              rw [ek, eqInt, bsome, tBd_b, bsome]
              refine WP.bind (P := fun x : PyData × List PyData => W3 x.2 ∧ (x.1 = .list [] ∨ x.1 = .list [.int i])) (WP.ite (fun _ => ?_) fun _ => ?_) fun x hx => ?_
              · rw [lstO_ok (by simp), bsome]; exact WP.ret ⟨d1, .inr rfl⟩
              · exact WP.ret ⟨d1, .inl rfl⟩
              · obtain ⟨x1, x2 | x2⟩ := hx
                · have := cat_li (a := l) (b := []) (by simp; omega)
                  rw [r2, x2]
                  rw [show gAdd (.list (l.map .int)) (.list []) = _ from this, bsome]
                  exact WP.ret ⟨x1, .inl (by simp)⟩
                · have := cat_li (a := l) (b := [(i : Int)]) (by simp; omega)
                  rw [r2, x2]
                  rw [show gAdd (.list (l.map .int)) (.list [.int i]) = _ from this, bsome]
                  exact WP.ret ⟨x1, .inr rfl⟩
            · obtain ⟨r1, l, r2, r3, r4, r5⟩ := hr
              exact ⟨r1, l, r2, r3, by omega, r5⟩
          intro m f hf
          induction m with
          | zero => intro _; exact ⟨_, rfl, s1, [], rfl, .nil, by simp, by simp⟩
          | succ m ih =>
            intro hm
            rw [List.range_succ, List.map_append]
            have app : ∀ (xs ys : List PyData) (s : List PyData × PyData), loopM f (xs ++ ys) s = (loopM f xs s).bind fun s' => loopM f ys s' := by
              intro xs
              induction xs with
              | nil => intro ys s; rfl
              | cons x xs ih => intro ys s; simp only [List.cons_append, loopM, bassoc, ih]
            rw [app]
            refine (ih (by omega)).bind fun r hr => ?_
            obtain ⟨r1, l, r2, r3, r4, r5⟩ := hr
            show WP ((f r (.int (m : Nat))).bind fun s' => some s') _
            refine (hf r m l r1 r2 r4 (by omega)).bind fun q hq => ?_
            obtain ⟨q1, q2 | q2⟩ := hq
            · exact WP.ret ⟨q1, l, q2, r3, by omega, fun i hi => by have := r5 i hi; omega⟩
            · refine WP.ret ⟨q1, l ++ [(m : Int)], q2, ?_, by rw [List.length_append]; simp; omega, fun i hi => ?_⟩
              · exact List.pairwise_append.mpr ⟨r3, by simp, fun a ha b hb => by have := r5 a ha; have := List.mem_singleton.mp hb; omega⟩
              · rcases List.mem_append.mp hi with h | h
                · have := r5 i h; omega
                · have := List.mem_singleton.mp h; omega
        · obtain ⟨r1, l, r2, r3, r4, r5⟩ := hr
          have hne : gNeA r.2 (.list []) = some (.bool (!decide (l = []))) := by rw [r2]; exact ne_in l
          rw [bsome, hne, bsome, tBd_b, bsome]
          refine WP.bind (P := fun x => ∃ ms : List (List Int), x = .list (ms.map ti) ∧ (∀ l ∈ ms, IsLot n l ∧ l ≠ []) ∧ ms.length ≤ 1) (WP.ite (fun hc => ?_) fun hc => WP.ret ⟨[], rfl, by simp, by simp⟩) fun x hx => ?_
          · rw [r2, nTupL, bsome, lstO_ok (by simp), bsome]
            refine WP.ret ⟨[l], rfl, fun m hm => ?_, by simp⟩
            rw [List.mem_singleton.mp hm]
            exact ⟨lotPw r5 r3, by simpa using hc⟩
          · obtain ⟨ms, rfl, m1, m2⟩ := hx
            rw [s2, cat_ll (by omega), bsome]
            exact WP.ret ⟨r1, _, rfl, s3.add m1, by rw [List.length_append]; omega⟩
      · obtain ⟨s1, ls, s2, s3, s4⟩ := hs
        rw [List.length_map, List.length_range] at s4
        exact WP.ret ⟨s1, ls, s2, s3, by omega⟩
  · obtain ⟨r1, ls, r2, r3, r4⟩ := hr
    rw [r2, t_law_maximal_gen (ls := ls) (nItL _) (sort_l ls r3.ne) (by omega) (fun l hl => by have := lot_len (r3.lot l hl); omega), bsome]
    refine WP.ret ⟨r1, _, rfl, maxi_cx r3.lot r3.ne r3.cov (fun l hl => by have := lot_len (r3.lot l hl); omega), ?_⟩
    exact Nat.le_trans (maxi_len ls) (by omega)

/-! ### drawn scenarios -/
theorem prod_rep : ∀ n : Nat, n ≤ 6 → prodO ((List.replicate n (2 : Int)).map .int) 1 ≤ 64 := by decide
theorem prod_set3 : ∀ n : Nat, n ≤ 4 → ∀ k : Nat, k ≤ 4 → prodO (((List.replicate n (2 : Int)).set k 3).map .int) 1 ≤ 64 := by decide
theorem prod_set4 : ∀ n : Nat, n ≤ 2 → ∀ k : Nat, k ≤ 4 → prodO (((List.replicate n (2 : Int)).set k 4).map .int) 1 ≤ 64 := by decide
/-- drawn outcomes -/
def OutsP (n : Nat) (os : List Int) : Prop := os.length = n ∧ (∀ z ∈ os, 2 ≤ z ∧ z ≤ 4) ∧ prodO (os.map .int) 1 ≤ 64
theorem outs_rep {n : Nat} (h : n ≤ 6) : OutsP n (List.replicate n 2) := ⟨by simp, fun z hz => by have := List.eq_of_mem_replicate hz; omega, prod_rep n h⟩
theorem outs_set {n k : Nat} {v : Int} (h : n ≤ 4) (hk : k < n) (hv : v = 3 ∨ (v = 4 ∧ n ≤ 2)) : OutsP n ((List.replicate n 2).set k v) := by
  refine ⟨by simp, fun z hz => ?_, ?_⟩
  · rcases List.mem_or_eq_of_mem_set hz with h1 | h1
    · have := List.eq_of_mem_replicate h1; omega
    · omega
  · rcases hv with rfl | ⟨rfl, h2⟩
    · exact prod_set3 n h k (by omega)
    · exact prod_set4 n h2 k (by omega)
def ScP (p : PyData × List PyData) : Prop := W3 p.2 ∧ ∃ os ls, p.1 = scD os ls ∧ IsSc os ls
theorem t_scenario {w : List PyData} (hw : W3 w) {most : Nat} (hm : 1 ≤ most) (hm6 : most ≤ 6) : WP (v__law_scenario w (.int most)) ScP := by
  unfold v__law_scenario
  rw [tupO_ok (by simp), bsome]
  refine (t_one hw (by simp) (by simp)).bind fun p hp => ?_
  obtain ⟨q1, hp⟩ := hp
  obtain ⟨k, ek, k1⟩ : ∃ k : Nat, p.1 = .int k ∧ 1 ≤ k := by
    simp only [List.mem_cons, List.not_mem_nil, or_false] at hp
    rcases hp with h | h | h | h | h | h | h
    · exact ⟨1, h, by omega⟩
    · exact ⟨2, h, by omega⟩
    · exact ⟨3, h, by omega⟩
    · exact ⟨3, h, by omega⟩
    · exact ⟨4, h, by omega⟩
    · exact ⟨4, h, by omega⟩
    · exact ⟨most, h, hm⟩
  obtain ⟨n, en, n1, n6⟩ : ∃ n : Nat, gMin2 [.int k, .int most] = some (.int n) ∧ 1 ≤ n ∧ n ≤ 6 := by
    show ∃ n : Nat, some (PyData.int (if (most : Int) < k then (most : Int) else k)) = some (.int n) ∧ 1 ≤ n ∧ n ≤ 6
    by_cases h : (most : Int) < k
    · exact ⟨most, by rw [if_pos h], hm, hm6⟩
    · exact ⟨k, by rw [if_neg h], k1, by omega⟩
  have erep : gRepL (.list [.int 2]) (.int n) = some ((List.replicate n (2 : Int)).map .int) := by
    show (if (0 : Int) ≤ n ∧ (n : Int) ≤ 100000 ∧ ([PyData.int 2] : List PyData).length * (n : Int).toNat ≤ sizeLine then some (List.replicate (n : Int).toNat [PyData.int 2]).flatten else none) = _
    rw [if_pos ⟨by omega, by omega, by simp; exact k5 (by omega)⟩]
    congr 1
    rw [Int.toNat_natCast]
    clear en n1 n6
    induction n with
    | zero => rfl
    | succ n ih => rw [List.replicate_succ, List.flatten_cons, ih, List.replicate_succ]; rfl
  rw [ek, en, bsome, lstO_ok (by simp), bsome, bsome, erep, bsome]
  refine WP.bind (P := fun s : List PyData × List PyData => W3 s.1 ∧ ∃ os : List Int, s.2 = os.map .int ∧ OutsP n os) ?_ fun s hs => ?_
  · refine WP.bind (P := fun p : Bool × List PyData => W3 p.2 ∧ (p.1 = true → n < 5)) ?_ fun p hp => ?_
    · rw [nLt, bsome, tBd_b, bsome]
      refine WP.ite (fun h5 => ?_) fun _ => WP.ret ⟨q1, by simp⟩
      have h5 : n < 5 := by have := of_decide_eq_true h5; omega
      simp only [bassoc]
      refine (t_draw q1 (few := 5) (by omega) (by omega)).bind fun d hd => ?_
      obtain ⟨d1, k, ek, _⟩ := hd
      rw [ek, eqInt]
      simp only [bsome, tBd_b]
      exact WP.ret ⟨d1, fun _ => h5⟩
    · obtain ⟨p1, p2⟩ := hp
      refine WP.ite (fun h => ?_) fun _ => WP.ret ⟨p1, _, rfl, outs_rep n6⟩
      have h5 := p2 h
      rw [nGt, bsome, tBd_b, bsome]
      refine WP.bind (P := fun q : PyData × List PyData => W3 q.2 ∧ ∃ v : Int, q.1 = .int v ∧ (v = 3 ∨ (v = 4 ∧ n ≤ 2))) (WP.ite (fun _ => WP.ret ⟨p1, 3, rfl, .inl rfl⟩) fun h2 => ?_) fun q hq => ?_
      · have h2 : n ≤ 2 := by have := of_decide_eq_false h2; omega
        refine (t_draw p1 (few := 2) (by omega) (by omega)).bind fun d hd => ?_
        obtain ⟨d1, k, ek, hk⟩ := hd
        rw [ek, nAdd, bsome]
        refine WP.ret ⟨d1, _, rfl, ?_⟩
        omega
      · obtain ⟨q1, v, ev, hv⟩ := hq
        refine (t_draw q1 (few := (n : Int)) (by omega) (by omega)).bind fun d hd => ?_
        obtain ⟨d1, k, ek, hk⟩ := hd
        have hk : k < n := by omega
        have es : setO ((List.replicate n (2 : Int)).map .int) (.int (k : Int)) (.int v) = some (((List.replicate n (2 : Int)).set k v).map .int) := by
          have : L2.ixN ((List.replicate n (2 : Int)).map PyData.int).length (k : Int) = some k := by
            rw [List.length_map, List.length_replicate]; simp [L2.ixN, hk]
          show (match L2.ixN ((List.replicate n (2 : Int)).map PyData.int).length (k : Int) with | some m => some (((List.replicate n (2 : Int)).map PyData.int).set m (.int v)) | none => none) = _
          rw [this, List.map_set]
        rw [ek, ev, es, bsome]
        exact WP.ret ⟨d1, _, rfl, outs_set (by omega) hk hv⟩
  · obtain ⟨s1, os, s2, s3, s4, s5⟩ := hs
    simp only [bassoc, bsome]
    rw [s2, nTupL, bsome]
    refine (t_web s1 n1 n6).bind fun r hr => ?_
    obtain ⟨r1, ls, r2, r3, r4⟩ := hr
    rw [r2]
    try simp only [bassoc, bsome]
    rw [tupO_ok (by simp)]
    try simp only [bassoc, bsome]
    refine WP.ret ⟨r1, os, ls, rfl, by omega, by omega, s4, s5, by rw [s3]; exact r3, by omega, fun l hl => ?_⟩
    have := lot_len (r3.lot l hl)
    omega
theorem t_planted {w : List PyData} (hw : W3 w) : WP (v__law_planted w) (GdP 20) := by
  unfold v__law_planted
  simp only [bassoc, bsome]
  refine (t_draw hw (few := 6) (by omega) (by omega)).bind fun p hp => ?_
  obtain ⟨p1, k, ek, _⟩ := hp
  refine (t_draw p1 (few := 2) (by omega) (by omega)).bind fun q hq => ?_
  obtain ⟨q1, m, em, hm⟩ := hq
  simp only [ek, em, eqInt, bsome, tBd_b]
  have t0 : ∀ xs : List PyData, xs.length ≤ 100 → tupO xs = some (.tuple xs) := fun xs h => tupO_ok (by omega)
  have r5 : tupR (.int 5) = some (.tuple [.int 0, .int 1, .int 2, .int 3, .int 4]) := by rfl
  have hm : m = 0 ∨ m = 1 := by omega
  have g5 : ∃ u, gMul (.tuple [.int 2]) (.int (5 + (m : Int))) = some (.tuple u) ∧ Gd 10 (.tuple u) := by
    rcases hm with rfl | rfl
    · exact ⟨[.int 2, .int 2, .int 2, .int 2, .int 2], rfl, gdB_ok rfl⟩
    · exact ⟨[.int 2, .int 2, .int 2, .int 2, .int 2, .int 2], rfl, gdB_ok rfl⟩
  refine WP.ite (fun _ => ?_) fun _ => ?_
  · obtain ⟨u, e1, g1⟩ := g5
    simp only [t0, bsome, nAdd, List.length_cons, List.length_nil, Nat.reduceAdd, Nat.reduceLeDiff, e1, r5]
    refine (t_draw q1 (few := 2) (by omega) (by omega)).bind fun d hd => ?_
    obtain ⟨d1, k, ek, _⟩ := hd
    simp only [ek, eqInt, bsome, tBd_b]
    refine WP.bind (P := fun x : PyData × List PyData => W3 x.2 ∧ ∃ v, x.1 = .tuple v ∧ Gd 5 (.tuple v)) (WP.ite (fun _ => WP.ret ⟨d1, _, rfl, gdB_ok rfl⟩) fun _ => WP.ret ⟨d1, _, rfl, gdB_ok rfl⟩) fun x hx => ?_
    obtain ⟨x1, v, ev, gv⟩ := hx
    obtain ⟨y, e2, _, g2⟩ := gd_cat (m := 20) g1 (gv.up (show 5 ≤ 10 by omega)) (by have := g1.len; have := gv.len; omega) (by omega) (by omega)
    simp only [ev, e2, t0, bsome, List.length_cons, List.length_nil, Nat.reduceAdd, Nat.reduceLeDiff]
    refine WP.ret ⟨x1, .tup (by simp) fun z hz => ?_⟩
    simp only [List.mem_cons, List.not_mem_nil, or_false] at hz
    rcases hz with rfl | rfl
    · exact g2
    · exact gdB_ok rfl
  have pair : ∀ {w : List PyData} {a b : PyData}, W3 w → Gd 20 a → Gd 20 b → GdP 20 (.tuple [a, b], w) := fun hw ha hb => ⟨hw, .tup (by simp) fun z hz => by
    simp only [List.mem_cons, List.not_mem_nil, or_false] at hz
    rcases hz with rfl | rfl <;> assumption⟩
  refine WP.ite (fun _ => ?_) fun _ => ?_
  · simp only [t0, bsome, List.length_cons, List.length_nil, Nat.reduceAdd, Nat.reduceLeDiff]
    refine WP.bind (P := fun x => Gd 20 x) (WP.ite (fun _ => WP.ret (gdB_ok rfl)) fun _ => WP.ret (gdB_ok rfl)) fun x hx => ?_
    refine WP.bind (P := fun y => Gd 20 y) (WP.ite (fun _ => WP.ret (gdB_ok rfl)) fun _ => WP.ret (gdB_ok rfl)) fun y hy => ?_
    try simp only [t0, bsome, List.length_cons, List.length_nil, Nat.reduceAdd, Nat.reduceLeDiff]
    exact WP.ret (pair q1 hx hy)
  refine WP.ite (fun _ => ?_) fun _ => ?_
  · simp only [nAdd, t0, bsome, List.length_cons, List.length_nil, Nat.reduceAdd, Nat.reduceLeDiff]
    exact WP.ret (pair q1 (gdB_ok rfl) (gdB_ok rfl))
  refine WP.ite (fun _ => ?_) fun _ => ?_
  · simp only [t0, bsome, List.length_cons, List.length_nil, Nat.reduceAdd, Nat.reduceLeDiff]
    refine WP.bind (P := fun x => Gd 20 x) (WP.ite (fun _ => WP.ret (gdB_ok rfl)) fun _ => WP.ret (gdB_ok rfl)) fun x hx => ?_
    try simp only [t0, bsome, List.length_cons, List.length_nil, Nat.reduceAdd, Nat.reduceLeDiff]
    exact WP.ret (pair q1 (gdB_ok rfl) hx)
  refine WP.ite (fun _ => ?_) fun _ => ?_
  · simp only [t0, bsome, List.length_cons, List.length_nil, Nat.reduceAdd, Nat.reduceLeDiff]
    refine WP.bind (P := fun x => Gd 20 x) (WP.ite (fun _ => WP.ret (gdB_ok rfl)) fun _ => WP.ret (gdB_ok rfl)) fun x hx => ?_
    try simp only [t0, bsome, List.length_cons, List.length_nil, Nat.reduceAdd, Nat.reduceLeDiff]
    exact WP.ret (pair q1 (gdB_ok rfl) hx)
  · refine (t_draw q1 (few := 2) (by omega) (by omega)).bind fun d hd => ?_
    obtain ⟨d1, k, ek, _⟩ := hd
    simp only [ek, eqInt, bsome, tBd_b]
    refine WP.bind (P := GdP 20) (WP.ite (fun _ => ?_) fun _ => ?_) fun x hx => WP.ret hx
    · simp only [nAdd, t0, bsome, List.length_cons, List.length_nil, Nat.reduceAdd, Nat.reduceLeDiff]
      exact WP.ret (pair d1 (gdB_ok rfl) (gdB_ok rfl))
    · simp only [nAdd, t0, bsome, List.length_cons, List.length_nil, Nat.reduceAdd, Nat.reduceLeDiff]
      exact WP.ret (pair d1 (gdB_ok rfl) (gdB_ok rfl))

/-! ### the law -/
theorem app_loop {σ α : Type} (f : σ → α → Option σ) : ∀ (xs ys : List α) (s : σ), loopM f (xs ++ ys) s = (loopM f xs s).bind fun s' => loopM f ys s'
  | [], ys, s => rfl
  | x :: xs, ys, s => by simp only [List.cons_append, loopM, bassoc, app_loop f xs ys]
/-- a lot drawn observable by observable -/
theorem lot_loop {n : Nat} (hn : n ≤ 6) {w : List PyData} (hw : W3 w) (f : List PyData × PyData → PyData → Option (List PyData × PyData))
    (hf : ∀ (r : List PyData × PyData) (i : Nat) (l : List Int), W3 r.1 → r.2 = .list (l.map .int) → l.length ≤ i → i ≤ 6 → WP (f r (.int i)) fun q => W3 q.1 ∧ (q.2 = .list (l.map .int) ∨ q.2 = .list ((l ++ [(i : Int)]).map .int))) :
    WP (loopM f ((List.range n).map fun (i : Nat) => PyData.int i) (w, PyData.list [])) fun r => W3 r.1 ∧ ∃ l : List Int, r.2 = .list (l.map .int) ∧ l.Pairwise (· < ·) ∧ l.length ≤ n ∧ ∀ i ∈ l, 0 ≤ i ∧ i < (n : Int) := by
  induction n with
  | zero => exact ⟨_, rfl, hw, [], rfl, .nil, by simp, by simp⟩
  | succ m ih =>
    rw [List.range_succ, List.map_append, app_loop]
    refine (ih (by omega)).bind fun r hr => ?_
    obtain ⟨r1, l, r2, r3, r4, r5⟩ := hr
    show WP ((f r (.int (m : Nat))).bind fun s' => some s') _
    refine (hf r m l r1 r2 r4 (by omega)).bind fun q hq => ?_
    obtain ⟨q1, q2 | q2⟩ := hq
    · exact WP.ret ⟨q1, l, q2, r3, by omega, fun i hi => by have := r5 i hi; omega⟩
    · refine WP.ret ⟨q1, l ++ [(m : Int)], q2, ?_, by rw [List.length_append]; simp; omega, fun i hi => ?_⟩
      · exact List.pairwise_append.mpr ⟨r3, by simp, fun a ha b hb => by have := r5 a ha; have := List.mem_singleton.mp hb; omega⟩
      · rcases List.mem_append.mp hi with h | h
        · have := r5 i h; omega
        · have := List.mem_singleton.mp h; omega
theorem sh_sc (os : List Int) (ls : List (List Int)) : SeqAt.shaped (scD os ls) = true := by
  have h := dep_tis ls
  show (PyData.canLay0 _ && decide (PyData.depth _ ≤ 64)) = true
  simp only [PyData.canLay0, PyData.canLayAll0, lay_ints, lay_tis, PyData.depth, PyData.depthAll, dep_ints, Bool.and_self, Bool.true_and, decide_eq_true_eq]
  omega
theorem slice1 (xs : List PyData) : gSl (.tuple xs) none (some 1) = some (.tuple (cutA xs none (some 1))) := nr rfl
theorem t_right {w : List PyData} (hw : W3 w) : WP (v__law_right w) fun p => p.1 = .bool true := by
  unfold v__law_right
  have r4 : rngO (.int 4) = some ((List.range 4).map fun (i : Nat) => PyData.int i) := rngO_nat (n := 4) (by omega)
  rw [r4, bsome]
  refine WP.bind (P := fun o : Fw (List PyData) (PyData × List PyData) => match o with | .nx s => W3 s | .bk s => W3 s | .rt _ => False) (loopW_wp (fun s => W3 s) (fun o : Fw (List PyData) (PyData × List PyData) => match o with | .nx s => W3 s | .bk s => W3 s | .rt _ => False) (fun s h => h) _ w hw fun s a _ hs => ?_) fun o ho => goW_wp (fun s => W3 s) (fun _ => False) (by cases o <;> exact ho) (fun s hs => WP.ret rfl) (fun _ h => h.elim)
  refine (t_scenario hs (most := 6) (by omega) (by omega)).bind fun p hp => ?_
  obtain ⟨p1, os, ls, ep, sc⟩ := hp
  rw [ep]
  simp only [bassoc, bsome]
  have bd : Bd 100 (scD os ls) := ⟨sc.gd, sh_sc os ls⟩
  refine (t_bent p1 (n := 100) (by omega) (by omega) bd).bind fun q hq => ?_
  refine (t_maybe hq.1 (n := 100) (by omega) (by omega) bd).bind fun r hr => ?_
  refine (t_odd hr.1).bind fun u hu => ?_
  refine (t_planted hu.1).bind fun v hv => ?_
  try simp only [bassoc, bsome]
  rw [lstO_ok (by simp), bsome, tupO_ok (by simp), bsome]
  have gsc := sc.gd
  have glen := gsc.len
  obtain ⟨y1, e1, _, g1⟩ := gd_cat (m := 200) gsc (b := [.tuple []]) (.tup (by simp) fun d hd => by rw [List.mem_singleton.mp hd]; exact .tup (by simp) (by simp)) (by simp) (by omega) (by omega)
  have gtt : Gd 100 (tt ls) := gsc.mem _ (by simp)
  obtain ⟨y2, e2, _, g2⟩ := gd_cat (m := 200) gtt (gd_cut gtt none (some 1)) (by have := gtt.len; have := cut_len (ls.map ti) none (some 1); omega) (by omega) (by omega)
  have gti : Gd 100 (ti os) := gsc.mem _ (by simp)
  try simp only [bassoc, bsome]
  rw [tupO_ok (by simp), bsome, e1, bsome, nListT, bsome, nIx2a, bsome, nIx2b, bsome, bsome, nPart, bsome, slice1, bsome, e2, bsome, tupO_ok (by simp), bsome, lstO_ok (by simp), bsome, oCatL _ _ (k5 (by simp)), bsome, nItL, bsome]
  have allg : ∀ d ∈ ([scD os ls, q.1, r.1, u.1, v.1] ++ [.tuple y1, .list [ti os, tt ls], .tuple [ti os, .tuple y2]] : List PyData), Gd 300 d := by
    intro d hd
    simp only [List.cons_append, List.nil_append, List.mem_cons, List.not_mem_nil, or_false] at hd
    rcases hd with rfl | rfl | rfl | rfl | rfl | rfl | rfl | rfl
    · exact gsc.up (by omega)
    · exact hq.2.up (by omega)
    · exact hr.2.up (by omega)
    · exact hu.2.up (by omega)
    · exact hv.2.up (by omega)
    · exact g1.up (by omega)
    · exact .lst (by simp) fun z hz => by
        simp only [List.mem_cons, List.not_mem_nil, or_false] at hz
        rcases hz with rfl | rfl
        · exact gti.up (by omega)
        · exact gtt.up (by omega)
    · exact .tup (by simp) fun z hz => by
        simp only [List.mem_cons, List.not_mem_nil, or_false] at hz
        rcases hz with rfl | rfl
        · exact gti.up (by omega)
        · exact g2.up (by omega)
  rw [loopW_find (r := (PyData.bool false, v.2)) (fun _ => false) _ fun a ha => ?_]
  · have : ∀ l : List PyData, (l.any fun _ => false) = false := fun l => by simp
    rw [this, if_neg (by simp), bsome, nGoN]
    rw [lstO_ok (by simp), bsome, bsome, nLenT, bsome, List.length_map, rngO_nat (by have := sc.l6; omega), bsome]
    refine WP.bind (lot_loop sc.l6 hv.1 _ fun r i l r1 r2 r3 r4 => ?_) fun z hz => ?_
    · refine (t_draw r1 (few := 2) (by omega) (by omega)).bind fun d hd => ?_
      obtain ⟨d1, k, ek, _⟩ := hd
      rw [ek, eqInt, bsome, tBd_b, bsome]
      refine WP.bind (P := fun x : PyData × List PyData => W3 x.2 ∧ (x.1 = .list [] ∨ x.1 = .list [.int i])) (WP.ite (fun _ => ?_) fun _ => ?_) fun x hx => ?_
      · rw [lstO_ok (by simp), bsome]; exact WP.ret ⟨d1, .inr rfl⟩
      · try rw [bsome]
        exact WP.ret ⟨d1, .inl rfl⟩
      · obtain ⟨x1, x2 | x2⟩ := hx
        · have := cat_li (a := l) (b := []) (by simp; omega)
          rw [r2, x2]
          rw [show gAdd (.list (l.map .int)) (.list []) = _ from this, bsome]
          exact WP.ret ⟨x1, .inl (by simp)⟩
        · have := cat_li (a := l) (b := [(i : Int)]) (by simp; omega)
          rw [r2, x2]
          rw [show gAdd (.list (l.map .int)) (.list [.int i]) = _ from this, bsome]
          exact WP.ret ⟨x1, .inr rfl⟩
    · obtain ⟨z1, l, z2, z3, z4, z5⟩ := hz
      have lot : IsLot os.length l := lotPw z5 z3
      rw [z2, bsome, t_law_sections sc lot, bsome, nTupL, bsome, t_sections_of sc lot, bsome, bsome]
      show WP (Option.bind (v_sections_of (scD os ls) (ti l)) _) _
      rw [t_sections_of sc lot, bsome, lstO_ok (by simp), bsome]
      have rw4 := rw4_secs (szs os l) (fun z hz => (szs_le sc z5 z hz).2) rw4_nil
      rw [Nat.zero_add, List.length_map] at rw4
      have hl6 : l.length ≤ 6 := by have := sc.l6; omega
      obtain ⟨sm, sl⟩ := rw4_sm hl6 rw4
      rw [repr_list (shw_two sm (by omega)), bsome]
      try rw [bsome, repr_list (shw_two sm (by omega)), bsome]
      rw [neStr_self, bsome, tBd_b, bsome, if_neg (by simp)]
      exact WP.ret z1
  · have hg := allg a ha
    rw [t_law_is_scenario hg, bsome, t_is_scenario hg, bsome, bsome, lstO_ok (by simp), bsome, repr_list (shw_bools _ _), bsome]
    try rw [bsome, repr_list (shw_bools _ _), bsome]
    rw [neStr_self, bsome, tBd_b, bsome]

/-! ### a well, a law -/
theorem cut_ints (ns : List Int) (lo hi : Option Int) : cutA (ns.map PyData.int) lo hi = (cutA ns lo hi).map PyData.int := by
  unfold cutA
  rw [List.map_take, List.map_drop, List.length_map]
abbrev scr (ns : List Int) : PyData := .dict [(.none, .list (ns.map .int))]
theorem t_well (ns : List Int) (lap : Nat) (hl : lap ≤ 100) (hn : ns.length ≤ 63) : WP (v__law_well (scr ns) (.int lap)) W3 := by
  unfold v__law_well
  have e1 : ∀ i, gMul (.int i) (.int 52361) = some (.int (i * 52361)) := fun i => oMulR _ _ (by decide)
  have e2 : ∀ i, gMul (.int i) (.int 7) = some (.int (i * 7)) := fun i => oMulR _ _ (by decide)
  have e3 : ∀ i, gMod (.int i) (.int 2147483489) = some (.int (i % 2147483489)) := fun i => oMod _ _ (by decide)
  have e4 : ∀ i, gMul (.int i) (.int 47) = some (.int (i * 47)) := fun i => oMulR _ _ (by decide)
  have e5 : ∀ i, gMul (.int i) (.int 30109) = some (.int (i * 30109)) := fun i => oMulR _ _ (by decide)
  have e6 : gMul (.int 7919) (.int lap) = some (.int (7919 * lap)) := oMulL _ _ (by decide)
  have e7 : gPow (.int 10) (.int 14) = some (.int 100000000000000) := by
    show (if decide ((0 : Int) ≤ 14 ∧ (14 : Int) ≤ 1000000 ∧ (10 : Int).natAbs < 2 ^ 64) then some (PyData.int (10 ^ (14 : Int).toNat)) else none) = _
    rw [if_pos (by decide)]; rfl
  have s1 : gSl (scr ns) none (some 10) = some (.list ((cutA ns none (some 10)).map .int)) := by
    show some (PyData.list (cutA (ns.map PyData.int) none (some 10))) = _
    rw [cut_ints]
  have g0 : gLen [scr ns] = some (.int ns.length) := by
    show some (PyData.int ((ns.map PyData.int).length : Nat)) = _
    rw [List.length_map]
  simp only [bassoc, bsome, e6, nAdd, nPart, s1, nItL, g0, nLt, tBd_b]
  refine WP.bind (P := fun x => ∃ i, x = .int i) (loopM_wp (fun x => ∃ i, x = PyData.int i) _ _ ⟨_, rfl⟩ fun s a ha hs => ?_) fun x hx => ?_
  · obtain ⟨i, rfl⟩ := hs
    obtain ⟨j, _, rfl⟩ := List.mem_map.mp ha
    simp only [e1, e2, e3, nInt, bsome, nAdd]
    exact WP.ret ⟨_, rfl⟩
  · obtain ⟨i, rfl⟩ := hx
    refine WP.bind (P := fun x => ∃ i, x = .int i) (WP.ite (fun hc => ?_) fun _ => WP.ret ⟨0, rfl⟩) fun x hx => ?_
    · have hc : lap < ns.length := by have := of_decide_eq_true hc; omega
      have : gIx (scr ns) (.int (lap : Int)) = some (.int (ns[lap])) := by
        show L2.atI (ns.map PyData.int) (lap : Int) = _
        simp [L2.atI, L2.ixN, hc]
      rw [this]
      simp only [bsome, nInt]
      exact WP.ret ⟨_, rfl⟩
    · obtain ⟨j, rfl⟩ := hx
      simp only [e3, e4, e5, e7, nInt, bsome, nAdd, nLt, nGe, tBd_b]
      refine WP.bind (P := fun _ : Bool => True) (WP.ite (fun _ => WP.ret trivial) fun _ => WP.ret trivial) fun b _ => ?_
      refine WP.bind (P := fun x => ∃ i, x = PyData.int i) (WP.ite (fun _ => WP.ret ⟨_, rfl⟩) fun _ => WP.ret ⟨0, rfl⟩) fun x hx => ?_
      obtain ⟨k, rfl⟩ := hx
      rw [lstO_ok (by simp)]
      exact WP.ret ⟨_, _, _, rfl⟩
theorem WP.val {α : Type} {o : Option α} {x : α} (h : WP o fun y => y = x) : o = some x := by obtain ⟨y, e, rfl⟩ := h; exact e
theorem t_law (ns : List Int) (hn : ns.length ≤ 63) : v_law (scr ns) = some (.bool true) := by
  unfold v_law
  have g0 : gLen [scr ns] = some (.int ns.length) := by
    show some (PyData.int ((ns.map PyData.int).length : Nat)) = _
    rw [List.length_map]
  obtain ⟨m, em, hm⟩ : ∃ m : Nat, gMin2 [.int (ns.length : Int), .int 4] = some (.int m) ∧ m ≤ 4 := by
    show ∃ m : Nat, some (PyData.int (if (4 : Int) < (ns.length : Int) then 4 else (ns.length : Int))) = some (.int m) ∧ m ≤ 4
    by_cases h : (4 : Int) < (ns.length : Int)
    · exact ⟨4, by rw [if_pos h]; rfl, by omega⟩
    · exact ⟨ns.length, by rw [if_neg h], by omega⟩
  obtain ⟨k, ek, hk⟩ : ∃ k : Nat, gMax2 [.int 2, .int (m : Int)] = some (.int k) ∧ k ≤ 4 := by
    show ∃ k : Nat, some (PyData.int (if (m : Int) > 2 then (m : Int) else 2)) = some (.int k) ∧ k ≤ 4
    by_cases h : (m : Int) > 2
    · exact ⟨m, by rw [if_pos h], hm⟩
    · exact ⟨2, by rw [if_neg h]; rfl, by omega⟩
  simp only [bassoc, bsome, g0, em, ek]
  rw [rngO_nat (by omega), bsome, lm_map (g := fun _ => PyData.bool true) (fun i hi => ?_) (by rw [List.length_range]; omega), bsome]
  · have : ((List.range k).map fun _ => PyData.bool true) = ((List.range k).map fun _ => true).map PyData.bool := by rw [List.map_map]; rfl
    rw [this, all_bool]
    have h : ((List.range k).map fun _ => true).all id = true := by simp
    rw [h]; try rfl
  · refine WP.val ((t_well ns i (by have := List.mem_range.mp hi; omega) hn).bind fun w hw => (t_right hw).bind fun p hp => WP.ret hp)
theorem hF : ∀ ns : List Int, ns.length ≤ 63 → ∃ outs, fn_law [.pl (.dict [(.none, .list (ns.map .int))])] = some (.pl (.bool true), outs) := fun ns h => ⟨_, v_law_ok _ _ (t_law ns h)⟩

end Lk02
end
open PySem PySem.W PyProof.Rows
set_option maxRecDepth 100000 in
set_option maxHeartbeats 0 in
theorem PySem.Challenge.cw_belltables_k02_whole_scenarios_of_anythi_holds : PySem.Challenge.rw_belltables_k02_whole_scenarios_of_anythi.Holds := by
  w_on; o_law; k_head; (case hw => w_witness2)
  k_fill
  refine Dv.walkG (l := PySem.Challenge.rw_belltables_k02_whole_scenarios_of_anythi) (n := 63) (k := 9) (x := "script") (F := Lk02.fn_law) (kb := Lk02.kb_law) rfl (by decide) rfl ⟨rfl, by decide, by decide⟩ (fun w h Y => PySem.W.kIn_of Y) ?F Lk02.hF
  case F =>
    intro w mg base X G
    refine' Lk02.all_mk X G ?a_is_whole ?l_is_whole ?c_is_whole ?k_is_whole ?a_sections_by ?l_sections_by ?c_sections_by ?k_sections_by ?a_sizes_of ?l_sizes_of ?c_sizes_of ?k_sizes_of ?a_is_within ?l_is_within ?c_is_within ?k_is_within ?a_is_tuple_of ?l_is_tuple_of ?c_is_tuple_of ?k_is_tuple_of ?a_is_ascending ?l_is_ascending ?c_is_ascending ?k_is_ascending ?a__law_well ?l__law_well ?c__law_well ?k__law_well ?a__law_draw ?l__law_draw ?c__law_draw ?k__law_draw ?a__law_is_whole ?l__law_is_whole ?c__law_is_whole ?k__law_is_whole ?a__law_is_tuple ?l__law_is_tuple ?c__law_is_tuple ?k__law_is_tuple ?a__law_sections ?l__law_sections ?c__law_sections ?k__law_sections ?a__law_maximal ?l__law_maximal ?c__law_maximal ?k__law_maximal ?a_sections_in ?l_sections_in ?c_sections_in ?k_sections_in ?a_is_index ?l_is_index ?c_is_index ?k_is_index ?a_are_outcomes ?l_are_outcomes ?c_are_outcomes ?k_are_outcomes ?a_is_within_another ?l_is_within_another ?c_is_within_another ?k_is_within_another ?a__law_one ?l__law_one ?c__law_one ?k__law_one ?a__law_web ?l__law_web ?c__law_web ?k__law_web ?a__law_is_lot ?l__law_is_lot ?c__law_is_lot ?k__law_is_lot ?a__law_planted ?l__law_planted ?c__law_planted ?k__law_planted ?a_is_lot_of ?l_is_lot_of ?c_is_lot_of ?k_is_lot_of ?a__law_odd ?l__law_odd ?c__law_odd ?k__law_odd ?a__law_scenario ?l__law_scenario ?c__law_scenario ?k__law_scenario ?a__law_is_scenario ?l__law_is_scenario ?c__law_is_scenario ?k__law_is_scenario ?a_are_contexts ?l_are_contexts ?c_are_contexts ?k_are_contexts ?a_need_lot ?l_need_lot ?c_need_lot ?k_need_lot ?a__law_bent ?l__law_bent ?c__law_bent ?k__law_bent ?a_is_scenario_form ?l_is_scenario_form ?c_is_scenario_form ?k_is_scenario_form ?a__law_maybe ?l__law_maybe ?c__law_maybe ?k__law_maybe ?a_need_scenario ?l_need_scenario ?c_need_scenario ?k_need_scenario ?a_is_scenario ?l_is_scenario ?c_is_scenario ?k_is_scenario ?a_sections_of ?l_sections_of ?c_sections_of ?k_sections_of ?a__law_right ?l__law_right ?c__law_right ?k__law_right ?a_law ?l_law ?c_law ?k_law ?z_abs ?z_all ?z_any ?z_bool ?z_divmod ?z_int ?z_isinstance ?z_len ?z_list ?z_max ?z_min ?z_range ?z_repr ?z_sorted ?z_tuple
    (case a_is_whole => k_is); (case l_is_whole => k_is); (case c_is_whole => k_is); (case k_is_whole => k_is); (case a_sections_by => k_is); (case l_sections_by => k_is); (case c_sections_by => k_is); (case k_sections_by => k_is); (case a_sizes_of => k_is); (case l_sizes_of => k_is); (case c_sizes_of => k_is); (case k_sizes_of => k_is); (case a_is_within => k_is); (case l_is_within => k_is); (case c_is_within => k_is); (case k_is_within => k_is); (case a_is_tuple_of => k_is); (case l_is_tuple_of => k_is); (case c_is_tuple_of => k_is); (case k_is_tuple_of => k_is); (case a_is_ascending => k_is); (case l_is_ascending => k_is); (case c_is_ascending => k_is); (case k_is_ascending => k_is); (case a__law_well => k_is); (case l__law_well => k_is); (case c__law_well => k_is); (case k__law_well => k_is); (case a__law_draw => k_is); (case l__law_draw => k_is); (case c__law_draw => k_is); (case k__law_draw => k_is); (case a__law_is_whole => k_is); (case l__law_is_whole => k_is); (case c__law_is_whole => k_is); (case k__law_is_whole => k_is); (case a__law_is_tuple => k_is); (case l__law_is_tuple => k_is); (case c__law_is_tuple => k_is); (case k__law_is_tuple => k_is); (case a__law_sections => k_is); (case l__law_sections => k_is); (case c__law_sections => k_is); (case k__law_sections => k_is); (case a__law_maximal => k_is); (case l__law_maximal => k_is); (case c__law_maximal => k_is); (case k__law_maximal => k_is); (case a_sections_in => k_is); (case l_sections_in => k_is); (case c_sections_in => k_is); (case k_sections_in => k_is); (case a_is_index => k_is); (case l_is_index => k_is); (case c_is_index => k_is); (case k_is_index => k_is); (case a_are_outcomes => k_is); (case l_are_outcomes => k_is); (case c_are_outcomes => k_is); (case k_are_outcomes => k_is); (case a_is_within_another => k_is); (case l_is_within_another => k_is); (case c_is_within_another => k_is); (case k_is_within_another => k_is); (case a__law_one => k_is); (case l__law_one => k_is); (case c__law_one => k_is); (case k__law_one => k_is); (case a__law_web => k_is); (case l__law_web => k_is); (case c__law_web => k_is); (case k__law_web => k_is); (case a__law_is_lot => k_is); (case l__law_is_lot => k_is); (case c__law_is_lot => k_is); (case k__law_is_lot => k_is); (case a__law_planted => k_is); (case l__law_planted => k_is); (case c__law_planted => k_is); (case k__law_planted => k_is); (case a_is_lot_of => k_is); (case l_is_lot_of => k_is); (case c_is_lot_of => k_is); (case k_is_lot_of => k_is); (case a__law_odd => k_is); (case l__law_odd => k_is); (case c__law_odd => k_is); (case k__law_odd => k_is); (case a__law_scenario => k_is); (case l__law_scenario => k_is); (case c__law_scenario => k_is); (case k__law_scenario => k_is); (case a__law_is_scenario => k_is); (case l__law_is_scenario => k_is); (case c__law_is_scenario => k_is); (case k__law_is_scenario => k_is); (case a_are_contexts => k_is); (case l_are_contexts => k_is); (case c_are_contexts => k_is); (case k_are_contexts => k_is); (case a_need_lot => k_is); (case l_need_lot => k_is); (case c_need_lot => k_is); (case k_need_lot => k_is); (case a__law_bent => k_is); (case l__law_bent => k_is); (case c__law_bent => k_is); (case k__law_bent => k_is); (case a_is_scenario_form => k_is); (case l_is_scenario_form => k_is); (case c_is_scenario_form => k_is); (case k_is_scenario_form => k_is); (case a__law_maybe => k_is); (case l__law_maybe => k_is); (case c__law_maybe => k_is); (case k__law_maybe => k_is); (case a_need_scenario => k_is); (case l_need_scenario => k_is); (case c_need_scenario => k_is); (case k_need_scenario => k_is); (case a_is_scenario => k_is); (case l_is_scenario => k_is); (case c_is_scenario => k_is); (case k_is_scenario => k_is); (case a_sections_of => k_is); (case l_sections_of => k_is); (case c_sections_of => k_is); (case k_sections_of => k_is); (case a__law_right => k_is); (case l__law_right => k_is); (case c__law_right => k_is); (case k__law_right => k_is); (case a_law => k_is); (case l_law => k_is); (case c_law => k_is); (case k_law => k_is); (case z_abs => k_is); (case z_all => k_is); (case z_any => k_is); (case z_bool => k_is); (case z_divmod => k_is); (case z_int => k_is); (case z_isinstance => k_is); (case z_len => k_is); (case z_list => k_is); (case z_max => k_is); (case z_min => k_is); (case z_range => k_is); (case z_repr => k_is); (case z_sorted => k_is); (case z_tuple => k_is)
