import PyProof.Rows.All
import Wide.All
import OpenK.AllK
import Wide.FinOn
import HandS.ForMost
import HandS.TupAny
import HandS.Deep
import HandS.Wide
import HandS.Conv
import HandS.IsInst
import HandS.Style
import HandS.TupLe
import HandS.TupMul
import HandS.Zip
import HandS.SortOrd
import PyProof.ReprRoads
import HandS.TupSets
import HandS.ExcValue
import HandS.Gcd
import HandS.Star
import HandS.SetFor
import KE.KMathG
import KE.DataFind
import KE.KTupSum
import HandS.Flow
import HandS.List
import KE.KMathGC
import PySem.Challenge.RW_belltables_k65_tails_by_rows_of_wins
set_option Elab.async false
set_option linter.all false
set_option maxRecDepth 100000
/-! Dv: programs over plain data, as total functions. The relation between slots of data and the abstract heap. -/
namespace Dv
open PySem PySem.Spec PyProof.Rows L2

mutual
/-- v is the data d in H -/
inductive Rp (K : PySem.W.Frag) (H : Hp) : V → PyData → Prop
  | non : Rp K H .non .none
  | bl (b : Bool) : Rp K H (.bl b) (.bool b)
  | int (i : Int) : Rp K H (.int i) (.int i)
  | str (x : Str) : Rp K H (.str x) (.str x)
  | lst {a : Addr} {xs : List V} {ds : List PyData} (h : H a = some (.lst xs)) (r : RpA K H xs ds) : Rp K H (.ref a) (.list ds)
  | tup {a : Addr} {xs : List V} {ds : List PyData} (h : SqT K H a xs) (r : RpA K H xs ds) : Rp K H (.ref a) (.tuple ds)
  | dic {a : Addr} (h : H a = some (.dK [])) : Rp K H (.ref a) (.dict [])
  | scr {a : Addr} {ns : List Int} (h : SqL K H a (ns.map V.int)) : Rp K H (.ref a) (.dict [(.none, .list (ns.map .int))])
inductive RpA (K : PySem.W.Frag) (H : Hp) : List V → List PyData → Prop
  | nil : RpA K H [] []
  | cons {v : V} {vs : List V} {d : PyData} {ds : List PyData} (h : Rp K H v d) (t : RpA K H vs ds) : RpA K H (v :: vs) (d :: ds)
end

/-- more is tracked -/
def Le (H H' : Hp) : Prop := ∀ b o, H b = some o → H' b = some o
theorem Le.refl (H : Hp) : Le H H := fun _ _ h => h
theorem Le.trans {A B C : Hp} (h : Le A B) (g : Le B C) : Le A C := fun b o e => g b o (h b o e)
theorem Le.rd {H H' : Hp} {a : Addr} {u : HO} (e : Le H H') (h : Rd H a u) : Rd H' a u := by
  rcases h with h | ⟨o, h⟩
  · exact .inl (e a _ h)
  · exact .inr ⟨o, e a _ h⟩
theorem Le.l {K : PySem.W.Frag} {H H' : Hp} {a : Addr} {xs : List V} (e : Le H H') (h : SqL K H a xs) : SqL K H' a xs := h.imp (e.rd) id
theorem Le.t {K : PySem.W.Frag} {H H' : Hp} {a : Addr} {xs : List V} (e : Le H H') (h : SqT K H a xs) : SqT K H' a xs := h.imp (e.rd) id
theorem Le.new {H : Hp} {p : Addr} {o : HO} (h : H p = none) : Le H (upd H p o) := fun b u q => by
  rw [upd_ne (ne_of_none q h)]
  exact q

mutual
theorem Rp.mono {K : PySem.W.Frag} {H H' : Hp} (e : Le H H') : ∀ {v : V} {d : PyData}, Rp K H v d → Rp K H' v d
  | _, _, .non => .non
  | _, _, .bl b => .bl b
  | _, _, .int i => .int i
  | _, _, .str x => .str x
  | _, _, .lst h r => .lst (e _ _ h) (r.mono e)
  | _, _, .tup h r => .tup (e.t h) (r.mono e)
  | _, _, .dic h => .dic (e _ _ h)
  | _, _, .scr h => .scr (e.l h)
theorem RpA.mono {K : PySem.W.Frag} {H H' : Hp} (e : Le H H') : ∀ {vs : List V} {ds : List PyData}, RpA K H vs ds → RpA K H' vs ds
  | _, _, .nil => .nil
  | _, _, .cons h t => .cons (h.mono e) (t.mono e)
end
section
variable {K : PySem.W.Frag} {H : Hp}
theorem RpA.len : ∀ {vs : List V} {ds : List PyData}, RpA K H vs ds → vs.length = ds.length
  | _, _, .nil => rfl
  | _, _, .cons _ t => by simp [t.len]
theorem RpA.get : ∀ {vs : List V} {ds : List PyData}, RpA K H vs ds → ∀ {i : Nat} {d : PyData}, ds[i]? = some d → ∃ v, vs[i]? = some v ∧ Rp K H v d
  | _, _, .nil, i, d, h => by simp at h
  | _, _, .cons h t, 0, d, e => by simp at e; subst e; exact ⟨_, rfl, h⟩
  | _, _, .cons h t, i + 1, d, e => by
    obtain ⟨v, h1, h2⟩ := t.get (i := i) (by simpa using e)
    exact ⟨v, by simpa using h1, h2⟩
theorem RpA.getV : ∀ {vs : List V} {ds : List PyData}, RpA K H vs ds → ∀ {i : Nat} {v : V}, vs[i]? = some v → ∃ d, ds[i]? = some d ∧ Rp K H v d
  | _, _, .nil, i, d, h => by simp at h
  | _, _, .cons h t, 0, d, e => by simp at e; subst e; exact ⟨_, rfl, h⟩
  | _, _, .cons h t, i + 1, d, e => by
    obtain ⟨v, h1, h2⟩ := t.getV (i := i) (by simpa using e)
    exact ⟨v, by simpa using h1, h2⟩
theorem RpA.append : ∀ {vs ws : List V} {ds es : List PyData}, RpA K H vs ds → RpA K H ws es → RpA K H (vs ++ ws) (ds ++ es)
  | _, _, _, _, .nil, s => s
  | _, _, _, _, .cons r t, s => .cons r (t.append s)
theorem RpA.take : ∀ {vs : List V} {ds : List PyData} (n : Nat), RpA K H vs ds → RpA K H (vs.take n) (ds.take n)
  | _, _, 0, _ => .nil
  | _, _, _ + 1, .nil => .nil
  | _, _, n + 1, .cons r t => .cons r (t.take n)
theorem RpA.drop : ∀ {vs : List V} {ds : List PyData} (n : Nat), RpA K H vs ds → RpA K H (vs.drop n) (ds.drop n)
  | _, _, 0, r => r
  | _, _, _ + 1, .nil => .nil
  | _, _, n + 1, .cons _ t => t.drop n
theorem RpA.reverse {vs : List V} {ds : List PyData} (h : RpA K H vs ds) : RpA K H vs.reverse ds.reverse := by
  induction vs generalizing ds with
  | nil => cases h; exact .nil
  | cons v vs ih =>
    cases h with
    | cons h t => rw [List.reverse_cons, List.reverse_cons]; exact (ih t).append (.cons h .nil)
theorem RpA.set : ∀ {vs : List V} {ds : List PyData} (i : Nat) {v : V} {d : PyData}, RpA K H vs ds → Rp K H v d → RpA K H (vs.set i v) (ds.set i d)
  | _, _, _, _, _, .nil, _ => .nil
  | _, _, 0, _, _, .cons _ t, r => .cons r t
  | _, _, i + 1, _, _, .cons h t, r => .cons h (t.set i r)
theorem RpA.snoc {vs : List V} {ds : List PyData} {v : V} {d : PyData} (h : RpA K H vs ds) (r : Rp K H v d) : RpA K H (vs ++ [v]) (ds ++ [d]) := h.append (.cons r .nil)
theorem RpA.ints : ∀ {vs : List V} {ns : List Int}, RpA K H vs (ns.map .int) → vs = ns.map V.int
  | _, [], .nil => rfl
  | _, n :: ns, .cons h t => by cases h; rw [t.ints]; rfl
theorem RpA.of_ints : ∀ (ns : List Int), RpA K H (ns.map V.int) (ns.map .int)
  | [] => .nil
  | n :: ns => .cons (.int n) (RpA.of_ints ns)
theorem RpA.bls : ∀ {vs : List V} {ns : List Bool}, RpA K H vs (ns.map .bool) → vs = ns.map V.bl
  | _, [], .nil => rfl
  | _, n :: ns, .cons h t => by cases h; rw [t.bls]; rfl
end

/-! ### what is hidden -/
/-- the heap without the addresses of N and L -/
noncomputable def hd (N : Addr → Prop) (L : List (Option Addr)) (H : Hp) : Hp := open Classical in fun b => if N b ∨ some b ∈ L then none else H b
theorem hd_some {N : Addr → Prop} {L : List (Option Addr)} {H : Hp} {b : Addr} {o : HO} : hd N L H b = some o ↔ ¬ N b ∧ some b ∉ L ∧ H b = some o := by
  unfold hd
  by_cases h : N b ∨ some b ∈ L
  · simp only [h, if_true]; constructor
    · intro e; cases e
    · rintro ⟨a, b, _⟩; rcases h with h | h
      · exact absurd h a
      · exact absurd h b
  · simp only [h, if_false]; exact ⟨fun e => ⟨fun z => h (.inl z), fun z => h (.inr z), e⟩, fun e => e.2.2⟩
theorem hd_le {N : Addr → Prop} {L : List (Option Addr)} {H : Hp} : Le (hd N L H) H := fun b o e => (hd_some.mp e).2.2

inductive PV where
  /-- data -/
  | pl (d : PyData)
  /-- a list of one's own: none else holds it -/
  | ow (ds : List PyData)
  /-- a caller's list, handed in to be changed -/
  | rf (ds : List PyData)
abbrev REnv := List (Option PV)
/-- N: what is hidden by the callers; as: the lists handed in, by slot; H0: the entry's heap -/
structure Ent where
  N : Addr → Prop
  as : List (Option Addr)
  H0 : Hp
def Ent.hide (G : Ent) (p : Addr) : Ent := { G with N := fun b => G.N b ∨ b = p }

def SlotOk (K : PySem.W.Frag) (G : Ent) (L : List (Option Addr)) (H : Hp) (i : Nat) (l : Option Addr) (v : V) : PV → Prop
  | .pl d => l = none ∧ Rp K (hd G.N L H) v d
  | .ow ds => ∃ a vs, v = .ref a ∧ l = some a ∧ (G.H0 a = none ∧ ¬ G.N a) ∧ H a = some (.lst vs) ∧ RpA K (hd G.N L H) vs ds
  | .rf ds => ∃ a vs, v = .ref a ∧ l = some a ∧ G.as[i]? = some (some a) ∧ H a = some (.lst vs) ∧ RpA K (hd G.N L H) vs ds

structure Rel (K : PySem.W.Frag) (G : Ent) (L : List (Option Addr)) (ρ : REnv) (σ : L2.St) (H : Hp) : Prop where
  ln : ρ.length = σ.length
  lL : L.length = σ.length
  at_ : ∀ (i : Nat) x, ρ[i]? = some (some x) → ∃ v l, σ[i]? = some (some v) ∧ L[i]? = some l ∧ SlotOk K G L H i l v x
  inj : ∀ (i j : Nat) a, L[i]? = some (some a) → L[j]? = some (some a) → i = j
  lt : ∀ a, some a ∈ L → ∃ o, H a = some o
  fr : ∀ b o, some b ∉ G.as → G.H0 b = some o → H b = some o
  nd : ∀ b, G.N b → ∃ o, H b = some o
  bd : ∀ b, some b ∈ G.as → G.N b
  lo : ∀ a, some a ∈ L → G.H0 a = none ∨ some a ∈ G.as

/-- what does not stand at an address of L stays -/
def Ew (L : List (Option Addr)) (H H' : Hp) : Prop := (∀ b o, some b ∉ L → H b = some o → H' b = some o) ∧ ∀ b o, H b = some o → ∃ o', H' b = some o'
def LS (L' L : List (Option Addr)) : Prop := L'.length = L.length ∧ ∀ (i : Nat) a, L'[i]? = some (some a) → L[i]? = some (some a)
theorem LS.refl (L : List (Option Addr)) : LS L L := ⟨rfl, fun _ _ h => h⟩
theorem LS.trans {A B C : List (Option Addr)} (h : LS A B) (g : LS B C) : LS A C := ⟨h.1.trans g.1, fun i a e => g.2 i a (h.2 i a e)⟩
theorem LS.mem {L' L : List (Option Addr)} (h : LS L' L) {a : Addr} (m : some a ∈ L') : some a ∈ L := by
  obtain ⟨i, e⟩ := List.mem_iff_getElem?.mp m
  exact List.mem_of_getElem? (h.2 i a e)
theorem Ew.refl (L : List (Option Addr)) (H : Hp) : Ew L H H := ⟨fun _ _ _ h => h, fun _ o h => ⟨o, h⟩⟩
theorem Ew.trans {L L' : List (Option Addr)} {A B C : Hp} (h : Ew L A B) (g : Ew L' B C) (s : LS L' L) : Ew L A C := ⟨fun b o n e => g.1 b o (fun m => n (s.mem m)) (h.1 b o n e), fun b o e => by obtain ⟨u, e1⟩ := h.2 b o e; exact g.2 b u e1⟩
theorem Le.ew {L : List (Option Addr)} {H H' : Hp} (h : Le H H') : Ew L H H' := ⟨fun b o _ e => h b o e, fun b o e => ⟨o, h b o e⟩⟩
/-- hidden heaps grow -/
theorem Ew.hd {N : Addr → Prop} {L L' : List (Option Addr)} {H H' : Hp} (e : Ew L H H') (s : LS L' L) : Le (Dv.hd N L H) (Dv.hd N L' H') := fun b o h => by
  obtain ⟨h1, h2, h3⟩ := hd_some.mp h
  exact hd_some.mpr ⟨h1, fun m => h2 (s.mem m), e.1 b o h2 h3⟩
section
variable {K : PySem.W.Frag} {G : Ent} {L : List (Option Addr)} {ρ : REnv} {σ : L2.St} {H H' : Hp}
theorem Rel.fresh (R : Rel K G L ρ σ H) {p : Addr} (h : H p = none) : ¬ G.N p ∧ some p ∉ L ∧ G.H0 p = none := by
  have h1 : ¬ G.N p := fun z => by obtain ⟨o, e⟩ := R.nd p z; rw [h] at e; cases e
  have h2 : some p ∉ L := fun z => by obtain ⟨o, e⟩ := R.lt p z; rw [h] at e; cases e
  refine ⟨h1, h2, ?_⟩
  cases e : G.H0 p with
  | none => rfl
  | some o =>
    by_cases hb : some p ∈ G.as
    · exact absurd (R.bd p hb) h1
    · have := R.fr p o hb e; rw [h] at this; cases this
/-- a new object that is plain data -/
theorem hd_new (R : Rel K G L ρ σ H) {p : Addr} {o : HO} (h : H p = none) : hd G.N L (upd H p o) p = some o :=
  hd_some.mpr ⟨(R.fresh h).1, (R.fresh h).2.1, upd_same⟩
/-- all that is tracked stays -/
theorem Rel.mono (R : Rel K G L ρ σ H) (e : Le H H') : Rel K G L ρ σ H' where
  ln := R.ln
  lL := R.lL
  at_ := fun i x h => by
    obtain ⟨v, l, h1, h2, h3⟩ := R.at_ i x h
    refine ⟨v, l, h1, h2, ?_⟩
    have m : Le (hd G.N L H) (hd G.N L H') := (Le.ew e).hd (.refl _)
    cases x with
    | pl d => exact ⟨h3.1, h3.2.mono m⟩
    | ow ds => obtain ⟨a, vs, q1, q2, q3, q4, q5⟩ := h3; exact ⟨a, vs, q1, q2, q3, e _ _ q4, q5.mono m⟩
    | rf ds => obtain ⟨a, vs, q1, q2, q3, q4, q5⟩ := h3; exact ⟨a, vs, q1, q2, q3, e _ _ q4, q5.mono m⟩
  inj := R.inj
  lt := fun a h => by obtain ⟨o, q⟩ := R.lt a h; exact ⟨o, e _ _ q⟩
  fr := fun b o n h => e _ _ (R.fr b o n h)
  nd := fun b h => by obtain ⟨o, q⟩ := R.nd b h; exact ⟨o, e _ _ q⟩
  bd := R.bd
  lo := R.lo
/-- a slot gets data -/
theorem Rel.setPl (R : Rel K G L ρ σ H) (i : Nat) {v : V} {d : PyData} (r : Rp K (hd G.N (L.set i none) H) v d) : Rel K G (L.set i none) (ρ.set i (some (.pl d))) (σ.set i (some v)) H := by
  have s : LS (L.set i none) L := ⟨by simp, fun j a h => by
    by_cases hj : i = j
    · subst hj
      by_cases hl : i < L.length
      · rw [List.getElem?_set_self hl] at h; cases h
      · rw [List.getElem?_eq_none (by simpa using hl)] at h; cases h
    · rwa [List.getElem?_set_ne hj] at h⟩
  have m : Le (hd G.N L H) (hd G.N (L.set i none) H) := (Ew.refl L H).hd s
  refine ⟨by simp [R.ln], by simp [R.lL], fun j x h => ?_, fun j k a h1 h2 => R.inj j k a (s.2 _ _ h1) (s.2 _ _ h2), fun a h => R.lt a (s.mem h), R.fr, R.nd, R.bd, fun a h => R.lo a (s.mem h)⟩
  by_cases hj : i = j
  · subst hj
    have hi : i < ρ.length := by
      cases Nat.lt_or_ge i ρ.length with
      | inl q => exact q
      | inr q => rw [List.getElem?_eq_none (by simpa using q)] at h; cases h
    rw [List.getElem?_set_self hi] at h
    cases h
    exact ⟨v, none, List.getElem?_set_self (by rw [← R.ln]; exact hi), List.getElem?_set_self (by rw [R.lL, ← R.ln]; exact hi), rfl, r⟩
  · rw [List.getElem?_set_ne hj] at h
    obtain ⟨w, l, h1, h2, h3⟩ := R.at_ j x h
    refine ⟨w, l, by rw [List.getElem?_set_ne hj]; exact h1, by rw [List.getElem?_set_ne hj]; exact h2, ?_⟩
    cases x with
    | pl d => exact ⟨h3.1, h3.2.mono m⟩
    | ow ds => obtain ⟨a, vs, q1, q2, q3, q4, q5⟩ := h3; exact ⟨a, vs, q1, q2, q3, q4, q5.mono m⟩
    | rf ds => obtain ⟨a, vs, q1, q2, q3, q4, q5⟩ := h3; exact ⟨a, vs, q1, q2, q3, q4, q5.mono m⟩

theorem LS.set (L : List (Option Addr)) (i : Nat) : LS (L.set i none) L := ⟨by simp, fun j a h => by
    by_cases hj : i = j
    · subst hj
      by_cases hl : i < L.length
      · rw [List.getElem?_set_self hl] at h; cases h
      · rw [List.getElem?_eq_none (by simpa using hl)] at h; cases h
    · rwa [List.getElem?_set_ne hj] at h⟩
theorem mem_set_some {L : List (Option Addr)} {i : Nat} {p a : Addr} (h : some a ∈ L.set i (some p)) : some a ∈ L ∨ a = p := by
  rcases List.mem_or_eq_of_mem_set h with q | q
  · exact .inl q
  · exact .inr (Option.some.inj q)
theorem SlotOk.mono {N' : Addr → Prop} {L' : List (Option Addr)} {i : Nat} {l : Option Addr} {v : V} {x : PV} {G' : Ent} (h : SlotOk K G L H i l v x) (m : Le (hd G.N L H) (hd G'.N L' H')) (hH : ∀ a vs, some a ∈ L → H a = some (.lst vs) → H' a = some (.lst vs))
    (h0 : G'.H0 = G.H0) (ha : G'.as = G.as) (hl : l.isSome = true → L[i]? = some l) (hn : ∀ a, some a ∈ L → ¬ G.N a → ¬ G'.N a) : SlotOk K G' L' H' i l v x := by
  cases x with
  | pl d => exact ⟨h.1, h.2.mono m⟩
  | ow ds =>
    obtain ⟨a, vs, q1, q2, q3, q4, q5⟩ := h
    subst q2
    exact ⟨a, vs, q1, rfl, by rw [h0]; exact ⟨q3.1, hn a (List.mem_of_getElem? (hl rfl)) q3.2⟩, hH a vs (List.mem_of_getElem? (hl rfl)) q4, q5.mono m⟩
  | rf ds =>
    obtain ⟨a, vs, q1, q2, q3, q4, q5⟩ := h
    subst q2
    exact ⟨a, vs, q1, rfl, by rw [ha]; exact q3, hH a vs (List.mem_of_getElem? (hl rfl)) q4, q5.mono m⟩
/-- a new list becomes a slot's own -/
theorem Rel.setOw {p : Addr} {vs : List V} {ds : List PyData} (R : Rel K (G.hide p) L ρ σ H) (i : Nat) (hp : H p = some (.lst vs)) (hl : some p ∉ L) (h0 : G.H0 p = none) (hn : ¬ G.N p) (r : RpA K (hd (G.hide p).N L H) vs ds) (hb : ∀ b, some b ∈ G.as → G.N b) :
    Rel K G (L.set i (some p)) (ρ.set i (some (.ow ds))) (σ.set i (some (.ref p))) H := by
  have m : Le (hd (G.hide p).N L H) (hd G.N (L.set i (some p)) H) := fun b o e => by
    obtain ⟨h1, h2, h3⟩ := hd_some.mp e
    refine hd_some.mpr ⟨fun z => h1 (.inl z), fun z => ?_, h3⟩
    rcases mem_set_some z with q | q
    · exact h2 q
    · exact h1 (.inr q)
  refine ⟨by simp [R.ln], by simp [R.lL], fun j x h => ?_, fun j k a h1 h2 => ?_, fun a h => ?_, R.fr, fun b h => R.nd b (.inl h), hb, fun a h => ?_⟩
  · by_cases hj : i = j
    · subst hj
      have hi : i < ρ.length := by
        cases Nat.lt_or_ge i ρ.length with
        | inl q => exact q
        | inr q => rw [List.getElem?_eq_none (by simpa using q)] at h; cases h
      rw [List.getElem?_set_self hi] at h
      cases h
      exact ⟨.ref p, some p, List.getElem?_set_self (by rw [← R.ln]; exact hi), List.getElem?_set_self (by rw [R.lL, ← R.ln]; exact hi), p, vs, rfl, rfl, ⟨h0, hn⟩, hp, r.mono m⟩
    · rw [List.getElem?_set_ne hj] at h
      obtain ⟨w, l, h1, h2, h3⟩ := R.at_ j x h
      exact ⟨w, l, by rw [List.getElem?_set_ne hj]; exact h1, by rw [List.getElem?_set_ne hj]; exact h2, h3.mono (N' := G.N) m (fun _ _ _ q => q) rfl rfl (fun _ => h2) fun a _ z y => z (.inl y)⟩
  · have key : ∀ (j : Nat) a, (L.set i (some p))[j]? = some (some a) → (j = i ∧ a = p) ∨ (j ≠ i ∧ L[j]? = some (some a)) := fun j a h => by
      by_cases hj : i = j
      · subst hj
        by_cases hi : i < L.length
        · rw [List.getElem?_set_self hi] at h; cases h; exact .inl ⟨rfl, rfl⟩
        · rw [List.getElem?_eq_none (by simpa using hi)] at h; cases h
      · rw [List.getElem?_set_ne hj] at h; exact .inr ⟨fun z => hj z.symm, h⟩
    rcases key j a h1 with ⟨e1, e2⟩ | ⟨e1, e2⟩
    · rcases key k a h2 with ⟨f1, f2⟩ | ⟨f1, f2⟩
      · rw [e1, f1]
      · rw [e2] at f2; exact absurd (List.mem_of_getElem? f2) hl
    · rcases key k a h2 with ⟨f1, f2⟩ | ⟨f1, f2⟩
      · rw [f2] at e2; exact absurd (List.mem_of_getElem? e2) hl
      · exact R.inj j k a e2 f2
  · rcases mem_set_some h with q | q
    · exact R.lt a q
    · rw [q]; exact ⟨_, hp⟩
  · rcases mem_set_some h with q | q
    · exact R.lo a q
    · rw [q]; exact .inl h0

theorem hd_hide {p : Addr} {o : HO} (h : H p = none) : Le (hd G.N L H) (hd (G.hide p).N L (upd H p o)) := fun b u e => by
  obtain ⟨h1, h2, h3⟩ := hd_some.mp e
  have hb : b ≠ p := ne_of_none h3 h
  exact hd_some.mpr ⟨fun z => z.elim h1 hb, h2, by rw [upd_ne hb]; exact h3⟩
theorem hd_unhide {p : Addr} : Le (hd (G.hide p).N L H) (hd G.N L H) := fun b u e => by
  obtain ⟨h1, h2, h3⟩ := hd_some.mp e
  exact hd_some.mpr ⟨fun z => h1 (.inl z), h2, h3⟩
theorem Rel.hide (R : Rel K G L ρ σ H) {p : Addr} {o : HO} (h : H p = none) : Rel K (G.hide p) L ρ σ (upd H p o) where
  ln := R.ln
  lL := R.lL
  at_ := fun i x e => by
    obtain ⟨v, l, h1, h2, h3⟩ := R.at_ i x e
    exact ⟨v, l, h1, h2, h3.mono (N' := G.N) (hd_hide h) (fun a vs m q => by rw [upd_ne (ne_of_none q h)]; exact q) rfl rfl (fun _ => h2) fun a m z y => y.elim z fun e => (R.fresh h).2.1 (e ▸ m)⟩
  inj := R.inj
  lt := fun a m => by obtain ⟨u, q⟩ := R.lt a m; exact ⟨u, Le.new h _ _ q⟩
  fr := fun b u n q => Le.new h _ _ (R.fr b u n q)
  nd := fun b z => by
    rcases z with z | z
    · obtain ⟨u, q⟩ := R.nd b z; exact ⟨u, Le.new h _ _ q⟩
    · rw [z]; exact ⟨o, upd_same⟩
  bd := fun b z => .inl (R.bd b z)
  lo := R.lo
theorem Rel.unhide {p : Addr} (R : Rel K (G.hide p) L ρ σ H) (hb : ∀ b, some b ∈ G.as → G.N b) : Rel K G L ρ σ H where
  ln := R.ln
  lL := R.lL
  at_ := fun i x e => by
    obtain ⟨v, l, h1, h2, h3⟩ := R.at_ i x e
    exact ⟨v, l, h1, h2, h3.mono (N' := G.N) hd_unhide (fun a vs m q => q) rfl rfl (fun _ => h2) fun a m z y => z (.inl y)⟩
  inj := R.inj
  lt := R.lt
  fr := R.fr
  nd := fun b z => R.nd b (.inl z)
  bd := hb
  lo := R.lo
/-- one's own list handed on: it is data from now on -/
theorem Rel.moveOw {i : Nat} {ds : List PyData} (R : Rel K G L ρ σ H) (h : ρ[i]? = some (some (.ow ds))) :
    ∃ a, σ[i]? = some (some (.ref a)) ∧ Rel K G (L.set i none) (ρ.set i (some (.pl (.list ds)))) σ H ∧ Rp K (hd G.N (L.set i none) H) (.ref a) (.list ds) := by
  obtain ⟨v, l, h1, h2, a, vs, e1, e2, e3, e4, e5⟩ := R.at_ i _ h
  subst e1 e2
  have m : Le (hd G.N L H) (hd G.N (L.set i none) H) := (Ew.refl L H).hd (LS.set L i)
  have hi : i < L.length := (List.getElem?_eq_some_iff.mp h2).1
  have hna : some a ∉ L.set i none := fun z => by
    obtain ⟨j, hj⟩ := List.mem_iff_getElem?.mp z
    have hj' := (LS.set L i).2 j a hj
    have e := R.inj _ _ _ h2 hj'
    subst e
    rw [List.getElem?_set_self hi] at hj
    cases hj
  have r : Rp K (hd G.N (L.set i none) H) (.ref a) (.list ds) := .lst (hd_some.mpr ⟨e3.2, hna, e4⟩) (e5.mono m)
  have hs : σ.set i (some (.ref a)) = σ := by
    apply List.ext_getElem?
    intro j
    by_cases hj : i = j
    · subst hj; rw [List.getElem?_set_self (by rw [← R.lL]; exact hi)]; exact h1.symm
    · rw [List.getElem?_set_ne hj]
  refine ⟨a, h1, ?_, r⟩
  have R2 := R.setPl i r
  rw [hs] at R2
  exact R2
/-- a list in a slot is changed -/
def PV.put (ds : List PyData) : PV → PV
  | .pl d => .pl d
  | .ow _ => .ow ds
  | .rf _ => .rf ds
def PV.lst? : PV → Option (List PyData)
  | .pl _ => none
  | .ow ds => some ds
  | .rf ds => some ds
theorem Rel.own (R : Rel K G L ρ σ H) {i : Nat} {x : PV} {ds : List PyData} (h : ρ[i]? = some (some x)) (hx : x.lst? = some ds) :
    ∃ a vs, σ[i]? = some (some (.ref a)) ∧ L[i]? = some (some a) ∧ H a = some (.lst vs) ∧ RpA K (hd G.N L H) vs ds := by
  obtain ⟨v, l, h1, h2, h3⟩ := R.at_ i _ h
  cases x with
  | pl d => cases hx
  | ow es => cases hx; obtain ⟨a, vs, e1, e2, e3, e4, e5⟩ := h3; subst e1 e2; exact ⟨a, vs, h1, h2, e4, e5⟩
  | rf es => cases hx; obtain ⟨a, vs, e1, e2, e3, e4, e5⟩ := h3; subst e1 e2; exact ⟨a, vs, h1, h2, e4, e5⟩
theorem hd_write {a : Addr} {o : HO} (m : some a ∈ L) : Le (hd G.N L H) (hd G.N L (upd H a o)) := fun b u e => by
  obtain ⟨h1, h2, h3⟩ := hd_some.mp e
  exact hd_some.mpr ⟨h1, h2, by rw [upd_ne (show b ≠ a from fun z => h2 (by rw [z]; exact m))]; exact h3⟩
theorem Ew.write {a : Addr} {o : HO} (m : some a ∈ L) : Ew L H (upd H a o) := ⟨fun b u n e => by rw [upd_ne (show b ≠ a from fun z => n (by rw [z]; exact m))]; exact e, fun b u e => by
    by_cases hb : b = a
    · rw [hb]; exact ⟨_, upd_same⟩
    · exact ⟨u, by rw [upd_ne hb]; exact e⟩⟩
theorem Ew.free {L : List (Option Addr)} {H H' : Hp} (w : Ew L H H') {p : Addr} (h : H' p = none) : H p = none := by
  cases e : H p with
  | none => rfl
  | some o => obtain ⟨u, e1⟩ := w.2 p o e; rw [h] at e1; cases e1
theorem Rel.write (R : Rel K G L ρ σ H) {i : Nat} {x : PV} {ds ds' : List PyData} {a : Addr} {vs' : List V} (h : ρ[i]? = some (some x)) (hx : x.lst? = some ds) (hl : L[i]? = some (some a)) (r : RpA K (hd G.N L H) vs' ds') :
    Rel K G L (ρ.set i (some (x.put ds'))) σ (upd H a (.lst vs')) := by
  have ma : some a ∈ L := List.mem_of_getElem? hl
  have m : Le (hd G.N L H) (hd G.N L (upd H a (.lst vs'))) := hd_write ma
  refine ⟨by simp [R.ln], R.lL, fun j y e => ?_, R.inj, fun b mb => ?_, fun b o n e => ?_, fun b n => ?_, R.bd, R.lo⟩
  · by_cases hj : i = j
    · subst hj
      have hi : i < ρ.length := (List.getElem?_eq_some_iff.mp h).1
      rw [List.getElem?_set_self hi] at e
      cases e
      obtain ⟨v, l, h1, h2, h3⟩ := R.at_ i _ h
      rw [hl] at h2
      cases h2
      refine ⟨v, some a, h1, hl, ?_⟩
      cases x with
      | pl d => cases hx
      | ow es => obtain ⟨b, vs, e1, e2, e3, e4, e5⟩ := h3; cases e2; exact ⟨a, vs', e1, rfl, e3, upd_same, r.mono m⟩
      | rf es => obtain ⟨b, vs, e1, e2, e3, e4, e5⟩ := h3; cases e2; exact ⟨a, vs', e1, rfl, e3, upd_same, r.mono m⟩
    · rw [List.getElem?_set_ne hj] at e
      obtain ⟨v, l, h1, h2, h3⟩ := R.at_ j _ e
      refine ⟨v, l, h1, h2, ?_⟩
      cases y with
      | pl d => exact ⟨h3.1, h3.2.mono m⟩
      | ow es =>
        obtain ⟨b, vs, e1, e2, e3, e4, e5⟩ := h3
        refine ⟨b, vs, e1, e2, e3, ?_, e5.mono m⟩
        subst e2
        rw [upd_ne (show b ≠ a from fun z => hj (R.inj i j a hl (by rw [← z]; exact h2)))]
        exact e4
      | rf es =>
        obtain ⟨b, vs, e1, e2, e3, e4, e5⟩ := h3
        refine ⟨b, vs, e1, e2, e3, ?_, e5.mono m⟩
        subst e2
        rw [upd_ne (show b ≠ a from fun z => hj (R.inj i j a hl (by rw [← z]; exact h2)))]
        exact e4
  · by_cases hb : b = a
    · rw [hb]; exact ⟨_, upd_same⟩
    · rw [upd_ne hb]; exact R.lt b mb
  · have hb : b ≠ a := fun z => by
      subst z
      rcases R.lo b ma with q | q
      · rw [q] at e; cases e
      · exact n q
    rw [upd_ne hb]; exact R.fr b o n e
  · by_cases hb : b = a
    · rw [hb]; exact ⟨_, upd_same⟩
    · rw [upd_ne hb]; exact R.nd b n
/-- slots are forgotten -/
def wipeR (ρ : REnv) : List Nat → REnv
  | [] => ρ
  | v :: vs => (wipeR ρ vs).set v none
theorem Rel.forget (R : Rel K G L ρ σ H) {ρ' : REnv} {σ' : L2.St} (hl : ρ'.length = ρ.length) (hs : σ'.length = σ.length) (h : ∀ (i : Nat) x, ρ'[i]? = some (some x) → ρ[i]? = some (some x) ∧ σ'[i]? = σ[i]?) : Rel K G L ρ' σ' H :=
  ⟨by rw [hl, hs]; exact R.ln, by rw [hs]; exact R.lL, fun i x e => by
    obtain ⟨e1, e2⟩ := h i x e
    obtain ⟨v, l, h1, h2, h3⟩ := R.at_ i x e1
    exact ⟨v, l, by rw [e2]; exact h1, h2, h3⟩, R.inj, R.lt, R.fr, R.nd, R.bd, R.lo⟩
theorem wipeR_length (ρ : REnv) : ∀ vs : List Nat, (wipeR ρ vs).length = ρ.length
  | [] => rfl
  | v :: vs => by unfold wipeR; rw [List.length_set, wipeR_length ρ vs]
theorem wipeR_some {ρ : REnv} {i : Nat} {x : PV} : ∀ {vs : List Nat}, (wipeR ρ vs)[i]? = some (some x) → ρ[i]? = some (some x) ∧ i ∉ vs
  | [], h => ⟨h, by simp⟩
  | v :: vs, h => by
    unfold wipeR at h
    by_cases hi : v = i
    · subst hi
      by_cases hv : v < (wipeR ρ vs).length
      · rw [List.getElem?_set_self hv] at h; cases h
      · rw [List.getElem?_eq_none (by simpa using hv)] at h; cases h
    · rw [List.getElem?_set_ne hi] at h
      obtain ⟨h1, h2⟩ := wipeR_some h
      exact ⟨h1, by simp only [List.mem_cons, not_or]; exact ⟨fun e => hi e.symm, h2⟩⟩
theorem Rel.wiped (R : Rel K G L ρ σ H) (vs : List Nat) : Rel K G L (wipeR ρ vs) (wipe σ vs) H :=
  R.forget (wipeR_length _ _) (wipe_length _ _) fun i x e => by
    obtain ⟨e1, e2⟩ := wipeR_some e
    exact ⟨e1, wipe_out e2⟩
end
end Dv

/-! Dv: promises of defs that are called where no repr is under way. -/
namespace Dv
open PySem PySem.Spec PyProof.Rows L2

/-- nothing is being shown -/
def Cl0 (A : Around) : Prop := A.guards = some []
theorem Cl0.deeper {A : Around} (h : Cl0 A) (e : Env) : Cl0 (A.deeper e) := h

structure FnG (P : Program) (w : World) (K : PySem.W.Frag) (mg : Str → Option Value) (base : Heap) (k : Nat) (f : Addr) (fd : FuncData) (ps : List Str) (sp : Sp) : Prop where
  many : ∀ vs H Q E, sp vs H Q E → vs.length = ps.length
  go : ∀ (A : Around) (out : List Env) (s : Shared) (H : Hp) (args : Args) (us : List Value) (vs : List V) (Q : VK), Cl0 A → Room k A →
    Env0 P w K mg base A out s H → BindsTo s fd args (ps.zip us) → Vals vs us → sp vs H Q E0 →
    codeAny (model P w) A (.call (.ref f) args) (CR CX0 out P w H s Q E0) s

section
variable {X : Cx} {k : Nat} {f : Addr} {fd : FuncData} {ps : List Str} {sp : Sp} {x : Str} {p pos : Pos} {e : Expr} {es : List Expr} {t : TA}
theorem FnG.up {P : Program} {w : World} {K : PySem.W.Frag} {mg : Str → Option Value} {base : Heap} {j : Nat} (F : FnG P w K mg base j f fd ps sp) (h : j ≤ k) : FnG P w K mg base k f fd ps sp where
  many := F.many
  go A out s H args us vs Q c r := F.go A out s H args us vs Q c (r.mono h)
/-- behind a callee's run -/
theorem FnG.ends {pins : List (Addr × Obj)} {σ : L2.St} {H : Hp} {s s' : Shared} {Q : VK} {r : Result} (I : Inv X pins σ H s) (h : CR CX0 X.stack X.prog X.w H s Q E0 r s') :
    ∃ u, r = .ok (.ret u) ∧ EP X pins σ Q u s' := by
  rcases r with fl | er
  · exact False.elim h
  · rcases er with _ | _ | _ | u
    · exact False.elim h
    · exact False.elim h
    · exact False.elim h
    · exact ⟨u, rfl, I.after h⟩

/-- the call of a def with values -/
theorem FnG.at {pins : List (Addr × Obj)} {σ : L2.St} {H : Hp} {s : Shared} {Q : VK} {us : List Value} {vs : List V}
    (F : FnG X.prog X.w X.K X.mg X.base k f fd ps sp) (c : Cl0 X.A) (hr : Room k X.A) (hb : Binds X.K fd ps [])
    (I : Inv X pins σ H s) (r : Vals vs us) (h : sp vs H Q E0) :
    wpAny (model X.prog X.w) X.A (call (.ref f) us) (EP X pins σ Q) X.xe s := by
  have hz : (us ++ []).length = ps.length := by
    rw [List.append_nil, ← r.length]
    exact F.many _ _ _ _ h
  have hb' := hb s us I.kIn hz
  rw [List.append_nil] at hb'
  refine wpAny_call (codeAny_mono (F.go X.A X.stack s H ⟨us, []⟩ us vs Q c hr I.env0 hb' r h) fun re s' hq => ?_)
  obtain ⟨u, rfl, ep⟩ := FnG.ends I hq
  exact ep
theorem pe_callG (F : FnG X.prog X.w X.K X.mg X.base k f fd ps sp) (c : Cl0 X.A) (hr : Room k X.A) (hg : Gl X x)
    (hm : X.mg x = some (.ref f)) (hk : PySem.W.keepIn X.K (.ref f) = true) (hb : Binds X.K fd ps []) (ha : PA X (e :: es) t)
    (hdb : (x == ("__debug__" : Str)) = false := by decide)
    (he : starEach (e :: es) X.env = (false, eval e X.env) :: starEach es X.env := by rfl)
    (hpl : (backTo pos (starEach es X.env)).any (·.1) = false := by rfl) :
    PE X (.Call (.Name x p) (e :: es) [] pos) (fun σ H Q => t σ H fun vs H1 => sp vs H1 Q E0) := by
  constructor
  intro pins s σ H Q I h
  have step : ∀ us s1, AP X pins σ (fun vs H1 => sp vs H1 Q E0) us s1 → X.K.In s1.heap ∧ wpAny (model X.prog X.w) X.A (call (.ref f) us) (EP X pins σ Q) X.xe s1 := by
    rintro us s1 ⟨vs, H1, I1, r, q⟩
    exact ⟨I1.kIn, F.at c hr hb I1 r q⟩
  exact wpAny_Call_Name_kw (ld_glob I hg hm (PySem.W.callWith_K (h₀ := X.base) I.ok.mod.kin hk (thn (ha.run pos pins s σ H _ I h) step) he hpl) hdb)
/-- a call by keywords -/
theorem pe_callGK {ks : List Str} {g : List Value → List Value → List Value} {gV : List V → List V → List V} {kws : List Keyword} {es : List Expr} {tk : TA}
    (F : FnG X.prog X.w X.K X.mg X.base k f fd ps sp) (c : Cl0 X.A) (hr : Room k X.A) (hg : Gl X x)
    (hm : X.mg x = some (.ref f)) : True := trivial
end

section
variable {P : Program} {w : World} {K : PySem.W.Frag} {mg : Str → Option Value} {base : Heap}
/-- a def of the text keeps its promise if its body does -/
theorem FnG.of {k : Nat} {f : Addr} {qual name : Str} {st : Stmt} {fd : FuncData} {N ps : List Str} {sp : Sp} (F : L2.Fun K name qual st f fd) (S : FnScope N ps (defScope st))
    (many : ∀ vs H Q E, sp vs H Q E → vs.length = ps.length)
    (hbody : ∀ (cdv : Value) (A : Around) (out : List Env) (s : Shared) (H : Hp) (vs : List V) (Q : VK), Cl0 A →
      Room k (A.deeper (envOfC qual (defScope st) s.heap.objs.size f cdv)) → sp vs H Q E0 →
      ∃ t, PSs (cxOf CX0 P w K mg base N qual (defScope st) f cdv A out s H E0) (defBody st) t ∧ t { nx := fun _ H' => Q .non H', rt := Q } (start N vs) H) :
    FnG P w K mg base (k + 1) f fd ps sp := by
  obtain ⟨oc, od, kV, doc, pm, an, cdv, ct, osl, rfl, lk, hcd⟩ := F.ex
  constructor
  · exact many
  intro A out s H args us vs Q c hr e0 hb r hsp
  have pres : ∀ b o, base.get? b = some o → s.heap.get? b = some o := fun b o e => (e0.bs b o e).1
  have hkind : ∀ y ∈ ps.zip us, (defScope st).names.lookup y.1 = some .local ∨
      ((defScope st).names.lookup y.1 = some .cell ∧ ((cellsFrom (s.heap.objs.size + 1) (defScope st).names []).lookup y.1).isSome = true) := by
    rintro ⟨n, v⟩ hy
    rcases S.par n (List.of_mem_zip hy).1 with q | q
    · exact .inl q
    · exact .inr ⟨q, PySem.W.cellsFrom_some _ _ _ (.inl q)⟩
  have KX : K.In s.heap := e0.mod.kin.keeps pres
  refine codeAny_call_function hr.depth (KX _ _ lk) rfl S.co S.gen rfl (PySem.W.codeRec_of KX hcd) (hb _ _ _ _ ?_)
  refine wpAny_newFunctionEnv_cells S.kind hkind fun env he s1 x => ?_
  subst he
  refine ⟨(e0.mod.nolimit.keeps pres).keeps x.toInCall.keep, codeAny_func ?_⟩
  obtain ⟨t, ht, hq⟩ := hbody cdv A out s H vs Q c (hr.deeper _) hsp
  have I := inv_start (CX := CX0) (E := E0) S hr.hd e0 (many _ _ _ _ hsp) r x
  refine wpAny_mono (ht.run [] s1 (start N vs) H _ I hq) (fun fl s' hs => ?_) fun er s' hs => hs
  rcases fl with _ | _ | _ | u
  · obtain ⟨σ', H', J, q⟩ := hs
    exact ⟨V.non, H', J.os, J.bare, J.base, J.hok, rfl, q⟩
  · obtain ⟨σ', H', J, q⟩ := hs
    exact False.elim q
  · obtain ⟨σ', H', J, q⟩ := hs
    exact False.elim q
  · obtain ⟨v, σ', H', J, rv, q⟩ := hs
    exact ⟨v, H', J.os, J.bare, J.base, J.hok, rv, q⟩
end
end Dv

/-! Dv: expressions as functions of slots of data. -/
namespace Dv
open PySem PySem.Spec PyProof.Rows L2

abbrev D1 := REnv → Option (PyData × REnv)
abbrev B1 := REnv → Option (Bool × REnv)
abbrev A1 := REnv → Option (List PyData × REnv)

/-- what an expression's reading may rely on, and what follows -/
def SemE (K : PySem.W.Frag) (t : TE) (f : D1) : Prop := ∀ (G : Ent) (L : List (Option Addr)) (ρ : REnv) (σ : L2.St) (H : Hp) (Q : VK) (d : PyData) (ρ' : REnv),
  Rel K G L ρ σ H → f ρ = some (d, ρ') →
  (∀ v H' L', LS L' L → Rel K G L' ρ' σ H' → Ew L H H' → Rp K (hd G.N L' H') v d → Q v H') → t σ H Q
def SemT (K : PySem.W.Frag) (t : TT) (f : B1) : Prop := ∀ (G : Ent) (L : List (Option Addr)) (ρ : REnv) (σ : L2.St) (H : Hp) (Q : Bool → Hp → Prop) (d : Bool) (ρ' : REnv),
  Rel K G L ρ σ H → f ρ = some (d, ρ') →
  (∀ H' L', LS L' L → Rel K G L' ρ' σ H' → Ew L H H' → Q d H') → t σ H Q
def SemA (K : PySem.W.Frag) (t : TA) (f : A1) : Prop := ∀ (G : Ent) (L : List (Option Addr)) (ρ : REnv) (σ : L2.St) (H : Hp) (Q : List V → Hp → Prop) (d : List PyData) (ρ' : REnv),
  Rel K G L ρ σ H → f ρ = some (d, ρ') →
  (∀ v H' L', LS L' L → Rel K G L' ρ' σ H' → Ew L H H' → RpA K (hd G.N L' H') v d → Q v H') → t σ H Q
/-- a new list that none else holds -/
def SemF (K : PySem.W.Frag) (t : TE) (f : A1) : Prop := ∀ (G : Ent) (L : List (Option Addr)) (ρ : REnv) (σ : L2.St) (H : Hp) (Q : VK) (d : List PyData) (ρ' : REnv),
  Rel K G L ρ σ H → f ρ = some (d, ρ') →
  (∀ p vs H' L', LS L' L → H p = none → H' p = some (.lst vs) → Rel K (G.hide p) L' ρ' σ H' → Ew L H H' → RpA K (hd (G.hide p).N L' H') vs d → Q (.ref p) H') → t σ H Q
structure SE (K : PySem.W.Frag) (X : Cx) (e : Expr) (t : TE) (f : D1) : Prop where
  pe : PE X e t
  sem : SemE K t f
structure ST (K : PySem.W.Frag) (X : Cx) (e : Expr) (t : TT) (f : B1) : Prop where
  pe : PT X e t
  sem : SemT K t f
structure SA (K : PySem.W.Frag) (X : Cx) (es : List Expr) (t : TA) (f : A1) : Prop where
  pe : PA X es t
  sem : SemA K t f
structure SF (K : PySem.W.Frag) (X : Cx) (e : Expr) (t : TE) (f : A1) : Prop where
  pe : PE X e t
  sem : SemF K t f

/-- reading a name -/
def fVar (i : Nat) : D1 := fun ρ => match ρ[i]? with
  | some (some (.pl d)) => some (d, ρ)
  | some (some (.ow ds)) => some (.list ds, ρ.set i (some (.pl (.list ds))))
  | _ => none
def fC (d : PyData) : D1 := fun ρ => some (d, ρ)
section
variable {K : PySem.W.Frag}
theorem Rel.get {G : Ent} {L : List (Option Addr)} {ρ : REnv} {σ : L2.St} {H : Hp} (R : Rel K G L ρ σ H) {i : Nat} {d : PyData} (h : ρ[i]? = some (some (.pl d))) :
    ∃ v, σ[i]? = some (some v) ∧ Rp K (hd G.N L H) v d := by
  obtain ⟨v, l, h1, _, h3⟩ := R.at_ i _ h
  exact ⟨v, h1, h3.2⟩
theorem sem_var (i : Nat) : SemE K (tVar i) (fVar i) := by
  intro G L ρ σ H Q d ρ' R e q
  unfold fVar at e
  split at e
  · rename_i d' h
    cases e
    obtain ⟨v, h1, h2⟩ := R.get h
    exact ⟨v, h1, q v H L (.refl L) R (.refl L H) h2⟩
  · rename_i ds h
    cases e
    obtain ⟨a, h1, R2, r⟩ := R.moveOw h
    exact ⟨_, h1, q _ H _ (LS.set L i) R2 (.refl L H) r⟩
  · cases e
theorem sem_c {v : V} {d : PyData} (h : ∀ H, Rp K H v d) : SemE K (tC v) (fC d) := by
  intro G L ρ σ H Q d' ρ' R e q
  cases e
  exact q v H L (.refl L) R (.refl L H) (h _)
/-- two in a row -/
theorem SemE.two {ta tb : TE} {fa fb : D1} (ha : SemE K ta fa) (hb : SemE K tb fb) {G : Ent} {L : List (Option Addr)} {ρ ρ1 ρ2 : REnv} {σ : L2.St} {H : Hp} {dx dy : PyData} (R : Rel K G L ρ σ H)
    (e1 : fa ρ = some (dx, ρ1)) (e2 : fb ρ1 = some (dy, ρ2)) {k : V → V → Hp → Prop}
    (q : ∀ x y H' L', LS L' L → Rel K G L' ρ2 σ H' → Ew L H H' → Rp K (hd G.N L' H') x dx → Rp K (hd G.N L' H') y dy → k x y H') : ta σ H fun x H1 => tb σ H1 fun y H2 => k x y H2 :=
  ha G L ρ σ H _ dx ρ1 R e1 fun x H1 L1 s1 R1 w1 r1 => hb G L1 ρ1 σ H1 _ dy ρ2 R1 e2 fun y H2 L2' s2 R2 w2 r2 =>
    q x y H2 L2' (s2.trans s1) R2 (w1.trans w2 s1) (r1.mono (w2.hd s2)) r2
end

/-! ### operators by values -/
/-- a value whose items are data, the list itself may be hidden -/
inductive Tp (K : PySem.W.Frag) (H Hh : Hp) : V → PyData → Prop
  | non : Tp K H Hh .non .none
  | bl (b : Bool) : Tp K H Hh (.bl b) (.bool b)
  | int (i : Int) : Tp K H Hh (.int i) (.int i)
  | str (x : Str) : Tp K H Hh (.str x) (.str x)
  | lst {a : Addr} {xs : List V} {ds : List PyData} (h : H a = some (.lst xs)) (r : RpA K Hh xs ds) : Tp K H Hh (.ref a) (.list ds)
  | tup {a : Addr} {xs : List V} {ds : List PyData} (h : SqT K H a xs) (hh : SqT K Hh a xs) (r : RpA K Hh xs ds) : Tp K H Hh (.ref a) (.tuple ds)
  | dic {a : Addr} (h : H a = some (.dK [])) : Tp K H Hh (.ref a) (.dict [])
  | scr {a : Addr} {ns : List Int} (h : SqL K H a (ns.map V.int)) : Tp K H Hh (.ref a) (.dict [(.none, .list (ns.map .int))])
theorem Rp.tp {K : PySem.W.Frag} {H Hh : Hp} (e : Le Hh H) : ∀ {v : V} {d : PyData}, Rp K Hh v d → Tp K H Hh v d
  | _, _, .non => .non
  | _, _, .bl b => .bl b
  | _, _, .int i => .int i
  | _, _, .str x => .str x
  | _, _, .lst h r => .lst (e _ _ h) r
  | _, _, .tup h r => .tup (e.t h) h r
  | _, _, .dic h => .dic (e _ _ h)
  | _, _, .scr h => .scr (e.l h)
def Alloc (N : Addr → Prop) (L : List (Option Addr)) (H : Hp) : Prop := ∀ b, N b ∨ some b ∈ L → ∃ o, H b = some o
theorem Rel.alloc {K : PySem.W.Frag} {G : Ent} {L : List (Option Addr)} {ρ : REnv} {σ : L2.St} {H : Hp} (R : Rel K G L ρ σ H) : Alloc G.N L H := fun b h => h.elim (R.nd b) (R.lt b)
theorem Alloc.new {N : Addr → Prop} {L : List (Option Addr)} {H : Hp} (A : Alloc N L H) {p : Addr} {o : HO} (h : H p = none) : hd N L (upd H p o) p = some o := by
  refine hd_some.mpr ⟨fun z => ?_, fun z => ?_, upd_same⟩
  · obtain ⟨u, e⟩ := A p (.inl z); rw [h] at e; cases e
  · obtain ⟨u, e⟩ := A p (.inr z); rw [h] at e; cases e
theorem hd_mono {N : Addr → Prop} {L : List (Option Addr)} {H H' : Hp} (e : Le H H') : Le (hd N L H) (hd N L H') := fun b o h => by
  obtain ⟨h1, h2, h3⟩ := hd_some.mp h
  exact hd_some.mpr ⟨h1, h2, e b o h3⟩
abbrev G2 := PyData → PyData → Option PyData
/-- a reading by values does what g says -/
def OpS (K : PySem.W.Frag) (r : R2) (g : G2) : Prop := ∀ (N : Addr → Prop) (L : List (Option Addr)) (H : Hp) (x y : V) (dx dy dz : PyData) (Q : VK), Alloc N L H →
  Tp K H (hd N L H) x dx → Tp K H (hd N L H) y dy → g dx dy = some dz → (∀ v H', Le H H' → Rp K (hd N L H') v dz → Q v H') → r x y H Q
def UnS (K : PySem.W.Frag) (r : V → Hp → VK → Prop) (g : PyData → Option PyData) : Prop := ∀ (N : Addr → Prop) (L : List (Option Addr)) (H : Hp) (x : V) (dx dz : PyData) (Q : VK), Alloc N L H →
  Tp K H (hd N L H) x dx → g dx = some dz → (∀ v H', Le H H' → Rp K (hd N L H') v dz → Q v H') → r x H Q
/-- the function of a two-place operation -/
def f2 (g : G2) (fa fb : D1) : D1 := fun ρ => match fa ρ with
  | none => none
  | some (x, ρ1) => match fb ρ1 with
    | none => none
    | some (y, ρ2) => match g x y with
      | none => none
      | some z => some (z, ρ2)
def f1 (g : PyData → Option PyData) (fa : D1) : D1 := fun ρ => match fa ρ with
  | none => none
  | some (x, ρ1) => match g x with
      | none => none
      | some z => some (z, ρ1)
theorem f2_some {g : G2} {fa fb : D1} {ρ ρ' : REnv} {z : PyData} (h : f2 g fa fb ρ = some (z, ρ')) : ∃ x ρ1 y, fa ρ = some (x, ρ1) ∧ fb ρ1 = some (y, ρ') ∧ g x y = some z := by
  unfold f2 at h
  split at h
  · cases h
  · rename_i x ρ1 e1
    split at h
    · cases h
    · rename_i y ρ2 e2
      split at h
      · cases h
      · rename_i w e3
        cases h
        exact ⟨x, ρ1, y, e1, e2, e3⟩
theorem f1_some {g : PyData → Option PyData} {fa : D1} {ρ ρ' : REnv} {z : PyData} (h : f1 g fa ρ = some (z, ρ')) : ∃ x, fa ρ = some (x, ρ') ∧ g x = some z := by
  unfold f1 at h
  split at h
  · cases h
  · rename_i x ρ1 e1
    split at h
    · cases h
    · rename_i w e3
      cases h
      exact ⟨x, e1, e3⟩
section
variable {K : PySem.W.Frag} {ta tb : TE} {fa fb : D1}
theorem sem_op {r : R2} {g : G2} (ho : OpS K r g) (ha : SemE K ta fa) (hb : SemE K tb fb) : SemE K (tOp r ta tb) (f2 g fa fb) := by
  intro G L ρ σ H Q d ρ' R e q
  obtain ⟨x, ρ1, y, e1, e2, e3⟩ := f2_some e
  refine ha.two hb R e1 e2 fun vx vy H2 L2' s2 R2 w2 r1 r2 => ?_
  refine ho G.N L2' H2 vx vy x y d Q R2.alloc (r1.tp hd_le) (r2.tp hd_le) e3 fun v H3 le r => ?_
  exact q v H3 L2' s2 (R2.mono le) (w2.trans (le.ew (L := L2')) s2) r
theorem sem_un {r : V → Hp → VK → Prop} {g : PyData → Option PyData} (ho : UnS K r g) (ha : SemE K ta fa) : SemE K (tUn r ta) (f1 g fa) := by
  intro G L ρ σ H Q d ρ' R e q
  obtain ⟨x, e1, e3⟩ := f1_some e
  refine ha G L ρ σ H _ x ρ' R e1 fun vx H2 L2' s2 R2 w2 r1 => ?_
  refine ho G.N L2' H2 vx x d Q R2.alloc (r1.tp hd_le) e3 fun v H3 le r => ?_
  exact q v H3 L2' s2 (R2.mono le) (w2.trans (le.ew (L := L2')) s2) r

/-- what one's own slot holds -/
def ownAt (ρ : REnv) (i : Nat) : Option (List PyData) := match ρ[i]? with
  | some (some x) => x.lst?
  | _ => none
theorem ownAt_some {ρ : REnv} {i : Nat} {ds : List PyData} (h : ownAt ρ i = some ds) : ∃ x, ρ[i]? = some (some x) ∧ x.lst? = some ds := by
  unfold ownAt at h
  split at h
  · exact ⟨_, by assumption, h⟩
  · cases h
/-- one's own list as the first, the second operand: what it holds when both are there -/
def fOL (g : G2) (i : Nat) (fb : D1) : D1 := fun ρ => match ownAt ρ i with
  | none => none
  | some _ => match fb ρ with
    | none => none
    | some (y, ρ2) => match ownAt ρ2 i with
      | none => none
      | some ds => match g (.list ds) y with
        | none => none
        | some z => some (z, ρ2)
def fOR (g : G2) (fa : D1) (i : Nat) : D1 := fun ρ => match fa ρ with
  | none => none
  | some (y, ρ2) => match ownAt ρ2 i with
    | none => none
    | some ds => match g y (.list ds) with
      | none => none
      | some z => some (z, ρ2)
def fOU (g : PyData → Option PyData) (i : Nat) : D1 := fun ρ => match ownAt ρ i with
  | none => none
  | some ds => match g (.list ds) with
    | none => none
    | some z => some (z, ρ)
theorem Rel.tpOwn {G : Ent} {L : List (Option Addr)} {ρ : REnv} {σ : L2.St} {H : Hp} (R : Rel K G L ρ σ H) {i : Nat} {ds : List PyData} (h : ownAt ρ i = some ds) :
    ∃ v, σ[i]? = some (some v) ∧ Tp K H (hd G.N L H) v (.list ds) := by
  obtain ⟨x, h, hx⟩ := ownAt_some h
  obtain ⟨a, vs, h1, _, h3, h4⟩ := R.own h hx
  exact ⟨_, h1, .lst h3 h4⟩
theorem slot_same {σ : L2.St} {i : Nat} {v w : V} (h : σ[i]? = some (some v)) (g : σ[i]? = some (some w)) : v = w := by rw [h] at g; cases g; rfl
theorem sem_opL {r : R2} {g : G2} (ho : OpS K r g) (i : Nat) (hb : SemE K tb fb) : SemE K (tOp r (tVar i) tb) (fOL g i fb) := by
  intro G L ρ σ H Q d ρ' R e q
  unfold fOL at e
  split at e
  · cases e
  rename_i ds0 e0
  split at e
  · cases e
  rename_i y ρ2 e1
  split at e
  · cases e
  rename_i ds e2
  split at e
  · cases e
  rename_i z e4
  cases e
  obtain ⟨v, hv, _⟩ := R.tpOwn e0
  refine ⟨v, hv, hb G L ρ σ H _ y ρ' R e1 fun vy H2 L2' s2 R2 w2 r1 => ?_⟩
  obtain ⟨v', h1, h2⟩ := R2.tpOwn e2
  cases slot_same hv h1
  refine ho G.N L2' H2 v vy _ y d Q R2.alloc h2 (r1.tp hd_le) e4 fun w H3 le r => ?_
  exact q w H3 L2' s2 (R2.mono le) (w2.trans (le.ew (L := L2')) s2) r
theorem sem_opR {r : R2} {g : G2} (ho : OpS K r g) (i : Nat) (ha : SemE K ta fa) : SemE K (tOp r ta (tVar i)) (fOR g fa i) := by
  intro G L ρ σ H Q d ρ' R e q
  unfold fOR at e
  split at e
  · cases e
  rename_i y ρ2 e1
  split at e
  · cases e
  rename_i ds e2
  split at e
  · cases e
  rename_i z e4
  cases e
  refine ha G L ρ σ H _ y ρ' R e1 fun vy H2 L2' s2 R2 w2 r1 => ?_
  obtain ⟨v', h1, h2⟩ := R2.tpOwn e2
  refine ⟨v', h1, ho G.N L2' H2 vy v' y _ d Q R2.alloc (r1.tp hd_le) h2 e4 fun w H3 le r => ?_⟩
  exact q w H3 L2' s2 (R2.mono le) (w2.trans (le.ew (L := L2')) s2) r
theorem sem_unO {r : V → Hp → VK → Prop} {g : PyData → Option PyData} (ho : UnS K r g) (i : Nat) : SemE K (tUn r (tVar i)) (fOU g i) := by
  intro G L ρ σ H Q d ρ' R e q
  unfold fOU at e
  split at e
  · cases e
  rename_i ds e2
  split at e
  · cases e
  rename_i z e4
  cases e
  obtain ⟨v', h1, h2⟩ := R.tpOwn e2
  refine ⟨v', h1, ho G.N L H v' _ d Q R.alloc h2 e4 fun w H3 le r => ?_⟩
  exact q w H3 L (.refl L) (R.mono le) (le.ew (L := L)) r

/-! ### argument lists and displays -/
def fNil : A1 := fun ρ => some ([], ρ)
def fCons (fa : D1) (fr : A1) : A1 := fun ρ => match fa ρ with
  | none => none
  | some (x, ρ1) => match fr ρ1 with
    | none => none
    | some (xs, ρ2) => some (x :: xs, ρ2)
theorem sem_nil : SemA K tNil fNil := by
  intro G L ρ σ H Q d ρ' R e q
  cases e
  exact q [] H L (.refl L) R (.refl L H) .nil
theorem fCons_some {fa : D1} {fr : A1} {ρ ρ' : REnv} {d : List PyData} (e : fCons fa fr ρ = some (d, ρ')) : ∃ x ρ1 xs, d = x :: xs ∧ fa ρ = some (x, ρ1) ∧ fr ρ1 = some (xs, ρ') := by
  unfold fCons at e
  split at e
  · cases e
  rename_i x ρ1 e1
  split at e
  · cases e
  rename_i xs ρ2 e2
  cases e
  exact ⟨x, ρ1, xs, rfl, e1, e2⟩
theorem sem_cons {tr : TA} {fr : A1} (ha : SemE K ta fa) (hr : SemA K tr fr) : SemA K (tCons ta tr) (fCons fa fr) := by
  intro G L ρ σ H Q d ρ' R e q
  obtain ⟨x, ρ1, xs, rfl, e1, e2⟩ := fCons_some e
  refine ha G L ρ σ H _ x ρ1 R e1 fun v H1 L1 s1 R1 w1 r1 => ?_
  refine hr G L1 ρ1 σ H1 _ xs ρ' R1 e2 fun vs H2 L2' s2 R2 w2 r2 => ?_
  exact q (v :: vs) H2 L2' (s2.trans s1) R2 (w1.trans w2 s1) (.cons (r1.mono (w2.hd s2)) r2)
def fTup (fa : A1) : D1 := fun ρ => match fa ρ with
  | none => none
  | some (xs, ρ1) => if xs.length ≤ sizeLine then some (.tuple xs, ρ1) else none
theorem sem_tup {t : TA} {f : A1} (h : SemA K t f) : SemE K (tTup t) (fTup f) := by
  intro G L ρ σ H Q d ρ' R e q
  unfold fTup at e
  split at e
  · cases e
  rename_i xs ρ1 e1
  split at e
  · rename_i hz
    cases e
    refine h G L ρ σ H _ xs ρ' R e1 fun vs H1 L1 s1 R1 w1 r1 => ⟨by rw [r1.len]; exact hz, fun p hp => ?_⟩
    have le : Le H1 (upd H1 p (.tup vs)) := Le.new hp
    exact q _ _ L1 s1 (R1.mono le) (w1.trans (le.ew (L := L1)) s1) (.tup (.of (R1.alloc.new hp)) (r1.mono (hd_mono le)))
  · cases e
/-- a new list -/
def fLst (fa : A1) : A1 := fun ρ => match fa ρ with
  | none => none
  | some (xs, ρ1) => if xs.length ≤ sizeLine then some (xs, ρ1) else none
theorem semF_lst {t : TA} {f : A1} (h : SemA K t f) : SemF K (tLst t) (fLst f) := by
  intro G L ρ σ H Q d ρ' R e q
  unfold fLst at e
  split at e
  · cases e
  rename_i xs ρ1 e1
  split at e
  · rename_i hz
    cases e
    refine h G L ρ σ H _ _ ρ' R e1 fun vs H1 L1 s1 R1 w1 r1 => ⟨by rw [r1.len]; exact hz, fun p hp => ?_⟩
    exact q p vs _ L1 s1 (w1.free hp) upd_same (R1.hide hp) (w1.trans ((Le.new hp).ew (L := L1)) s1) (r1.mono (hd_hide hp))
  · cases e
end
end Dv

/-! Dv: the operations over data. -/
namespace Dv
open PySem PySem.Spec PyProof.Rows L2

/-! ### data read by the library's own relation -/
section
variable {K : PySem.W.Frag} {H : Hp}
mutual
theorem Rp.dp : ∀ {v : V} {d : PyData}, Rp K H v d → d.canLay0 = true → Dp K H v d
  | _, _, .non, _ => .non
  | _, _, .bl b, _ => .bl b
  | _, _, .int i, _ => .int i
  | _, _, .str x, _ => .str x
  | _, _, .lst h r, e => .lst (.of h) (r.dp (by simpa [PyData.canLay0] using e))
  | _, _, .tup h r, e => .tup h (r.dp (by simpa [PyData.canLay0] using e))
  | _, _, .dic _, e => by simp [PyData.canLay0] at e
  | _, _, .scr _, e => by simp [PyData.canLay0] at e
theorem RpA.dp : ∀ {vs : List V} {ds : List PyData}, RpA K H vs ds → PyData.canLayAll0 ds = true → DpAll K H vs ds
  | _, _, .nil, _ => .nil
  | _, _, .cons h t, e => by
    simp [PyData.canLayAll0] at e
    exact .cons (h.dp e.1) (t.dp e.2)
end
end
theorem Tp.dp {K : PySem.W.Frag} {H Hh : Hp} (le : Le Hh H) {v : V} {d : PyData} (h : Tp K H Hh v d) (e : d.canLay0 = true) : Dp K H v d := by
  cases h with
  | non => exact .non
  | bl b => exact .bl b
  | int i => exact .int i
  | str x => exact .str x
  | lst h r => exact .lst (.of h) ((r.mono le).dp (by simpa [PyData.canLay0] using e))
  | tup h hh r => exact .tup h ((r.mono le).dp (by simpa [PyData.canLay0] using e))
  | dic _ => simp [PyData.canLay0] at e
  | scr _ => simp [PyData.canLay0] at e

/-! ### + - * % // ** -/
def gI (g : Int → Int → Option PyData) : G2 := fun x y => match x, y with
  | .int i, .int j => g i j
  | _, _ => none
theorem gI_some {g : Int → Int → Option PyData} {x y z : PyData} (h : gI g x y = some z) : ∃ i j, x = .int i ∧ y = .int j ∧ g i j = some z := by
  unfold gI at h
  split at h
  · exact ⟨_, _, rfl, rfl, h⟩
  · cases h
theorem Tp.int_of {K : PySem.W.Frag} {H Hh : Hp} {v : V} {i : Int} (h : Tp K H Hh v (.int i)) : v = .int i := by cases h; rfl
theorem Tp.bl_of {K : PySem.W.Frag} {H Hh : Hp} {v : V} {i : Bool} (h : Tp K H Hh v (.bool i)) : v = .bl i := by cases h; rfl
theorem Rp.int_of {K : PySem.W.Frag} {H : Hp} {v : V} {i : Int} (h : Rp K H v (.int i)) : v = .int i := by cases h; rfl
theorem Rp.bl_of {K : PySem.W.Frag} {H : Hp} {v : V} {i : Bool} (h : Rp K H v (.bool i)) : v = .bl i := by cases h; rfl
section
variable {K : PySem.W.Frag}
theorem ops_I0 {f : Int → Int → Int} : OpS K (rI0 fun i j => .int (f i j)) (gI fun i j => some (.int (f i j))) := by
  intro N L H x y dx dy dz Q A hx hy e q
  obtain ⟨i, j, rfl, rfl, e⟩ := gI_some e
  cases e
  exact ⟨i, j, hx.int_of, hy.int_of, q _ H (.refl H) (.int _)⟩
theorem ops_B0 {f : Int → Int → Bool} : OpS K (rI0 fun i j => .bl (f i j)) (gI fun i j => some (.bool (f i j))) := by
  intro N L H x y dx dy dz Q A hx hy e q
  obtain ⟨i, j, rfl, rfl, e⟩ := gI_some e
  cases e
  exact ⟨i, j, hx.int_of, hy.int_of, q _ H (.refl H) (.bl _)⟩
theorem ops_I {C : Int → Int → Prop} {c : Int → Int → Bool} {f : Int → Int → Int} (hc : ∀ i j, c i j = true → C i j) : OpS K (rI C fun i j => .int (f i j)) (gI fun i j => if c i j then some (.int (f i j)) else none) := by
  intro N L H x y dx dy dz Q A hx hy e q
  obtain ⟨i, j, rfl, rfl, e1⟩ := gI_some e
  clear e
  split at e1
  · rename_i h
    cases e1
    exact ⟨i, j, hx.int_of, hy.int_of, hc i j h, q _ H (.refl H) (.int _)⟩
  · cases e1
/-- two readings, by the kind of data -/
def gOr (g g' : G2) : G2 := fun x y => match g x y with
  | some z => some z
  | none => g' x y
theorem ops_or {r r' : R2} {g g' : G2} (h : OpS K r g) (h' : OpS K r' g') : OpS K (fun x y H Q => r x y H Q ∨ r' x y H Q) (gOr g g') := by
  intro N L H x y dx dy dz Q A hx hy e q
  unfold gOr at e
  split at e
  · rename_i z e1
    cases e
    exact .inl (h N L H x y dx dy dz Q A hx hy e1 q)
  · exact .inr (h' N L H x y dx dy dz Q A hx hy e q)
def gCatL : G2 := fun x y => match x, y with
  | .list xs, .list ys => if xs.length + ys.length ≤ sizeLine then some (.list (xs ++ ys)) else none
  | _, _ => none
def gCatT : G2 := fun x y => match x, y with
  | .tuple xs, .tuple ys => if xs.length + ys.length ≤ sizeLine then some (.tuple (xs ++ ys)) else none
  | _, _ => none
theorem ops_cat : OpS K rCat gCatL := by
  intro N L H x y dx dy dz Q A hx hy e q
  unfold gCatL at e
  split at e
  · split at e
    · rename_i xs ys hz
      cases e
      cases hx with
      | lst h1 r1 =>
        cases hy with
        | lst h2 r2 =>
          refine ⟨_, _, _, _, rfl, rfl, h1, h2, by rw [r1.len, r2.len]; exact hz, fun p hp => ?_⟩
          exact q _ _ (Le.new hp) (.lst (A.new hp) ((r1.append r2).mono (hd_mono (Le.new hp))))
    · cases e
  · cases e
theorem ops_catT : OpS K (rCatA K) gCatT := by
  intro N L H x y dx dy dz Q A hx hy e q
  unfold gCatT at e
  split at e
  · split at e
    · rename_i xs ys hz
      cases e
      cases hx with
      | tup h1 hh1 r1 =>
        cases hy with
        | tup h2 hh2 r2 =>
          refine ⟨_, _, _, _, rfl, rfl, h1, h2, by rw [r1.len, r2.len]; exact hz, fun e => ?_, fun _ e => ?_, fun _ _ p hp => ?_⟩
          · subst e
            have := r1.len
            cases xs with
            | nil => exact q _ H (.refl H) (.tup hh2 r2)
            | cons a b => simp at this
          · subst e
            have := r2.len
            cases ys with
            | nil => rw [List.append_nil] at q; exact q _ H (.refl H) (.tup hh1 r1)
            | cons a b => simp at this
          · exact q _ _ (Le.new hp) (.tup (.of (A.new hp)) ((r1.append r2).mono (hd_mono (Le.new hp))))
    · cases e
  · cases e
end

/-- a new list by values -/
def OpF (K : PySem.W.Frag) (r : R2) (g : PyData → PyData → Option (List PyData)) : Prop := ∀ (N : Addr → Prop) (L : List (Option Addr)) (H : Hp) (x y : V) (dx dy : PyData) (ds : List PyData) (Q : VK), Alloc N L H →
  Tp K H (hd N L H) x dx → Tp K H (hd N L H) y dy → g dx dy = some ds → (∀ p vs, H p = none → RpA K (hd N L H) vs ds → Q (.ref p) (upd H p (.lst vs))) → r x y H Q
def f2F (g : PyData → PyData → Option (List PyData)) (fa fb : D1) : A1 := fun ρ => match fa ρ with
  | none => none
  | some (x, ρ1) => match fb ρ1 with
    | none => none
    | some (y, ρ2) => match g x y with
      | none => none
      | some z => some (z, ρ2)
theorem semF_op {K : PySem.W.Frag} {ta tb : TE} {fa fb : D1} {r : R2} {g : PyData → PyData → Option (List PyData)} (ho : OpF K r g) (ha : SemE K ta fa) (hb : SemE K tb fb) : SemF K (tOp r ta tb) (f2F g fa fb) := by
  intro G L ρ σ H Q d ρ' R e q
  unfold f2F at e
  split at e
  · cases e
  rename_i x ρ1 e1
  split at e
  · cases e
  rename_i y ρ2 e2
  split at e
  · cases e
  rename_i z e3
  cases e
  refine ha.two hb R e1 e2 fun vx vy H2 L2' s2 R2 w2 r1 r2 => ?_
  refine ho G.N L2' H2 vx vy x y d Q R2.alloc (r1.tp hd_le) (r2.tp hd_le) e3 fun p vs hp r => ?_
  exact q p vs _ L2' s2 (w2.free hp) upd_same (R2.hide hp) (w2.trans ((Le.new hp).ew (L := L2')) s2) (r.mono (hd_hide hp))
/-- a new list is data, too -/
theorem Rel.plain {K : PySem.W.Frag} {G : Ent} {L : List (Option Addr)} {ρ : REnv} {σ : L2.St} {H : Hp} {p : Addr} {vs : List V} {ds : List PyData} (R : Rel K (G.hide p) L ρ σ H) (hb : ∀ b, some b ∈ G.as → G.N b) (hn : ¬ G.N p) (hl : some p ∉ L) (h : H p = some (.lst vs)) (r : RpA K (hd (G.hide p).N L H) vs ds) :
    Rel K G L ρ σ H ∧ Rp K (hd G.N L H) (.ref p) (.list ds) :=
  ⟨R.unhide hb, .lst (hd_some.mpr ⟨hn, hl, h⟩) (r.mono hd_unhide)⟩
def fF (f : A1) : D1 := fun ρ => match f ρ with
  | none => none
  | some (ds, ρ1) => some (.list ds, ρ1)
theorem SemF.e {K : PySem.W.Frag} {t : TE} {f : A1} (h : SemF K t f) : SemE K t (fF f) := by
  intro G L ρ σ H Q d ρ' R e q
  unfold fF at e
  split at e
  · cases e
  rename_i ds ρ1 e1
  cases e
  refine h G L ρ σ H Q ds ρ' R e1 fun p vs H' L' s hp h1 R1 w r => ?_
  have hf := R.fresh hp
  obtain ⟨R2, rp⟩ := R1.plain R.bd hf.1 (fun m => hf.2.1 (s.mem m)) h1 r
  exact q _ _ L' s R2 w rp
def small64 (i : Int) : Bool := decide (-(2 ^ 64) < i) && decide (i < 2 ^ 64)
def gMulI : G2 := gI fun i j => if small64 i || small64 j then some (.int (i * j)) else none
theorem ops_mul {K : PySem.W.Frag} : OpS K (rI CMul fun i j => .int (i * j)) gMulI := ops_I (c := fun i j => small64 i || small64 j) fun i j h => by
  unfold small64 at h
  simp only [Bool.or_eq_true, Bool.and_eq_true, decide_eq_true_eq] at h
  exact h
theorem RpA.rep {K : PySem.W.Frag} {H : Hp} {vs : List V} {ds : List PyData} (h : RpA K H vs ds) : ∀ n : Nat, RpA K H (List.replicate n vs).flatten (List.replicate n ds).flatten
  | 0 => .nil
  | n + 1 => by rw [List.replicate_succ, List.replicate_succ, List.flatten_cons, List.flatten_cons]; exact h.append (h.rep n)
def gRepL : PyData → PyData → Option (List PyData) := fun x y => match x, y with
  | .list xs, .int k => if 0 ≤ k ∧ k ≤ 100000 ∧ xs.length * k.toNat ≤ sizeLine then some (List.replicate k.toNat xs).flatten else none
  | _, _ => none
def gRepT : G2 := fun x y => match x, y with
  | .tuple xs, .int k => if xs ≠ [] ∧ 2 ≤ k ∧ k ≤ 1000 ∧ xs.length ≤ 1000 then some (.tuple (List.replicate k.toNat xs).flatten) else none
  | _, _ => none
theorem opF_rep {K : PySem.W.Frag} : OpF K rRep gRepL := by
  intro N L H x y dx dy ds Q A hx hy e q
  unfold gRepL at e
  split at e
  · split at e
    · rename_i xs k hz
      cases e
      cases hx with
      | lst h1 r1 =>
        cases hy
        refine ⟨_, k, _, rfl, rfl, h1, by omega, by omega, by rw [r1.len]; exact hz.2.2, fun p hp => ?_⟩
        exact q p _ hp (r1.rep _)
    · cases e
  · cases e
theorem opF_cat {K : PySem.W.Frag} : OpF K rCat (fun x y => match gCatL x y with | some (.list zs) => some zs | _ => none) := by
  intro N L H x y dx dy ds Q A hx hy e q
  unfold gCatL at e
  cases hx <;> try (simp at e; done)
  rename_i a xs dxs h1 r1
  cases hy <;> try (simp at e; done)
  rename_i b ys dys h2 r2
  simp only at e
  split at e
  · rename_i h
    split at h
    · rename_i hz
      cases h
      cases e
      refine ⟨_, _, _, _, rfl, rfl, h1, h2, by rw [r1.len, r2.len]; exact hz, fun p hp => ?_⟩
      exact q p _ hp (r1.append r2)
    · cases h
  · cases e
theorem ops_repT {K : PySem.W.Frag} : OpS K (rRepT K) gRepT := by
  intro N L H x y dx dy dz Q A hx hy e q
  unfold gRepT at e
  split at e
  · split at e
    · rename_i xs k hz
      cases e
      cases hx with
      | tup h1 hh1 r1 =>
        cases hy
        refine ⟨_, k, _, rfl, rfl, h1, fun z => ?_, by omega, by omega, by rw [r1.len]; exact hz.2.2.2, fun p hp => ?_⟩
        · subst z
          have := r1.len
          cases xs with
          | nil => exact hz.1 rfl
          | cons a b => simp at this
        · exact q _ _ (Le.new hp) (.tup (.of (A.new hp)) ((r1.rep _).mono (hd_mono (Le.new hp))))
    · cases e
  · cases e
section
variable {X : Cx} {K : PySem.W.Frag}
def rAdd (K : PySem.W.Frag) : R2 := fun x y H Q => rI0 (fun i j => .int (i + j)) x y H Q ∨ (rCat x y H Q ∨ rCatA K x y H Q)
def gAdd : G2 := gOr (gI fun i j => some (.int (i + j))) (gOr gCatL gCatT)
theorem o_add : OpR X (binaryOp .Add) (rAdd X.K) := op_add.or (op_cat.or op_catA)
theorem s_add : OpS K (rAdd K) gAdd := ops_or ops_I0 (ops_or ops_cat ops_catT)
def gSub : G2 := gI fun i j => some (.int (i - j))
theorem s_sub : OpS K (rI0 fun i j => .int (i - j)) gSub := ops_I0
def rMul (K : PySem.W.Frag) : R2 := fun x y H Q => rI CMul (fun i j => .int (i * j)) x y H Q ∨ rRepT K x y H Q
def gMul : G2 := gOr gMulI gRepT
theorem o_mul : OpR X (binaryOp .Mult) (rMul X.K) := op_mul.or op_repT
theorem s_mul : OpS K (rMul K) gMul := ops_or ops_mul ops_repT
def gMod : G2 := gI fun i j => if decide (0 < j) then some (.int (i % j)) else none
theorem s_mod : OpS K (rI (fun _ j => 0 < j) fun i j => .int (i % j)) gMod := ops_I (c := fun _ j => decide (0 < j)) fun _ _ h => of_decide_eq_true h
def gDiv : G2 := gI fun i j => if decide (0 < j ∧ j.natAbs.log2 < 9000) then some (.int (i / j)) else none
theorem s_div : OpS K (rI CDivW fun i j => .int (i / j)) gDiv := ops_I (c := fun _ j => decide (0 < j ∧ j.natAbs.log2 < 9000)) fun _ j h => (of_decide_eq_true h : 0 < j ∧ j.natAbs.log2 < 9000)
def gPow : G2 := gI fun i j => if decide (0 ≤ j ∧ j ≤ 1000000 ∧ i.natAbs < 2 ^ 64) then some (.int (i ^ j.toNat)) else none
theorem s_pow : OpS K (rI CPow fun i j => .int (i ^ j.toNat)) gPow := ops_I (c := fun i j => decide (0 ≤ j ∧ j ≤ 1000000 ∧ i.natAbs < 2 ^ 64)) fun i j h => (of_decide_eq_true h : 0 ≤ j ∧ j ≤ 1000000 ∧ i.natAbs < 2 ^ 64)
def gNeg : PyData → Option PyData := fun x => match x with
  | .int i => some (.int (-i))
  | _ => none
theorem s_neg : UnS K (rU fun i => .int (-i)) gNeg := by
  intro N L H x dx dz Q A hx e q
  unfold gNeg at e
  split at e
  · cases e
    exact ⟨_, hx.int_of, q _ H (.refl H) (.int _)⟩
  · cases e

/-! ### comparisons -/
def gEq : G2 := fun x y => if SeqAt.shaped x && SeqAt.shaped y then some (.bool (PyData.eqv x y)) else none
def gNe : G2 := fun x y => if SeqAt.shaped x && SeqAt.shaped y then some (.bool (!PyData.eqv x y)) else none
theorem s_eq : OpS K (rEqD K) gEq := by
  intro N L H x y dx dy dz Q A hx hy e q
  unfold gEq at e
  split at e
  · rename_i h
    cases e
    simp only [Bool.and_eq_true] at h
    exact ⟨dx, dy, hx.dp hd_le (SeqAt.canLay_of_shaped h.1), hy.dp hd_le (SeqAt.canLay_of_shaped h.2), h.1, h.2, q _ H (.refl H) (.bl _)⟩
  · cases e
theorem s_ne : OpS K (rNeD K) gNe := by
  intro N L H x y dx dy dz Q A hx hy e q
  unfold gNe at e
  split at e
  · rename_i h
    cases e
    simp only [Bool.and_eq_true] at h
    exact ⟨dx, dy, hx.dp hd_le (SeqAt.canLay_of_shaped h.1), hy.dp hd_le (SeqAt.canLay_of_shaped h.2), h.1, h.2, q _ H (.refl H) (.bl _)⟩
  · cases e
/-- the ints of a row of data -/
def intsOf : List PyData → Option (List Int)
  | [] => some []
  | .int i :: r => match intsOf r with
    | some ns => some (i :: ns)
    | none => none
  | _ => none
theorem intsOf_some : ∀ {ds : List PyData} {ns : List Int}, intsOf ds = some ns → ds = ns.map .int
  | [], ns, h => by cases h; rfl
  | .int i :: r, ns, h => by
    unfold intsOf at h
    split at h
    · rename_i ms e
      cases h
      rw [intsOf_some e]; rfl
    · cases h
  | .none :: _, _, h => by simp [intsOf] at h
  | .bool _ :: _, _, h => by simp [intsOf] at h
  | .str _ :: _, _, h => by simp [intsOf] at h
  | .list _ :: _, _, h => by simp [intsOf] at h
  | .tuple _ :: _, _, h => by simp [intsOf] at h
  | .dict _ :: _, _, h => by simp [intsOf] at h
theorem intsOf_map : ∀ ns : List Int, intsOf (ns.map .int) = some ns
  | [] => rfl
  | n :: ns => by show (match intsOf (ns.map .int) with | some ms => some (n :: ms) | none => none) = _; rw [intsOf_map ns]
def gLtT : G2 := fun x y => match x, y with
  | .tuple xs, .tuple ys => match intsOf xs, intsOf ys with
    | some ns, some ms => some (.bool (HT.lexLt ns ms))
    | _, _ => none
  | _, _ => none
theorem s_ltT : OpS K (rLtT K) gLtT := by
  intro N L H x y dx dy dz Q A hx hy e q
  unfold gLtT at e
  cases hx <;> try (simp at e; done)
  rename_i a xs ds h1 hh1 r1
  cases hy <;> try (simp at e; done)
  rename_i b ys es h2 hh2 r2
  simp only at e
  split at e
  · rename_i ns ms e1 e2
    cases e
    have z1 := intsOf_some e1
    have z2 := intsOf_some e2
    subst z1 z2
    have v1 := r1.ints
    have v2 := r2.ints
    subst v1 v2
    exact ⟨a, b, ns, ms, rfl, rfl, h1, h2, q _ H (.refl H) (.bl _)⟩
  · cases e
def rLt (K : PySem.W.Frag) : R2 := fun x y H Q => rI0 (fun i j => .bl (decide (i < j))) x y H Q ∨ rLtT K x y H Q
def gLt : G2 := gOr (gI fun i j => some (.bool (decide (i < j)))) gLtT
theorem o_lt (hu : X.A.units < cLine) : OpR X (compareOp .Lt) (rLt X.K) := op_lt.or (op_ltT hu)
theorem s_lt : OpS K (rLt K) gLt := ops_or ops_B0 s_ltT
def gLe : G2 := gI fun i j => some (.bool (decide (i ≤ j)))
def gGt : G2 := gI fun i j => some (.bool (decide (j < i)))
def gGe : G2 := gI fun i j => some (.bool (decide (j ≤ i)))
theorem s_le : OpS K (rI0 fun i j => .bl (decide (i ≤ j))) gLe := ops_B0
theorem s_gt : OpS K (rI0 fun i j => .bl (decide (j < i))) gGt := ops_B0
theorem s_ge : OpS K (rI0 fun i j => .bl (decide (j ≤ i))) gGe := ops_B0
def gIsN : G2 := fun x y => match y with
  | .none => some (.bool (match x with | .none => true | _ => false))
  | _ => none
def gNotN : G2 := fun x y => match y with
  | .none => some (.bool (match x with | .none => false | _ => true))
  | _ => none
theorem s_isN : OpS K (fun x y H Q => y = .non ∧ Q (.bl (decide (x = .non))) H) gIsN := by
  intro N L H x y dx dy dz Q A hx hy e q
  unfold gIsN at e
  split at e
  · cases e
    cases hy
    refine ⟨rfl, q _ H (.refl H) ?_⟩
    cases hx <;> exact .bl _
  · cases e
theorem s_notN : OpS K (fun x y H Q => y = .non ∧ Q (.bl (!decide (x = .non))) H) gNotN := by
  intro N L H x y dx dy dz Q A hx hy e q
  unfold gNotN at e
  split at e
  · cases e
    cases hy
    refine ⟨rfl, q _ H (.refl H) ?_⟩
    cases hx <;> exact .bl _
  · cases e
/-! texts compared -/
def gEqS : G2 := fun x y => match x, y with
  | .str a, .str b => some (.bool (decide (a = b)))
  | _, _ => none
def gNeS : G2 := fun x y => match x, y with
  | .str a, .str b => some (.bool (!decide (a = b)))
  | _, _ => none
theorem dec_strs (a b : Str) : decide (V.str a = V.str b) = decide (a = b) := by
  apply Bool.eq_iff_iff.mpr
  simp
theorem s_eqS : OpS K rEq gEqS := by
  intro N L H x y dx dy dz Q A hx hy e q
  unfold gEqS at e
  split at e
  · cases e
    cases hx
    cases hy
    exact ⟨rfl, by rw [dec_strs]; exact q _ H (.refl H) (.bl _)⟩
  · cases e
theorem s_neS : OpS K rNe gNeS := by
  intro N L H x y dx dy dz Q A hx hy e q
  unfold gNeS at e
  split at e
  · cases e
    cases hx
    cases hy
    exact ⟨rfl, by rw [dec_strs]; exact q _ H (.refl H) (.bl _)⟩
  · cases e
def rEqA (K : PySem.W.Frag) : R2 := fun x y H Q => rEq x y H Q ∨ rEqD K x y H Q
def rNeA (K : PySem.W.Frag) : R2 := fun x y H Q => rNe x y H Q ∨ rNeD K x y H Q
def gEqA : G2 := gOr gEqS gEq
def gNeA : G2 := gOr gNeS gNe
theorem s_eqA : OpS K (rEqA K) gEqA := ops_or s_eqS s_eq
theorem s_neA : OpS K (rNeA K) gNeA := ops_or s_neS s_ne
theorem o_eqA (hu : X.A.units + 64 < cLine) : OpR X (compareOp .Eq) (rEqA X.K) := op_eq.or (op_eqD hu)
theorem o_neA (hu : X.A.units + 64 < cLine) : OpR X (compareOp .NotEq) (rNeA X.K) := op_ne.or (op_neD hu)
end
end Dv

/-! Dv: tests, subscripts, slices, calls of what is built in. -/
namespace Dv
open PySem PySem.Spec PyProof.Rows L2

section
variable {K : PySem.W.Frag} {ta tb tc : TE} {fa fb fc : D1} {t u : TT} {ft fu : B1}
/-! ### tests -/
def fT (fa : D1) : B1 := fun ρ => match fa ρ with
  | some (.bool b, ρ1) => some (b, ρ1)
  | _ => none
theorem sem_tB (h : SemE K ta fa) : SemT K (tB ta) (fT fa) := by
  intro G L ρ σ H Q d ρ' R e q
  unfold fT at e
  split at e
  · rename_i b ρ1 e1
    cases e
    refine h G L ρ σ H _ _ ρ' R e1 fun v H1 L1 s1 R1 w1 r1 => ?_
    exact ⟨d, r1.bl_of, q H1 L1 s1 R1 w1⟩
  · cases e
theorem sem_tTest (h : SemE K ta fa) : SemT K (tTest ta) (fT fa) := sem_tB h
def fAndT (ft fu : B1) : B1 := fun ρ => match ft ρ with
  | some (true, ρ1) => fu ρ1
  | some (false, ρ1) => some (false, ρ1)
  | none => none
def fOrT (ft fu : B1) : B1 := fun ρ => match ft ρ with
  | some (true, ρ1) => some (true, ρ1)
  | some (false, ρ1) => fu ρ1
  | none => none
def fNotT (ft : B1) : B1 := fun ρ => match ft ρ with
  | some (b, ρ1) => some (!b, ρ1)
  | none => none
theorem sem_andT (h : SemT K t ft) (g : SemT K u fu) : SemT K (tAnd t u) (fAndT ft fu) := by
  intro G L ρ σ H Q d ρ' R e q
  unfold fAndT at e
  split at e
  · rename_i ρ1 e1
    refine h G L ρ σ H _ _ ρ1 R e1 fun H1 L1 s1 R1 w1 => ?_
    rw [if_pos rfl]
    exact g G L1 ρ1 σ H1 _ _ ρ' R1 e fun H2 L2' s2 R2 w2 => q H2 L2' (s2.trans s1) R2 (w1.trans w2 s1)
  · rename_i ρ1 e1
    cases e
    refine h G L ρ σ H _ _ ρ' R e1 fun H1 L1 s1 R1 w1 => ?_
    rw [if_neg (by simp)]
    exact q H1 L1 s1 R1 w1
  · cases e
theorem sem_orT (h : SemT K t ft) (g : SemT K u fu) : SemT K (tOr t u) (fOrT ft fu) := by
  intro G L ρ σ H Q d ρ' R e q
  unfold fOrT at e
  split at e
  · rename_i ρ1 e1
    cases e
    refine h G L ρ σ H _ _ ρ' R e1 fun H1 L1 s1 R1 w1 => ?_
    rw [if_pos rfl]
    exact q H1 L1 s1 R1 w1
  · rename_i ρ1 e1
    refine h G L ρ σ H _ _ ρ1 R e1 fun H1 L1 s1 R1 w1 => ?_
    rw [if_neg (by simp)]
    exact g G L1 ρ1 σ H1 _ _ ρ' R1 e fun H2 L2' s2 R2 w2 => q H2 L2' (s2.trans s1) R2 (w1.trans w2 s1)
  · cases e
theorem sem_notT (h : SemT K t ft) : SemT K (tNot t) (fNotT ft) := by
  intro G L ρ σ H Q d ρ' R e q
  unfold fNotT at e
  split at e
  · rename_i b ρ1 e1
    cases e
    exact h G L ρ σ H _ _ ρ' R e1 fun H1 L1 s1 R1 w1 => q H1 L1 s1 R1 w1
  · cases e
/-- and, or, not as values -/
def fAndV (fa fb : D1) : D1 := fun ρ => match fa ρ with
  | some (.bool true, ρ1) => fb ρ1
  | some (.bool false, ρ1) => some (.bool false, ρ1)
  | _ => none
def fOrV (fa fb : D1) : D1 := fun ρ => match fa ρ with
  | some (.bool true, ρ1) => some (.bool true, ρ1)
  | some (.bool false, ρ1) => fb ρ1
  | _ => none
def fNotV (fa : D1) : D1 := fun ρ => match fa ρ with
  | some (.bool b, ρ1) => some (.bool (!b), ρ1)
  | _ => none
theorem sem_andV (h : SemE K ta fa) (g : SemE K tb fb) : SemE K (tAndV ta tb) (fAndV fa fb) := by
  intro G L ρ σ H Q d ρ' R e q
  unfold fAndV at e
  split at e
  · rename_i ρ1 e1
    refine h G L ρ σ H _ _ ρ1 R e1 fun v H1 L1 s1 R1 w1 r1 => ⟨true, r1.bl_of, ?_⟩
    rw [if_pos rfl]
    exact g G L1 ρ1 σ H1 _ _ ρ' R1 e fun v2 H2 L2' s2 R2 w2 r2 => q v2 H2 L2' (s2.trans s1) R2 (w1.trans w2 s1) r2
  · rename_i ρ1 e1
    cases e
    refine h G L ρ σ H _ _ ρ' R e1 fun v H1 L1 s1 R1 w1 r1 => ⟨false, r1.bl_of, ?_⟩
    rw [if_neg (by simp)]
    exact q _ H1 L1 s1 R1 w1 (.bl false)
  · cases e
theorem sem_orV (h : SemE K ta fa) (g : SemE K tb fb) : SemE K (tOrV ta tb) (fOrV fa fb) := by
  intro G L ρ σ H Q d ρ' R e q
  unfold fOrV at e
  split at e
  · rename_i ρ1 e1
    cases e
    refine h G L ρ σ H _ _ ρ' R e1 fun v H1 L1 s1 R1 w1 r1 => ⟨true, r1.bl_of, ?_⟩
    rw [if_pos rfl]
    exact q _ H1 L1 s1 R1 w1 (.bl true)
  · rename_i ρ1 e1
    refine h G L ρ σ H _ _ ρ1 R e1 fun v H1 L1 s1 R1 w1 r1 => ⟨false, r1.bl_of, ?_⟩
    rw [if_neg (by simp)]
    exact g G L1 ρ1 σ H1 _ _ ρ' R1 e fun v2 H2 L2' s2 R2 w2 r2 => q v2 H2 L2' (s2.trans s1) R2 (w1.trans w2 s1) r2
  · cases e
theorem sem_notV (h : SemE K ta fa) : SemE K (tNotV ta) (fNotV fa) := by
  intro G L ρ σ H Q d ρ' R e q
  unfold fNotV at e
  split at e
  · rename_i b ρ1 e1
    cases e
    refine h G L ρ σ H _ _ ρ' R e1 fun v H1 L1 s1 R1 w1 r1 => ⟨b, r1.bl_of, ?_⟩
    exact q _ H1 L1 s1 R1 w1 (.bl _)
  · cases e
/-- a if t else b -/
def fIf (ft : B1) (fa fb : D1) : D1 := fun ρ => match ft ρ with
  | some (true, ρ1) => fa ρ1
  | some (false, ρ1) => fb ρ1
  | none => none
theorem sem_if (h : SemT K t ft) (ha : SemE K ta fa) (hb : SemE K tb fb) : SemE K (tIf t ta tb) (fIf ft fa fb) := by
  intro G L ρ σ H Q d ρ' R e q
  unfold fIf at e
  split at e
  · rename_i ρ1 e1
    refine h G L ρ σ H _ _ ρ1 R e1 fun H1 L1 s1 R1 w1 => ?_
    rw [if_pos rfl]
    exact ha G L1 ρ1 σ H1 _ _ ρ' R1 e fun v2 H2 L2' s2 R2 w2 r2 => q v2 H2 L2' (s2.trans s1) R2 (w1.trans w2 s1) r2
  · rename_i ρ1 e1
    refine h G L ρ σ H _ _ ρ1 R e1 fun H1 L1 s1 R1 w1 => ?_
    rw [if_neg (by simp)]
    exact hb G L1 ρ1 σ H1 _ _ ρ' R1 e fun v2 H2 L2' s2 R2 w2 r2 => q v2 H2 L2' (s2.trans s1) R2 (w1.trans w2 s1) r2
  · cases e
/-- a op b op' c -/
def fChain (g g' : G2) (fa fb fc : D1) : D1 := fun ρ => match fa ρ with
  | none => none
  | some (x, ρ1) => match fb ρ1 with
    | none => none
    | some (y, ρ2) => match g x y with
      | some (.bool true) => match fc ρ2 with
        | none => none
        | some (z, ρ3) => match g' y z with
          | none => none
          | some w => some (w, ρ3)
      | some (.bool false) => some (.bool false, ρ2)
      | _ => none
theorem sem_chain {r r' : R2} {g g' : G2} (ho : OpS K r g) (ho' : OpS K r' g') (ha : SemE K ta fa) (hb : SemE K tb fb) (hc : SemE K tc fc) : SemE K (tChain r r' ta tb tc) (fChain g g' fa fb fc) := by
  intro G L ρ σ H Q d ρ' R e q
  unfold fChain at e
  split at e
  · cases e
  rename_i x ρ1 e1
  split at e
  · cases e
  rename_i y ρ2 e2
  refine ha.two hb R e1 e2 fun vx vy H2 L2' s2 R2 w2 r1 r2 => ?_
  split at e
  · rename_i e3
    split at e
    · cases e
    rename_i z ρ3 e4
    split at e
    · cases e
    rename_i w e5
    cases e
    refine ho G.N L2' H2 vx vy x y _ _ R2.alloc (r1.tp hd_le) (r2.tp hd_le) e3 fun v H3 le r => ⟨true, r.bl_of, ?_⟩
    rw [if_pos rfl]
    refine hc G L2' ρ2 σ H3 _ z ρ' (R2.mono le) e4 fun vz H4 L4 s4 R4 w4 r4 => ?_
    have r2' := (r2.mono (hd_mono le)).mono (w4.hd s4)
    refine ho' G.N L4 H4 vy vz y z d Q R4.alloc (r2'.tp hd_le) (r4.tp hd_le) e5 fun v5 H5 le5 r5 => ?_
    exact q v5 H5 L4 (s4.trans s2) (R4.mono le5) ((w2.trans ((le.ew (L := L2'))) s2).trans (w4.trans (le5.ew (L := L4)) s4) s2) r5
  · rename_i e3
    cases e
    refine ho G.N L2' H2 vx vy x y _ _ R2.alloc (r1.tp hd_le) (r2.tp hd_le) e3 fun v H3 le r => ⟨false, r.bl_of, ?_⟩
    rw [if_neg (by simp)]
    exact q _ H3 L2' s2 (R2.mono le) (w2.trans (le.ew (L := L2')) s2) (.bl false)
  · cases e

/-! ### subscripts -/
def gIx : G2 := fun x y => match y with
  | .int i => match x with
    | .list xs => atI xs i
    | .tuple xs => atI xs i
    | .dict [(.none, .list xs)] => atI xs i
    | _ => none
  | _ => none
theorem RpA.atI {H : Hp} {vs : List V} {ds : List PyData} (h : RpA K H vs ds) {i : Int} {d : PyData} (e : L2.atI ds i = some d) : ∃ v, L2.atI vs i = some v ∧ Rp K H v d := by
  unfold L2.atI at e ⊢
  rw [h.len]
  cases e1 : ixN ds.length i with
  | none => rw [e1] at e; cases e
  | some j => rw [e1] at e; exact h.get (i := j) e
def rIxD (K : PySem.W.Frag) : R2 := fun x y H Q => rIxL K x y H Q ∨ rIxT K x y H Q
theorem s_ix : OpS K (rIxD K) gIx := by
  intro N L H x y dx dy dz Q A hx hy e q
  unfold gIx at e
  split at e
  · rename_i i
    have hy' := hy.int_of
    subst hy'
    split at e
    · cases hx with
      | lst h1 r1 =>
        obtain ⟨v, hv, rv⟩ := r1.atI e
        exact .inl ⟨_, _, i, v, rfl, rfl, .of h1, hv, q v H (.refl H) rv⟩
    · cases hx with
      | tup h1 hh1 r1 =>
        obtain ⟨v, hv, rv⟩ := r1.atI e
        exact .inr ⟨_, _, i, v, rfl, rfl, h1, hv, q v H (.refl H) rv⟩
    · rename_i xs
      generalize hg : PyData.dict [(.none, .list xs)] = dd at hx
      cases hx <;> try (cases hg; done)
      rename_i a ns h1
      cases hg
      obtain ⟨v, hv, rv⟩ := (RpA.of_ints (K := K) (H := hd N L H) ns).atI e
      exact .inl ⟨_, _, i, v, rfl, rfl, h1, hv, q v H (.refl H) rv⟩
    · cases e
  · cases e

/-! ### slices -/
def SemO (K : PySem.W.Frag) (t : TO) (f : REnv → Option (Option Int × REnv)) : Prop := ∀ (G : Ent) (L : List (Option Addr)) (ρ : REnv) (σ : L2.St) (H : Hp) (Q : Option Int → Hp → Prop) (d : Option Int) (ρ' : REnv),
  Rel K G L ρ σ H → f ρ = some (d, ρ') →
  (∀ H' L', LS L' L → Rel K G L' ρ' σ H' → Ew L H H' → Q d H') → t σ H Q
def fNo : REnv → Option (Option Int × REnv) := fun ρ => some (none, ρ)
def fPart (fa : D1) : REnv → Option (Option Int × REnv) := fun ρ => match fa ρ with
  | some (.int i, ρ1) => some (some i, ρ1)
  | _ => none
theorem sem_no : SemO K tNoPart fNo := by
  intro G L ρ σ H Q d ρ' R e q
  cases e
  exact q H L (.refl L) R (.refl L H)
theorem sem_part (h : SemE K ta fa) : SemO K (tPart ta) (fPart fa) := by
  intro G L ρ σ H Q d ρ' R e q
  unfold fPart at e
  split at e
  · rename_i i ρ1 e1
    cases e
    refine h G L ρ σ H _ _ ρ' R e1 fun v H1 L1 s1 R1 w1 r1 => ?_
    exact ⟨i, r1.int_of, q H1 L1 s1 R1 w1⟩
  · cases e
def cutA {α : Type} (xs : List α) (lo hi : Option Int) : List α := (xs.drop (HT.sIx xs.length 0 lo)).take (HT.sIx xs.length xs.length hi - HT.sIx xs.length 0 lo)
theorem RpA.cut {H : Hp} {vs : List V} {ds : List PyData} (h : RpA K H vs ds) (lo hi : Option Int) : RpA K H (cutV vs lo hi) (cutA ds lo hi) := by
  unfold cutV cutA
  rw [h.len]
  exact (h.drop _).take _
def gSl (x : PyData) (lo hi : Option Int) : Option PyData := match x with
  | .list xs => some (.list (cutA xs lo hi))
  | .tuple xs => some (.tuple (cutA xs lo hi))
  | .dict [(.none, .list xs)] => some (.list (cutA xs lo hi))
  | _ => none
def rSlD (K : PySem.W.Frag) : V → Option Int → Option Int → Hp → VK → Prop := fun x lo hi H Q => rSlL K x lo hi H Q ∨ rSlA K x lo hi H Q
theorem cutA_whole {α : Type} {xs : List α} {lo hi : Option Int} (h : HT.sIx xs.length 0 lo = 0 ∧ HT.sIx xs.length xs.length hi = xs.length) : cutA xs lo hi = xs := by
  unfold cutA
  rw [h.1, h.2]
  simp
theorem sl_ok {N : Addr → Prop} {L : List (Option Addr)} {H : Hp} {x : V} {dx dz : PyData} {lo hi : Option Int} {Q : VK} (A : Alloc N L H) (hx : Tp K H (hd N L H) x dx) (e : gSl dx lo hi = some dz)
    (q : ∀ v H', Le H H' → Rp K (hd N L H') v dz → Q v H') : rSlD K x lo hi H Q := by
  unfold gSl at e
  split at e
  · cases e
    cases hx with
    | lst h1 r1 =>
      refine .inl ⟨_, _, rfl, .of h1, fun p hp => ?_⟩
      exact q _ _ (Le.new hp) (.lst (A.new hp) ((r1.cut lo hi).mono (hd_mono (Le.new hp))))
  · cases e
    cases hx with
    | tup h1 hh1 r1 =>
      refine .inr ⟨_, _, rfl, h1, fun w => ?_, fun _ p hp => ?_⟩
      · rw [r1.len] at w
        rw [cutA_whole w] at q
        exact q _ H (.refl H) (.tup hh1 r1)
      · exact q _ _ (Le.new hp) (.tup (.of (A.new hp)) ((r1.cut lo hi).mono (hd_mono (Le.new hp))))
  · rename_i xs
    cases e
    generalize hg : PyData.dict [(.none, .list xs)] = dd at hx
    cases hx <;> try (cases hg; done)
    rename_i a ns h1
    cases hg
    refine .inl ⟨_, _, rfl, h1, fun p hp => ?_⟩
    exact q _ _ (Le.new hp) (.lst (A.new hp) (((RpA.of_ints (K := K) (H := hd N L H) ns).cut lo hi).mono (hd_mono (Le.new hp))))
  · cases e
def fSl (fa : D1) (fl fh : REnv → Option (Option Int × REnv)) : D1 := fun ρ => match fa ρ with
  | none => none
  | some (x, ρ1) => match fl ρ1 with
    | none => none
    | some (lo, ρ2) => match fh ρ2 with
      | none => none
      | some (hi, ρ3) => match gSl x lo hi with
        | none => none
        | some z => some (z, ρ3)
theorem sem_sl {tl th : TO} {fl fh : REnv → Option (Option Int × REnv)} (ha : SemE K ta fa) (hl : SemO K tl fl) (hh : SemO K th fh) : SemE K (tSl (rSlD K) ta tl th) (fSl fa fl fh) := by
  intro G L ρ σ H Q d ρ' R e q
  unfold fSl at e
  split at e
  · cases e
  rename_i x ρ1 e1
  split at e
  · cases e
  rename_i lo ρ2 e2
  split at e
  · cases e
  rename_i hi ρ3 e3
  split at e
  · cases e
  rename_i z e4
  cases e
  refine ha G L ρ σ H _ _ ρ1 R e1 fun v H1 L1 s1 R1 w1 r1 => ?_
  refine hl G L1 ρ1 σ H1 _ _ ρ2 R1 e2 fun H2 L2' s2 R2 w2 => ?_
  refine hh G L2' ρ2 σ H2 _ _ ρ' R2 e3 fun H3 L3 s3 R3 w3 => ?_
  have r3 := (r1.mono (w2.hd s2)).mono (w3.hd s3)
  refine sl_ok R3.alloc (r3.tp hd_le) e4 fun v4 H4 le4 r4 => ?_
  exact q v4 H4 L3 ((s3.trans s2).trans s1) (R3.mono le4) (w1.trans (w2.trans (w3.trans (le4.ew (L := L3)) s3) s2) s1) r4
end
section
variable {X : Cx}
theorem ix_d : IxR X (rIxD X.K) := ix_list.or ix_tup
theorem sl_d : SlR X (rSlD X.K) := sl_list.or sl_tupA
end
end Dv

/-! Dv: calls of what is built in. -/
namespace Dv
open PySem PySem.Spec PyProof.Rows L2

inductive TpA (K : PySem.W.Frag) (H Hh : Hp) : List V → List PyData → Prop
  | nil : TpA K H Hh [] []
  | cons {v : V} {vs : List V} {d : PyData} {ds : List PyData} (h : Tp K H Hh v d) (t : TpA K H Hh vs ds) : TpA K H Hh (v :: vs) (d :: ds)
theorem RpA.tp {K : PySem.W.Frag} {H Hh : Hp} (e : Le Hh H) : ∀ {vs : List V} {ds : List PyData}, RpA K Hh vs ds → TpA K H Hh vs ds
  | _, _, .nil => .nil
  | _, _, .cons h t => .cons (h.tp e) (t.tp e)
abbrev GN := List PyData → Option PyData
def CallS (K : PySem.W.Frag) (r : List V → Hp → VK → Prop) (g : GN) : Prop := ∀ (N : Addr → Prop) (L : List (Option Addr)) (H : Hp) (vs : List V) (ds : List PyData) (dz : PyData) (Q : VK), Alloc N L H →
  TpA K H (hd N L H) vs ds → g ds = some dz → (∀ v H', Le H H' → Rp K (hd N L H') v dz → Q v H') → r vs H Q
def fCB (g : GN) (fa : A1) : D1 := fun ρ => match fa ρ with
  | none => none
  | some (xs, ρ1) => match g xs with
    | none => none
    | some z => some (z, ρ1)
section
variable {K : PySem.W.Frag}
theorem sem_cb {r : List V → Hp → VK → Prop} {g : GN} {t : TA} {f : A1} (ho : CallS K r g) (h : SemA K t f) : SemE K (tCB r t) (fCB g f) := by
  intro G L ρ σ H Q d ρ' R e q
  unfold fCB at e
  split at e
  · cases e
  rename_i xs ρ1 e1
  split at e
  · cases e
  rename_i z e2
  cases e
  refine h G L ρ σ H _ _ ρ' R e1 fun vs H1 L1 s1 R1 w1 r1 => ?_
  refine ho G.N L1 H1 vs xs d Q R1.alloc (r1.tp hd_le) e2 fun v H2 le r2 => ?_
  exact q v H2 L1 s1 (R1.mono le) (w1.trans (le.ew (L := L1)) s1) r2
/-- of one's own list alone -/
theorem sem_cbO {r : List V → Hp → VK → Prop} {g : GN} (ho : CallS K r g) (i : Nat) : SemE K (tCB r (tCons (tVar i) tNil)) (fOU (fun x => g [x]) i) := by
  intro G L ρ σ H Q d ρ' R e q
  unfold fOU at e
  split at e
  · cases e
  rename_i ds e2
  split at e
  · cases e
  rename_i z e4
  cases e
  obtain ⟨v', h1, h2⟩ := R.tpOwn e2
  refine ⟨v', h1, ho G.N L H [v'] _ d Q R.alloc (.cons h2 .nil) e4 fun w H3 le r => ?_⟩
  exact q w H3 L (.refl L) (R.mono le) (le.ew (L := L)) r

/-! ### len, all, any, tuple, list, min, max, abs, int, sum, divmod -/
def gLen : GN := fun xs => match xs with
  | [.list ds] => some (.int ds.length)
  | [.tuple ds] => some (.int ds.length)
  | [.dict [(.none, .list ds)]] => some (.int ds.length)
  | _ => none
def rLenD (K : PySem.W.Frag) : List V → Hp → VK → Prop := fun xs H Q => ∃ p ys, xs = [.ref p] ∧ (SqL K H p ys ∨ SqT K H p ys) ∧ Q (.int ys.length) H
theorem scr_of {H Hh : Hp} {v : V} {xs : List PyData} (h : Tp K H Hh v (.dict [(.none, .list xs)])) : ∃ (a : Addr) (ns : List Int), v = .ref a ∧ xs = ns.map .int ∧ SqL K H a (ns.map V.int) := by
  generalize hg : PyData.dict [(.none, .list xs)] = dd at h
  cases h <;> try (cases hg; done)
  rename_i a ns h1
  cases hg
  exact ⟨a, ns, rfl, rfl, h1⟩
theorem s_len : CallS K (rLenD K) gLen := by
  intro N L H vs ds dz Q A h e q
  unfold gLen at e
  split at e
  · cases e
    cases h with
    | cons h t =>
      cases t
      cases h with
      | lst h1 r1 => exact ⟨_, _, rfl, .inl (.of h1), by rw [r1.len]; exact q _ H (.refl H) (.int _)⟩
  · cases e
    cases h with
    | cons h t =>
      cases t
      cases h with
      | tup h1 hh1 r1 => exact ⟨_, _, rfl, .inr h1, by rw [r1.len]; exact q _ H (.refl H) (.int _)⟩
  · cases e
    cases h with
    | cons h t =>
      cases t
      obtain ⟨a, ns, rfl, rfl, h1⟩ := scr_of h
      refine ⟨_, _, rfl, .inl h1, ?_⟩
      have := q (.int ((ns.map V.int).length : Nat)) H (.refl H)
      simp only [List.length_map] at this ⊢
      exact this (.int _)
  · cases e
/-- the bools of a row of data -/
def blsOf : List PyData → Option (List Bool)
  | [] => some []
  | .bool i :: r => match blsOf r with
    | some ns => some (i :: ns)
    | none => none
  | _ => none
theorem blsOf_some : ∀ {ds : List PyData} {ns : List Bool}, blsOf ds = some ns → ds = ns.map .bool
  | [], ns, h => by cases h; rfl
  | .bool i :: r, ns, h => by
    unfold blsOf at h
    split at h
    · rename_i ms e
      cases h
      rw [blsOf_some e]; rfl
    · cases h
  | .none :: _, _, h => by simp [blsOf] at h
  | .int _ :: _, _, h => by simp [blsOf] at h
  | .str _ :: _, _, h => by simp [blsOf] at h
  | .list _ :: _, _, h => by simp [blsOf] at h
  | .tuple _ :: _, _, h => by simp [blsOf] at h
  | .dict _ :: _, _, h => by simp [blsOf] at h
theorem blsOf_map : ∀ ns : List Bool, blsOf (ns.map .bool) = some ns
  | [] => rfl
  | n :: ns => by show (match blsOf (ns.map .bool) with | some ms => some (n :: ms) | none => none) = _; rw [blsOf_map ns]
def gAll : GN := fun xs => match xs with
  | [.list ds] => match blsOf ds with
    | some bs => some (.bool (bs.all id))
    | none => none
  | _ => none
def gAny : GN := fun xs => match xs with
  | [.list ds] => match blsOf ds with
    | some bs => some (.bool (bs.any id))
    | none => none
  | _ => none
theorem s_all : CallS K (rAll K) gAll := by
  intro N L H vs ds dz Q A h e q
  unfold gAll at e
  split at e
  · split at e
    · rename_i bs e1
      cases e
      cases h with
      | cons h t =>
        cases t
        cases h with
        | lst h1 r1 =>
          have z := blsOf_some e1
          subst z
          have v := r1.bls
          subst v
          exact ⟨_, bs, rfl, .of h1, q _ H (.refl H) (.bl _)⟩
    · cases e
  · cases e
theorem s_any : CallS K (rAny K) gAny := by
  intro N L H vs ds dz Q A h e q
  unfold gAny at e
  split at e
  · split at e
    · rename_i bs e1
      cases e
      cases h with
      | cons h t =>
        cases t
        cases h with
        | lst h1 r1 =>
          have z := blsOf_some e1
          subst z
          have v := r1.bls
          subst v
          exact ⟨_, bs, rfl, .of h1, q _ H (.refl H) (.bl _)⟩
    · cases e
  · cases e
def gTuple : GN := fun xs => match xs with
  | [.list ds] => some (.tuple ds)
  | [.tuple ds] => some (.tuple ds)
  | _ => none
def rTupD (K : PySem.W.Frag) : List V → Hp → VK → Prop := fun xs H Q => ∃ p ys, xs = [.ref p] ∧ ((SqL K H p ys ∧ ∀ l, H l = none → Q (.ref l) (upd H l (.tup ys))) ∨ (SqT K H p ys ∧ Q (.ref p) H))
theorem s_tuple : CallS K (rTupD K) gTuple := by
  intro N L H vs ds dz Q A h e q
  unfold gTuple at e
  split at e
  · cases e
    cases h with
    | cons h t =>
      cases t
      cases h with
      | lst h1 r1 => exact ⟨_, _, rfl, .inl ⟨.of h1, fun l hl => q _ _ (Le.new hl) (.tup (.of (A.new hl)) (r1.mono (hd_mono (Le.new hl))))⟩⟩
  · cases e
    cases h with
    | cons h t =>
      cases t
      cases h with
      | tup h1 hh1 r1 => exact ⟨_, _, rfl, .inr ⟨h1, q _ H (.refl H) (.tup hh1 r1)⟩⟩
  · cases e
def CallF (K : PySem.W.Frag) (r : List V → Hp → VK → Prop) (g : List PyData → Option (List PyData)) : Prop := ∀ (N : Addr → Prop) (L : List (Option Addr)) (H : Hp) (vs : List V) (ds : List PyData) (dz : List PyData) (Q : VK), Alloc N L H →
  TpA K H (hd N L H) vs ds → g ds = some dz → (∀ p ws, H p = none → RpA K (hd N L H) ws dz → Q (.ref p) (upd H p (.lst ws))) → r vs H Q
def fCBF (g : List PyData → Option (List PyData)) (fa : A1) : A1 := fun ρ => match fa ρ with
  | none => none
  | some (xs, ρ1) => match g xs with
    | none => none
    | some z => some (z, ρ1)
theorem semF_cb {r : List V → Hp → VK → Prop} {g : List PyData → Option (List PyData)} {t : TA} {f : A1} (ho : CallF K r g) (h : SemA K t f) : SemF K (tCB r t) (fCBF g f) := by
  intro G L ρ σ H Q d ρ' R e q
  unfold fCBF at e
  split at e
  · cases e
  rename_i xs ρ1 e1
  split at e
  · cases e
  rename_i z e2
  cases e
  refine h G L ρ σ H _ _ ρ' R e1 fun vs H1 L1 s1 R1 w1 r1 => ?_
  refine ho G.N L1 H1 vs xs d Q R1.alloc (r1.tp hd_le) e2 fun p ws hp r2 => ?_
  exact q p ws _ L1 s1 (w1.free hp) upd_same (R1.hide hp) (w1.trans ((Le.new hp).ew (L := L1)) s1) (r2.mono (hd_hide hp))
def gList : List PyData → Option (List PyData) := fun xs => match xs with
  | [.list ds] => some ds
  | [.tuple ds] => some ds
  | _ => none
def rListD (K : PySem.W.Frag) : List V → Hp → VK → Prop := fun xs H Q => ∃ p ys, xs = [.ref p] ∧ (SqL K H p ys ∨ SqT K H p ys) ∧ ∀ l, H l = none → Q (.ref l) (upd H l (.lst ys))
theorem sF_list : CallF K (rListD K) gList := by
  intro N L H vs ds dz Q A h e q
  unfold gList at e
  split at e
  · cases e
    cases h with
    | cons h t =>
      cases t
      cases h with
      | lst h1 r1 => exact ⟨_, _, rfl, .inl (.of h1), fun l hl => q l _ hl r1⟩
  · cases e
    cases h with
    | cons h t =>
      cases t
      cases h with
      | tup h1 hh1 r1 => exact ⟨_, _, rfl, .inr h1, fun l hl => q l _ hl r1⟩
  · cases e
def gMin2 : GN := fun xs => match xs with
  | [.int i, .int j] => some (.int (if j < i then j else i))
  | _ => none
def gMax2 : GN := fun xs => match xs with
  | [.int i, .int j] => some (.int (if j > i then j else i))
  | _ => none
theorem s_min2 : CallS K (fun xs H Q => ∃ i j, xs = [.int i, .int j] ∧ Q (.int (if j < i then j else i)) H) gMin2 := by
  intro N L H vs ds dz Q A h e q
  unfold gMin2 at e
  split at e
  · cases e
    cases h with
    | cons h t =>
      cases t with
      | cons h2 t2 =>
        cases t2
        rw [h.int_of, h2.int_of]
        exact ⟨_, _, rfl, q _ H (.refl H) (.int _)⟩
  · cases e
theorem s_max2 : CallS K (fun xs H Q => ∃ i j, xs = [.int i, .int j] ∧ Q (.int (if j > i then j else i)) H) gMax2 := by
  intro N L H vs ds dz Q A h e q
  unfold gMax2 at e
  split at e
  · cases e
    cases h with
    | cons h t =>
      cases t with
      | cons h2 t2 =>
        cases t2
        rw [h.int_of, h2.int_of]
        exact ⟨_, _, rfl, q _ H (.refl H) (.int _)⟩
  · cases e
def gAbs : GN := fun xs => match xs with
  | [.int i] => some (.int (if i < 0 then -i else i))
  | _ => none
theorem s_abs : CallS K (fun xs H Q => ∃ i, xs = [.int i] ∧ Q (.int (if i < 0 then -i else i)) H) gAbs := by
  intro N L H vs ds dz Q A h e q
  unfold gAbs at e
  split at e
  · cases e
    cases h with
    | cons h t =>
      cases t
      rw [h.int_of]
      exact ⟨_, rfl, q _ H (.refl H) (.int _)⟩
  · cases e
def gInt : GN := fun xs => match xs with
  | [.int i] => some (.int i)
  | [.bool k] => some (.int (if k then 1 else 0))
  | _ => none
theorem s_int : CallS K (fun xs H Q => (∃ i, xs = [.int i] ∧ Q (.int i) H) ∨ ∃ k, xs = [.bl k] ∧ Q (.int (if k then 1 else 0)) H) gInt := by
  intro N L H vs ds dz Q A h e q
  unfold gInt at e
  split at e
  · cases e
    cases h with
    | cons h t =>
      cases t
      rw [h.int_of]
      exact .inl ⟨_, rfl, q _ H (.refl H) (.int _)⟩
  · cases e
    cases h with
    | cons h t =>
      cases t
      rw [h.bl_of]
      exact .inr ⟨_, rfl, q _ H (.refl H) (.int _)⟩
  · cases e
def gDivmod : GN := fun xs => match xs with
  | [.int i, .int j] => if 0 < j ∧ j < 1073741824 then some (.tuple [.int (i / j), .int (i % j)]) else none
  | _ => none
theorem s_divmod : CallS K (fun xs H Q => ∃ i j, xs = [.int i, .int j] ∧ CDiv i j ∧ ∀ p, H p = none → Q (.ref p) (upd H p (.tup [.int (i / j), .int (i % j)]))) gDivmod := by
  intro N L H vs ds dz Q A h e q
  unfold gDivmod at e
  split at e
  · split at e
    · rename_i hc
      cases e
      cases h with
      | cons h t =>
        cases t with
        | cons h2 t2 =>
          cases t2
          rw [h.int_of, h2.int_of]
          exact ⟨_, _, rfl, hc, fun p hp => q _ _ (Le.new hp) (.tup (.of (A.new hp)) (.cons (.int _) (.cons (.int _) .nil)))⟩
    · cases e
  · cases e
def gSum : GN := fun xs => match xs with
  | [.list ds] => match intsOf ds with
    | some ns => some (.int ns.sum)
    | none => none
  | _ => none
theorem s_sum : CallS K (rSum K) gSum := by
  intro N L H vs ds dz Q A h e q
  unfold gSum at e
  split at e
  · split at e
    · rename_i bs e1
      cases e
      cases h with
      | cons h t =>
        cases t
        cases h with
        | lst h1 r1 =>
          have z := intsOf_some e1
          subst z
          have v := r1.ints
          subst v
          exact ⟨_, bs, rfl, .of h1, q _ H (.refl H) (.int _)⟩
    · cases e
  · cases e

/-! ### isinstance -/
def tyName : PyData → Option String
  | .none => some "NoneType"
  | .bool _ => some "bool"
  | .int _ => some "int"
  | .str _ => some "str"
  | .list _ => some "list"
  | .tuple _ => some "tuple"
  | .dict [] => some "dict"
  | .dict _ => none
theorem tp_ty {H Hh : Hp} {v : V} {d : PyData} {n : String} (h : Tp K H Hh v d) (e : tyName d = some n) : TyX K H v (.type n) := by
  cases h with
  | non => cases e; exact .base .non
  | bl b => cases e; exact .base (.bl b)
  | int i => cases e; exact .base (.int i)
  | str x => cases e; exact .base (.str x)
  | lst h r => cases e; exact .base (.lst h)
  | tup h hh r =>
    cases e
    rcases h with (h | ⟨o, h⟩) | ⟨o, its, n, h, hc, _⟩
    · exact .base (.tup h)
    · exact .fTuple h
    · exact .kTuple h hc
  | dic h => cases e; exact .base (.dK h)
  | scr h => cases e
/-- isinstance(x, T), T one of int, bool, tuple, list, str -/
def isTy (n T : String) : Bool := match n, T with
  | "bool", "int" => true
  | n, T => n == T
def fIsi (T : String) (fa : D1) : D1 := fun ρ => match fa ρ with
  | none => none
  | some (x, ρ1) => match tyName x with
    | none => none
    | some n => match kitB n T with
      | some b => some (.bool b, ρ1)
      | none => none
theorem sem_isi {ta : TE} {fa : D1} (T : String) (ha : SemE K ta fa) : SemE K (tCB (rIsi K) (tCons ta (tCons (tC (.ty T)) tNil))) (fIsi T fa) := by
  intro G L ρ σ H Q d ρ' R e q
  unfold fIsi at e
  split at e
  · cases e
  rename_i x ρ1 e1
  split at e
  · cases e
  rename_i n e2
  split at e
  · rename_i b e3
    cases e
    refine ha G L ρ σ H _ _ ρ' R e1 fun v H1 L1 s1 R1 w1 r1 => ?_
    exact ⟨v, .ty T, .type n, .type T, b, rfl, .ty T, tp_ty (r1.tp hd_le) e2, kit_ty e3, q _ H1 L1 s1 R1 w1 (.bl b)⟩
  · cases e

/-! ### repr of lists and tuples -/
def gRepr : GN := fun xs => match xs with
  | [d] => match d with
    | .list _ => if d.showable && d.canLay0 && decide (d.depth ≤ 60) && decide (d.shown.length ≤ sizeLine) then some (.str d.shown) else none
    | .tuple _ => if d.showable && d.canLay0 && decide (d.depth ≤ 60) && decide (d.shown.length ≤ sizeLine) then some (.str d.shown) else none
    | _ => none
  | _ => none
def rRepr (K : PySem.W.Frag) : List V → Hp → VK → Prop := fun xs H Q => ∃ a d, xs = [.ref a] ∧ Dp K H (.ref a) d ∧ d.showable = true ∧ d.canLay0 = true ∧ d.depth ≤ 60 ∧ d.shown.length ≤ sizeLine ∧ Q (.str d.shown) H
mutual
theorem noDict : ∀ {d : PyData}, d.canLay0 = true → d.hasDict = false
  | .none, _ => rfl
  | .bool _, _ => rfl
  | .int _, _ => rfl
  | .str _, _ => rfl
  | .list xs, h => by simp only [PyData.hasDict]; exact noDictA (by simpa [PyData.canLay0] using h)
  | .tuple xs, h => by simp only [PyData.hasDict]; exact noDictA (by simpa [PyData.canLay0] using h)
  | .dict _, h => by simp [PyData.canLay0] at h
theorem noDictA : ∀ {d : List PyData}, PyData.canLayAll0 d = true → PyData.hasDictAll d = false
  | [], _ => by simp only [PyData.hasDictAll]
  | x :: xs, h => by
    simp [PyData.canLayAll0] at h
    simp only [PyData.hasDictAll]
    rw [noDict h.1, noDictA h.2]; rfl
end
theorem s_repr : CallS K (rRepr K) gRepr := by
  intro N L H vs ds dz Q A h e q
  unfold gRepr at e
  split at e
  · rename_i d
    cases h with
    | cons h t =>
      cases t
      split at e
      · split at e
        · rename_i hc
          cases e
          simp only [Bool.and_eq_true, decide_eq_true_eq] at hc
          obtain ⟨⟨⟨h1, h2⟩, h3⟩, h4⟩ := hc
          have hd' := h.dp hd_le h2
          cases h with
          | lst h5 h6 => exact ⟨_, _, rfl, hd', h1, h2, h3, h4, q _ H (.refl H) (.str _)⟩
        · cases e
      · split at e
        · rename_i hc
          cases e
          simp only [Bool.and_eq_true, decide_eq_true_eq] at hc
          obtain ⟨⟨⟨h1, h2⟩, h3⟩, h4⟩ := hc
          have hd' := h.dp hd_le h2
          cases h with
          | tup h5 h6 h7 => exact ⟨_, _, rfl, hd', h1, h2, h3, h4, q _ H (.refl H) (.str _)⟩
        · cases e
      · cases e
  · cases e
end
section
variable {X : Cx}
theorem c_repr (c : Cl0 X.A) (hu : X.A.units + 64 < cLine) : CallR X (.builtin "repr") (rRepr X.K) := by
  intro pins s σ H xs us Q I r h
  obtain ⟨a, d, rfl, hd', h1, h2, h3, h4, q⟩ := h
  obtain ⟨u, rfl, ru⟩ := vals1 r
  obtain ⟨as, rd⟩ := Dp.reads I d _ u hd' ru
  cases ru
  refine repr_of_reads' rd h1 (fun z => ?_) c (by omega) (fun _ _ e => e) (fun h' u tk hk => ?_) h4
  · rw [noDict h2] at z; cases z
  · exact ⟨.str d.shown, H, I.kept (t' := tk) hk, ⟨u, rfl⟩, q⟩
theorem c_len : CallR X (.builtin "len") (rLenD X.K) := call_len_seq
theorem c_tuple : CallR X (.type "tuple") (rTupD X.K) := call_tuple_of
theorem c_list : CallR X (.type "list") (rListD X.K) := call_list_of
end
end Dv

/-! Dv: statements, targets, loops. -/
namespace Dv
open PySem PySem.Spec PyProof.Rows L2

/-- what a def hands back: data, or a list that none else holds -/
inductive Ret where
  | pl (d : PyData)
  | fr (ds : List PyData)
inductive Fl where
  | nx
  | rt (r : Ret)
  | bk
  | ct
abbrev S1 := REnv → Option (Fl × REnv)
/-- from one state to a later one -/
structure Gr (L : List (Option Addr)) (H : Hp) (L' : List (Option Addr)) (H' : Hp) : Prop where
  ew : Ew L H H'
  nw : ∀ a, some a ∈ L' → some a ∈ L ∨ H a = none
theorem Gr.refl (L : List (Option Addr)) (H : Hp) : Gr L H L H := ⟨.refl L H, fun _ h => .inl h⟩
theorem Gr.trans {L L1 L2' : List (Option Addr)} {H H1 H2 : Hp} (a : Gr L H L1 H1) (b : Gr L1 H1 L2' H2) : Gr L H L2' H2 where
  ew := ⟨fun c o n e => b.ew.1 c o (fun m => (a.nw c m).elim n fun z => by rw [e] at z; cases z) (a.ew.1 c o n e), fun c o e => by obtain ⟨u, e1⟩ := a.ew.2 c o e; exact b.ew.2 c u e1⟩
  nw := fun c m => (b.nw c m).elim (a.nw c) fun z => .inr (a.ew.free z)
theorem Gr.of {L L' : List (Option Addr)} {H H' : Hp} (w : Ew L H H') (s : LS L' L) : Gr L H L' H' := ⟨w, fun _ m => .inl (s.mem m)⟩
theorem Gr.hd {N : Addr → Prop} {L L' : List (Option Addr)} {H H' : Hp} (g : Gr L H L' H') : Le (Dv.hd N L H) (Dv.hd N L' H') := fun b o h => by
  obtain ⟨h1, h2, h3⟩ := hd_some.mp h
  have hn : some b ∉ L' := fun m => (g.nw b m).elim h2 fun z => by rw [h3] at z; cases z
  exact hd_some.mpr ⟨h1, hn, g.ew.1 b o h2 h3⟩
def EndOk (K : PySem.W.Frag) (G : Ent) (L : List (Option Addr)) (H : Hp) (D : Ends) (ρ' : REnv) : Fl → Prop
  | .nx => ∀ L' σ' H', Rel K G L' ρ' σ' H' → Gr L H L' H' → D.nx σ' H'
  | .bk => ∀ L' σ' H', Rel K G L' ρ' σ' H' → Gr L H L' H' → D.bk σ' H'
  | .ct => ∀ L' σ' H', Rel K G L' ρ' σ' H' → Gr L H L' H' → D.ct σ' H'
  | .rt (.pl d) => ∀ L' σ' H' v, Rel K G L' ρ' σ' H' → Gr L H L' H' → Rp K (hd G.N L' H') v d → D.rt v H'
  | .rt (.fr ds) => ∀ L' σ' H' p vs, Rel K (G.hide p) L' ρ' σ' H' → Gr L H L' H' → H p = none → H' p = some (.lst vs) → RpA K (hd (G.hide p).N L' H') vs ds → D.rt (.ref p) H'
theorem EndOk.le {K : PySem.W.Frag} {G : Ent} {L L1 : List (Option Addr)} {H H1 : Hp} {D : Ends} {ρ' : REnv} {fl : Fl} (h : EndOk K G L H D ρ' fl) (g : Gr L H L1 H1) : EndOk K G L1 H1 D ρ' fl := by
  cases fl with
  | nx => exact fun L' σ' H' R g' => h L' σ' H' R (g.trans g')
  | bk => exact fun L' σ' H' R g' => h L' σ' H' R (g.trans g')
  | ct => exact fun L' σ' H' R g' => h L' σ' H' R (g.trans g')
  | rt r =>
    cases r with
    | pl d => exact fun L' σ' H' v R g' => h L' σ' H' v R (g.trans g')
    | fr ds => exact fun L' σ' H' p vs R g' hp => h L' σ' H' p vs R (g.trans g') (g.ew.free hp)
def SemS (K : PySem.W.Frag) (t : TS) (f : S1) : Prop := ∀ (G : Ent) (L : List (Option Addr)) (ρ : REnv) (σ : L2.St) (H : Hp) (D : Ends) (fl : Fl) (ρ' : REnv),
  Rel K G L ρ σ H → f ρ = some (fl, ρ') → EndOk K G L H D ρ' fl → t D σ H
structure SS (K : PySem.W.Frag) (X : Cx) (st : Stmt) (t : TS) (f : S1) : Prop where
  pe : PS X st t
  sem : SemS K t f
structure SSs (K : PySem.W.Frag) (X : Cx) (st : List Stmt) (t : TS) (f : S1) : Prop where
  pe : PSs X st t
  sem : SemS K t f
section
variable {K : PySem.W.Frag} {te ta tb : TE} {fe fa fb : D1} {tt : TT} {ft : B1} {t u : TS} {f g : S1}
def sNext : S1 := fun ρ => some (.nx, ρ)
theorem sem_next : SemS K tNext sNext := by
  intro G L ρ σ H D fl ρ' R e q
  cases e
  exact q L σ H R (.refl L H)
def sSeq (f g : S1) : S1 := fun ρ => match f ρ with
  | some (.nx, ρ1) => g ρ1
  | o => o
theorem sem_seq (h : SemS K t f) (h' : SemS K u g) : SemS K (tSeq t u) (sSeq f g) := by
  intro G L ρ σ H D fl ρ' R e q
  unfold sSeq at e
  split at e
  · rename_i ρ1 e1
    exact h G L ρ σ H _ .nx ρ1 R e1 fun L1 σ1 H1 R1 g1 => h' G L1 ρ1 σ1 H1 D fl ρ' R1 e (q.le g1)
  · rename_i hne
    refine h G L ρ σ H _ fl ρ' R e ?_
    cases fl with
    | nx => exact absurd e (hne ρ')
    | bk => exact q
    | ct => exact q
    | rt r => cases r <;> exact q
def sBreak : S1 := fun ρ => some (.bk, ρ)
def sCont : S1 := fun ρ => some (.ct, ρ)
theorem sem_break : SemS K tBreak sBreak := by
  intro G L ρ σ H D fl ρ' R e q
  cases e
  exact q L σ H R (.refl L H)
theorem sem_cont : SemS K tCont sCont := by
  intro G L ρ σ H D fl ρ' R e q
  cases e
  exact q L σ H R (.refl L H)
def sNever : S1 := fun _ => none
theorem sem_never : SemS K tNever sNever := by
  intro G L ρ σ H D fl ρ' R e q
  cases e
def sDrop (fe : D1) : S1 := fun ρ => match fe ρ with
  | none => none
  | some (_, ρ1) => some (.nx, ρ1)
theorem sem_drop (h : SemE K te fe) : SemS K (tDrop te) (sDrop fe) := by
  intro G L ρ σ H D fl ρ' R e q
  unfold sDrop at e
  split at e
  · cases e
  rename_i x ρ1 e1
  cases e
  exact h G L ρ σ H _ _ ρ' R e1 fun v H1 L1 s1 R1 w1 r1 => q L1 σ H1 R1 (.of w1 s1)
def sRet (fe : D1) : S1 := fun ρ => match fe ρ with
  | none => none
  | some (d, ρ1) => some (.rt (.pl d), ρ1)
theorem sem_ret (h : SemE K te fe) : SemS K (tRet te) (sRet fe) := by
  intro G L ρ σ H D fl ρ' R e q
  unfold sRet at e
  split at e
  · cases e
  rename_i x ρ1 e1
  cases e
  exact h G L ρ σ H _ _ ρ' R e1 fun v H1 L1 s1 R1 w1 r1 => q L1 σ H1 v R1 (.of w1 s1) r1
def sRetF (fe : A1) : S1 := fun ρ => match fe ρ with
  | none => none
  | some (d, ρ1) => some (.rt (.fr d), ρ1)
theorem sem_retF {fe : A1} (h : SemF K te fe) : SemS K (tRet te) (sRetF fe) := by
  intro G L ρ σ H D fl ρ' R e q
  unfold sRetF at e
  split at e
  · cases e
  rename_i x ρ1 e1
  cases e
  exact h G L ρ σ H _ _ ρ' R e1 fun p vs H1 L1 s1 hp h1 R1 w1 r1 => q L1 σ H1 p vs R1 (.of w1 s1) hp h1 r1
def sRetN : S1 := fun ρ => some (.rt (.pl .none), ρ)
theorem sem_retN : SemS K tRetN sRetN := by
  intro G L ρ σ H D fl ρ' R e q
  cases e
  exact q L σ H .non R (.refl L H) .non
def sIf (ft : B1) (f g : S1) : S1 := fun ρ => match ft ρ with
  | some (true, ρ1) => f ρ1
  | some (false, ρ1) => g ρ1
  | none => none
theorem sem_ifS (h : SemT K tt ft) (h1 : SemS K t f) (h2 : SemS K u g) : SemS K (tIfS tt t u) (sIf ft f g) := by
  intro G L ρ σ H D fl ρ' R e q
  unfold sIf at e
  split at e
  · rename_i ρ1 e1
    refine h G L ρ σ H _ _ ρ1 R e1 fun H1 L1 s1 R1 w1 => ?_
    rw [if_pos rfl]
    exact h1 G L1 ρ1 σ H1 D fl ρ' R1 e (q.le (.of w1 s1))
  · rename_i ρ1 e1
    refine h G L ρ σ H _ _ ρ1 R e1 fun H1 L1 s1 R1 w1 => ?_
    rw [if_neg (by simp)]
    exact h2 G L1 ρ1 σ H1 D fl ρ' R1 e (q.le (.of w1 s1))
  · cases e

/-! ### targets -/
abbrev T1 := PyData → REnv → Option REnv
def SemG (K : PySem.W.Frag) (g : TG) (h : T1) : Prop := ∀ (G : Ent) (L : List (Option Addr)) (ρ : REnv) (σ : L2.St) (H : Hp) (Q : L2.St → Hp → Prop) (v : V) (d : PyData) (ρ' : REnv),
  Rel K G L ρ σ H → Rp K (hd G.N L H) v d → h d ρ = some ρ' → (∀ L' σ' H', Rel K G L' ρ' σ' H' → LS L' L → Ew L H H' → Q σ' H') → g v σ H Q
def hName (i : Nat) : T1 := fun d ρ => some (ρ.set i (some (.pl d)))
theorem sem_name (i : Nat) : SemG K (gName i) (hName i) := by
  intro G L ρ σ H Q v d ρ' R r e q
  cases e
  exact q _ _ H (R.setPl i (r.mono ((Ew.refl L H).hd (LS.set L i)))) (LS.set L i) (.refl L H)
abbrev TN1 := List PyData → REnv → Option REnv
def SemGs (K : PySem.W.Frag) (g : TGs) (h : TN1) : Prop := ∀ (G : Ent) (L : List (Option Addr)) (ρ : REnv) (σ : L2.St) (H : Hp) (Q : L2.St → Hp → Prop) (vs : List V) (ds : List PyData) (ρ' : REnv),
  Rel K G L ρ σ H → RpA K (hd G.N L H) vs ds → h ds ρ = some ρ' → (∀ L' σ' H', Rel K G L' ρ' σ' H' → LS L' L → Ew L H H' → Q σ' H') → g vs σ H Q
def hNil : TN1 := fun ds ρ => match ds with
  | [] => some ρ
  | _ => none
def hCons (h : T1) (k : TN1) : TN1 := fun ds ρ => match ds with
  | d :: r => match h d ρ with
    | none => none
    | some ρ1 => k r ρ1
  | [] => none
theorem sem_gnil : SemGs K gNil hNil := by
  intro G L ρ σ H Q vs ds ρ' R r e q
  unfold hNil at e
  split at e
  · cases e
    cases r
    exact ⟨rfl, q L σ H R (.refl L) (.refl L H)⟩
  · cases e
theorem sem_gcons {g : TG} {gs : TGs} {h : T1} {k : TN1} (a : SemG K g h) (b : SemGs K gs k) : SemGs K (gCons g gs) (hCons h k) := by
  intro G L ρ σ H Q vs ds ρ' R r e q
  unfold hCons at e
  split at e
  · rename_i d rest
    split at e
    · cases e
    rename_i ρ1 e1
    cases r with
    | cons r1 r2 =>
      refine ⟨_, _, rfl, a G L ρ σ H _ _ d ρ1 R r1 e1 fun L1 σ1 H1 R1 s1 w1 => ?_⟩
      exact b G L1 ρ1 σ1 H1 Q _ rest ρ' R1 (r2.mono (w1.hd s1)) e fun L2' σ2 H2 R2 s2 w2 => q L2' σ2 H2 R2 (s2.trans s1) (w1.trans w2 s1)
  · cases e
def hTup (n : Nat) (k : TN1) : T1 := fun d ρ => match d with
  | .tuple ds => if ds.length = n then k ds ρ else none
  | _ => none
theorem sem_gtup {n : Nat} {gs : TGs} {k : TN1} (b : SemGs K gs k) : SemG K (gTup K n gs) (hTup n k) := by
  intro G L ρ σ H Q v d ρ' R r e q
  unfold hTup at e
  split at e
  · split at e
    · rename_i ds hn
      cases r with
      | tup h1 r1 =>
        exact ⟨_, _, rfl, hd_le.t h1, by rw [r1.len]; exact hn, b G L ρ σ H Q _ ds ρ' R r1 e q⟩
    · cases e
  · cases e
/-- one's own list is stored to -/
def hSub (i : Nat) (fi : D1) : T1 := fun d ρ => match ownAt ρ i with
  | none => none
  | some _ => match fi ρ with
    | some (.int k, ρ1) => match ρ1[i]? with
      | some (some x) => match x.lst? with
        | some ds => match ixN ds.length k with
          | some j => some (ρ1.set i (some (x.put (ds.set j d))))
          | none => none
        | none => none
      | _ => none
    | _ => none
theorem sem_gsub (i : Nat) {ti : TE} {fi : D1} (hi : SemE K ti fi) : SemG K (L2.gSub (tVar i) ti rSetL) (hSub i fi) := by
  intro G L ρ σ H Q v d ρ' R r e q
  unfold hSub at e
  split at e
  · cases e
  rename_i ds0 e0
  split at e
  · rename_i k ρ1 e1
    split at e
    · rename_i x e2
      split at e
      · rename_i ds e3
        split at e
        · rename_i j e4
          cases e
          obtain ⟨vo, hv, _⟩ := R.tpOwn e0
          refine ⟨vo, hv, hi G L ρ σ H _ _ ρ1 R e1 fun vi H1 L1 s1 R1 w1 r1 => ?_⟩
          obtain ⟨a, vs, g1, g2, g3, g4⟩ := R1.own e2 e3
          cases slot_same hv g1
          have ma : some a ∈ L1 := List.mem_of_getElem? g2
          have r' := r.mono (w1.hd s1)
          refine ⟨a, vs, k, j, rfl, r1.int_of, g3, by rw [g4.len]; exact e4, ?_⟩
          exact q L1 σ _ (R1.write e2 e3 g2 (g4.set j r')) s1 (w1.trans (Ew.write ma) s1)
        · cases e
      · cases e
    · cases e
  · cases e

/-! ### assignments -/
def sAsg (fe : D1) (h : T1) : S1 := fun ρ => match fe ρ with
  | none => none
  | some (d, ρ1) => match h d ρ1 with
    | none => none
    | some ρ2 => some (.nx, ρ2)
theorem sem_asg {g : TG} {h : T1} (he : SemE K te fe) (hg : SemG K g h) : SemS K (tAsg te g) (sAsg fe h) := by
  intro G L ρ σ H D fl ρ' R e q
  unfold sAsg at e
  split at e
  · cases e
  rename_i d ρ1 e1
  split at e
  · cases e
  rename_i ρ2 e2
  cases e
  refine he G L ρ σ H _ _ ρ1 R e1 fun v H1 L1 s1 R1 w1 r1 => ?_
  exact hg G L1 ρ1 σ H1 _ v d ρ' R1 r1 e2 fun L2' σ2 H2 R2 s2 w2 => q L2' σ2 H2 R2 (.of (w1.trans w2 s1) (s2.trans s1))
/-- a name gets a list of its own -/
def sOwn (fe : A1) (i : Nat) : S1 := fun ρ => match fe ρ with
  | none => none
  | some (ds, ρ1) => some (.nx, ρ1.set i (some (.ow ds)))
theorem sem_own {fe : A1} (he : SemF K te fe) (i : Nat) : SemS K (tAsg te (gName i)) (sOwn fe i) := by
  intro G L ρ σ H D fl ρ' R e q
  unfold sOwn at e
  split at e
  · cases e
  rename_i ds ρ1 e1
  cases e
  refine he G L ρ σ H _ _ ρ1 R e1 fun p vs H1 L1 s1 hp h1 R1 w1 r1 => ?_
  have hf := R.fresh hp
  refine q _ _ H1 (R1.setOw i h1 (fun m => hf.2.1 (s1.mem m)) hf.2.2 hf.1 r1 R.bd) ⟨w1, fun a m => ?_⟩
  rcases mem_set_some m with z | z
  · exact .inl (s1.mem z)
  · rw [z]; exact .inr hp
/-- a, b = e1, e2 -/
def sPar (i j : Nat) (fa : A1) : S1 := fun ρ => match fa ρ with
  | some ([x, y], ρ1) => some (.nx, (ρ1.set i (some (.pl x))).set j (some (.pl y)))
  | _ => none
theorem sem_par (i j : Nat) {ta : TA} {fa : A1} (h : SemA K ta fa) : SemS K (tPar i j ta) (sPar i j fa) := by
  intro G L ρ σ H D fl ρ' R e q
  unfold sPar at e
  split at e
  · rename_i x y ρ1 e1
    cases e
    refine h G L ρ σ H _ _ ρ1 R e1 fun vs H1 L1 s1 R1 w1 r1 => ?_
    cases r1 with
    | cons rx t =>
      cases t with
      | cons ry t =>
        cases t
        have A := R1.setPl i (rx.mono ((Ew.refl L1 H1).hd (LS.set L1 i)))
        have s2 := LS.set (L1.set i none) j
        have B := A.setPl j (ry.mono (((Ew.refl L1 H1).hd (LS.set L1 i)).trans ((Ew.refl _ H1).hd s2)))
        exact ⟨_, _, rfl, q _ _ H1 B (.of w1 ((s2.trans (LS.set L1 i)).trans s1))⟩
  · cases e
/-- a, b = [..], e: a's list its own -/
def sParF (i j : Nat) (fa : A1) (fb : D1) : S1 := fun ρ => match fa ρ with
  | some (ds, ρ1) => match fb ρ1 with
    | some (y, ρ2) => some (.nx, (ρ2.set i (some (.ow ds))).set j (some (.pl y)))
    | none => none
  | none => none
theorem sem_parF (i j : Nat) {fa : A1} (h : SemF K ta fa) (hb : SemE K tb fb) : SemS K (tPar i j (tCons ta (tCons tb tNil))) (sParF i j fa fb) := by
  intro G L ρ σ H D fl ρ' R e q
  unfold sParF at e
  split at e
  · rename_i ds ρ1 e1
    split at e
    · rename_i y ρ2 e2
      cases e
      refine h G L ρ σ H _ _ ρ1 R e1 fun p vs H1 L1 s1 hp h1 R1 w1 r1 => ?_
      have hf := R.fresh hp
      have hl1 : some p ∉ L1 := fun m => hf.2.1 (s1.mem m)
      refine hb (G.hide p) L1 ρ1 σ H1 _ y ρ2 R1 e2 fun v H2 L2' s2 R2 w2 r2 => ?_
      have h2 := w2.1 p _ hl1 h1
      have hl2 : some p ∉ L2' := fun m => hl1 (s2.mem m)
      have A := R2.setOw i h2 hl2 hf.2.2 hf.1 (r1.mono (w2.hd s2)) R.bd
      have m : Le (hd (G.hide p).N L2' H2) (hd G.N (L2'.set i (some p)) H2) := fun b o z => by
        obtain ⟨z1, z2, z3⟩ := hd_some.mp z
        refine hd_some.mpr ⟨fun y => z1 (.inl y), fun y => ?_, z3⟩
        rcases mem_set_some y with x | x
        · exact z2 x
        · exact z1 (.inr x)
      have s3 := LS.set (L2'.set i (some p)) j
      have B := A.setPl j (r2.mono (m.trans ((Ew.refl _ H2).hd s3)))
      refine ⟨_, _, rfl, q _ _ H2 B ⟨w1.trans w2 s1, fun a mm => ?_⟩⟩
      rcases mem_set_some (s3.mem mm) with z | z
      · exact .inl (s1.mem (s2.mem z))
      · rw [z]; exact .inr hp
    · cases e
  · cases e
/-- name op= e -/
def sAug (g : G2) (i : Nat) (fe : D1) : S1 := fun ρ => match ρ[i]? with
  | some (some (.pl x)) => match fe ρ with
    | none => none
    | some (y, ρ1) => match g x y with
      | none => none
      | some z => some (.nx, ρ1.set i (some (.pl z)))
  | _ => none
theorem sem_aug {r : R2} {g : G2} (ho : OpS K r g) (i : Nat) (he : SemE K te fe) : SemS K (tAug i te r) (sAug g i fe) := by
  intro G L ρ σ H D fl ρ' R e q
  unfold sAug at e
  split at e
  · rename_i x e0
    split at e
    · cases e
    rename_i y ρ1 e1
    split at e
    · cases e
    rename_i z e2
    cases e
    obtain ⟨vx, h1, rx⟩ := R.get e0
    refine ⟨vx, h1, he G L ρ σ H _ _ ρ1 R e1 fun v H1 L1 s1 R1 w1 r1 => ?_⟩
    refine ho G.N L1 H1 vx v x y z _ R1.alloc ((rx.mono (w1.hd s1)).tp hd_le) (r1.tp hd_le) e2 fun vz H2 le rz => ?_
    have R2 := R1.mono le
    exact q _ _ H2 (R2.setPl i (rz.mono ((Ew.refl L1 H2).hd (LS.set L1 i)))) (.of (w1.trans (le.ew (L := L1)) s1) ((LS.set L1 i).trans s1))
  · cases e
/-- xs.append(e) of one's own list -/
def sApp (i : Nat) (fe : D1) : S1 := fun ρ => match ownAt ρ i with
  | none => none
  | some _ => match fe ρ with
    | none => none
    | some (d, ρ1) => match ρ1[i]? with
      | some (some x) => match x.lst? with
        | some ds => if ds.length < sizeLine then some (.nx, ρ1.set i (some (x.put (ds ++ [d])))) else none
        | none => none
      | _ => none
theorem sem_app (i : Nat) (he : SemE K te fe) : SemS K (tDrop (tBM K "list" rAppend (tVar i) (tCons te tNil))) (sApp i fe) := by
  intro G L ρ σ H D fl ρ' R e q
  unfold sApp at e
  split at e
  · cases e
  rename_i ds0 e0
  split at e
  · cases e
  rename_i d ρ1 e1
  split at e
  · rename_i x e2
    split at e
    · rename_i ds e3
      split at e
      · rename_i hz
        cases e
        obtain ⟨x0, f1, f2⟩ := ownAt_some e0
        obtain ⟨a0, vs0, g1, g2, g3, g4⟩ := R.own f1 f2
        refine ⟨_, g1, .inl ⟨rfl, _, .of g3⟩, he G L ρ σ H _ _ ρ1 R e1 fun v H1 L1 s1 R1 w1 r1 => ?_⟩
        obtain ⟨a, vs, k1, k2, k3, k4⟩ := R1.own e2 e3
        cases slot_same g1 k1
        have ma : some a0 ∈ L1 := List.mem_of_getElem? k2
        refine ⟨a0, vs, v, rfl, rfl, k3, by rw [k4.len]; exact hz, ?_⟩
        exact q L1 σ _ (R1.write e2 e3 k2 (k4.snoc r1)) (.of (w1.trans (Ew.write ma) s1) s1)
      · cases e
    · cases e
  · cases e
end
end Dv

/-! Dv: what is walked, for, list comprehensions. -/
namespace Dv
open PySem PySem.Spec PyProof.Rows L2

/-- J walks over the data ds while what Hh knows stands -/
def IG (K : PySem.W.Frag) (Hh : Hp) (J : It) (ds : List PyData) : Prop := ∀ (N : Addr → Prop) (L : List (Option Addr)) (H : Hp), Le Hh (hd N L H) → Alloc N L H →
  J.stop ds.length H ∧ ∀ (i : Nat) d, ds[i]? = some d → J.go i H ∧ ∀ x H', J.yld i H x H' → Le H H' ∧ Rp K (hd N L H') x d
def SemI (K : PySem.W.Frag) (wi : TI) (f : A1) : Prop := ∀ (G : Ent) (L : List (Option Addr)) (ρ : REnv) (σ : L2.St) (H : Hp) (R : It → Hp → Prop) (ds : List PyData) (ρ' : REnv),
  Rel K G L ρ σ H → f ρ = some (ds, ρ') →
  (∀ J H' L', LS L' L → Rel K G L' ρ' σ H' → Ew L H H' → IG K (hd G.N L' H') J ds → R J H') → wi σ H R
/-- the items of a sequence -/
def itemsOf : PyData → Option (List PyData)
  | .list ds => some ds
  | .tuple ds => some ds
  | .dict [(.none, .list ds)] => some ds
  | _ => none
def fItems (fa : D1) : A1 := fun ρ => match fa ρ with
  | none => none
  | some (x, ρ1) => match itemsOf x with
    | none => none
    | some ds => some (ds, ρ1)
def iSeq (K : PySem.W.Frag) (tl : TE) : TI := fun σ H R => tl σ H fun x H1 => ∃ a, x = .ref a ∧ (((∃ xs, SqL K H1 a xs) ∧ R (Itl K a) H1) ∨ ((∃ xs, SqT K H1 a xs) ∧ R (Itt K a) H1))
section
variable {X : Cx} {tg : Expr}
theorem pi_seq {l : Expr} {tl : TE} (hl : PE X l tl) : PI X tg l (iSeq X.K tl) := by
  constructor
  intro pins s σ H R I h
  refine thn (hl.run pins s σ H _ I h) ?_
  rintro v s1 ⟨x, H1, I1, r1, a, rfl, q⟩
  cases r1
  have fp : ∀ b ∈ [s1.heap.objs.size], FpOk X pins H1 b := fun b hb => by
    have e : b = s1.heap.objs.size := by simpa using hb
    rw [e]
    exact I1.fpOk (Nat.le_refl _) (I1.hok.fresh (Nat.le_refl _))
  rcases q with ⟨⟨xs, hq⟩, q⟩ | ⟨⟨xs, hq⟩, q⟩
  · obtain ⟨its, rv, p, hz⟩ := I1.list hq
    exact wpAny_pyIter_list p.isList ⟨_, [s1.heap.objs.size], _, _, H1, rfl, I1.kept (t' := s1.toks) fun b o e => Heap.get?_push_of_some _ e, turn_list a _, ⟨_, Heap.get?_push_size _ rfl, rfl, rfl⟩, fp, q⟩
  · obtain ⟨its, rv, p, hz⟩ := I1.tuple hq
    exact wpAny_pyIter_tuple (show s1.heap.IsTuple a its.toArray from p) ⟨_, [s1.heap.objs.size], _, _, H1, rfl, I1.kept (t' := s1.toks) fun b o e => Heap.get?_push_of_some _ e, turn_tuple a _, ⟨_, Heap.get?_push_size _ rfl, rfl, rfl⟩, fp, q⟩
end
section
variable {K : PySem.W.Frag} {tl : TE} {fa : D1}
theorem ig_list {Hh : Hp} {a : Addr} {xs : List V} {ds : List PyData} (h : ∀ H, Le Hh H → SqL K H a xs) (hu : ∀ H ys, Le Hh H → SqL K H a ys → ys = xs) (r : RpA K Hh xs ds) : IG K Hh (Itl K a) ds := by
  intro N L H le A
  have hs := h H (le.trans hd_le)
  refine ⟨⟨xs, hs, by rw [r.len]; exact Nat.le_refl _⟩, fun i d e => ?_⟩
  obtain ⟨v, hv, rv⟩ := r.get e
  refine ⟨⟨xs, v, hs, hv⟩, fun x H' y => ?_⟩
  obtain ⟨rfl, y⟩ := y
  have := y xs hs
  rw [hv] at this
  cases this
  exact ⟨.refl _, rv.mono le⟩
theorem sem_iseq (h : SemE K tl fa) : SemI K (iSeq K tl) (fItems fa) := by
  intro G L ρ σ H R ds ρ' Re e q
  unfold fItems at e
  split at e
  · cases e
  rename_i x ρ1 e1
  split at e
  · cases e
  rename_i ds' e2
  cases e
  refine h G L ρ σ H _ _ ρ' Re e1 fun v H1 L1 s1 R1 w1 r1 => ?_
  unfold itemsOf at e2
  split at e2
  · cases e2
    cases r1 with
    | lst h1 r1 =>
      rename_i a xs
      refine ⟨a, rfl, .inl ⟨⟨xs, .of (hd_le _ _ h1)⟩, q _ H1 L1 s1 R1 w1 ?_⟩⟩
      intro N L H' le A
      have hs : SqL K H' a xs := .of (hd_le _ _ (le _ _ h1))
      refine ⟨⟨xs, hs, by rw [r1.len]; exact Nat.le_refl _⟩, fun i d e => ?_⟩
      obtain ⟨v, hv, rv⟩ := r1.get e
      refine ⟨⟨xs, v, hs, hv⟩, fun x H'' y => ?_⟩
      obtain ⟨rfl, y⟩ := y
      have := y xs hs
      rw [hv] at this
      cases this
      exact ⟨.refl _, rv.mono le⟩
  · cases e2
    cases r1 with
    | tup h1 r1 =>
      rename_i a xs
      refine ⟨a, rfl, .inr ⟨⟨xs, hd_le.t h1⟩, q _ H1 L1 s1 R1 w1 ?_⟩⟩
      intro N L H' le A
      have hs : SqT K H' a xs := hd_le.t (le.t h1)
      refine ⟨⟨xs, hs, by rw [r1.len]; exact Nat.le_refl _⟩, fun i d e => ?_⟩
      obtain ⟨v, hv, rv⟩ := r1.get e
      refine ⟨⟨xs, v, hs, hv⟩, fun x H'' y => ?_⟩
      obtain ⟨rfl, y⟩ := y
      have := y xs hs
      rw [hv] at this
      cases this
      exact ⟨.refl _, rv.mono le⟩
  · cases e2
    generalize hg : PyData.dict [(.none, .list ds)] = dd at r1
    cases r1 <;> try (cases hg; done)
    rename_i a ns h1
    cases hg
    have r1 : RpA K (hd G.N L1 H1) (ns.map V.int) (ns.map .int) := RpA.of_ints ns
    refine ⟨a, rfl, .inl ⟨⟨_, hd_le.l h1⟩, q _ H1 L1 s1 R1 w1 ?_⟩⟩
    intro N L H' le A
    have hs : SqL K H' a (ns.map V.int) := hd_le.l (le.l h1)
    refine ⟨⟨_, hs, by simp⟩, fun i d e => ?_⟩
    obtain ⟨v, hv, rv⟩ := r1.get e
    refine ⟨⟨_, v, hs, hv⟩, fun x H'' y => ?_⟩
    obtain ⟨rfl, y⟩ := y
    have := y _ hs
    rw [hv] at this
    cases this
    exact ⟨.refl _, rv.mono le⟩
  · cases e2
/-- the ints of a range -/
def rangeD (lo : Int) (n : Nat) : List PyData := (List.range n).map fun (i : Nat) => .int (lo + (i : Int))
theorem rangeD_length (lo : Int) (n : Nat) : (rangeD lo n).length = n := by simp [rangeD]
theorem rangeD_get (lo : Int) (n i : Nat) (d : PyData) (h : (rangeD lo n)[i]? = some d) : i < n ∧ d = .int (lo + (i : Int)) := by
  unfold rangeD at h
  rw [List.getElem?_map] at h
  by_cases hi : i < n
  · rw [List.getElem?_range hi] at h
    cases h
    exact ⟨hi, rfl⟩
  · rw [List.getElem?_eq_none (by simp; omega)] at h
    cases h
theorem ig_range {Hh : Hp} {lo : Int} {n : Nat} : IG K Hh (Itr lo n) (rangeD lo n) := by
  intro N L H le A
  refine ⟨by rw [rangeD_length]; exact Nat.le_refl _, fun i d e => ?_⟩
  obtain ⟨h1, rfl⟩ := rangeD_get lo n i d e
  refine ⟨h1, fun x H' y => ?_⟩
  obtain ⟨rfl, rfl⟩ := y
  exact ⟨.refl _, .int _⟩
def okR (i : Int) : Bool := decide (-(2 ^ 62) ≤ i) && decide (i < 2 ^ 62)
def fRng1 (fa : A1) : A1 := fun ρ => match fa ρ with
  | some ([.int j], ρ1) => if okR j then some (rangeD 0 j.toNat, ρ1) else none
  | _ => none
def fRng2 (fa : A1) : A1 := fun ρ => match fa ρ with
  | some ([.int i, .int j], ρ1) => if okR i && okR j then some (rangeD i (j - i).toNat, ρ1) else none
  | _ => none
theorem sem_rng1 {ta : TA} {f : A1} (h : SemA K ta f) : SemI K (iRng1 ta) (fRng1 f) := by
  intro G L ρ σ H R ds ρ' Re e q
  unfold fRng1 at e
  split at e
  · rename_i j ρ1 e1
    split at e
    · rename_i hj
      cases e
      unfold okR at hj
      simp only [Bool.and_eq_true, decide_eq_true_eq] at hj
      refine h G L ρ σ H _ _ ρ' Re e1 fun vs H1 L1 s1 R1 w1 r1 => ?_
      cases r1 with
      | cons r t =>
        cases t
        rw [r.int_of]
        exact ⟨j, rfl, hj.1, hj.2, q _ H1 L1 s1 R1 w1 ig_range⟩
    · cases e
  · cases e
theorem sem_rng2 {ta : TA} {f : A1} (h : SemA K ta f) : SemI K (iRng2 ta) (fRng2 f) := by
  intro G L ρ σ H R ds ρ' Re e q
  unfold fRng2 at e
  split at e
  · rename_i i j ρ1 e1
    split at e
    · rename_i hj
      cases e
      unfold okR at hj
      simp only [Bool.and_eq_true, decide_eq_true_eq] at hj
      refine h G L ρ σ H _ _ ρ' Re e1 fun vs H1 L1 s1 R1 w1 r1 => ?_
      cases r1 with
      | cons r t =>
        cases t with
        | cons r2 t =>
          cases t
          rw [r.int_of, r2.int_of]
          exact ⟨i, j, rfl, ⟨hj.1.1, hj.1.2, hj.2.1, hj.2.2⟩, q _ H1 L1 s1 R1 w1 ig_range⟩
    · cases e
  · cases e

/-! ### for -/
def loopF (h : T1) (fb : S1) : List PyData → REnv → Option (Fl × REnv)
  | [], ρ => some (.nx, ρ)
  | d :: ds, ρ => match h d ρ with
    | none => none
    | some ρ1 => match fb ρ1 with
      | some (.nx, ρ2) => loopF h fb ds ρ2
      | some (.ct, ρ2) => loopF h fb ds ρ2
      | some (.bk, ρ2) => some (.nx, ρ2)
      | some (.rt r, ρ2) => some (.rt r, ρ2)
      | none => none
def sFor (fi : A1) (h : T1) (fb : S1) : S1 := fun ρ => match fi ρ with
  | none => none
  | some (ds, ρ1) => loopF h fb ds ρ1
theorem sem_for {wi : TI} {fi : A1} {g : TG} {h : T1} {tb : TS} {fb : S1} (hi : SemI K wi fi) (hg : SemG K g h) (hb : SemS K tb fb) : SemS K (tFor wi g tb) (sFor fi h fb) := by
  intro G L ρ σ H D fl ρ' R e q
  unfold sFor at e
  split at e
  · cases e
  rename_i ds ρ1 e1
  refine hi G L ρ σ H _ ds ρ1 R e1 fun J H1 L1 s1 R1 w1 ig => ?_
  have q1 := q.le (.of w1 s1)
  refine ⟨fun i m σ' H' => m = ds.length - i ∧ i ≤ ds.length ∧ ∃ L' ρ2, Rel K G L' ρ2 σ' H' ∧ Gr L1 H1 L' H' ∧ loopF h fb (ds.drop i) ρ2 = some (fl, ρ'), ⟨ds.length, by simp, Nat.zero_le _, L1, ρ1, R1, .refl _ _, e⟩, ?_⟩
  rintro i m σ2 H2 ⟨rfl, hi, L2', ρ2, R2, g2, e2⟩
  obtain ⟨st, go⟩ := ig G.N L2' H2 g2.hd R2.alloc
  by_cases hlt : i < ds.length
  · have hd : ds.drop i = ds[i] :: ds.drop (i + 1) := List.drop_eq_getElem_cons hlt
    rw [hd] at e2
    unfold loopF at e2
    split at e2
    · cases e2
    rename_i ρ3 e3
    obtain ⟨go1, go2⟩ := go i ds[i] (List.getElem?_eq_getElem hlt)
    refine .inr ⟨go1, fun σ' H' => ∃ L' ρ4, Rel K G L' ρ4 σ' H' ∧ Gr L1 H1 L' H' ∧ loopF h fb (ds.drop (i + 1)) ρ4 = some (fl, ρ'), fun σ' H' ⟨L', ρ4, z⟩ => ⟨ds.length - (i + 1), by omega, rfl, hlt, L', ρ4, z⟩, fun x H' y => ?_⟩
    obtain ⟨le, rx⟩ := go2 x H' y
    refine hg G L2' ρ2 σ2 H' _ x _ ρ3 (R2.mono le) rx e3 fun L3 σ3 H3 R3 s3 w3 => ?_
    have g3 : Gr L1 H1 L3 H3 := g2.trans (.of (le.ew.trans w3 (.refl _)) s3)
    split at e2
    · rename_i ρ4 e4
      exact hb G L3 ρ3 σ3 H3 _ .nx ρ4 R3 e4 fun L4 σ4 H4 R4 g4 => ⟨L4, ρ4, R4, g3.trans g4, e2⟩
    · rename_i ρ4 e4
      exact hb G L3 ρ3 σ3 H3 _ .ct ρ4 R3 e4 fun L4 σ4 H4 R4 g4 => ⟨L4, ρ4, R4, g3.trans g4, e2⟩
    · rename_i ρ4 e4
      cases e2
      exact hb G L3 ρ3 σ3 H3 _ .bk ρ' R3 e4 fun L4 σ4 H4 R4 g4 => q1 L4 σ4 H4 R4 (g3.trans g4)
    · rename_i r ρ4 e4
      cases e2
      refine hb G L3 ρ3 σ3 H3 _ (.rt r) ρ' R3 e4 ?_
      cases r with
      | pl d => exact fun L4 σ4 H4 v R4 g4 rv => q1 L4 σ4 H4 v R4 (g3.trans g4) rv
      | fr es => exact fun L4 σ4 H4 p vs R4 g4 hp => q1 L4 σ4 H4 p vs R4 (g3.trans g4) (g3.ew.free hp)
    · cases e2
  · have hi' : i = ds.length := by omega
    subst hi'
    rw [List.drop_length] at e2
    cases e2
    exact .inl ⟨st, q1 L2' σ2 H2 R2 g2⟩

/-! ### list comprehensions -/
/-- behind a comprehension: the block's own names are as they were -/
def restR (ρ0 ρ : REnv) : List Nat → REnv
  | [] => ρ
  | v :: vs => (restR ρ0 ρ vs).set v (match ρ0[v]? with | some (some (.pl d)) => some (.pl d) | _ => none)
theorem restR_length (ρ0 ρ : REnv) : ∀ vs : List Nat, (restR ρ0 ρ vs).length = ρ.length
  | [] => rfl
  | v :: vs => by unfold restR; rw [List.length_set, restR_length ρ0 ρ vs]
theorem restR_some {ρ0 ρ : REnv} {i : Nat} {x : PV} : ∀ {vs : List Nat}, (restR ρ0 ρ vs)[i]? = some (some x) → (i ∈ vs ∧ ∃ d, x = .pl d ∧ ρ0[i]? = some (some (.pl d))) ∨ (i ∉ vs ∧ ρ[i]? = some (some x))
  | [], h => .inr ⟨by simp, h⟩
  | v :: vs, h => by
    unfold restR at h
    by_cases hi : v = i
    · subst hi
      by_cases hv : v < (restR ρ0 ρ vs).length
      · rw [List.getElem?_set_self hv] at h
        have h := Option.some.inj h
        split at h
        · rename_i d e
          cases h
          exact .inl ⟨by simp, d, rfl, e⟩
        · cases h
      · rw [List.getElem?_eq_none (by simpa using hv)] at h; cases h
    · rw [List.getElem?_set_ne hi] at h
      rcases restR_some h with ⟨h1, h2⟩ | ⟨h1, h2⟩
      · exact .inl ⟨List.mem_cons_of_mem _ h1, h2⟩
      · exact .inr ⟨by simp only [List.mem_cons, not_or]; exact ⟨fun e => hi e.symm, h1⟩, h2⟩
theorem Rel.rest {G0 G : Ent} {L L' : List (Option Addr)} {ρ0 ρ : REnv} {σ : L2.St} {H H' : Hp} {vs : List Nat} (R0 : Rel K G0 L ρ0 σ H) (R : Rel K G L' ρ (wipe σ vs) H') (w : Le (hd G0.N L H) (hd G.N L' H')) (s : LS L' L) : Rel K G L' (restR ρ0 ρ vs) σ H' where
  ln := by rw [restR_length, R.ln, wipe_length]
  lL := by rw [R.lL, wipe_length]
  at_ := fun i x h => by
    rcases restR_some h with ⟨_, d, rfl, h2⟩ | ⟨h1, h2⟩
    · obtain ⟨v, l, g1, g2, g3⟩ := R0.at_ i _ h2
      obtain ⟨rfl, g4⟩ := g3
      refine ⟨v, none, g1, ?_, rfl, g4.mono w⟩
      have hi : i < L'.length := by rw [s.1]; exact (List.getElem?_eq_some_iff.mp g2).1
      cases e : L'[i] with
      | none => rw [List.getElem?_eq_getElem hi, e]
      | some a =>
        have := s.2 i a (by rw [List.getElem?_eq_getElem hi, e])
        rw [g2] at this; cases this
    · obtain ⟨v, l, g1, g2, g3⟩ := R.at_ i x h2
      exact ⟨v, l, by rw [← wipe_out h1]; exact g1, g2, g3⟩
  inj := R.inj
  lt := R.lt
  fr := R.fr
  nd := R.nd
  bd := R.bd
  lo := R.lo
def compF (h : T1) (ft : B1) (fe : D1) (vs : List Nat) : List PyData → List PyData → REnv → Option (List PyData × REnv)
  | [], acc, ρ => some (acc, ρ)
  | d :: ds, acc, ρ => match h d ρ with
    | none => none
    | some ρ1 => match ft ρ1 with
      | some (true, ρ2) => match fe ρ2 with
        | some (y, ρ3) => compF h ft fe vs ds (acc ++ [y]) (wipeR ρ3 vs)
        | none => none
      | some (false, ρ2) => compF h ft fe vs ds acc (wipeR ρ2 vs)
      | none => none
def fLc (fi : A1) (h : T1) (ft : B1) (fe : D1) (vs : List Nat) : A1 := fun ρ => match fi ρ with
  | none => none
  | some (ds, ρ1) => if ds.length ≤ sizeLine then match compF h ft fe vs ds [] (wipeR ρ1 vs) with
    | none => none
    | some (acc, ρ2) => some (acc, restR ρ1 ρ2 vs)
    else none
def fYes : B1 := fun ρ => some (true, ρ)
theorem sem_yes : SemT K tYes fYes := by
  intro G L ρ σ H Q d ρ' R e q
  cases e
  exact q H L (.refl L) R (.refl L H)
/-- a target whose names are all among vs -/
def GIn (g : TG) (vs : List Nat) : Prop := ∀ v σ H (Q : L2.St → Hp → Prop), g v σ H (fun σ' H' => wipe σ' vs = wipe σ vs → Q σ' H') → g v σ H fun σ' H' => wipe σ' vs = wipe σ vs ∧ Q σ' H'
theorem wipe_set {σ : L2.St} {i : Nat} {x : Option V} : ∀ {vs : List Nat}, i ∈ vs → wipe (σ.set i x) vs = wipe σ vs
  | v :: vs, h => by
    unfold wipe
    by_cases hi : i = v
    · subst hi
      by_cases hm : i ∈ vs
      · rw [wipe_set hm]
      · have key : ∀ ws : List Nat, i ∉ ws → wipe (σ.set i x) ws = (wipe σ ws).set i x := fun ws => by
          induction ws with
          | nil => intro _; rfl
          | cons w ws ih =>
            intro hw
            simp only [List.mem_cons, not_or] at hw
            unfold wipe
            rw [ih hw.2, List.set_comm _ _ hw.1]
        rw [key vs hm, List.set_set]
    · have hm : i ∈ vs := by rcases List.mem_cons.mp h with e | e; exact absurd e hi; exact e
      rw [wipe_set hm]
theorem gin_name {i : Nat} {vs : List Nat} (h : i ∈ vs) : GIn (gName i) vs := fun v σ H Q q => ⟨wipe_set h, q (wipe_set h)⟩
theorem gin_two {i j n : Nat} {vs : List Nat} (hi : i ∈ vs) (hj : j ∈ vs) : GIn (gTup K n (gCons (gName i) (gCons (gName j) gNil))) vs := fun v σ H Q q => by
  obtain ⟨a, xs, e1, e2, e3, x, r, e4, y, r2, e5, e6, q⟩ := q
  have e : wipe ((σ.set i (some x)).set j (some y)) vs = wipe σ vs := by rw [wipe_set hj, wipe_set hi]
  exact ⟨a, xs, e1, e2, e3, x, r, e4, y, r2, e5, e6, e, q e⟩
theorem gin_three {i j k n : Nat} {vs : List Nat} (hi : i ∈ vs) (hj : j ∈ vs) (hk : k ∈ vs) : GIn (gTup K n (gCons (gName i) (gCons (gName j) (gCons (gName k) gNil)))) vs := fun v σ H Q q => by
  obtain ⟨a, xs, e1, e2, e3, x, r, e4, y, r2, e5, z, r3, e7, e6, q⟩ := q
  have e : wipe (((σ.set i (some x)).set j (some y)).set k (some z)) vs = wipe σ vs := by rw [wipe_set hk, wipe_set hj, wipe_set hi]
  exact ⟨a, xs, e1, e2, e3, x, r, e4, y, r2, e5, z, r3, e7, e6, e, q e⟩
theorem wipe_in {σ : L2.St} {i : Nat} : ∀ {vs : List Nat}, i ∈ vs → i < σ.length → (wipe σ vs)[i]? = some none
  | v :: vs, h, hl => by
    unfold wipe
    by_cases hi : v = i
    · subst hi
      rw [List.getElem?_set_self (by rw [wipe_length]; exact hl)]
    · rw [List.getElem?_set_ne hi]
      exact wipe_in (by rcases List.mem_cons.mp h with e | e; exact absurd e.symm hi; exact e) hl
theorem wipe_wipe (σ : L2.St) (vs : List Nat) : wipe (wipe σ vs) vs = wipe σ vs := by
  apply List.ext_getElem?
  intro i
  by_cases hi : i ∈ vs
  · by_cases hl : i < σ.length
    · rw [wipe_in hi (by rw [wipe_length]; exact hl), wipe_in hi hl]
    · rw [List.getElem?_eq_none (by rw [wipe_length, wipe_length]; omega), List.getElem?_eq_none (by rw [wipe_length]; omega)]
  · rw [wipe_out hi]
theorem Rel.wr {G : Ent} {L : List (Option Addr)} {ρ : REnv} {σ : L2.St} {H : Hp} (R : Rel K G L ρ σ H) {p : Addr} {o : HO} (hN : G.N p) (hl : some p ∉ L) (h0 : G.H0 p = none) : Rel K G L ρ σ (upd H p o) where
  ln := R.ln
  lL := R.lL
  at_ := fun i x h => by
    obtain ⟨v, l, g1, g2, g3⟩ := R.at_ i x h
    refine ⟨v, l, g1, g2, g3.mono (N' := G.N) (fun b u e => ?_) (fun a vs m e => ?_) rfl rfl (fun _ => g2) fun _ _ z => z⟩
    · obtain ⟨h1, h2, h3⟩ := hd_some.mp e
      have hb : b ≠ p := fun z => h1 (by rw [z]; exact hN)
      exact hd_some.mpr ⟨h1, h2, by rw [upd_ne hb]; exact h3⟩
    · have hb : a ≠ p := fun z => hl (by rw [← z]; exact m)
      rw [upd_ne hb]; exact e
  inj := R.inj
  lt := fun a m => by
    have hb : a ≠ p := fun z => hl (by rw [← z]; exact m)
    rw [upd_ne hb]; exact R.lt a m
  fr := fun b u n e => by
    have hb : b ≠ p := fun z => by rw [z, h0] at e; cases e
    rw [upd_ne hb]; exact R.fr b u n e
  nd := fun b n => by
    by_cases hb : b = p
    · rw [hb]; exact ⟨_, upd_same⟩
    · rw [upd_ne hb]; exact R.nd b n
  bd := R.bd
  lo := R.lo
theorem hd_wr {N : Addr → Prop} {L : List (Option Addr)} {H : Hp} {p : Addr} {o : HO} (hN : N p) : Le (hd N L H) (hd N L (upd H p o)) := fun b u e => by
  obtain ⟨h1, h2, h3⟩ := hd_some.mp e
  have hb : b ≠ p := fun z => h1 (by rw [z]; exact hN)
  exact hd_some.mpr ⟨h1, h2, by rw [upd_ne hb]; exact h3⟩
/-- the word of a comprehension's loop -/
def CompI (K : PySem.W.Frag) (G : Ent) (D : Addr) (L1 : List (Option Addr)) (H1 : Hp) (σ : L2.St) (h : T1) (ft : B1) (fe : D1) (vs : List Nat) (ds d : List PyData) (ρ2 : REnv) (i : Nat) (H' : Hp) : Prop :=
  ∃ L' ρ3 a av, LS L' L1 ∧ Rel K (G.hide D) L' ρ3 (wipe σ vs) H' ∧ Ew L1 H1 H' ∧ H' D = some (.lst av) ∧ a.length ≤ i ∧ RpA K (hd (G.hide D).N L' H') av a ∧ compF h ft fe vs (ds.drop i) a ρ3 = some (d, ρ2)
theorem sem_lc {wi : TI} {fi : A1} {g : TG} {h : T1} {tt : TT} {ft : B1} {te : TE} {fe : D1} (vs : List Nat) (hi : SemI K wi fi) (hg : SemG K g h) (hv : GIn g vs) (ht : SemT K tt ft) (he : SemE K te fe) :
    SemF K (tLc wi g tt te vs) (fLc fi h ft fe vs) := by
  intro G L ρ σ H Q d ρ' R e q
  unfold fLc at e
  split at e
  · cases e
  rename_i ds ρ1 e1
  split at e
  · rename_i hz
    split at e
    · cases e
    rename_i acc ρ2 e2
    cases e
    refine hi G L ρ σ H _ ds ρ1 R e1 fun J H1 L1 s1 R1 w1 ig => fun D hD => ?_
    have fD := R1.fresh hD
    have R1h : Rel K (G.hide D) L1 ρ1 σ (upd H1 D (.lst [])) := R1.hide hD
    have N0 : (G.hide D).N D := .inr rfl
    -- what the walk knows stays, D apart
    have keep : ∀ {L' : List (Option Addr)} {H' : Hp}, LS L' L1 → Ew L1 H1 H' → Le (hd G.N L1 H1) (hd (G.hide D).N L' H') := fun s w b o z => by
      obtain ⟨z1, z2, z3⟩ := hd_some.mp z
      refine hd_some.mpr ⟨fun y => y.elim z1 fun y => ?_, fun m => z2 (s.mem m), w.1 b o z2 z3⟩
      subst y
      rw [hD] at z3; cases z3
    refine ⟨fun i m H' => m = ds.length - i ∧ i ≤ ds.length ∧ CompI K G D L1 H1 σ h ft fe vs ds d ρ2 i H',
      ⟨ds.length, by simp, Nat.zero_le _, L1, wipeR ρ1 vs, [], [], .refl _, R1h.wiped vs, (Le.new hD).ew, upd_same, Nat.le_refl _, .nil, e2⟩, ?_⟩
    rintro i m H2 ⟨rfl, hi, L2', ρ3, a, av, s2, R2, w2, hDa, hal, ra, e3⟩
    have hDl : some D ∉ L2' := fun m => fD.2.1 (s2.mem m)
    obtain ⟨st, go⟩ := ig (G.hide D).N L2' H2 (keep s2 w2) R2.alloc
    by_cases hlt : i < ds.length
    · have hdd : ds.drop i = ds[i] :: ds.drop (i + 1) := List.drop_eq_getElem_cons hlt
      rw [hdd] at e3
      unfold compF at e3
      split at e3
      · cases e3
      rename_i ρ4 e4
      obtain ⟨go1, go2⟩ := go i ds[i] (List.getElem?_eq_getElem hlt)
      refine .inr ⟨go1, CompI K G D L1 H1 σ h ft fe vs ds d ρ2 (i + 1), fun H' z => ⟨ds.length - (i + 1), by omega, rfl, hlt, z⟩, fun x H3 y => ?_⟩
      obtain ⟨le, rx⟩ := go2 x H3 y
      have R3 := R2.mono le
      -- behind the element: append
      have app : ∀ {L5 : List (Option Addr)} {ρ5 : REnv} {σ2 : L2.St} {H5 : Hp} {v : V} {dy : PyData}, LS L5 L2' → Rel K (G.hide D) L5 ρ5 σ2 H5 → Ew L2' H2 H5 → wipe σ2 vs = wipe σ vs → Rp K (hd (G.hide D).N L5 H5) v dy →
          compF h ft fe vs (ds.drop (i + 1)) (a ++ [dy]) (wipeR ρ5 vs) = some (d, ρ2) → ∃ acc, H5 D = some (.lst acc) ∧ acc.length < sizeLine ∧ CompI K G D L1 H1 σ h ft fe vs ds d ρ2 (i + 1) (upd H5 D (.lst (acc ++ [v]))) := fun {L5 ρ5 σ2 H5 v dy} s5 R5 w5 ew rv ec => by
        have hD5 := w5.1 D _ hDl hDa
        have hl5 : some D ∉ L5 := fun m => hDl (s5.mem m)
        refine ⟨av, hD5, by rw [ra.len]; omega, L5, wipeR ρ5 vs, a ++ [dy], av ++ [v], s5.trans s2, ?_, ?_, upd_same, by simp; omega, ?_, ec⟩
        · have R6 := (R5.wiped vs).wr (o := .lst (av ++ [v])) N0 hl5 fD.2.2
          rw [ew] at R6
          exact R6
        · have w6 := w2.trans w5 s2
          refine ⟨fun b o n z => ?_, fun b o z => ?_⟩
          · rw [upd_ne (ne_of_none z hD)]; exact w6.1 b o n z
          · rw [upd_ne (ne_of_none z hD)]; exact w6.2 b o z
        · exact ((ra.mono (w5.hd s5)).snoc rv).mono (hd_wr N0)
      have skip : ∀ {L5 : List (Option Addr)} {ρ5 : REnv} {σ2 : L2.St} {H5 : Hp}, LS L5 L2' → Rel K (G.hide D) L5 ρ5 σ2 H5 → Ew L2' H2 H5 → wipe σ2 vs = wipe σ vs →
          compF h ft fe vs (ds.drop (i + 1)) a (wipeR ρ5 vs) = some (d, ρ2) → CompI K G D L1 H1 σ h ft fe vs ds d ρ2 (i + 1) H5 := fun {L5 ρ5 σ2 H5} s5 R5 w5 ew ec => by
        refine ⟨L5, wipeR ρ5 vs, a, av, s5.trans s2, ?_, w2.trans w5 s2, w5.1 D _ hDl hDa, by omega, ra.mono (w5.hd s5), ec⟩
        have R6 := R5.wiped vs
        rw [ew] at R6
        exact R6
      -- the whole turn, told with the slots' word
      have fin := hv x (wipe σ vs) H3 (fun σ2 H4 => tt σ2 H4 fun b H5 => if b = true then te σ2 H5 fun y H6 => ∃ acc, H6 D = some (.lst acc) ∧ acc.length < sizeLine ∧ CompI K G D L1 H1 σ h ft fe vs ds d ρ2 (i + 1) (upd H6 D (.lst (acc ++ [y]))) else CompI K G D L1 H1 σ h ft fe vs ds d ρ2 (i + 1) H5)
      rw [wipe_wipe] at fin
      refine fin (hg (G.hide D) L2' ρ3 (wipe σ vs) H3 _ x ds[i] ρ4 R3 rx e4 fun L4 σ4 H4 R4 s4 w4 ew => ?_)
      · have w24 : Ew L2' H2 H4 := (le.ew (L := L2')).trans w4 (.refl _)
        split at e3
        · rename_i ρ5 e5
          split at e3
          · rename_i dy ρ6 e6
            refine ht (G.hide D) L4 ρ4 σ4 H4 _ _ ρ5 R4 e5 fun H5 L5 s5 R5 w5 => ?_
            rw [if_pos rfl]
            refine he (G.hide D) L5 ρ5 σ4 H5 _ dy ρ6 R5 e6 fun v H6 L6 s6 R6 w6 r6 => ?_
            exact app ((s6.trans s5).trans s4) R6 (w24.trans (w5.trans w6 s5) s4) ew r6 e3
          · cases e3
        · rename_i ρ5 e5
          refine ht (G.hide D) L4 ρ4 σ4 H4 _ _ ρ5 R4 e5 fun H5 L5 s5 R5 w5 => ?_
          rw [if_neg (by simp)]
          exact skip (s5.trans s4) R5 (w24.trans w5 s4) ew e3
        · cases e3
    · have hi' : i = ds.length := by omega
      subst hi'
      rw [List.drop_length] at e3
      cases e3
      exact .inl ⟨st, q D av H2 L2' (s2.trans s1) (w1.free hD) hDa (Rel.rest R1 R2 (keep s2 w2) s2) (w1.trans w2 s1) ra⟩
  · cases e
end
end Dv

/-! Dv: defs as functions of data, their calls. -/
namespace Dv
open PySem PySem.Spec PyProof.Rows L2

/-- a def: from its arguments to what it hands back, and what the lists handed in hold then -/
abbrev Fn := List PV → Option (Ret × List (Option (List PyData)))
def ArgOk (K : PySem.W.Frag) (N : Addr → Prop) (H : Hp) (a : Option Addr) (v : V) : PV → Prop
  | .pl d => a = none ∧ Rp K (hd N [] H) v d
  | .rf ds => ∃ p vs, v = .ref p ∧ a = some p ∧ N p ∧ H p = some (.lst vs) ∧ RpA K (hd N [] H) vs ds
  | .ow _ => False
def RetOk (K : PySem.W.Frag) (N : Addr → Prop) (H H' : Hp) (v : V) : Ret → Prop
  | .pl d => Rp K (hd N [] H') v d
  | .fr ds => ∃ p vs, v = .ref p ∧ H p = none ∧ H' p = some (.lst vs) ∧ RpA K (hd (fun b => N b ∨ b = p) [] H') vs ds
/-- what holds behind the call -/
structure After (K : PySem.W.Frag) (N : Addr → Prop) (as : List (Option Addr)) (outs : List (Option (List PyData))) (H H' : Hp) : Prop where
  keep : ∀ b o, some b ∉ as → H b = some o → H' b = some o
  there : ∀ b o, H b = some o → ∃ o', H' b = some o'
  out : ∀ (i : Nat) p ds, as[i]? = some (some p) → outs[i]? = some (some ds) → ∃ vs, H' p = some (.lst vs) ∧ RpA K (hd N [] H') vs ds
def spF (K : PySem.W.Frag) (n : Nat) (F : Fn) : Sp := fun vs H Q _ => ∃ (N : Addr → Prop) (as : List (Option Addr)) (xs : List PV) (r : Ret) (outs : List (Option (List PyData))),
  F xs = some (r, outs) ∧ xs.length = n ∧ vs.length = n ∧ as.length = n ∧
  (∀ (i : Nat) x, xs[i]? = some x → ∃ a v, as[i]? = some a ∧ vs[i]? = some v ∧ ArgOk K N H a v x) ∧
  (∀ (i j : Nat) a, as[i]? = some (some a) → as[j]? = some (some a) → i = j) ∧ (∀ b, N b → ∃ o, H b = some o) ∧ (∀ a, some a ∈ as → N a) ∧
  ∀ v H', After K N as outs H H' → RetOk K N H H' v r → Q v H'
theorem spF_len {K : PySem.W.Frag} {n : Nat} {F : Fn} {vs : List V} {H : Hp} {Q : VK} {E : XK} (h : spF K n F vs H Q E) : vs.length = n := by
  obtain ⟨N, as, xs, r, outs, _, _, h, _⟩ := h
  exact h

/-- what the slots of the lists handed in hold -/
def outsR (ρ : REnv) : List PV → List (Option (List PyData)) → Nat → List (Option (List PyData))
  | [], acc, _ => acc
  | .rf _ :: r, acc, i => outsR ρ r (acc ++ [match ρ[i]? with | some (some (.rf ds)) => some ds | _ => none]) (i + 1)
  | _ :: r, acc, i => outsR ρ r (acc ++ [none]) (i + 1)
def outsOf (ρ : REnv) (xs : List PV) : List (Option (List PyData)) := xs.mapIdx fun i x => match x with
  | .rf _ => match ρ[i]? with
    | some (some (.rf ds)) => some ds
    | _ => none
  | _ => none
/-- a def's function, by its body's: m slots in all -/
def fnOf (m : Nat) (f : S1) : Fn := fun xs => match f (xs.map some ++ List.replicate (m - xs.length) none) with
  | some (.nx, ρ) => some (.pl .none, outsOf ρ xs)
  | some (.rt r, ρ) => some (r, outsOf ρ xs)
  | _ => none
section
variable {P : Program} {w : World} {K : PySem.W.Frag} {mg : Str → Option Value} {base : Heap}
theorem rel_start {N : Addr → Prop} {as : List (Option Addr)} {xs : List PV} {vs : List V} {H : Hp} {m : Nat} (h1 : xs.length = vs.length) (h2 : as.length = vs.length) (hm : vs.length ≤ m)
    (ha : ∀ (i : Nat) x, xs[i]? = some x → ∃ a v, as[i]? = some a ∧ vs[i]? = some v ∧ ArgOk K N H a v x)
    (hi : ∀ (i j : Nat) a, as[i]? = some (some a) → as[j]? = some (some a) → i = j) (hN : ∀ b, N b → ∃ o, H b = some o) (hA : ∀ a, some a ∈ as → N a) :
    Rel K ⟨N, as, H⟩ (as ++ List.replicate (m - vs.length) none) (xs.map some ++ List.replicate (m - xs.length) none) (vs.map some ++ List.replicate (m - vs.length) none) H := by
  have hL : ∀ (i : Nat) a, (as ++ List.replicate (m - vs.length) none)[i]? = some (some a) → as[i]? = some (some a) := fun i a h => by
    by_cases hlt : i < as.length
    · rwa [List.getElem?_append_left hlt] at h
    · rw [List.getElem?_append_right (by omega), List.getElem?_replicate] at h
      split at h <;> cases h
  have hM : ∀ a, some a ∈ as ++ List.replicate (m - vs.length) none → some a ∈ as := fun a h => by
    obtain ⟨i, e⟩ := List.mem_iff_getElem?.mp h
    exact List.mem_of_getElem? (hL i a e)
  have le : Le (hd N [] H) (hd N (as ++ List.replicate (m - vs.length) none) H) := fun b o e => by
    obtain ⟨z1, z2, z3⟩ := hd_some.mp e
    exact hd_some.mpr ⟨z1, fun m => z1 (hA b (hM b m)), z3⟩
  refine ⟨by simp; omega, by simp; omega, fun i x h => ?_, fun i j a e1 e2 => hi i j a (hL i a e1) (hL j a e2), fun a h => hN a (hA a (hM a h)), fun b o _ e => e, hN, hA, fun a h => .inr (hM a h)⟩
  have hlt : i < xs.length := by
    by_cases hlt : i < xs.length
    · exact hlt
    · rw [List.getElem?_append_right (by simp; omega), List.getElem?_replicate] at h
      split at h <;> cases h
  rw [List.getElem?_append_left (by simpa using hlt), List.getElem?_map] at h
  cases e : xs[i]? with
  | none => rw [e] at h; cases h
  | some y =>
    rw [e] at h
    cases h
    obtain ⟨a, v, g1, g2, g3⟩ := ha i x e
    refine ⟨v, a, ?_, ?_, ?_⟩
    · rw [List.getElem?_append_left (by simp; omega), List.getElem?_map, g2]; rfl
    · rw [List.getElem?_append_left (by omega)]; exact g1
    · cases x with
      | pl d => exact ⟨g3.1, g3.2.mono le⟩
      | rf ds => obtain ⟨p, vs', k1, k2, k3, k4, k5⟩ := g3; exact ⟨p, vs', k1, k2, by rw [g1, k2], k4, k5.mono le⟩
      | ow ds => exact g3.elim
theorem outsOf_get {ρ : REnv} {xs : List PV} {i : Nat} {ds : List PyData} (h : (outsOf ρ xs)[i]? = some (some ds)) : ρ[i]? = some (some (.rf ds)) := by
  unfold outsOf at h
  rw [List.getElem?_mapIdx] at h
  cases e : xs[i]? with
  | none => rw [e] at h; cases h
  | some x =>
    rw [e] at h
    cases x with
    | pl d => cases h
    | ow d => cases h
    | rf d =>
      simp only [Option.map_some, Option.some.injEq] at h
      split at h
      · rename_i es e2; rw [e2]; cases h; rfl
      · cases h
theorem after_of {N : Addr → Prop} {as : List (Option Addr)} {xs : List PV} {H H' : Hp} {L' : List (Option Addr)} {ρ' : REnv} {σ' : L2.St} {N2 : Addr → Prop} (R : Rel K ⟨N2, as, H⟩ L' ρ' σ' H') (hn : ∀ b, N b → N2 b) (ew : ∀ b o, H b = some o → ∃ o', H' b = some o') : After K N as (outsOf ρ' xs) H H' where
  keep := fun b o n e => R.fr b o n e
  there := ew
  out := fun i p ds h1 h2 => by
    obtain ⟨v, l, g1, g2, p', vs, k1, k2, k3, k4, k5⟩ := R.at_ i _ (outsOf_get h2)
    have e : p' = p := by
      have k3' : as[i]? = some (some p') := k3
      rw [h1] at k3'; cases k3'; rfl
    subst e
    exact ⟨vs, k4, k5.mono fun b o z => by
      obtain ⟨z1, z2, z3⟩ := hd_some.mp z
      exact hd_some.mpr ⟨fun y => z1 (hn b y), by simp, z3⟩⟩
/-- THE RULE for a def -/
theorem FnG.byBody {k : Nat} {f : Addr} {qual name : Str} {st : Stmt} {fd : FuncData} {N ps : List Str} {n m : Nat} {fb : S1} (F : L2.Fun K name qual st f fd) (S : FnScope N ps (defScope st)) (hps : ps.length = n) (hm : N.length = m) (hle : n ≤ m)
    (hbody : ∀ (cdv : Value) (A : Around) (out : List Env) (s : Shared) (H : Hp), Cl0 A → Room k (A.deeper (envOfC qual (defScope st) s.heap.objs.size f cdv)) →
      ∃ t, SSs K (cxOf CX0 P w K mg base N qual (defScope st) f cdv A out s H E0).nox (defBody st) t fb) :
    FnG P w K mg base (k + 1) f fd ps (spF K n (fnOf m fb)) := by
  refine FnG.of F S (fun vs H Q E h => by rw [hps]; exact spF_len h) fun cdv A out s H vs Q c hr h => ?_
  obtain ⟨Nn, as, xs, r, outs, e, l1, l2, l3, ha, hi, hN, hA, q⟩ := h
  obtain ⟨t, ht⟩ := hbody cdv A out s H c hr
  have hst : L2.start N vs = vs.map some ++ List.replicate (m - vs.length) none := by unfold L2.start; rw [hm]
  refine ⟨t, ht.pe.nox, ?_⟩
  rw [hst]
  have R := rel_start (K := K) (m := m) (by omega) (by omega) (by omega) ha hi hN hA
  unfold fnOf at e
  have z : ∀ {L' : List (Option Addr)} {H' : Hp}, Le (hd Nn L' H') (hd Nn [] H') := fun b o y => by
    obtain ⟨z1, z2, z3⟩ := hd_some.mp y
    exact hd_some.mpr ⟨z1, by simp, z3⟩
  split at e
  · rename_i ρ' e1
    cases e
    exact ht.sem _ _ _ _ H _ .nx ρ' R e1 fun L' σ' H' R' g => q .non H' (after_of R' (fun _ h => h) g.ew.2) .non
  · rename_i r' ρ' e1
    cases e
    refine ht.sem _ _ _ _ H _ (.rt r) ρ' R e1 ?_
    cases r with
    | pl d => exact fun L' σ' H' v R' g rv => q v H' (after_of R' (fun _ h => h) g.ew.2) (rv.mono z)
    | fr ds =>
      refine fun L' σ' H' p vs' R' g hp h1 rv => q (.ref p) H' (after_of (N2 := fun b => Nn b ∨ b = p) R' (fun _ h => .inl h) g.ew.2) ⟨p, vs', rfl, hp, h1, rv.mono fun b o y => ?_⟩
      obtain ⟨z1, z2, z3⟩ := hd_some.mp y
      exact hd_some.mpr ⟨z1, by simp, z3⟩
  · cases e
end

/-! ### calls -/
/-- arguments: data, a list of one's own handed in (the slot), a new list handed in -/
inductive Ag where
  | pl (d : PyData)
  | by (i : Nat)
abbrev G1 := REnv → Option (List Ag × REnv)
def AgOk (K : PySem.W.Frag) (G : Ent) (L : List (Option Addr)) (σ : L2.St) (H : Hp) (v : V) : Ag → Prop
  | .pl d => Rp K (hd G.N L H) v d
  | .by i => σ[i]? = some (some v)
inductive AgsOk (K : PySem.W.Frag) (G : Ent) (L : List (Option Addr)) (σ : L2.St) (H : Hp) : List V → List Ag → Prop
  | nil : AgsOk K G L σ H [] []
  | cons {v : V} {vs : List V} {a : Ag} {as : List Ag} (h : AgOk K G L σ H v a) (t : AgsOk K G L σ H vs as) : AgsOk K G L σ H (v :: vs) (a :: as)
def SemC (K : PySem.W.Frag) (t : TA) (f : G1) : Prop := ∀ (G : Ent) (L : List (Option Addr)) (ρ : REnv) (σ : L2.St) (H : Hp) (Q : List V → Hp → Prop) (as : List Ag) (ρ' : REnv),
  Rel K G L ρ σ H → f ρ = some (as, ρ') →
  (∀ vs H' L', LS L' L → Rel K G L' ρ' σ H' → Ew L H H' → AgsOk K G L' σ H' vs as → Q vs H') → t σ H Q
structure SC (K : PySem.W.Frag) (X : Cx) (es : List Expr) (t : TA) (f : G1) : Prop where
  pe : PA X es t
  sem : SemC K t f
  len : ∀ ρ as ρ1, f ρ = some (as, ρ1) → as.length = es.length
section
variable {K : PySem.W.Frag} {te : TE} {fe : D1} {tr : TA} {fr : G1}
def aNil : G1 := fun ρ => some ([], ρ)
def aCons (fe : D1) (fr : G1) : G1 := fun ρ => match fe ρ with
  | none => none
  | some (d, ρ1) => match fr ρ1 with
    | none => none
    | some (as, ρ2) => some (.pl d :: as, ρ2)
def aBy (i : Nat) (fr : G1) : G1 := fun ρ => match ownAt ρ i with
  | none => none
  | some _ => match fr ρ with
    | none => none
    | some (as, ρ2) => some (.by i :: as, ρ2)
theorem sem_anil : SemC K tNil aNil := by
  intro G L ρ σ H Q as ρ' R e q
  cases e
  exact q [] H L (.refl L) R (.refl L H) .nil
theorem sem_acons (he : SemE K te fe) (hr : SemC K tr fr) : SemC K (tCons te tr) (aCons fe fr) := by
  intro G L ρ σ H Q as ρ' R e q
  unfold aCons at e
  split at e
  · cases e
  rename_i d ρ1 e1
  split at e
  · cases e
  rename_i as' ρ2 e2
  cases e
  refine he G L ρ σ H _ d ρ1 R e1 fun v H1 L1 s1 R1 w1 r1 => ?_
  refine hr G L1 ρ1 σ H1 _ as' ρ' R1 e2 fun vs H2 L2' s2 R2 w2 r2 => ?_
  exact q (v :: vs) H2 L2' (s2.trans s1) R2 (w1.trans w2 s1) (.cons (r1.mono (w2.hd s2)) r2)
theorem sem_aby (i : Nat) (hr : SemC K tr fr) : SemC K (tCons (tVar i) tr) (aBy i fr) := by
  intro G L ρ σ H Q as ρ' R e q
  unfold aBy at e
  split at e
  · cases e
  rename_i ds e0
  split at e
  · cases e
  rename_i as' ρ2 e2
  cases e
  obtain ⟨v, hv, _⟩ := R.tpOwn e0
  refine ⟨v, hv, hr G L ρ σ H _ as' ρ' R e2 fun vs H2 L2' s2 R2 w2 r2 => ?_⟩
  exact q (v :: vs) H2 L2' s2 R2 w2 (.cons (show AgOk K G L2' σ H2 v (.by i) from hv) r2)
/-- the arguments as the callee sees them -/
def toPV (ρ : REnv) : List Ag → Option (List PV)
  | [] => some []
  | .pl d :: r => match toPV ρ r with
    | some xs => some (.pl d :: xs)
    | none => none
  | .by i :: r => match ownAt ρ i with
    | some ds => match toPV ρ r with
      | some xs => some (.rf ds :: xs)
      | none => none
    | none => none
/-- at most one list is handed in -/
def oneBy : List Ag → Bool
  | [] => true
  | .pl _ :: r => oneBy r
  | .by _ :: r => r.all fun a => match a with | .pl _ => true | .by _ => false
/-- the slots behind the call -/
def setOuts (ρ : REnv) : List Ag → List (Option (List PyData)) → Option REnv
  | [], _ => some ρ
  | .pl _ :: r, _ :: os => setOuts ρ r os
  | .by i :: r, some ds :: os => match ρ[i]? with
    | some (some x) => setOuts (ρ.set i (some (x.put ds))) r os
    | _ => none
  | _, _ => none
def fCall (F : Fn) (fa : G1) : REnv → Option (Ret × REnv) := fun ρ => match fa ρ with
  | none => none
  | some (as, ρ1) => if oneBy as then match toPV ρ1 as with
    | none => none
    | some xs => match F xs with
      | none => none
      | some (r, outs) => match setOuts ρ1 as outs with
        | none => none
        | some ρ2 => some (r, ρ2)
    else none
def fCallE (F : Fn) (fa : G1) : D1 := fun ρ => match fCall F fa ρ with
  | some (.pl d, ρ1) => some (d, ρ1)
  | some (.fr ds, ρ1) => some (.list ds, ρ1)
  | none => none
def isPl : Ag → Bool
  | .pl _ => true
  | .by _ => false
theorem oneBy_split : ∀ {as : List Ag}, oneBy as = true → as.all isPl = true ∨ ∃ pre i post, as = pre ++ .by i :: post ∧ pre.all isPl = true ∧ post.all isPl = true
  | [], _ => .inl rfl
  | .pl d :: r, h => by
    rcases oneBy_split (as := r) h with h1 | ⟨pre, i, post, rfl, h2, h3⟩
    · exact .inl (by simp [isPl, h1])
    · exact .inr ⟨.pl d :: pre, i, post, rfl, by simp [isPl, h2], h3⟩
  | .by i :: r, h => by
    refine .inr ⟨[], i, r, rfl, rfl, ?_⟩
    unfold oneBy at h
    rw [List.all_eq_true] at h ⊢
    intro a ha
    have := h a ha
    cases a with
    | pl d => rfl
    | «by» j => exact this
theorem setOuts_pl : ∀ {as : List Ag} {outs : List (Option (List PyData))} {ρ ρ' : REnv}, as.all isPl = true → setOuts ρ as outs = some ρ' → ρ' = ρ
  | [], _, _, _, _, h => by cases h; rfl
  | .pl d :: r, o :: os, ρ, ρ', ha, h => setOuts_pl (as := r) (by simpa [isPl] using ha) h
  | .pl d :: r, [], ρ, ρ', ha, h => by cases h
  | .by i :: r, _, _, _, ha, _ => by simp [isPl] at ha
theorem setOuts_one : ∀ {pre : List Ag} {i : Nat} {post : List Ag} {outs : List (Option (List PyData))} {ρ ρ' : REnv}, pre.all isPl = true → post.all isPl = true → setOuts ρ (pre ++ .by i :: post) outs = some ρ' →
    ∃ ds x, outs[pre.length]? = some (some ds) ∧ ρ[i]? = some (some x) ∧ ρ' = ρ.set i (some (x.put ds))
  | [], i, post, [], _, _, _, _, h => by cases h
  | [], i, post, none :: os, _, _, _, _, h => by cases h
  | [], i, post, some ds :: os, ρ, ρ', _, hp, h => by
    unfold setOuts at h
    simp only [List.nil_append] at h
    split at h
    · rename_i x e
      exact ⟨ds, x, rfl, e, setOuts_pl hp h⟩
    · cases h
  | .pl d :: pre, i, post, [], _, _, _, _, h => by cases h
  | .pl d :: pre, i, post, o :: os, ρ, ρ', hq, hp, h => by
    obtain ⟨ds, x, h1, h2, h3⟩ := setOuts_one (pre := pre) (by simpa [isPl] using hq) hp h
    exact ⟨ds, x, by simpa using h1, h2, h3⟩
  | .by j :: pre, _, _, _, _, _, hq, _, _ => by simp [isPl] at hq
/-- the addresses of the lists handed in -/
def adrs (L : List (Option Addr)) : List Ag → List (Option Addr)
  | [] => []
  | .pl _ :: r => none :: adrs L r
  | .by i :: r => (L[i]?).join :: adrs L r
theorem adrs_len (L : List (Option Addr)) : ∀ as : List Ag, (adrs L as).length = as.length
  | [] => rfl
  | .pl _ :: r => by simp [adrs, adrs_len L r]
  | .by _ :: r => by simp [adrs, adrs_len L r]
theorem adrs_mem {L : List (Option Addr)} {a : Addr} : ∀ {as : List Ag}, some a ∈ adrs L as → some a ∈ L
  | .pl _ :: r, h => by simp [adrs] at h; exact adrs_mem h
  | .by i :: r, h => by
    simp [adrs] at h
    rcases h with h | h
    · cases e : L[i]? with
      | none => rw [e] at h; cases h
      | some o => rw [e] at h; cases o with
        | none => cases h
        | some b => cases h; exact List.mem_of_getElem? e
    · exact adrs_mem h
theorem adrs_pl {L : List (Option Addr)} : ∀ {as : List Ag}, as.all isPl = true → ∀ (i : Nat) a, (adrs L as)[i]? ≠ some (some a)
  | [], _, i, a, h => by simp [adrs] at h
  | .pl _ :: r, hp, 0, a, h => by simp [adrs] at h
  | .pl _ :: r, hp, i + 1, a, h => adrs_pl (as := r) (by simpa [isPl] using hp) i a (by simpa [adrs] using h)
  | .by i :: r, hp, _, _, _ => by simp [isPl] at hp
theorem adrs_one {L : List (Option Addr)} : ∀ {pre : List Ag} {i : Nat} {post : List Ag}, pre.all isPl = true → post.all isPl = true → ∀ (j : Nat) a, (adrs L (pre ++ .by i :: post))[j]? = some (some a) → j = pre.length ∧ L[i]? = some (some a)
  | [], i, post, _, hp, 0, a, h => by
    simp [adrs] at h
    cases e : L[i]? with
    | none => rw [e] at h; cases h
    | some o => rw [e] at h; cases o with
      | none => cases h
      | some b => cases h; exact ⟨rfl, rfl⟩
  | [], i, post, _, hp, j + 1, a, h => absurd (by simpa [adrs] using h) (adrs_pl hp j a)
  | .pl d :: pre, i, post, hq, hp, 0, a, h => by simp [adrs] at h
  | .pl d :: pre, i, post, hq, hp, j + 1, a, h => by
    obtain ⟨h1, h2⟩ := adrs_one (pre := pre) (by simpa [isPl] using hq) hp j a (by simpa [adrs] using h)
    exact ⟨by simp [h1], h2⟩
  | .by j :: pre, _, _, hq, _, _, _, _ => by simp [isPl] at hq
theorem args_ok {G : Ent} {L : List (Option Addr)} {ρ : REnv} {σ : L2.St} {H : Hp} (R : Rel K G L ρ σ H) : ∀ {as : List Ag} {vs : List V} {xs : List PV}, AgsOk K G L σ H vs as → toPV ρ as = some xs →
    xs.length = vs.length ∧ as.length = vs.length ∧ ∀ (i : Nat) x, xs[i]? = some x → ∃ a v, (adrs L as)[i]? = some a ∧ vs[i]? = some v ∧ ArgOk K (fun b => G.N b ∨ some b ∈ L) H a v x
  | [], _, xs, .nil, e => by cases e; exact ⟨rfl, rfl, fun i x h => by simp at h⟩
  | .pl d :: r, _, xs, .cons h t, e => by
    unfold toPV at e
    split at e
    · rename_i ys e1
      cases e
      obtain ⟨h1, h2, h3⟩ := args_ok R t e1
      refine ⟨by simp [h1], by simp [h2], fun i x hx => ?_⟩
      cases i with
      | zero =>
        simp at hx
        subst hx
        refine ⟨none, _, rfl, rfl, rfl, Rp.mono (fun b o z => ?_) (show Rp K (hd G.N L H) _ d from h)⟩
        obtain ⟨z1, z2, z3⟩ := hd_some.mp z
        exact hd_some.mpr ⟨fun y => y.elim z1 z2, by simp, z3⟩
      | succ i => simpa [adrs] using h3 i x (by simpa using hx)
    · cases e
  | .by j :: r, _, xs, .cons h t, e => by
    unfold toPV at e
    split at e
    · rename_i ds e0
      split at e
      · rename_i ys e1
        cases e
        obtain ⟨h1, h2, h3⟩ := args_ok R t e1
        refine ⟨by simp [h1], by simp [h2], fun i x hx => ?_⟩
        cases i with
        | zero =>
          simp at hx
          subst hx
          obtain ⟨y, f1, f2⟩ := ownAt_some e0
          obtain ⟨a, us, g1, g2, g3, g4⟩ := R.own f1 f2
          have hv := slot_same h g1
          subst hv
          refine ⟨some a, .ref a, by simp [adrs, g2], rfl, a, us, rfl, rfl, .inr (List.mem_of_getElem? g2), g3, g4.mono fun b o z => ?_⟩
          obtain ⟨z1, z2, z3⟩ := hd_some.mp z
          exact hd_some.mpr ⟨fun y => y.elim z1 z2, by simp, z3⟩
        | succ i => simpa [adrs] using h3 i x (by simpa using hx)
      · cases e
    · cases e
/-- behind a call: the slots by what came out -/
theorem Rel.called {G : Ent} {L : List (Option Addr)} {ρ ρ' : REnv} {σ : L2.St} {H H' : Hp} {as : List Ag} {outs : List (Option (List PyData))} (R : Rel K G L ρ σ H) (h1 : oneBy as = true) (h2 : setOuts ρ as outs = some ρ')
    (hl : ∀ i, .by i ∈ as → ∃ ds, ownAt ρ i = some ds) (af : After K (fun b => G.N b ∨ some b ∈ L) (adrs L as) outs H H') : Rel K G L ρ' σ H' ∧ Ew L H H' := by
  have ew : Ew L H H' := ⟨fun b o n e => af.keep b o (fun m => n (adrs_mem m)) e, af.there⟩
  refine ⟨?_, ew⟩
  rcases oneBy_split h1 with hp | ⟨pre, i, post, rfl, hq, hp⟩
  · rw [setOuts_pl hp h2]
    refine R.mono fun b o e => af.keep b o (fun m => ?_) e
    obtain ⟨j, hj⟩ := List.mem_iff_getElem?.mp m
    exact adrs_pl hp j b hj
  · obtain ⟨ds', x, o1, o2, rfl⟩ := setOuts_one hq hp h2
    obtain ⟨ds, e0⟩ := hl i (by simp)
    obtain ⟨y, f1, f2⟩ := ownAt_some e0
    rw [o2] at f1
    cases f1
    obtain ⟨a, us, g1, g2, g3, g4⟩ := R.own o2 f2
    have ha : (adrs L (pre ++ .by i :: post))[pre.length]? = some (some a) := by
      have : ∀ pre : List Ag, (adrs L (pre ++ .by i :: post))[pre.length]? = some (L[i]?).join := fun pre => by
        induction pre with
        | nil => rfl
        | cons c pre ih => cases c <;> simpa [adrs] using ih
      rw [this pre, g2]; rfl
    obtain ⟨ws, k1, k2⟩ := af.out pre.length a ds' ha o1
    have key : ∀ b o, b ≠ a → H b = some o → H' b = some o := fun b o hb e => af.keep b o (fun m => by
      obtain ⟨j, hj⟩ := List.mem_iff_getElem?.mp m
      obtain ⟨_, hj2⟩ := adrs_one hq hp j b hj
      rw [g2] at hj2
      cases hj2
      exact hb rfl) e
    have le : Le H (upd H' a (.lst us)) := fun b o e => by
      by_cases hb : b = a
      · subst hb; rw [g3] at e; cases e; exact upd_same
      · rw [upd_ne hb]; exact key b o hb e
    have ma : some a ∈ L := List.mem_of_getElem? g2
    have R2 := (R.mono le).write (vs' := ws) (ds' := ds') o2 f2 g2 (k2.mono fun b o z => by
      obtain ⟨z1, z2, z3⟩ := hd_some.mp z
      have hb : b ≠ a := fun y => z1 (by rw [y]; exact .inr ma)
      exact hd_some.mpr ⟨fun y => z1 (.inl y), fun y => z1 (.inr y), by rw [upd_ne hb]; exact z3⟩)
    have e : upd (upd H' a (.lst us)) a (.lst ws) = H' := by
      rw [upd_upd]
      funext b
      by_cases hb : b = a
      · subst hb; rw [upd_same, k1]
      · rw [upd_ne hb]
    rw [e] at R2
    exact R2
theorem toPV_by : ∀ {ρ : REnv} {as : List Ag} {xs : List PV}, toPV ρ as = some xs → ∀ i, .by i ∈ as → ∃ ds, ownAt ρ i = some ds
  | ρ, .pl d :: r, xs, e, i, h => by
    unfold toPV at e
    split at e
    · rename_i ys e1
      exact toPV_by e1 i (by simpa using h)
    · cases e
  | ρ, .by j :: r, xs, e, i, h => by
    unfold toPV at e
    split at e
    · rename_i ds e0
      split at e
      · rename_i ys e1
        rcases List.mem_cons.mp h with z | z
        · cases z; exact ⟨ds, e0⟩
        · exact toPV_by e1 i z
      · cases e
    · cases e
theorem sem_call {n : Nat} {F : Fn} {t : TA} {fa : G1} (h : SemC K t fa) {G : Ent} {L : List (Option Addr)} {ρ ρ' : REnv} {σ : L2.St} {H : Hp} {r : Ret} {Q : VK} (R : Rel K G L ρ σ H) (hn : ∀ as ρ1, fa ρ = some (as, ρ1) → as.length = n) (e : fCall F fa ρ = some (r, ρ'))
    (q : ∀ v H' L', LS L' L → Rel K G L' ρ' σ H' → Ew L H H' → (match r with
      | .pl d => Rp K (hd G.N L' H') v d
      | .fr ds => ∃ p vs, v = .ref p ∧ H p = none ∧ H' p = some (.lst vs) ∧ some p ∉ L' ∧ RpA K (hd (G.hide p).N L' H') vs ds) → Q v H') :
    t σ H fun vs H1 => spF K n F vs H1 Q E0 := by
  unfold fCall at e
  split at e
  · cases e
  rename_i as ρ1 e1
  split at e
  · rename_i ho
    split at e
    · cases e
    rename_i xs e2
    split at e
    · cases e
    rename_i r' outs e3
    split at e
    · cases e
    rename_i ρ2 e4
    cases e
    refine h G L ρ σ H _ as ρ1 R e1 fun vs H1 L1 s1 R1 w1 ao => ?_
    obtain ⟨l1, l2, l3⟩ := args_ok R1 ao e2
    have hl := hn as ρ1 e1
    refine ⟨fun b => G.N b ∨ some b ∈ L1, adrs L1 as, xs, r, outs, e3, by omega, by omega, by rw [adrs_len]; exact hl, l3, fun i j a h1 h2 => ?_, R1.alloc, fun a m => .inr (adrs_mem m), fun v H' af ro => ?_⟩
    · rcases oneBy_split ho with hp | ⟨pre, k, post, rfl, hq, hp⟩
      · exact absurd h1 (adrs_pl hp i a)
      · rw [(adrs_one hq hp i a h1).1, (adrs_one hq hp j a h2).1]
    · obtain ⟨R2, w2⟩ := R1.called ho e4 (toPV_by e2) af
      refine q v H' L1 s1 R2 (w1.trans w2 s1) ?_
      cases r with
      | pl d =>
        refine Rp.mono (fun b o z => ?_) ro
        obtain ⟨z1, z2, z3⟩ := hd_some.mp z
        exact hd_some.mpr ⟨fun y => z1 (.inl y), fun y => z1 (.inr y), z3⟩
      | fr ds =>
        obtain ⟨p, ws, rfl, k1, k2, k3⟩ := ro
        have fp := R1.fresh k1
        refine ⟨p, ws, rfl, w1.free k1, k2, fp.2.1, k3.mono fun b o z => ?_⟩
        obtain ⟨z1, z2, z3⟩ := hd_some.mp z
        exact hd_some.mpr ⟨fun y => z1 (y.elim (fun y => .inl (.inl y)) .inr), fun y => z1 (.inl (.inr y)), z3⟩
  · cases e

theorem sem_callE {n : Nat} {F : Fn} {t : TA} {fa : G1} (h : SemC K t fa) (hn : ∀ ρ as ρ1, fa ρ = some (as, ρ1) → as.length = n) :
    SemE K (fun σ H Q => t σ H fun vs H1 => spF K n F vs H1 Q E0) (fCallE F fa) := by
  intro G L ρ σ H Q d ρ' R e q
  unfold fCallE at e
  split at e
  · rename_i d' ρ1 e1
    cases e
    exact sem_call h R (hn ρ) e1 fun v H' L' s R' w r => q v H' L' s R' w r
  · rename_i ds ρ1 e1
    cases e
    refine sem_call h R (hn ρ) e1 fun v H' L' s R' w ⟨p, vs, ev, hp, h1, hl, r⟩ => ?_
    subst ev
    have hf := R.fresh hp
    exact q _ H' L' s R' w (.lst (hd_some.mpr ⟨hf.1, hl, h1⟩) (r.mono hd_unhide))
  · cases e
/-- a call that hands back a new list, with data alone -/
def fCallF (F : Fn) (fa : G1) : A1 := fun ρ => match fa ρ with
  | none => none
  | some (as, ρ1) => if as.all isPl then match toPV ρ1 as with
    | none => none
    | some xs => match F xs with
      | some (.fr ds, _) => some (ds, ρ1)
      | _ => none
    else none
theorem sem_callF {n : Nat} {F : Fn} {t : TA} {fa : G1} (h : SemC K t fa) (hn : ∀ ρ as ρ1, fa ρ = some (as, ρ1) → as.length = n) :
    SemF K (fun σ H Q => t σ H fun vs H1 => spF K n F vs H1 Q E0) (fCallF F fa) := by
  intro G L ρ σ H Q d ρ' R e q
  unfold fCallF at e
  split at e
  · cases e
  rename_i as ρ1 e1
  split at e
  · rename_i hp
    split at e
    · cases e
    rename_i xs e2
    split at e
    · rename_i ds outs e3
      cases e
      refine h G L ρ σ H _ as ρ' R e1 fun vs H1 L1 s1 R1 w1 ao => ?_
      obtain ⟨l1, l2, l3⟩ := args_ok R1 ao e2
      have hl := hn ρ as ρ' e1
      refine ⟨fun b => G.N b ∨ some b ∈ L1, adrs L1 as, xs, .fr d, outs, e3, by omega, by omega, by rw [adrs_len]; exact hl, l3, fun i j a h1 h2 => absurd h1 (adrs_pl hp i a), R1.alloc, fun a m => .inr (adrs_mem m), fun v H' af ro => ?_⟩
      obtain ⟨p, ws, rfl, k1, k2, k3⟩ := ro
      have le : Le (upd H1 p (.lst ws)) H' := fun b o z => by
        by_cases hb : b = p
        · subst hb; rw [upd_same] at z; cases z; exact k2
        · rw [upd_ne hb] at z
          refine af.keep b o (fun m => ?_) z
          obtain ⟨j, hj⟩ := List.mem_iff_getElem?.mp m
          exact adrs_pl hp j b hj
      have le1 : Le H1 H' := (Le.new k1).trans le
      refine q p ws H' L1 s1 (w1.free k1) k2 ((R1.hide k1).mono le) (w1.trans (le1.ew (L := L1)) s1) (k3.mono fun b o z => ?_)
      obtain ⟨z1, z2, z3⟩ := hd_some.mp z
      exact hd_some.mpr ⟨fun y => z1 (y.elim (fun y => .inl (.inl y)) .inr), fun y => z1 (.inl (.inr y)), z3⟩
    · cases e
  · cases e
/-- a new list handed in -/
def fTmp (F : Fn) (fe : A1) : REnv → Option (Ret × REnv) := fun ρ => match fe ρ with
  | none => none
  | some (ds, ρ1) => match F [.rf ds] with
    | none => none
    | some (r, _) => some (r, ρ1)
def fTmpE (F : Fn) (fe : A1) : D1 := fun ρ => match fTmp F fe ρ with
  | some (.pl d, ρ1) => some (d, ρ1)
  | _ => none
theorem sem_tmpE {F : Fn} {fe : A1} (h : SemF K te fe) : SemE K (fun σ H Q => tCons te tNil σ H fun vs H1 => spF K 1 F vs H1 Q E0) (fTmpE F fe) := by
  intro G L ρ σ H Q d ρ' R e q
  unfold fTmpE at e
  split at e
  · rename_i d' ρ1 e1
    cases e
    unfold fTmp at e1
    split at e1
    · cases e1
    rename_i ds ρ2 e2
    split at e1
    · cases e1
    rename_i r outs e3
    cases e1
    refine h G L ρ σ H _ ds ρ' R e2 fun p vs H1 L1 s1 hp h1 R1 w1 r1 => ?_
    have hf := R.fresh hp
    have hl : some p ∉ L1 := fun m => hf.2.1 (s1.mem m)
    refine ⟨fun b => (G.N b ∨ b = p) ∨ some b ∈ L1, [some p], [.rf ds], .pl d, outs, e3, rfl, rfl, rfl, fun i x hx => ?_, fun i j a a1 a2 => ?_, fun b z => ?_, fun a m => ?_, fun v H' af ro => ?_⟩
    · cases i with
      | zero =>
        simp at hx
        subst hx
        exact ⟨some p, .ref p, rfl, rfl, p, vs, rfl, rfl, .inl (.inr rfl), h1, r1.mono fun b o z => by
          obtain ⟨z1, z2, z3⟩ := hd_some.mp z
          exact hd_some.mpr ⟨fun y => y.elim z1 z2, by simp, z3⟩⟩
      | succ i => simp at hx
    · cases i with
      | zero => cases j with
        | zero => rfl
        | succ j => simp at a2
      | succ i => simp at a1
    · exact R1.alloc b z
    · simp at m; subst m; exact .inl (.inr rfl)
    · obtain ⟨o, ho⟩ := af.there p _ h1
      have le : Le H1 (upd H' p (.lst vs)) := fun b u e => by
        by_cases hb : b = p
        · subst hb; rw [h1] at e; cases e; exact upd_same
        · rw [upd_ne hb]
          exact af.keep b u (by simp only [List.mem_cons, Option.some.injEq, List.not_mem_nil, or_false]; exact hb) e
      have R2 := (R1.mono le).wr (p := p) (o := o) (.inr rfl) hl hf.2.2
      have e : upd (upd H' p (.lst vs)) p o = H' := by
        rw [upd_upd]
        funext b
        by_cases hb : b = p
        · subst hb; rw [upd_same, ho]
        · rw [upd_ne hb]
      rw [e] at R2
      have w2 : Ew L H H' := ⟨fun b u n z => af.keep b u (by simp only [List.mem_cons, Option.some.injEq, List.not_mem_nil, or_false]; exact ne_of_none z hp) (w1.1 b u n z), fun b u z => by
        obtain ⟨u2, z2⟩ := w1.2 b u z
        exact af.there b u2 z2⟩
      refine q v H' L1 s1 (R2.unhide R.bd) w2 (Rp.mono (fun b o z => ?_) ro)
      obtain ⟨z1, z2, z3⟩ := hd_some.mp z
      exact hd_some.mpr ⟨fun y => z1 (.inl (.inl y)), fun y => z1 (.inr y), z3⟩
  · cases e
end

/-! ### by keywords -/
def pick {α : Type} (perm : List Nat) (l : List α) : List α := perm.filterMap fun i => l[i]?
theorem pick_vals : ∀ (perm : List Nat) {vs : List V} {us : List Value}, Vals vs us → Vals (pick perm vs) (pick perm us)
  | [], _, _, _ => .nil
  | i :: r, vs, us, h => by
    unfold pick
    rw [List.filterMap_cons, List.filterMap_cons]
    cases e : vs[i]? with
    | none =>
      rw [h.none_of e]
      exact pick_vals r h
    | some v =>
      obtain ⟨u, h1, h2⟩ := h.get e
      rw [h1]
      exact .cons h2 (pick_vals r h)
theorem pick_rp {K : PySem.W.Frag} {H : Hp} : ∀ (perm : List Nat) {vs : List V} {ds : List PyData}, RpA K H vs ds → RpA K H (pick perm vs) (pick perm ds)
  | [], _, _, _ => .nil
  | i :: r, vs, ds, h => by
    unfold pick
    rw [List.filterMap_cons, List.filterMap_cons]
    cases e : ds[i]? with
    | none =>
      have : vs[i]? = none := by
        rw [List.getElem?_eq_none_iff] at e ⊢
        rw [h.len]; exact e
      rw [this]
      exact pick_rp r h
    | some d =>
      obtain ⟨v, h1, h2⟩ := h.get e
      rw [h1]
      exact .cons h2 (pick_rp r h)
theorem pe_callK {X : Cx} {k : Nat} {f : Addr} {fd : FuncData} {ps ks : List Str} {sp : Sp} {x : Str} {p pos : Pos} {kws : List Keyword} {tk : TA} (perm : List Nat)
    (F : FnG X.prog X.w X.K X.mg X.base k f fd ps sp) (c : Cl0 X.A) (hr : Room k X.A) (hg : Gl X x) (hm : X.mg x = some (.ref f)) (hk : PySem.W.keepIn X.K (.ref f) = true)
    (hb : ∀ (s : Shared) (us : List Value), us.length = ks.length → BindsTo s fd ⟨[], ks.zip us⟩ (ps.zip (pick perm us))) (ha : PK X kws tk)
    (hall : (backToKw pos (keywordEach kws X.env)).all (·.1.isSome) = true := by rfl) (hks : (backToKw pos (keywordEach kws X.env)).filterMap (·.1) = ks := by rfl)
    (hdb : (x == ("__debug__" : Str)) = false := by decide)
    (hpl : ((backTo pos (starEach [] X.env)).any (·.1) || (backToKw pos (keywordEach kws X.env)).any (·.1.isNone)) = false := by rfl) :
    PE X (.Call (.Name x p) [] kws pos) (fun σ H Q => tk σ H fun zs H1 => zs.length = ks.length ∧ sp (pick perm zs) H1 Q E0) := by
  constructor
  intro pins s σ H Q I h
  refine wpAny_Call_Name_kw (ld_glob I hg hm (PySem.W.callWith_KW0 (h₀ := X.base) I.ok.mod.kin hk hall (thn (ha.run pos pins s σ H _ I h) ?_) hpl) hdb)
  rintro us s1 ⟨zs, H1, I1, r, hz, q⟩
  refine ⟨I1.kIn, ?_⟩
  rw [hks]
  refine wpAny_call (codeAny_mono (F.go X.A X.stack s1 H1 ⟨[], ks.zip us⟩ (pick perm us) (pick perm zs) Q c hr I1.env0 (hb s1 us (by rw [← r.length]; exact hz)) (pick_vals perm r) q) fun re s' hq => ?_)
  obtain ⟨u, rfl, ep⟩ := FnG.ends I1 hq
  exact ep
def fCallK (F : Fn) (perm : List Nat) (m : Nat) (fk : A1) : D1 := fun ρ => match fk ρ with
  | none => none
  | some (ds, ρ1) => if ds.length = m then match F ((pick perm ds).map .pl) with
    | some (.pl d, _) => some (d, ρ1)
    | some (.fr es, _) => some (.list es, ρ1)
    | none => none
    else none
theorem sem_callK {K : PySem.W.Frag} {tk : TA} {fk : A1} {n m : Nat} {F : Fn} (perm : List Nat) (h : SemA K tk fk) (hp : ∀ ds : List PyData, ds.length = m → (pick perm ds).length = n) :
    SemE K (fun σ H Q => tk σ H fun zs H1 => zs.length = m ∧ spF K n F (pick perm zs) H1 Q E0) (fCallK F perm m fk) := by
  intro G L ρ σ H Q d ρ' R e q
  unfold fCallK at e
  split at e
  · cases e
  rename_i ds ρ1 e1
  split at e
  · rename_i hm
    have go : ∀ (r : Ret) (outs : List (Option (List PyData))) (ρ2 : REnv), F ((pick perm ds).map .pl) = some (r, outs) → ρ2 = ρ1 → (match r with | .pl d' => d' = d | .fr es => .list es = d) → ρ1 = ρ' → tk σ H fun zs H1 => zs.length = m ∧ spF K n F (pick perm zs) H1 Q E0 := by
      rintro r outs ρ2 e2 rfl er rfl
      refine h G L ρ σ H _ ds ρ2 R e1 fun vs H1 L1 s1 R1 w1 r1 => ⟨by rw [r1.len]; exact hm, ?_⟩
      have rp := pick_rp perm r1
      have hlen := hp ds hm
      refine ⟨fun b => G.N b ∨ some b ∈ L1, List.replicate n none, (pick perm ds).map .pl, r, outs, e2, by simp [hlen], by rw [rp.len, hlen], by simp, fun i x hx => ?_, fun i j a h1 h2 => ?_, R1.alloc, fun a m => ?_, fun v H' af ro => ?_⟩
      · rw [List.getElem?_map] at hx
        cases e3 : (pick perm ds)[i]? with
        | none => rw [e3] at hx; cases hx
        | some dd =>
          rw [e3] at hx
          cases hx
          obtain ⟨v, g1, g2⟩ := rp.get e3
          have hi : i < n := by rw [← hlen]; exact (List.getElem?_eq_some_iff.mp e3).1
          refine ⟨none, v, by rw [List.getElem?_replicate, if_pos hi], g1, rfl, g2.mono fun b o z => ?_⟩
          obtain ⟨z1, z2, z3⟩ := hd_some.mp z
          exact hd_some.mpr ⟨fun y => y.elim z1 z2, by simp, z3⟩
      · rw [List.getElem?_replicate] at h1
        split at h1 <;> cases h1
      · simp at m
      · have le : Le H1 H' := fun b o z => af.keep b o (by simp) z
        have w2 : Ew L H H' := w1.trans (le.ew (L := L1)) s1
        cases r with
        | pl d' =>
          cases er
          refine q v H' L1 s1 (R1.mono le) w2 (Rp.mono (fun b o z => ?_) ro)
          obtain ⟨z1, z2, z3⟩ := hd_some.mp z
          exact hd_some.mpr ⟨fun y => z1 (.inl y), fun y => z1 (.inr y), z3⟩
        | fr es =>
          cases er
          obtain ⟨p, ws, rfl, k1, k2, k3⟩ := ro
          have fp := R1.fresh k1
          refine q _ H' L1 s1 (R1.mono le) w2 (.lst (hd_some.mpr ⟨fp.1, fp.2.1, k2⟩) (k3.mono fun b o z => ?_))
          obtain ⟨z1, z2, z3⟩ := hd_some.mp z
          exact hd_some.mpr ⟨fun y => z1 (.inl (.inl y)), fun y => z1 (.inl (.inr y)), z3⟩
    split at e
    · rename_i d' outs e2
      cases e
      exact go _ outs ρ' e2 rfl rfl rfl
    · rename_i es outs e2
      cases e
      exact go _ outs ρ' e2 rfl rfl rfl
    · cases e
  · cases e
end Dv

/-! Dv: in, reversed slices, tuples of ranges, comprehensions of two clauses. -/
namespace Dv
open PySem PySem.Spec PyProof.Rows L2

section
variable {K : PySem.W.Frag}
/-! ### in, not in -/
def gInL (neg : Bool) : G2 := fun x y => match y with
  | .list ds => if SeqAt.shaped x && SeqAt.shaped (.list ds) then some (.bool (if neg then !ds.any fun z => PyData.eqv z x else ds.any fun z => PyData.eqv z x)) else none
  | _ => none
theorem s_inL : OpS K (rInD K) (gInL false) := by
  intro N L H x y dx dy dz Q A hx hy e q
  unfold gInL at e
  split at e
  · split at e
    · rename_i ds h
      cases e
      simp only [Bool.and_eq_true] at h
      exact ⟨dx, ds, hx.dp hd_le (SeqAt.canLay_of_shaped h.1), hy.dp hd_le (SeqAt.canLay_of_shaped h.2), h.1, h.2, q _ H (.refl H) (.bl _)⟩
    · cases e
  · cases e
theorem s_notInL : OpS K (rNotInD K) (gInL true) := by
  intro N L H x y dx dy dz Q A hx hy e q
  unfold gInL at e
  split at e
  · split at e
    · rename_i ds h
      cases e
      simp only [Bool.and_eq_true] at h
      exact ⟨dx, ds, hx.dp hd_le (SeqAt.canLay_of_shaped h.1), hy.dp hd_le (SeqAt.canLay_of_shaped h.2), h.1, h.2, q _ H (.refl H) (.bl _)⟩
    · cases e
  · cases e
def gInT (neg : Bool) : G2 := fun x y => match x, y with
  | .int i, .tuple ds => match intsOf ds with
    | some ns => some (.bool (if neg then !(ns.any fun n => n == i) else ns.any fun n => n == i))
    | none => none
  | _, _ => none
theorem inV_ints (i : Int) : ∀ ns : List Int, inV (.int i) (ns.map V.int) = ns.any fun n => n == i
  | [] => rfl
  | n :: ns => by
    have := inV_ints i ns
    unfold inV at this ⊢
    rw [List.map_cons, List.any_cons, this, List.any_cons]
    rfl
theorem flat_ints : ∀ ns : List Int, (ns.map V.int).all flatV = true
  | [] => rfl
  | n :: ns => by rw [List.map_cons, List.all_cons, flat_ints ns]; rfl
theorem s_inT (neg : Bool) : OpS K (rIn K neg) (gInT neg) := by
  intro N L H x y dx dy dz Q A hx hy e q
  unfold gInT at e
  split at e
  · split at e
    · rename_i i ds ns e1
      cases e
      have z := intsOf_some e1
      subst z
      have hx' := hx.int_of
      subst hx'
      cases hy with
      | tup h1 hh1 r1 =>
        have v := r1.ints
        subst v
        refine ⟨_, _, rfl, .inr h1, rfl, flat_ints ns, ?_⟩
        rw [inV_ints]
        exact q _ H (.refl H) (.bl _)
    · cases e
  · cases e
def gIn : G2 := gOr (gInT false) (gInL false)
def gNotIn : G2 := gOr (gInT true) (gInL true)
def rInA (K : PySem.W.Frag) : R2 := fun x y H Q => rIn K false x y H Q ∨ rInD K x y H Q
def rNotInA (K : PySem.W.Frag) : R2 := fun x y H Q => rIn K true x y H Q ∨ rNotInD K x y H Q
theorem s_in : OpS K (rInA K) gIn := ops_or (s_inT false) s_inL
theorem s_notIn : OpS K (rNotInA K) gNotIn := ops_or (s_inT true) s_notInL
theorem o_in {X : Cx} (hu : X.A.units + 65 < cLine) : OpR X (compareOp .In) (rInA X.K) := op_in_seq.or (op_inD hu)
theorem o_notIn {X : Cx} (hu : X.A.units + 65 < cLine) : OpR X (compareOp .NotIn) (rNotInA X.K) := op_notIn_seq.or (op_notInD hu)

/-! ### tuple(range(..)) -/
def SemR (K : PySem.W.Frag) (t : L2.St → Hp → (Int → Int → Hp → Prop) → Prop) (f : REnv → Option ((Int × Int) × REnv)) : Prop := ∀ (G : Ent) (L : List (Option Addr)) (ρ : REnv) (σ : L2.St) (H : Hp) (Q : Int → Int → Hp → Prop) (a b : Int) (ρ' : REnv),
  Rel K G L ρ σ H → f ρ = some ((a, b), ρ') → (∀ H' L', LS L' L → Rel K G L' ρ' σ H' → Ew L H H' → Q a b H') → t σ H Q
def fRg1 (fa : D1) : REnv → Option ((Int × Int) × REnv) := fun ρ => match fa ρ with
  | some (.int n, ρ1) => some ((0, n), ρ1)
  | _ => none
def fRg2 (fa fb : D1) : REnv → Option ((Int × Int) × REnv) := fun ρ => match fa ρ with
  | some (.int i, ρ1) => match fb ρ1 with
    | some (.int j, ρ2) => some ((i, j), ρ2)
    | _ => none
  | _ => none
theorem sem_rg1 {ta : TE} {fa : D1} (h : SemE K ta fa) : SemR K (tRg1 ta) (fRg1 fa) := by
  intro G L ρ σ H Q a b ρ' R e q
  unfold fRg1 at e
  split at e
  · rename_i n ρ1 e1
    cases e
    exact h G L ρ σ H _ _ ρ' R e1 fun v H1 L1 s1 R1 w1 r1 => ⟨_, r1.int_of, q H1 L1 s1 R1 w1⟩
  · cases e
theorem sem_rg2 {ta tb : TE} {fa fb : D1} (h : SemE K ta fa) (h2 : SemE K tb fb) : SemR K (tRg2 ta tb) (fRg2 fa fb) := by
  intro G L ρ σ H Q a b ρ' R e q
  unfold fRg2 at e
  split at e
  · rename_i i ρ1 e1
    split at e
    · rename_i j ρ2 e2
      cases e
      exact h.two h2 R e1 e2 fun x y H1 L1 s1 R1 w1 r1 r2 => ⟨_, _, r1.int_of, r2.int_of, q H1 L1 s1 R1 w1⟩
    · cases e
  · cases e
def okRg (a b : Int) : Bool := decide (-(2 ^ 62) ≤ a ∧ a < 2 ^ 62 ∧ -(2 ^ 62) ≤ b ∧ b < 2 ^ 62 ∧ (b - a).toNat ≤ 2 ^ 24)
theorem rgV_eq (a b : Int) : rgV a b = ((List.range (b - a).toNat).map fun (i : Nat) => a + (i : Int)).map V.int := by
  unfold rgV
  rw [List.map_map]
  rfl
theorem rangeD_ints (lo : Int) (n : Nat) : rangeD lo n = ((List.range n).map fun (i : Nat) => lo + (i : Int)).map .int := by
  unfold rangeD
  rw [List.map_map]
  rfl
def fTupR (f : REnv → Option ((Int × Int) × REnv)) : D1 := fun ρ => match f ρ with
  | some ((a, b), ρ1) => if okRg a b then some (.tuple (rangeD a (b - a).toNat), ρ1) else none
  | none => none
theorem sem_tupR {t : L2.St → Hp → (Int → Int → Hp → Prop) → Prop} {f : REnv → Option ((Int × Int) × REnv)} (h : SemR K t f) : SemE K (tTupRg t) (fTupR f) := by
  intro G L ρ σ H Q d ρ' R e q
  unfold fTupR at e
  split at e
  · rename_i a b ρ1 e1
    split at e
    · rename_i hc
      cases e
      refine h G L ρ σ H _ a b ρ' R e1 fun H1 L1 s1 R1 w1 => ⟨(of_decide_eq_true hc : -(2 ^ 62) ≤ a ∧ a < 2 ^ 62 ∧ -(2 ^ 62) ≤ b ∧ b < 2 ^ 62 ∧ (b - a).toNat ≤ 2 ^ 24), fun p hp => ?_⟩
      have le : Le H1 (upd H1 p (.tup (rgV a b))) := Le.new hp
      refine q _ _ L1 s1 (R1.mono le) (w1.trans (le.ew (L := L1)) s1) ?_
      rw [rangeD_ints]
      refine .tup (.of (R1.alloc.new hp)) ?_
      rw [rgV_eq]
      exact RpA.of_ints _
    · cases e
  · cases e
def fLstR (f : REnv → Option ((Int × Int) × REnv)) : A1 := fun ρ => match f ρ with
  | some ((a, b), ρ1) => if okRg a b then some (rangeD a (b - a).toNat, ρ1) else none
  | none => none
theorem semF_lstR {t : L2.St → Hp → (Int → Int → Hp → Prop) → Prop} {f : REnv → Option ((Int × Int) × REnv)} (h : SemR K t f) : SemF K (tLstRg t) (fLstR f) := by
  intro G L ρ σ H Q d ρ' R e q
  unfold fLstR at e
  split at e
  · rename_i a b ρ1 e1
    split at e
    · rename_i hc
      cases e
      refine h G L ρ σ H _ a b ρ' R e1 fun H1 L1 s1 R1 w1 => ⟨(of_decide_eq_true hc : -(2 ^ 62) ≤ a ∧ a < 2 ^ 62 ∧ -(2 ^ 62) ≤ b ∧ b < 2 ^ 62 ∧ (b - a).toNat ≤ 2 ^ 24), fun p hp => ?_⟩
      refine q p _ _ L1 s1 (w1.free hp) upd_same (R1.hide hp) (w1.trans ((Le.new hp).ew (L := L1)) s1) ?_
      rw [rangeD_ints, rgV_eq]
      exact RpA.of_ints _
    · cases e
  · cases e

/-! ### xs[::-1], of a list or a tuple -/
def gRev : PyData → Option PyData := fun x => match x with
  | .list ds => some (.list ds.reverse)
  | .tuple ds => some (.tuple ds.reverse)
  | _ => none
/-- a new object each time (a tuple's own may come back where that is the same) -/
def rRev (K : PySem.W.Frag) : V → Hp → VK → Prop := fun x H Q => ∃ a xs, x = .ref a ∧ ((SqL K H a xs ∧ ∀ p, H p = none → Q (.ref p) (upd H p (.lst xs.reverse))) ∨ (SqT K H a xs ∧ ∀ p, H p = none → Q (.ref p) (upd H p (.tup xs.reverse))))
theorem s_rev : UnS K (rRev K) gRev := by
  intro N L H x dx dz Q A hx e q
  unfold gRev at e
  split at e
  · cases e
    cases hx with
    | lst h1 r1 => exact ⟨_, _, rfl, .inl ⟨.of h1, fun p hp => q _ _ (Le.new hp) (.lst (A.new hp) (r1.reverse.mono (hd_mono (Le.new hp))))⟩⟩
  · cases e
    cases hx with
    | tup h1 hh1 r1 => exact ⟨_, _, rfl, .inr ⟨h1, fun p hp => q _ _ (Le.new hp) (.tup (.of (A.new hp)) (r1.reverse.mono (hd_mono (Le.new hp))))⟩⟩
  · cases e

/-! ### {} -/
def fDic : D1 := fun ρ => some (.dict [], ρ)
theorem sem_dic {t : TE} (h : ∀ σ H Q, (∀ d, H d = none → Q (.ref d) (upd H d (.dK []))) → t σ H Q) : SemE K t fDic := by
  intro G L ρ σ H Q d ρ' R e q
  cases e
  refine h σ H Q fun p hp => ?_
  exact q _ _ L (.refl L) (R.mono (Le.new hp)) ((Le.new hp).ew (L := L)) (.dic (R.alloc.new hp))
end

section
variable {prog : Program} {w : World} {A : Around} {E : Value → Shared → Prop} {s : Shared}
theorem back_pick (xs : List Value) : ((List.range xs.length).filterMap fun (k : Nat) => xs.toArray[(((xs.length : Int) - 1) + (k : Int) * (-1)).toNat]?) = xs.reverse := by
  have e : ∀ k, k < xs.length → xs.toArray[(((xs.length : Int) - 1) + (k : Int) * (-1)).toNat]? = xs.reverse[k]? := fun k hk => by
    have h1 : (((xs.length : Int) - 1) + (k : Int) * (-1)).toNat = xs.length - 1 - k := by omega
    rw [h1, List.getElem?_reverse hk]
    simp
  have e2 : ∀ n, n ≤ xs.length → ((List.range n).filterMap fun (k : Nat) => xs.toArray[(((xs.length : Int) - 1) + (k : Int) * (-1)).toNat]?) = xs.reverse.take n := fun n => by
    induction n with
    | zero => intro _; rfl
    | succ n ih =>
      intro hn
      rw [List.range_succ, List.filterMap_append, ih (by omega), List.take_add_one]
      congr 1
      rw [List.filterMap_cons, e n (by omega)]
      cases hq : xs.reverse[n]? <;> rfl
  rw [e2 xs.length (Nat.le_refl _)]
  exact List.take_of_length_le (by simp)
theorem back_applied {sl : Addr} {vl vu vs : Value} {n : Nat} {Q : Int × Int × Nat → Shared → Prop} (hs : s.heap.IsSliceOf sl vl vu vs) (pl : IsPart vl none) (pu : IsPart vu none) (ps : IsPart vs (some (-1)))
    (h : Q ((n : Int) - 1, -1, n) s) : wpAny (model prog w) A (Builtin.Slice.sliceApplied (.ref sl) (pure (n : Int))) Q E s := by
  obtain ⟨os, a1, a2, a3⟩ := id hs
  cases pl
  cases pu
  cases ps with
  | int i t =>
  unfold Builtin.Slice.sliceApplied
  unfold Builtin.Slice.sliceFields
  have f3 : ∀ R : Value × Value × Value → Shared → Prop, R (Value.none, Value.none, Value.int (-1) t) s → wpAny (model prog w) A (Builtin.Slice.sliceFields (.ref sl)) R E s := fun R hR => by
    unfold Builtin.Slice.sliceFields
    refine wpAny_bind (wpAny_field a1 a3 (x := .none) rfl ?_)
    refine wpAny_bind (wpAny_field a1 a3 (x := .none) rfl ?_)
    exact wpAny_bind (wpAny_field a1 a3 (x := .int (-1) t) rfl (wpAny_pure hR))
  refine wpAny_bind (f3 _ (wpAny_bind (HT.slicePart_ (.int (-1) t) ?_)))
  show wpAny _ _ (if ((-1 : Int) == 0) = true then _ else _) _ _ s
  rw [if_neg (by decide)]
  refine wpAny_bind (HT.slicePart_ .none ?_)
  refine wpAny_bind (HT.slicePart_ .none ?_)
  refine wpAny_bind (wpAny_pure ?_)
  have e1 : Builtin.Slice.sliceAdjust none none (-1) (n : Int) = ((n : Int) - 1, -1) := rfl
  have e2 : Builtin.Slice.slicePlaces ((n : Int) - 1) (-1) (-1) = n := by
    unfold Builtin.Slice.slicePlaces
    rw [if_neg (by decide)]
    by_cases h0 : n = 0
    · subst h0; rfl
    · rw [if_pos (by omega)]
      have : ((n : Int) - 1 - -1 - 1) / - -1 + 1 = n := by
        rw [show (- -1 : Int) = 1 by decide, Int.ediv_one]; omega
      rw [this]; omega
  show wpAny _ _ (match Builtin.Slice.sliceAdjust none none (-1) (n : Int) with | (lo, hi) => pure (lo, (-1 : Int), Builtin.Slice.slicePlaces lo hi (-1))) _ _ s
  rw [e1]
  show wpAny _ _ (pure ((n : Int) - 1, (-1 : Int), Builtin.Slice.slicePlaces ((n : Int) - 1) (-1) (-1))) _ _ s
  rw [e2]
  exact wpAny_pure h
theorem back_tuple {t sl : Addr} {xs : List Value} {vl vu vs : Value} {Q : Value → Shared → Prop} (ht : IsTup s.heap t xs.toArray) (hs : s.heap.IsSliceOf sl vl vu vs) (pl : IsPart vl none) (pu : IsPart vu none) (ps : IsPart vs (some (-1)))
    (h : Q (.ref s.heap.objs.size) { s with heap := s.heap.push { cls := .type "tuple", data := .seq xs.reverse.toArray } }) (hz : xs.length ≤ sizeLine) : wpAny (model prog w) A (getItem (.ref t) (.ref sl)) Q E s := by
  obtain ⟨os, a1, a2, a3⟩ := id hs
  have hT : s.TypeIs (.ref sl) "slice" := ⟨os, a1, a2⟩
  have fit : sizeOk (.seq xs.reverse.toArray) := by
    show xs.reverse.toArray.size ≤ sizeLine
    rw [List.size_toArray, List.length_reverse]; exact hz
  have core : ∀ R : Value → Shared → Prop, R (.ref s.heap.objs.size) { s with heap := s.heap.push { cls := .type "tuple", data := .seq xs.reverse.toArray } } → wpAny (model prog w) A (call (.builtin "tuple.__getitem__") [.ref t, .ref sl]) R E s := fun R h => by
    refine wpAny_call_entry PyProof.Rows.slot_tuple_getitem ht.typeIs entry_tuple_getitem ?_ (args_tuple_getitem _ _)
    show wpAny _ _ (Builtin.Tuple.tupleItemsOf (.ref t) >>= _) _ _ s
    refine wpAny_bind (tupleItemsOf_ ht (wpAny_bind (wpAny_typeOf hT ?_)))
    rw [if_pos (by decide)]
    have hsz : xs.toArray.size = xs.length := by simp
    refine wpAny_bind ?_
    show wpAny _ _ (Builtin.Slice.sliceApplied (.ref sl) (pure ((xs.toArray.size : Nat) : Int))) _ _ s
    rw [hsz]
    refine back_applied hs pl pu ps ?_
    have hno : ¬ ((((xs.length : Int) - 1) == 0 && (-1 : Int) == 1 && xs.length == xs.length) = true) := by
      intro q
      rw [Bool.and_eq_true, Bool.and_eq_true] at q
      exact absurd q.1.2 (by decide)
    show wpAny _ _ (if (((xs.length : Int) - 1) == 0 && (-1 : Int) == 1 && xs.length == xs.toArray.size) = true then _ else _) _ _ s
    rw [hsz, if_neg hno, back_pick]
    first
      | exact wpAny_bind (m := Builtin.Tuple.tupleExact _) (wpAny_newObj_type (wpAny_pure ⟨_, rfl, h⟩) fit)
      | exact wpAny_bind (m := Builtin.Tuple.tupleExact _) (wpAny_newObj_type (wpAny_bind (wpAny_pure (wpAny_pure ⟨_, rfl, h⟩))) fit)
      | exact wpAny_bind (wpAny_bind (m := Builtin.Tuple.tupleExact _) (wpAny_newObj_type (wpAny_pure (wpAny_pure ⟨_, rfl, h⟩)) fit))
      | exact wpAny_bind (wpAny_bind (m := Builtin.Tuple.tupleExact _) (wpAny_newObj_type (wpAny_pure ⟨_, rfl, h⟩) fit))
  unfold getItem
  try with_reducible refine wpAny_holding ?_
  first | refine wpAny_bind (wpAny_pure ?_) | skip
  refine wpAny_bind (wpAny_sequenceKey ht.typeIs (by decide) (wpAny_bind ?_))
  exact wpAny_callSpecial?_slot (name := Str.ofString "__getitem__") ht.typeIs PyProof.Rows.slot_tuple_getitem (core _ (wpAny_pure h))
end
/-- x[::-1], x a list or a tuple -/
theorem pe_rev {X : Cx} {e : Expr} {te : TE} {k : Nat} {p1 p2 p3 pos : Pos} (he : PE X e te) : PE X (.Subscript e (.Slice none none (some (.UnaryOp .USub (.Constant (.int 1) k p1) p2)) p3) pos) (tUn (rRev X.K) te) := by
  constructor
  intro pins s σ H Q I h
  have hst : PO X (some (.UnaryOp .USub (.Constant (.int 1) k p1) p2)) (tPart (tUn (rU fun i => .int (-i)) (tC (.int 1)))) := po_some (pe_un un_neg pe_int)
  refine Subscript_ (thn (he.run pins s σ H _ I h) ?_)
  rintro v s1 ⟨x, H1, I1, r1, a, xs, ex, q⟩
  subst ex
  cases r1
  refine wpAny_Slice (thn (po_none.run pins s1 σ H1 (fun o H2 => o = none ∧ H2 = H1) I1 ⟨rfl, rfl⟩) ?_)
  rintro vl s2 ⟨l, H2, I2, pl, el, e2⟩
  subst el e2
  refine thn (po_none.run pins s2 σ H2 (fun o H3 => o = none ∧ H3 = H2) I2 ⟨rfl, rfl⟩) ?_
  rintro vu s3 ⟨u, H3, I3, pu, eu, e3⟩
  subst eu e3
  refine thn (hst.run pins s3 σ H3 (fun o H4 => o = some (-1) ∧ H4 = H3) I3 ⟨1, rfl, -1, rfl, rfl, rfl⟩) ?_
  rintro vs s4 ⟨o, H4, I4, ps, eo, e4⟩
  subst eo e4
  have I5 : Inv X pins σ H4 { s4 with heap := s4.heap.push { cls := .type "slice", data := .fields #[vl, vu, vs] } } := I4.kept (t' := s4.toks) fun b ob z => Heap.get?_push_of_some _ z
  have new : ∀ {o : HO} {T : String} {its : List Value}, (ObjOk X.prog X.w (upd H4 (s4.heap.push { cls := .type "slice", data := .fields #[vl, vu, vs] }).objs.size o) ((s4.heap.push { cls := .type "slice", data := .fields #[vl, vu, vs] }).push { cls := .type T, data := .seq its.toArray }) (s4.heap.push { cls := .type "slice", data := .fields #[vl, vu, vs] }).objs.size o) →
      (∀ p, H4 p = none → Q (.ref p) (upd H4 p o)) → EP X pins σ Q (.ref (s4.heap.push { cls := .type "slice", data := .fields #[vl, vu, vs] }).objs.size) { s4 with heap := (s4.heap.push { cls := .type "slice", data := .fields #[vl, vu, vs] }).push { cls := .type T, data := .seq its.toArray } } := fun ok q =>
    ⟨.ref _, _, I5.laid (t' := s4.toks) (fun b ob z => Heap.get?_push_of_some _ z) (Nat.le_refl _) ok, rfl, q _ (I5.hok.fresh (Nat.le_refl _))⟩
  rcases q with ⟨hx, q⟩ | ⟨hx, q⟩
  · obtain ⟨its, r, ht, hz⟩ := I5.list hx
    have hlen := r.length
    refine tail_any (ops := [.ref a, .ref s4.heap.objs.size]) ht.isList.typeIs PySem.slot_list_getitem.lookup ?_ (by with_unfolding_all rfl)
    refine wpAny_getItem_list_slice ht.isList (Heap.IsSliceOf.new _ vl vu vs) pl pu ps (by decide) ?_ (by rw [List.size_toArray]; omega)
    rw [PySem.W.krv_pick]
    exact new (o := .lst xs.reverse) ⟨by rw [List.length_reverse]; exact hz, _, 0, r.reverse, Heap.get?_push_size _ rfl⟩ q
  · obtain ⟨its, r, ht, hz⟩ := I5.tuple hx
    have hlen := r.length
    refine tail_any (ops := [.ref a, .ref s4.heap.objs.size]) ht.typeIs PyProof.Rows.slot_tuple_getitem.lookup ?_ (by with_unfolding_all rfl)
    refine back_tuple ht (Heap.IsSliceOf.new _ vl vu vs) pl pu ps ?_ (by omega)
    exact new (o := .tup xs.reverse) ⟨by rw [List.length_reverse]; exact hz, _, r.reverse, _, Heap.get?_push_size _ rfl, rfl, 0, rfl⟩ q
end Dv

/-! Dv: sorted of tuples of ints, of any lengths but 0. -/
namespace Dv
open PySem PySem.Spec PyProof.Rows L2

theorem lexLt_irrefl : ∀ a : List Int, HT.lexLt a a = false
  | [] => rfl
  | x :: xs => by rw [HT.lexLt_cons, if_pos rfl, lexLt_irrefl xs]
theorem lexLt_asym : ∀ {a b : List Int}, HT.lexLt a b = true → HT.lexLt b a = false
  | [], [], h => by cases h
  | [], y :: ys, _ => rfl
  | x :: xs, [], h => by cases h
  | x :: xs, y :: ys, h => by
    rw [HT.lexLt_cons] at h ⊢
    by_cases e : x = y
    · rw [if_pos e] at h
      rw [if_pos e.symm]
      exact lexLt_asym h
    · rw [if_neg e] at h
      rw [if_neg (fun z => e z.symm)]
      have := of_decide_eq_true h
      exact decide_eq_false (by omega)
theorem lexLt_tr : ∀ {a b c : List Int}, HT.lexLt b a = false → HT.lexLt c b = false → HT.lexLt c a = false
  | [], _, [], _, _ => rfl
  | x :: xs, [], _, h, _ => by cases h
  | [], [], z :: zs, _, _ => rfl
  | [], y :: ys, z :: zs, _, _ => rfl
  | x :: xs, y :: ys, [], _, h => by cases h
  | x :: xs, y :: ys, z :: zs, h1, h2 => by
    rw [HT.lexLt_cons] at h1 h2 ⊢
    by_cases e1 : y = x
    · rw [if_pos e1] at h1
      by_cases e2 : z = y
      · rw [if_pos e2] at h2
        rw [if_pos (e2.trans e1)]
        exact lexLt_tr h1 h2
      · rw [if_neg e2] at h2
        rw [if_neg (fun q => e2 (q.trans e1.symm))]
        have := of_decide_eq_false h2
        exact decide_eq_false (by omega)
    · rw [if_neg e1] at h1
      have d1 := of_decide_eq_false h1
      by_cases e2 : z = y
      · rw [if_neg (fun q => e1 (e2.symm.trans q))]
        exact decide_eq_false (by omega)
      · rw [if_neg e2] at h2
        have d2 := of_decide_eq_false h2
        by_cases e3 : z = x
        · omega
        · rw [if_neg e3]
          exact decide_eq_false (by omega)
theorem lexLt_eq : ∀ {a b : List Int}, HT.lexLt a b = false → HT.lexLt b a = false → a = b
  | [], [], _, _ => rfl
  | [], y :: ys, h, _ => by cases h
  | x :: xs, [], _, h => by cases h
  | x :: xs, y :: ys, h1, h2 => by
    rw [HT.lexLt_cons] at h1 h2
    by_cases e : x = y
    · rw [if_pos e] at h1
      rw [if_pos e.symm] at h2
      rw [e, lexLt_eq h1 h2]
    · rw [if_neg e] at h1
      rw [if_neg (fun z => e z.symm)] at h2
      have a1 := of_decide_eq_false h1
      have a2 := of_decide_eq_false h2
      omega
theorem swo_key {α : Type} (k : α → List Int) : SrtO.Swo fun v u => HT.lexLt (k v) (k u) := ⟨fun _ _ h => lexLt_asym h, fun _ _ _ h1 h2 => lexLt_tr h1 h2⟩

section
variable {prog : Program} {w : World} {A : Around} {E : Value → Shared → Prop} {s : Shared}
theorem lex_walk {b fin : Bool} {Q : Bool → Shared → Prop} {xs : List Value} {ns : List Int} (hx : IntsAre xs ns) : ∀ {ys : List Value} {ms : List Int} (i : Nat), IntsAre ys ms → fin = decide (xs.length < ys.length) → Q (HT.lexLt ns ms) s →
    PySem.W.KatLex prog w A b fin Q (xs.zip ys) i s := by
  induction hx with
  | nil =>
    intro ys ms i hy hf h
    cases hy with
    | nil => rw [hf]; exact PySem.W.kat_nil h
    | cons q u hy => rw [hf]; exact PySem.W.kat_nil h
  | @cons p t xs ns hx ih =>
    intro ys ms i hy hf h
    cases hy with
    | nil => rw [hf]; exact PySem.W.kat_nil h
    | @cons q u ys ms hy =>
      show PySem.W.KatLex prog w A b fin Q ((Value.int p t, Value.int q u) :: xs.zip ys) i s
      rw [HT.lexLt_cons] at h
      have hf' : fin = decide (xs.length < ys.length) := by rw [hf]; simp
      refine PySem.W.kat_cons (wpAny_eqBool_int ?_)
      by_cases e : p = q
      · rw [if_pos e] at h
        rw [show (p == q) = true from by rw [e]; exact beq_self_eq_true q]
        exact PySem.W.kat_yes (ih (i + 1) hy hf' h)
      · rw [if_neg e] at h
        rw [show (p == q) = false from beq_eq_false_iff_ne.mpr e]
        exact PySem.W.kat_no (TS.oneLt_ints _ h)
end

/-- rows of ints sorted -/
def sortK (l : List (List Int)) : List (List Int) := l.mergeSort fun a b => !HT.lexLt b a
theorem sortK_perm (l : List (List Int)) : (sortK l).Perm l := List.mergeSort_perm l _
theorem sortK_srt (l : List (List Int)) : (sortK l).Pairwise fun a b => HT.lexLt b a = false := by
  have h := List.pairwise_mergeSort (le := fun a b : List Int => !HT.lexLt b a) (fun a b c h1 h2 => ?_) (fun a b => ?_) l
  · refine h.imp fun {a b} h => ?_
    cases e : HT.lexLt b a with
    | false => rfl
    | true => rw [e] at h; cases h
  · have e1 : HT.lexLt b a = false := by cases e : HT.lexLt b a <;> simp_all
    have e2 : HT.lexLt c b = false := by cases e : HT.lexLt c b <;> simp_all
    rw [lexLt_tr e1 e2]; rfl
  · cases e : HT.lexLt b a with
    | false => rfl
    | true => rw [lexLt_asym e]; rfl
theorem sortK_uniq {a b : List (List Int)} (h : a.Perm b) (hs : a.Pairwise fun x y => HT.lexLt y x = false) : a = sortK b :=
  List.Perm.eq_of_pairwise (fun _ _ _ _ h1 h2 => lexLt_eq h2 h1) hs (sortK_srt b) (h.trans (sortK_perm b).symm)
theorem ok_there {P : Program} {w : World} {H : Hp} {h : Heap} {a : Addr} {o : HO} (x : ObjOk P w H h a o) : ∃ u, h.get? a = some u := by
  cases o with
  | lst _ => obtain ⟨_, _, _, _, z⟩ := x; exact ⟨_, z⟩
  | tup _ => obtain ⟨_, _, _, ⟨z, z2, _⟩⟩ := x; exact ⟨_, z2⟩
  | dK _ => obtain ⟨_, _, _, _, _, _, _, z, _⟩ := x; exact ⟨_, z⟩
  | dT _ => obtain ⟨_, _, _, _, _, _, _, z, _⟩ := x; exact ⟨_, z⟩
  | set _ _ => obtain ⟨_, _, _, _, z, _⟩ := x; exact ⟨_, z⟩
  | ins _ _ _ => obtain ⟨_, _, _, z, _⟩ := x; exact ⟨_, z⟩
  | own _ => exact x
  | xd _ => obtain ⟨_, ⟨_, _, _, z, _⟩, _⟩ := x; exact ⟨_, z⟩
  | rng _ _ => obtain ⟨_, _, _, z⟩ := x; exact ⟨_, z⟩
  | frz _ _ => obtain ⟨z, _⟩ := x; exact ⟨_, z⟩
  | tbl _ => exact ⟨_, (show h.get? a = some _ from x)⟩
  | met _ _ => exact ⟨_, (show h.get? a = some _ from x)⟩
  | ext _ => obtain ⟨_, z, _⟩ := x; exact z
/-- the items of a list or a tuple in a new list, sorted -/
theorem sorted_items {prog : Program} {w : World} {A : Around} {E : Value → Shared → Prop} {s : Shared} {l : Addr} {us : List Value} {T : String} {o : Obj} {n : Nat} {lt : Value → Value → Bool} {Q : Value → Shared → Prop} (O : SrtO.Swo lt) (hT : T = "list" ∨ T = "tuple")
    (ho : s.heap.get? l = some o) (hc : o.cls = .type T) (hd : o.data = .seq us.toArray n) (hz : us.length ≤ sizeLine)
    (cmp : 2 ≤ us.length → ∀ (g : Heap) (a : Addr), g.get? a = some (seqObj "list" us.toArray 0) → (∀ b u, s.heap.get? b = some u → b ≠ a ∧ g.get? b = some u) → SrtO.SortableO prog w A.in1.in1 { s with heap := g } a us lt)
    (fin : ∀ (out : List Value) (p : Addr) (g : Heap) (e : Nat), SrtO.Srtd lt out → SrtO.Stb lt out us → s.heap.get? p = none → (∀ b u, s.heap.get? b = some u → g.get? b = some u) → g.get? p = some (seqObj "list" out.toArray e) → Q (.ref p) { s with heap := g }) :
    wpAny (model prog w) A (call (.builtin "sorted") [.ref l]) Q E s := by
  apply Calls.call_function_entry kind_sorted plain_sorted entry_sorted (args_sorted1 _)
  show wpAny _ A.in1 (Builtin.«sorted» ⟨[.ref l], []⟩) _ _ s
  unfold Builtin.«sorted»
  refine wpAny_bind (m := checkCount "sorted" 1 1 _) (wpAny_pure ?_)
  refine wpAny_bind (wpAny_collect_seq l hT ho hc hd (fun g kg => ?_) (by rw [List.size_toArray]; exact hz))
  refine wpAny_bind (wpAny_newList ?_ hz)
  have at_ : (g.push (seqObj "list" us.toArray 0)).get? g.objs.size = some (seqObj "list" us.toArray 0) := Heap.get?_push_size _ rfl
  have kp : ∀ b u, s.heap.get? b = some u → b ≠ g.objs.size ∧ (g.push (seqObj "list" us.toArray 0)).get? b = some u := fun b u e => ⟨Nat.ne_of_lt (Heap.lt_size (kg b u e)), Heap.get?_push_of_some _ (kg b u e)⟩
  have old : ∀ (out : List Value) b u, s.heap.get? b = some u → (sortedHeap (g.push (seqObj "list" us.toArray 0)) g.objs.size us out.toArray).get? b = some u := fun out b u e => by
    rw [sortedHeap_old (kp b u e).1 (Heap.lt_size (kp b u e).2)]
    exact (kp b u e).2
  have none_ : s.heap.get? g.objs.size = none := by
    cases e : s.heap.get? g.objs.size with
    | none => rfl
    | some u => exact absurd rfl (kp _ u e).1
  show wpAny _ _ _ _ _ { s with heap := g.push (seqObj "list" us.toArray 0) }
  refine wpAny_bind (wpAny_holding (wpAny_call_entry slot_list_sort ⟨_, at_, rfl⟩ entry_list_sort (SrtO.list_sort_ord O at_ hz (fun h2 => cmp h2 _ _ at_ kp) fun out so sb => ⟨_, rfl, ?_⟩) (args_list_sort _)))
  obtain ⟨e, he⟩ := sortedHeap_at (out := out.toArray) at_
  exact wpAny_pure ⟨_, rfl, fin out _ _ e so sb none_ (old out) he⟩
/-- a tuple of these ints, at least one -/
def IsK (K : PySem.W.Frag) (H : Hp) (x : V) (ks : List Int) : Prop := ∃ t, x = .ref t ∧ SqT K H t (ks.map V.int) ∧ ks ≠ []
def rSortTI (K : PySem.W.Frag) : List V → Hp → VK → Prop := fun vs H Q => ∃ (a : Addr) (xs : List V) (kss : List (List Int)) (W : V → List Int → Prop), vs = [.ref a] ∧ (SqL K H a xs ∨ SqT K H a xs) ∧ Paired (fun x ks => IsK K H x ks ∧ W x ks) xs kss ∧
  ∀ p ys, H p = none → Paired W ys (sortK kss) → Q (.ref p) (upd H p (.lst ys))
theorem paired_at {α β : Type} {R : α → β → Prop} : ∀ {l : List α} {m : List β}, Paired R l m → ∀ {i : Nat} {a : α}, l[i]? = some a → ∃ b, m[i]? = some b ∧ R a b
  | _, _, .nil, i, a, h => by simp at h
  | _, _, .cons r t, 0, a, h => by simp at h; subst h; exact ⟨_, rfl, r⟩
  | _, _, .cons r t, i + 1, a, h => by
    obtain ⟨b, h1, h2⟩ := paired_at t (i := i) (by simpa using h)
    exact ⟨b, by simpa using h1, h2⟩
section
variable {X : Cx}
theorem c_sortTI : CallR X (.builtin "sorted") (rSortTI X.K) := by
  intro pins s σ H vs us Q I r h
  obtain ⟨a, xs, kss, W, rfl, hs, hx, q⟩ := h
  obtain ⟨its, T, o, n, rv, hT, ho, hc, hd, hz⟩ : ∃ (its : List Value) (T : String) (o : Obj) (n : Nat), Vals xs its ∧ (T = "list" ∨ T = "tuple") ∧ s.heap.get? a = some o ∧ o.cls = .type T ∧ o.data = .seq its.toArray n ∧ xs.length ≤ sizeLine := by
    rcases hs with hs | hs
    · obtain ⟨its, rv, hl, hz⟩ := I.list hs
      obtain ⟨o, h1, h2, n, h3⟩ := hl.isList
      exact ⟨its, _, o, n, rv, .inl rfl, h1, h2, h3, hz⟩
    · obtain ⟨its, rv, hl, hz⟩ := I.tuple hs
      obtain ⟨o, h1, h2, n, h3⟩ := hl
      exact ⟨its, _, o, n, rv, .inr rfl, h1, h2, h3, hz⟩
  obtain ⟨u, rfl, ru⟩ := vals1 r
  obtain rfl : u = Value.ref a := ru
  have hlen := rv.length
  -- each item, its ints
  have item : ∀ {ws : List V} {vs : List Value} {ks : List (List Int)}, Vals ws vs → Paired (fun x ks => IsK X.K H x ks ∧ W x ks) ws ks → (∀ v, v ∈ vs → ∃ t xs k ks, v = .ref t ∧ IsTup s.heap t xs ∧ IntsAre xs.toList (k :: ks)) ∧ vs.map (TS.intsOf s.heap) = ks ∧ ∀ v, v ∈ vs → ∃ y, RelV y v ∧ W y (TS.intsOf s.heap v) := by
    intro ws vs ks rv hp
    induction rv generalizing ks with
    | nil => cases hp; exact ⟨fun v h => (nomatch h), rfl, fun v h => (nomatch h)⟩
    | @cons y v ws vs ry rt ih =>
      cases hp with
      | @cons _ k _ ks hk ht =>
        obtain ⟨i1, i2, i3⟩ := ih ht
        obtain ⟨⟨t, rfl, hT, hne⟩, hW⟩ := hk
        cases ry
        obtain ⟨its2, r2, p2, _⟩ := I.tuple hT
        have ik : IntsAre its2 k := Vals.ints r2
        have tk : TS.TupInts s.heap (.ref t) k := ⟨t, its2.toArray, rfl, p2, by simpa using ik⟩
        obtain ⟨k0, kr, rfl⟩ : ∃ k0 kr, k = k0 :: kr := by
          cases k with
          | nil => exact absurd rfl hne
          | cons k0 kr => exact ⟨k0, kr, rfl⟩
        refine ⟨fun v hv => ?_, by rw [List.map_cons, i2, tk.ints], fun v hv => ?_⟩
        · rcases List.mem_cons.mp hv with rfl | hv
          · exact ⟨t, its2.toArray, k0, kr, rfl, p2, by simpa using ik⟩
          · exact i1 v hv
        · rcases List.mem_cons.mp hv with rfl | hv
          · exact ⟨.ref t, rfl, by rw [tk.ints]; exact hW⟩
          · exact i3 v hv
  obtain ⟨t1, t2, t3⟩ := item rv hx
  refine sorted_items (lt := fun v u => HT.lexLt (TS.intsOf s.heap v) (TS.intsOf s.heap u)) (swo_key _) hT ho hc hd (by omega) (fun h2 h₁ b hb kp => ?_) fun out p g ep so sb pn kg pg => ?_
  · -- the comparisons
    intro h' keep
    have tup : ∀ v, v ∈ its → ∃ t xs k ks n, v = .ref t ∧ (∃ o, h'.get? t = some o ∧ o.cls = .type "tuple" ∧ o.data = .seq xs n) ∧ IntsAre xs.toList (k :: ks) ∧ TS.intsOf s.heap v = k :: ks := fun v hv => by
      obtain ⟨t, xs', k, ks, rfl, ⟨o, ho, hc, n, hd⟩, hi⟩ := t1 v hv
      refine ⟨t, xs', k, ks, n, rfl, ⟨o, keep t o (fun z => ?_) (kp t o ho).2, hc, hd⟩, hi, TS.TupInts.ints ⟨t, xs', rfl, ⟨o, ho, hc, n, hd⟩, hi⟩⟩
      exact (kp t o ho).1 z
    have firsts : ∀ vs : List Value, (∀ v, v ∈ vs → v ∈ its) → ∃ fs, PySem.W.KatTups h' vs fs ∧ fs.length = vs.length ∧ ∀ f, f ∈ fs → ∃ n t, f = Value.int n t := fun vs => by
      induction vs with
      | nil => exact fun _ => ⟨[], PySem.W.KatTups.nil, rfl, fun f hf => (nomatch hf)⟩
      | cons v vs ih =>
        intro hm
        obtain ⟨fs, f1, f2, f3⟩ := ih fun u hu => hm u (List.mem_cons_of_mem _ hu)
        obtain ⟨t, xs', k, ks, n, rfl, ⟨o, ho, hc, hd⟩, hi, _⟩ := tup v (hm v List.mem_cons_self)
        cases e : xs'.toList with
        | nil => rw [e] at hi; cases hi
        | cons y ys =>
          rw [e] at hi
          cases hi with
          | cons _ tt hi' =>
            refine ⟨.int k tt :: fs, PySem.W.KatTups.cons ho hc hd ?_ f1, by simp [f2], fun f hf => ?_⟩
            · have z := congrArg (fun l : List Value => l[0]?) e
              simpa using z
            · rcases List.mem_cons.mp hf with rfl | hf
              · exact ⟨k, tt, rfl⟩
              · exact f3 f hf
    obtain ⟨fs, f1, f2, f3⟩ := firsts its fun _ h => h
    refine ⟨tuples' true, fun Q' E' hq => ?_, fun p q' hp hq => ?_⟩
    · refine PySem.W.kat_kind (T := .type "int") f1 (by omega) (fun f hf => ?_) (by rfl) ?_
      · obtain ⟨n, t, rfl⟩ := f3 f hf
        exact PySem.W.Looks.now
      · have e : (Value.type "int" != Value.type "tuple") = true := by first | decide +kernel | rfl | decide
        rw [e]
        exact hq
    · obtain ⟨ta, xa, ka, ra, na, ea, ⟨oa, a1, a2, a3⟩, ia, ja⟩ := tup p.1 hp
      obtain ⟨tb, xb, kb, rb, nb, eb, ⟨ob, b1, b2, b3⟩, ib, jb⟩ := tup q'.1 hq
      rw [ea, eb]
      refine PySem.W.kat_lt a1 a3 b1 b3 ?_
      refine lex_walk ia 0 ib (by simp) ⟨rfl, ?_⟩
      show HT.lexLt (ka :: ra) (kb :: rb) = HT.lexLt (TS.intsOf s.heap p.1) (TS.intsOf s.heap q'.1)
      rw [ja, jb]
  · -- the end
    have back : ∀ {l : List Value}, (∀ v, v ∈ l → v ∈ its) → ∃ ys, Vals ys l ∧ Paired W ys (l.map (TS.intsOf s.heap)) := fun {l} => by
      induction l with
      | nil => exact fun _ => ⟨[], .nil, .nil⟩
      | cons v l ih =>
        intro hm
        obtain ⟨ys, y1, y2⟩ := ih fun u hu => hm u (List.mem_cons_of_mem _ hu)
        obtain ⟨y, z2, z3⟩ := t3 v (hm v List.mem_cons_self)
        exact ⟨y :: ys, .cons z2 y1, .cons z3 y2⟩
    obtain ⟨ys, y1, y2⟩ := back fun v hv => sb.perm.mem_iff.mp hv
    have es : out.map (TS.intsOf s.heap) = sortK kss := by
      refine sortK_uniq ?_ ?_
      · rw [← t2]; exact sb.perm.map _
      · exact List.pairwise_map.mpr so
    rw [es] at y2
    have hlo : out.length = its.length := sb.perm.length_eq
    have Hp_ : H p = none := by
      cases q : H p with
      | none => rfl
      | some u =>
        obtain ⟨o', e'⟩ := ok_there (I.hok p u q)
        rw [pn] at e'; cases e'
    exact ⟨.ref p, upd H p (.lst ys), I.laidN (t' := s.toks) kg pn Hp_ ⟨by rw [y1.length]; omega, out, ep, y1, pg⟩, rfl, q p ys Hp_ y2⟩
end
/-- the rows of ints of a row of tuples -/
def rowsOf : List PyData → Option (List (List Int))
  | [] => some []
  | .tuple xs :: r => match intsOf xs with
    | some ns => match rowsOf r with
      | some kss => if ns = [] then none else some (ns :: kss)
      | none => none
    | none => none
  | _ => none
def gSorted : GN := fun xs => match xs with
  | [.list ds] => match rowsOf ds with
    | some kss => some (.list ((sortK kss).map fun ks => .tuple (ks.map .int)))
    | none => none
  | [.tuple ds] => match rowsOf ds with
    | some kss => some (.list ((sortK kss).map fun ks => .tuple (ks.map .int)))
    | none => none
  | _ => none
theorem rows_pair {K : PySem.W.Frag} {H Hh : Hp} (le : Le Hh H) : ∀ {vs : List V} {ds : List PyData} {kss : List (List Int)}, RpA K Hh vs ds → rowsOf ds = some kss → Paired (fun v ks => IsK K H v ks ∧ Rp K Hh v (.tuple (ks.map .int))) vs kss
  | _, [], _, .nil, e => by cases e; exact .nil
  | _, .tuple xs :: r, kss, .cons h t, e => by
    unfold rowsOf at e
    split at e
    · rename_i ns e1
      split at e
      · rename_i ks e2
        split at e
        · cases e
        · rename_i hne
          cases e
          have p1 := rows_pair le t e2
          have z := intsOf_some e1
          subst z
          have h' := h
          cases h with
          | tup h1 r1 =>
            have v := r1.ints
            subst v
            exact .cons ⟨⟨_, rfl, le.t h1, hne⟩, h'⟩ p1
      · cases e
    · cases e
  | _, .none :: r, _, _, e => by cases e
  | _, .bool _ :: r, _, _, e => by cases e
  | _, .int _ :: r, _, _, e => by cases e
  | _, .str _ :: r, _, _, e => by cases e
  | _, .list _ :: r, _, _, e => by cases e
  | _, .dict _ :: r, _, _, e => by cases e
theorem paired_rp {K : PySem.W.Frag} {Hh : Hp} : ∀ {vs : List V} {kss : List (List Int)}, Paired (fun v (ks : List Int) => Rp K Hh v (.tuple (ks.map .int))) vs kss → RpA K Hh vs (kss.map fun ks => .tuple (ks.map .int))
  | _, _, .nil => .nil
  | _, _, .cons h t => .cons h (paired_rp t)
theorem s_sorted {K : PySem.W.Frag} : CallS K (rSortTI K) gSorted := by
  intro N L H vs ds dz Q A h e q
  unfold gSorted at e
  split at e
  · split at e
    · rename_i es kss e1
      cases e
      cases h with
      | cons h t =>
        cases t
        cases h with
        | lst h1 r1 =>
          refine ⟨_, _, kss, fun v ks => Rp K (hd N L H) v (.tuple (ks.map .int)), rfl, .inl (.of h1), rows_pair hd_le r1 e1, fun p ys hp hy => ?_⟩
          exact q _ _ (Le.new hp) (.lst (A.new hp) ((paired_rp hy).mono (hd_mono (Le.new hp))))
    · cases e
  · split at e
    · rename_i es kss e1
      cases e
      cases h with
      | cons h t =>
        cases t
        cases h with
        | tup h1 _ r1 =>
          refine ⟨_, _, kss, fun v ks => Rp K (hd N L H) v (.tuple (ks.map .int)), rfl, .inr h1, rows_pair hd_le r1 e1, fun p ys hp hy => ?_⟩
          exact q _ _ (Le.new hp) (.lst (A.new hp) ((paired_rp hy).mono (hd_mono (Le.new hp))))
    · cases e
  · cases e
end Dv

/-! Dv: list comprehensions of two clauses; while. -/
namespace Dv
open PySem PySem.Spec PyProof.Rows L2

/-- the outer clause's loop: behind its tests the inner one's -/
def comp2F (h : T1) (ft : B1) (fi1 : A1) (h1 : T1) (ft1 : B1) (fe : D1) (vs vs1 : List Nat) : List PyData → List PyData → REnv → Option (List PyData × REnv)
  | [], acc, ρ => some (acc, ρ)
  | d :: ds, acc, ρ => match h d ρ with
    | none => none
    | some ρ1 => match ft ρ1 with
      | some (true, ρ2) => match fi1 ρ2 with
        | some (es, ρ3) => match compF h1 ft1 fe vs1 es acc (wipeR ρ3 vs1) with
          | some (acc', ρ4) => comp2F h ft fi1 h1 ft1 fe vs vs1 ds acc' (wipeR ρ4 vs)
          | none => none
        | none => none
      | some (false, ρ2) => comp2F h ft fi1 h1 ft1 fe vs vs1 ds acc (wipeR ρ2 vs)
      | none => none
def fLc2 (fi : A1) (h : T1) (ft : B1) (fi1 : A1) (h1 : T1) (ft1 : B1) (fe : D1) (vs vs1 : List Nat) : A1 := fun ρ => match fi ρ with
  | none => none
  | some (ds, ρ1) => match comp2F h ft fi1 h1 ft1 fe vs vs1 ds [] (wipeR ρ1 vs) with
    | none => none
    | some (acc, ρ2) => if acc.length ≤ sizeLine then some (acc, restR ρ1 ρ2 vs) else none
theorem compF_len {h : T1} {ft : B1} {fe : D1} {vs : List Nat} : ∀ {ds acc : List PyData} {ρ : REnv} {d : List PyData} {ρ' : REnv}, compF h ft fe vs ds acc ρ = some (d, ρ') → acc.length ≤ d.length
  | [], acc, ρ, d, ρ', e => by cases e; exact Nat.le_refl _
  | x :: ds, acc, ρ, d, ρ', e => by
    unfold compF at e
    split at e
    · cases e
    split at e
    · split at e
      · have := compF_len e
        simp at this
        omega
      · cases e
    · exact compF_len e
    · cases e
theorem comp2F_len {h : T1} {ft : B1} {fi1 : A1} {h1 : T1} {ft1 : B1} {fe : D1} {vs vs1 : List Nat} : ∀ {ds acc : List PyData} {ρ : REnv} {d : List PyData} {ρ' : REnv}, comp2F h ft fi1 h1 ft1 fe vs vs1 ds acc ρ = some (d, ρ') → acc.length ≤ d.length
  | [], acc, ρ, d, ρ', e => by cases e; exact Nat.le_refl _
  | x :: ds, acc, ρ, d, ρ', e => by
    unfold comp2F at e
    split at e
    · cases e
    split at e
    · split at e
      · split at e
        · rename_i e1
          exact Nat.le_trans (compF_len e1) (comp2F_len e)
        · cases e
      · cases e
    · exact comp2F_len e
    · cases e
theorem wipe_sub {σ : L2.St} {vs vs1 : List Nat} (h : ∀ i, i ∈ vs1 → i ∈ vs) : wipe (wipe σ vs1) vs = wipe σ vs := by
  apply List.ext_getElem?
  intro i
  by_cases hi : i ∈ vs
  · by_cases hl : i < σ.length
    · rw [wipe_in hi (by rw [wipe_length]; exact hl), wipe_in hi hl]
    · rw [List.getElem?_eq_none (by rw [wipe_length, wipe_length]; omega), List.getElem?_eq_none (by rw [wipe_length]; omega)]
  · rw [wipe_out hi, wipe_out hi, wipe_out fun z => hi (h i z)]
section
variable {K : PySem.W.Frag}
/-- a comprehension on its way: what is still to come is told by c -/
def CompJ (K : PySem.W.Frag) (G : Ent) (D : Addr) (L1 : List (Option Addr)) (H1 : Hp) (σw : L2.St) (c : List PyData → REnv → Option (List PyData × REnv)) (d : List PyData) (ρ2 : REnv) (L4 : List (Option Addr)) (Hh : Hp) (H' : Hp) : Prop :=
  ∃ L' ρ3 a av, LS L' L1 ∧ LS L' L4 ∧ Rel K (G.hide D) L' ρ3 σw H' ∧ Ew L1 H1 H' ∧ Le Hh (hd (G.hide D).N L' H') ∧ H' D = some (.lst av) ∧ RpA K (hd (G.hide D).N L' H') av a ∧ c a ρ3 = some (d, ρ2)
theorem sem_lc2 {wi wi1 : TI} {fi fi1 : A1} {g g1 : TG} {h h1 : T1} {tt tt1 : TT} {ft ft1 : B1} {te : TE} {fe : D1} (vs vs1 : List Nat) (hsub : ∀ i, i ∈ vs1 → i ∈ vs) (hi : SemI K wi fi) (hg : SemG K g h) (hv : GIn g vs) (ht : SemT K tt ft)
    (hi1 : SemI K wi1 fi1) (hg1 : SemG K g1 h1) (hv1 : GIn g1 vs1) (ht1 : SemT K tt1 ft1) (he : SemE K te fe) : SemF K (tLc2 wi g tt wi1 g1 tt1 te vs vs1) (fLc2 fi h ft fi1 h1 ft1 fe vs vs1) := by
  intro G L ρ σ H Q d ρ' R e q
  unfold fLc2 at e
  split at e
  · cases e
  rename_i ds ρ1 e1
  split at e
  · cases e
  rename_i acc ρ2 e2
  split at e
  · rename_i hz
    cases e
    refine hi G L ρ σ H _ ds ρ1 R e1 fun J H1 L1 s1 R1 w1 ig => fun D hD => ?_
    have fD := R1.fresh hD
    have R1h : Rel K (G.hide D) L1 ρ1 σ (upd H1 D (.lst [])) := R1.hide hD
    have N0 : (G.hide D).N D := .inr rfl
    have keep : ∀ {L' : List (Option Addr)} {H' : Hp}, LS L' L1 → Ew L1 H1 H' → Le (hd G.N L1 H1) (hd (G.hide D).N L' H') := fun s w b o z => by
      obtain ⟨z1, z2, z3⟩ := hd_some.mp z
      refine hd_some.mpr ⟨fun y => y.elim z1 fun y => ?_, fun m => z2 (s.mem m), w.1 b o z2 z3⟩
      subst y
      rw [hD] at z3; cases z3
    -- the whole of it by one word
    let W : Nat → Hp → Prop := fun i H' => CompJ K G D L1 H1 (wipe σ vs) (fun a ρ => comp2F h ft fi1 h1 ft1 fe vs vs1 (ds.drop i) a ρ) d ρ2 L1 (hd G.N L1 H1) H'
    refine ⟨fun i m H' => m = ds.length - i ∧ i ≤ ds.length ∧ W i H',
      ⟨ds.length, by simp, Nat.zero_le _, L1, wipeR ρ1 vs, [], [], .refl _, .refl _, R1h.wiped vs, (Le.new hD).ew, keep (.refl _) (Le.new hD).ew, upd_same, .nil, e2⟩, ?_⟩
    rintro i m H2 ⟨rfl, hi, L2', ρ3, a, av, s2, s2', R2, w2, k2, hDa, ra, e3⟩
    have hDl : some D ∉ L2' := fun m => fD.2.1 (s2.mem m)
    obtain ⟨st, go⟩ := ig (G.hide D).N L2' H2 (keep s2 w2) R2.alloc
    by_cases hlt : i < ds.length
    · have hdd : ds.drop i = ds[i] :: ds.drop (i + 1) := List.drop_eq_getElem_cons hlt
      have e3 : comp2F h ft fi1 h1 ft1 fe vs vs1 (ds.drop i) a ρ3 = some (d, ρ2) := e3
      rw [hdd] at e3
      unfold comp2F at e3
      split at e3
      · cases e3
      rename_i ρ4 e4
      obtain ⟨go1, go2⟩ := go i ds[i] (List.getElem?_eq_getElem hlt)
      refine .inr ⟨go1, W (i + 1), fun H' z => ⟨ds.length - (i + 1), by omega, rfl, hlt, z⟩, fun x H3 y => ?_⟩
      obtain ⟨le, rx⟩ := go2 x H3 y
      have fin := hv x (wipe σ vs) H3 (fun σ2 H4 => tt σ2 H4 fun b H5 => if b = true then wi1 σ2 H5 fun J1 H6 => ∃ W1 : Nat → Nat → Hp → Prop, (∃ m, W1 0 m H6) ∧ ∀ j k H, W1 j k H →
        (J1.stop j H ∧ W (i + 1) H) ∨ (J1.go j H ∧ ∃ Nx1 : Hp → Prop, (∀ H', Nx1 H' → ∃ k', k' < k ∧ W1 (j + 1) k' H') ∧ ∀ x H', J1.yld j H x H' → g1 x (wipe σ2 vs1) H' fun σ3 H5 => wipe σ3 vs1 = wipe σ2 vs1 ∧ tt1 σ3 H5 fun b H6 =>
          if b = true then te σ3 H6 fun y H7 => ∃ acc, H7 D = some (.lst acc) ∧ acc.length < sizeLine ∧ Nx1 (upd H7 D (.lst (acc ++ [y]))) else Nx1 H6) else W (i + 1) H5)
      rw [wipe_wipe] at fin
      refine fin (hg (G.hide D) L2' ρ3 (wipe σ vs) H3 _ x ds[i] ρ4 (R2.mono le) rx e4 fun L4 σ4 H4 R4 s4 w4 ew => ?_)
      have w24 : Ew L2' H2 H4 := (le.ew (L := L2')).trans w4 (.refl _)
      split at e3
      · -- the inner clause
        rename_i ρ5 e5
        split at e3
        · rename_i es ρ6 e6
          split at e3
          · rename_i acc' ρ7 e7
            refine ht (G.hide D) L4 ρ4 σ4 H4 _ _ ρ5 R4 e5 fun H5 L5 s5 R5 w5 => ?_
            rw [if_pos rfl]
            refine hi1 (G.hide D) L5 ρ5 σ4 H5 _ es ρ6 R5 e6 fun J1 H6 L6 s6 R6 w6 ig1 => ?_
            have w26 : Ew L2' H2 H6 := w24.trans (w5.trans w6 s5) s4
            have s26 : LS L6 L2' := (s6.trans s5).trans s4
            have hlen' : acc'.length ≤ sizeLine := Nat.le_trans (comp2F_len e3) hz
            refine ⟨fun j k H' => k = es.length - j ∧ j ≤ es.length ∧ CompJ K G D L1 H1 (wipe σ4 vs1) (fun a ρ => compF h1 ft1 fe vs1 (es.drop j) a ρ) acc' ρ7 L6 (hd (G.hide D).N L6 H6) H',
              ⟨es.length, by simp, Nat.zero_le _, L6, wipeR ρ6 vs1, a, av, s26.trans s2, .refl _, R6.wiped vs1, w2.trans w26 s2, .refl _, w26.1 D _ hDl hDa, ra.mono (w26.hd s26), e7⟩, ?_⟩
            rintro j k H7 ⟨rfl, hj, L7, ρ8, a8, av8, s7, s7', R7, w7, k7, hD7, ra7, e8⟩
            have e8 : compF h1 ft1 fe vs1 (es.drop j) a8 ρ8 = some (acc', ρ7) := e8
            have hDl7 : some D ∉ L7 := fun m => fD.2.1 (s7.mem m)
            obtain ⟨st1, gg⟩ := ig1 (G.hide D).N L7 H7 k7 R7.alloc
            by_cases hltj : j < es.length
            · have hee : es.drop j = es[j] :: es.drop (j + 1) := List.drop_eq_getElem_cons hltj
              rw [hee] at e8
              unfold compF at e8
              split at e8
              · cases e8
              rename_i ρ9 e9
              obtain ⟨gg1, gg2⟩ := gg j es[j] (List.getElem?_eq_getElem hltj)
              refine .inr ⟨gg1, CompJ K G D L1 H1 (wipe σ4 vs1) (fun a ρ => compF h1 ft1 fe vs1 (es.drop (j + 1)) a ρ) acc' ρ7 L6 (hd (G.hide D).N L6 H6), fun H' z => ⟨es.length - (j + 1), by omega, rfl, hltj, z⟩, fun x8 H8 y8 => ?_⟩
              obtain ⟨le8, rx8⟩ := gg2 x8 H8 y8
              have fin1 := hv1 x8 (wipe σ4 vs1) H8 (fun σ3 H5 => tt1 σ3 H5 fun b H6' => if b = true then te σ3 H6' fun y H7 => ∃ acc, H7 D = some (.lst acc) ∧ acc.length < sizeLine ∧ CompJ K G D L1 H1 (wipe σ4 vs1) (fun a ρ => compF h1 ft1 fe vs1 (es.drop (j + 1)) a ρ) acc' ρ7 L6 (hd (G.hide D).N L6 H6) (upd H7 D (.lst (acc ++ [y])))
                else CompJ K G D L1 H1 (wipe σ4 vs1) (fun a ρ => compF h1 ft1 fe vs1 (es.drop (j + 1)) a ρ) acc' ρ7 L6 (hd (G.hide D).N L6 H6) H6')
              rw [wipe_wipe] at fin1
              refine fin1 (hg1 (G.hide D) L7 ρ8 (wipe σ4 vs1) H8 _ x8 es[j] ρ9 (R7.mono le8) rx8 e9 fun L9 σ9 H9 R9 s9 w9 ew9 => ?_)
              have w79 : Ew L7 H7 H9 := (le8.ew (L := L7)).trans w9 (.refl _)
              split at e8
              · rename_i ρa ea
                split at e8
                · rename_i dy ρb eb
                  refine ht1 (G.hide D) L9 ρ9 σ9 H9 _ _ ρa R9 ea fun Ha La sa Ra wa => ?_
                  rw [if_pos rfl]
                  refine he (G.hide D) La ρa σ9 Ha _ dy ρb Ra eb fun v Hb Lb sb Rb wb rb => ?_
                  have wt : Ew L7 H7 Hb := w79.trans (wa.trans wb sa) s9
                  have st7 : LS Lb L7 := (sb.trans sa).trans s9
                  have hDb := wt.1 D _ hDl7 hD7
                  have hlb : some D ∉ Lb := fun m => hDl7 (st7.mem m)
                  have hle := compF_len e8
                  refine ⟨av8, hDb, ?_, Lb, wipeR ρb vs1, a8 ++ [dy], av8 ++ [v], st7.trans s7, st7.trans s7', ?_, ?_, ?_, upd_same, ?_, e8⟩
                  · rw [ra7.len]
                    simp only [List.length_append, List.length_cons, List.length_nil] at hle
                    omega
                  · have R6 := (Rb.wiped vs1).wr (o := .lst (av8 ++ [v])) N0 hlb fD.2.2
                    rw [ew9] at R6
                    exact R6
                  · have w6 := w7.trans wt s7
                    refine ⟨fun b o n z => ?_, fun b o z => ?_⟩
                    · rw [upd_ne (ne_of_none z hD)]; exact w6.1 b o n z
                    · rw [upd_ne (ne_of_none z hD)]; exact w6.2 b o z
                  · exact (k7.trans (wt.hd st7)).trans (hd_wr N0)
                  · exact ((ra7.mono (wt.hd st7)).snoc rb).mono (hd_wr N0)
                · cases e8
              · rename_i ρa ea
                refine ht1 (G.hide D) L9 ρ9 σ9 H9 _ _ ρa R9 ea fun Ha La sa Ra wa => ?_
                rw [if_neg (by simp)]
                have wt : Ew L7 H7 Ha := w79.trans wa s9
                have st7 : LS La L7 := sa.trans s9
                refine ⟨La, wipeR ρa vs1, a8, av8, st7.trans s7, st7.trans s7', ?_, w7.trans wt s7, k7.trans (wt.hd st7), wt.1 D _ hDl7 hD7, ra7.mono (wt.hd st7), e8⟩
                have R6 := Ra.wiped vs1
                rw [ew9] at R6
                exact R6
              · cases e8
            · have hj' : j = es.length := by omega
              subst hj'
              rw [List.drop_length] at e8
              cases e8
              refine .inl ⟨st1, L7, wipeR ρ7 vs, acc', av8, s7, s7, ?_, w7, keep s7 w7, hD7, ra7, e3⟩
              have R8 := R7.wiped vs
              rw [wipe_sub hsub, ew] at R8
              exact R8
          · cases e3
        · cases e3
      · rename_i ρ5 e5
        refine ht (G.hide D) L4 ρ4 σ4 H4 _ _ ρ5 R4 e5 fun H5 L5 s5 R5 w5 => ?_
        rw [if_neg (by simp)]
        have wt : Ew L2' H2 H5 := w24.trans w5 s4
        have st2 : LS L5 L2' := s5.trans s4
        refine ⟨L5, wipeR ρ5 vs, a, av, st2.trans s2, st2.trans s2, ?_, w2.trans wt s2, keep (st2.trans s2) (w2.trans wt s2), wt.1 D _ hDl hDa, ra.mono (wt.hd st2), e3⟩
        have R6 := R5.wiped vs
        rw [ew] at R6
        exact R6
      · cases e3
    · have hi' : i = ds.length := by omega
      subst hi'
      have e3 : comp2F h ft fi1 h1 ft1 fe vs vs1 (ds.drop ds.length) a ρ3 = some (d, ρ2) := e3
      rw [List.drop_length] at e3
      cases e3
      exact .inl ⟨st, q D av H2 L2' (s2.trans s1) (w1.free hD) hDa (Rel.rest R1 R2 (keep s2 w2) s2) (w1.trans w2 s1) ra⟩
  · cases e
end
end Dv

/-! Dv: the rules as one prints them for a def's text. -/
namespace Dv
open PySem PySem.Spec PyProof.Rows L2

section
variable {K : PySem.W.Frag} {X : Cx} {a b c e : Expr} {ta tb tc te : TE} {fa fb fc fe : D1} {pos : Pos}
theorem e_var (i : Nat) {x : Str} (hN : X.N[i]? = some x := by rfl) (hv : Vis X.env.scope x := by first | exact .inl rfl | exact .inr (.inl rfl) | exact .inr (.inr rfl)) (h1 : (x == ("__debug__" : Str)) = false := by decide) (h2 : (x == ("__classdict__" : Str)) = false := by decide) :
    SE K X (.Name x pos) (tVar i) (fVar i) := ⟨pe_var hN hv h1 h2, sem_var i⟩
theorem e_int {i j} : SE K X (.Constant (.int i) j pos) (tC (.int i)) (fC (.int i)) := ⟨pe_int, sem_c fun _ => .int i⟩
theorem e_bl {i j} : SE K X (.Constant (.bool i) j pos) (tC (.bl i)) (fC (.bool i)) := ⟨pe_bl, sem_c fun _ => .bl i⟩
theorem e_non {j} : SE K X (.Constant .none j pos) (tC .non) (fC .none) := ⟨pe_non, sem_c fun _ => .non⟩
theorem e_str {i j} : SE K X (.Constant (.str i) j pos) (tC (.str i)) (fC (.str i)) := ⟨pe_str, sem_c fun _ => .str i⟩
theorem e_op {op : Operator} {r : R2} {g : G2} (s : OpS K r g) (ho : OpR X (binaryOp op) r) (ha : SE K X a ta fa) (hb : SE K X b tb fb) (hK : X.K = K := by rfl) : SE K X (.BinOp a op b pos) (tOp r ta tb) (f2 g fa fb) := by
  subst hK
  exact ⟨pe_op ho ha.pe hb.pe, sem_op s ha.sem hb.sem⟩
theorem e_opL {op : Operator} {r : R2} {g : G2} {i : Nat} (s : OpS K r g) (ho : OpR X (binaryOp op) r) (ha : PE X a (tVar i)) (hb : SE K X b tb fb) (hK : X.K = K := by rfl) : SE K X (.BinOp a op b pos) (tOp r (tVar i) tb) (fOL g i fb) := by
  subst hK
  exact ⟨pe_op ho ha hb.pe, sem_opL s i hb.sem⟩
theorem e_neg (ha : SE K X a ta fa) : SE K X (.UnaryOp .USub a pos) (tUn (rU fun i => .int (-i)) ta) (f1 gNeg fa) := ⟨pe_un un_neg ha.pe, sem_un s_neg ha.sem⟩
theorem e_cmp {op : CmpOp} {r : R2} {g : G2} (s : OpS K r g) (ho : OpR X (compareOp op) r) (ha : SE K X a ta fa) (hb : SE K X b tb fb) (hm : behindInMarks op b = false) (hK : X.K = K := by rfl) : SE K X (.Compare a [op] [b] pos) (tOp r ta tb) (f2 g fa fb) := by
  subst hK
  exact ⟨pe_cmpR ho ha.pe hb.pe hm, sem_op s ha.sem hb.sem⟩
theorem e_cmpR {op : CmpOp} {r : R2} {g : G2} {i : Nat} (s : OpS K r g) (ho : OpR X (compareOp op) r) (ha : SE K X a ta fa) (hb : PE X b (tVar i)) (hm : behindInMarks op b = false) (hK : X.K = K := by rfl) : SE K X (.Compare a [op] [b] pos) (tOp r ta (tVar i)) (fOR g fa i) := by
  subst hK
  exact ⟨pe_cmpR ho ha.pe hb hm, sem_opR s i ha.sem⟩
theorem e_cmpL {op : CmpOp} {r : R2} {g : G2} {i : Nat} (s : OpS K r g) (ho : OpR X (compareOp op) r) (ha : PE X a (tVar i)) (hb : SE K X b tb fb) (hm : behindInMarks op b = false) (hK : X.K = K := by rfl) : SE K X (.Compare a [op] [b] pos) (tOp r (tVar i) tb) (fOL g i fb) := by
  subst hK
  exact ⟨pe_cmpR ho ha hb.pe hm, sem_opL s i hb.sem⟩
theorem e_chain {op op' : CmpOp} {r r' : R2} {g g' : G2} (s : OpS K r g) (ho : OpR X (compareOp op) r) (s' : OpS K r' g') (ho' : OpR X (compareOp op') r') (ha : SE K X a ta fa) (hb : SE K X b tb fb) (hc : SE K X c tc fc)
    (hm : lastMarks [op, op'] [b, c] = false := by with_unfolding_all rfl) (hK : X.K = K := by rfl) : SE K X (.Compare a [op, op'] [b, c] pos) (tChain r r' ta tb tc) (fChain g g' fa fb fc) := by
  subst hK
  exact ⟨pe_chain ho ho' ha.pe hb.pe hc.pe hm, sem_chain s s' ha.sem hb.sem hc.sem⟩
theorem e_one {op : BoolOp} (ha : SE K X a ta fa) : SE K X (.BoolOp op [a] pos) ta fa := ⟨pe_one ha.pe, ha.sem⟩
theorem e_and {rest : List Expr} (ha : SE K X a ta fa) (hb : SE K X (.BoolOp .And (b :: rest) pos) tb fb) : SE K X (.BoolOp .And (a :: b :: rest) pos) (tAndV ta tb) (fAndV fa fb) := ⟨pe_and ha.pe hb.pe, sem_andV ha.sem hb.sem⟩
theorem e_or {rest : List Expr} (ha : SE K X a ta fa) (hb : SE K X (.BoolOp .Or (b :: rest) pos) tb fb) : SE K X (.BoolOp .Or (a :: b :: rest) pos) (tOrV ta tb) (fOrV fa fb) := ⟨pe_or ha.pe hb.pe, sem_orV ha.sem hb.sem⟩
theorem e_not (ha : SE K X a ta fa) : SE K X (.UnaryOp .Not a pos) (tNotV ta) (fNotV fa) := ⟨pe_not ha.pe, sem_notV ha.sem⟩
theorem e_if {t : TT} {ft : B1} (hc : ST K X c t ft) (ha : SE K X a ta fa) (hb : SE K X b tb fb) : SE K X (.IfExp c a b pos) (tIf t ta tb) (fIf ft fa fb) := ⟨pe_ifExp hc.pe ha.pe hb.pe, sem_if hc.sem ha.sem hb.sem⟩
theorem e_ix (ha : SE K X a ta fa) (hb : SE K X b tb fb) (hs : PlainIx b) (hK : X.K = K := by rfl) : SE K X (.Subscript a b pos) (tOp (rIxD K) ta tb) (f2 gIx fa fb) := by
  subst hK
  exact ⟨pe_ix ix_d ha.pe hb.pe hs, sem_op s_ix ha.sem hb.sem⟩
theorem e_ixL {i : Nat} (ha : PE X a (tVar i)) (hb : SE K X b tb fb) (hs : PlainIx b) (hK : X.K = K := by rfl) : SE K X (.Subscript a b pos) (tOp (rIxD K) (tVar i) tb) (fOL gIx i fb) := by
  subst hK
  exact ⟨pe_ix ix_d ha hb.pe hs, sem_opL s_ix i hb.sem⟩
structure SO (K : PySem.W.Frag) (X : Cx) (e : Option Expr) (t : TO) (f : REnv → Option (Option Int × REnv)) : Prop where
  pe : PO X e t
  sem : SemO K t f
theorem o_no : SO K X none tNoPart fNo := ⟨po_none, sem_no⟩
theorem o_part (h : SE K X a ta fa) : SO K X (some a) (tPart ta) (fPart fa) := ⟨po_some h.pe, sem_part h.sem⟩
theorem e_sl {lo hi : Option Expr} {tl th : TO} {fl fh : REnv → Option (Option Int × REnv)} {p2 : Pos} (ha : SE K X a ta fa) (hl : SO K X lo tl fl) (hh : SO K X hi th fh) (hK : X.K = K := by rfl) : SE K X (.Subscript a (.Slice lo hi none p2) pos) (tSl (rSlD K) ta tl th) (fSl fa fl fh) := by
  subst hK
  exact ⟨pe_slice sl_d ha.pe hl.pe hh.pe, sem_sl ha.sem hl.sem hh.sem⟩
theorem e_rev {k : Nat} {p1 p2 p3 : Pos} (ha : SE K X a ta fa) (hK : X.K = K := by rfl) : SE K X (.Subscript a (.Slice none none (some (.UnaryOp .USub (.Constant (.int 1) k p1) p2)) p3) pos) (tUn (rRev K) ta) (f1 gRev fa) := by
  subst hK
  exact ⟨pe_rev ha.pe, sem_un s_rev ha.sem⟩
theorem e_revO {i : Nat} {k : Nat} {p1 p2 p3 : Pos} (ha : PE X a (tVar i)) (hK : X.K = K := by rfl) : SE K X (.Subscript a (.Slice none none (some (.UnaryOp .USub (.Constant (.int 1) k p1) p2)) p3) pos) (tUn (rRev K) (tVar i)) (fOU gRev i) := by
  subst hK
  exact ⟨pe_rev ha, sem_unO s_rev i⟩
/-! argument lists, displays -/
theorem a_nil : SA K X [] tNil fNil := ⟨pa_nil, sem_nil⟩
theorem a_cons {es : List Expr} {t : TA} {f : A1} (ha : SE K X a ta fa) (hr : SA K X es t f) (hs : starEach (a :: es) X.env = (false, eval a X.env) :: starEach es X.env := by rfl) : SA K X (a :: es) (tCons ta t) (fCons fa f) := ⟨pa_cons ha.pe hr.pe hs, sem_cons ha.sem hr.sem⟩
theorem e_tup {es : List Expr} {t : TA} {f : A1} {k} (h : SA K X es t f) : SE K X (.Tuple es k pos) (tTup t) (fTup f) := ⟨pe_tup h.pe, sem_tup h.sem⟩
theorem F_lst {es : List Expr} {t : TA} {f : A1} (h : SA K X es t f) : SF K X (.List es pos) (tLst t) (fLst f) := ⟨pe_lst h.pe, semF_lst h.sem⟩
theorem e_f {f : A1} (h : SF K X e te f) : SE K X e te (fF f) := ⟨h.pe, h.sem.e⟩
theorem F_op {op : Operator} {r : R2} {g : PyData → PyData → Option (List PyData)} (s : OpF K r g) (ho : OpR X (binaryOp op) r) (ha : SE K X a ta fa) (hb : SE K X b tb fb) (hK : X.K = K := by rfl) : SF K X (.BinOp a op b pos) (tOp r ta tb) (f2F g fa fb) := by
  subst hK
  exact ⟨pe_op ho ha.pe hb.pe, semF_op s ha.sem hb.sem⟩
theorem e_dic : SE K X (.Dict [] [] pos) tDNewK fDic := ⟨pe_dnewK, sem_dic fun _ _ _ h => h⟩
/-! built-in calls -/
theorem e_cb {x : Str} {id : String} {p : Pos} {es : List Expr} {t : TA} {f : A1} {r : List V → Hp → VK → Prop} {g : GN} (s : CallS K r g) (hc : CallR X (.builtin id) r) (hg : Gl X x) (hm : X.mg x = none) (hv : bootBuiltins x = some (.builtin id)) (ha : SA K X (a :: es) t f)
    (hn : x ≠ "__name__" := by decide) (hdb : (x == ("__debug__" : Str)) = false := by decide) (he : starEach (a :: es) X.env = (false, eval a X.env) :: starEach es X.env := by rfl) (hpl : (backTo pos (starEach es X.env)).any (·.1) = false := by rfl) (hK : X.K = K := by rfl) :
    SE K X (.Call (.Name x p) (a :: es) [] pos) (tCB r t) (fCB g f) := by
  subst hK
  exact ⟨pe_callB hc hg hm hv ha.pe hn hdb he hpl, sem_cb s ha.sem⟩
theorem e_ct {x : Str} {T : String} {p : Pos} {es : List Expr} {t : TA} {f : A1} {r : List V → Hp → VK → Prop} {g : GN} (s : CallS K r g) (hc : CallR X (.type T) r) (hg : Gl X x) (hm : X.mg x = none) (hv : bootBuiltins x = some (.type T)) (ha : SA K X (a :: es) t f)
    (hn : x ≠ "__name__" := by decide) (hdb : (x == ("__debug__" : Str)) = false := by decide) (he : starEach (a :: es) X.env = (false, eval a X.env) :: starEach es X.env := by rfl) (hpl : (backTo pos (starEach es X.env)).any (·.1) = false := by rfl) (hK : X.K = K := by rfl) :
    SE K X (.Call (.Name x p) (a :: es) [] pos) (tCB r t) (fCB g f) := by
  subst hK
  exact ⟨pe_callTy hc hg hm hv ha.pe hn hdb he hpl, sem_cb s ha.sem⟩
theorem F_ct {x : Str} {T : String} {p : Pos} {es : List Expr} {t : TA} {f : A1} {r : List V → Hp → VK → Prop} {g : List PyData → Option (List PyData)} (s : CallF K r g) (hc : CallR X (.type T) r) (hg : Gl X x) (hm : X.mg x = none) (hv : bootBuiltins x = some (.type T)) (ha : SA K X (a :: es) t f)
    (hn : x ≠ "__name__" := by decide) (hdb : (x == ("__debug__" : Str)) = false := by decide) (he : starEach (a :: es) X.env = (false, eval a X.env) :: starEach es X.env := by rfl) (hpl : (backTo pos (starEach es X.env)).any (·.1) = false := by rfl) (hK : X.K = K := by rfl) :
    SF K X (.Call (.Name x p) (a :: es) [] pos) (tCB r t) (fCBF g f) := by
  subst hK
  exact ⟨pe_callTy hc hg hm hv ha.pe hn hdb he hpl, semF_cb s ha.sem⟩
/-- of one's own list -/
theorem e_cbO {x : Str} {id : String} {p : Pos} {i : Nat} {r : List V → Hp → VK → Prop} {g : GN} (s : CallS K r g) (hc : CallR X (.builtin id) r) (hg : Gl X x) (hm : X.mg x = none) (hv : bootBuiltins x = some (.builtin id)) (ha : PE X a (tVar i))
    (hn : x ≠ "__name__" := by decide) (hdb : (x == ("__debug__" : Str)) = false := by decide) (he : starEach [a] X.env = (false, eval a X.env) :: starEach [] X.env := by rfl) (hpl : (backTo pos (starEach [] X.env)).any (·.1) = false := by rfl) (hK : X.K = K := by rfl) :
    SE K X (.Call (.Name x p) [a] [] pos) (tCB r (tCons (tVar i) tNil)) (fOU (fun y => g [y]) i) := by
  subst hK
  exact ⟨pe_callB hc hg hm hv (pa_cons ha pa_nil he) hn hdb he hpl, sem_cbO s i⟩
theorem e_ctO {x : Str} {T : String} {p : Pos} {i : Nat} {r : List V → Hp → VK → Prop} {g : GN} (s : CallS K r g) (hc : CallR X (.type T) r) (hg : Gl X x) (hm : X.mg x = none) (hv : bootBuiltins x = some (.type T)) (ha : PE X a (tVar i))
    (hn : x ≠ "__name__" := by decide) (hdb : (x == ("__debug__" : Str)) = false := by decide) (he : starEach [a] X.env = (false, eval a X.env) :: starEach [] X.env := by rfl) (hpl : (backTo pos (starEach [] X.env)).any (·.1) = false := by rfl) (hK : X.K = K := by rfl) :
    SE K X (.Call (.Name x p) [a] [] pos) (tCB r (tCons (tVar i) tNil)) (fOU (fun y => g [y]) i) := by
  subst hK
  exact ⟨pe_callTy hc hg hm hv (pa_cons ha pa_nil he) hn hdb he hpl, sem_cbO s i⟩
theorem e_isi {p p2 : Pos} {T : String} (ty : Str) (hg : Gl X "isinstance") (hm : X.mg "isinstance" = none) (hg2 : Gl X ty) (hm2 : X.mg ty = none) (hv2 : bootBuiltins ty = some (.type T)) (ha : SE K X a ta fa) (hn : ty ≠ "__name__" := by decide) (hdb : (ty == ("__debug__" : Str)) = false := by decide)
    (he : starEach [a, .Name ty p2] X.env = (false, eval a X.env) :: starEach [.Name ty p2] X.env := by rfl) (he2 : starEach [.Name ty p2] X.env = (false, eval (.Name ty p2) X.env) :: starEach [] X.env := by rfl) (hpl : (backTo pos (starEach [.Name ty p2] X.env)).any (·.1) = false := by rfl) (hK : X.K = K := by rfl) :
    SE K X (.Call (.Name "isinstance" p) [a, .Name ty p2] [] pos) (tCB (rIsi K) (tCons ta (tCons (tC (.ty T)) tNil))) (fIsi T fa) := by
  subst hK
  exact ⟨pe_callB call_isi hg hm boot_isinstance (pa_cons ha.pe (pa_cons (pe_bltn (v := .ty T) hg2 hm2 hv2 rfl hn hdb) pa_nil he2) he) (by decide) (by decide) he hpl, sem_isi T ha.sem⟩
theorem e_tupR1 {p p2 pos2 : Pos} (hc : X.calm = true) (hg : Gl X "tuple") (hm : X.mg "tuple" = none) (hg2 : Gl X "range") (hm2 : X.mg "range" = none) (ha : SE K X a ta fa) (na : starEach [a] X.env = (false, eval a X.env) :: starEach [] X.env := by rfl)
    (ne : starEach [.Call (.Name "range" p2) [a] [] pos2] X.env = (false, eval (.Call (.Name "range" p2) [a] [] pos2) X.env) :: starEach [] X.env := by rfl) :
    SE K X (.Call (.Name "tuple" p) [.Call (.Name "range" p2) [a] [] pos2] [] pos) (tTupRg (tRg1 ta)) (fTupR (fRg1 fa)) := ⟨pe_tupRg hc hg hm (prg_1 hg2 hm2 ha.pe na) ne, sem_tupR (sem_rg1 ha.sem)⟩
theorem F_lstR1 {p p2 pos2 : Pos} (hc : X.calm = true) (hg : Gl X "list") (hm : X.mg "list" = none) (hg2 : Gl X "range") (hm2 : X.mg "range" = none) (ha : SE K X a ta fa) (na : starEach [a] X.env = (false, eval a X.env) :: starEach [] X.env := by rfl)
    (ne : starEach [.Call (.Name "range" p2) [a] [] pos2] X.env = (false, eval (.Call (.Name "range" p2) [a] [] pos2) X.env) :: starEach [] X.env := by rfl) :
    SF K X (.Call (.Name "list" p) [.Call (.Name "range" p2) [a] [] pos2] [] pos) (tLstRg (tRg1 ta)) (fLstR (fRg1 fa)) := ⟨pe_listRg hc hg hm (prg_1 hg2 hm2 ha.pe na) ne, semF_lstR (sem_rg1 ha.sem)⟩
/-! own calls -/
theorem c_nil : SC K X [] tNil aNil := ⟨pa_nil, sem_anil, fun _ _ _ e => by cases e; rfl⟩
theorem c_cons {es : List Expr} {t : TA} {f : G1} (ha : SE K X a ta fa) (hr : SC K X es t f) (hs : starEach (a :: es) X.env = (false, eval a X.env) :: starEach es X.env := by rfl) : SC K X (a :: es) (tCons ta t) (aCons fa f) := ⟨pa_cons ha.pe hr.pe hs, sem_acons ha.sem hr.sem, fun ρ as ρ1 e => by
  unfold aCons at e
  split at e
  · cases e
  split at e
  · cases e
  rename_i e2
  cases e
  simp [hr.len _ _ _ e2]⟩
theorem c_by {es : List Expr} {t : TA} {f : G1} {i : Nat} (ha : PE X a (tVar i)) (hr : SC K X es t f) (hs : starEach (a :: es) X.env = (false, eval a X.env) :: starEach es X.env := by rfl) : SC K X (a :: es) (tCons (tVar i) t) (aBy i f) := ⟨pa_cons ha hr.pe hs, sem_aby i hr.sem, fun ρ as ρ1 e => by
  unfold aBy at e
  split at e
  · cases e
  split at e
  · cases e
  rename_i e2
  cases e
  simp [hr.len _ _ _ e2]⟩
theorem e_call {k : Nat} {f : Addr} {fd : FuncData} {ps : List Str} {n : Nat} {F : Fn} {x : Str} {p : Pos} {es : List Expr} {t : TA} {fs : G1} (G : FnG X.prog X.w X.K X.mg X.base k f fd ps (spF K n F)) (cl : Cl0 X.A) (hr : Room k X.A) (hg : Gl X x) (hm : X.mg x = some (.ref f)) (hk : PySem.W.keepIn K (.ref f) = true) (hb : Binds K fd ps [])
    (ha : SC K X (a :: es) t fs) (hn : (a :: es).length = n := by rfl) (hdb : (x == ("__debug__" : Str)) = false := by decide) (he : starEach (a :: es) X.env = (false, eval a X.env) :: starEach es X.env := by rfl) (hpl : (backTo pos (starEach es X.env)).any (·.1) = false := by rfl) (hK : X.K = K := by rfl) :
    SE K X (.Call (.Name x p) (a :: es) [] pos) (fun σ H Q => t σ H fun vs H1 => spF K n F vs H1 Q E0) (fCallE F fs) := by
  subst hK
  exact ⟨pe_callG G cl hr hg hm hk hb ha.pe hdb he hpl, sem_callE ha.sem fun ρ as ρ1 e => by rw [ha.len ρ as ρ1 e]; exact hn⟩
theorem e_callTmp {k : Nat} {f : Addr} {fd : FuncData} {ps : List Str} {F : Fn} {x : Str} {p : Pos} {f1 : A1} (G : FnG X.prog X.w X.K X.mg X.base k f fd ps (spF K 1 F)) (cl : Cl0 X.A) (hr : Room k X.A) (hg : Gl X x) (hm : X.mg x = some (.ref f)) (hk : PySem.W.keepIn K (.ref f) = true) (hb : Binds K fd ps [])
    (ha : SF K X a ta f1) (hdb : (x == ("__debug__" : Str)) = false := by decide) (he : starEach [a] X.env = (false, eval a X.env) :: starEach [] X.env := by rfl) (hpl : (backTo pos (starEach [] X.env)).any (·.1) = false := by rfl) (hK : X.K = K := by rfl) :
    SE K X (.Call (.Name x p) [a] [] pos) (fun σ H Q => tCons ta tNil σ H fun vs H1 => spF K 1 F vs H1 Q E0) (fTmpE F f1) := by
  subst hK
  exact ⟨pe_callG G cl hr hg hm hk hb (pa_cons ha.pe pa_nil he) hdb he hpl, sem_tmpE ha.sem⟩
theorem F_call {k : Nat} {f : Addr} {fd : FuncData} {ps : List Str} {n : Nat} {F : Fn} {x : Str} {p : Pos} {es : List Expr} {t : TA} {fs : G1} (G : FnG X.prog X.w X.K X.mg X.base k f fd ps (spF K n F)) (cl : Cl0 X.A) (hr : Room k X.A) (hg : Gl X x) (hm : X.mg x = some (.ref f)) (hk : PySem.W.keepIn K (.ref f) = true) (hb : Binds K fd ps [])
    (ha : SC K X (a :: es) t fs) (hn : (a :: es).length = n := by rfl) (hdb : (x == ("__debug__" : Str)) = false := by decide) (he : starEach (a :: es) X.env = (false, eval a X.env) :: starEach es X.env := by rfl) (hpl : (backTo pos (starEach es X.env)).any (·.1) = false := by rfl) (hK : X.K = K := by rfl) :
    SF K X (.Call (.Name x p) (a :: es) [] pos) (fun σ H Q => t σ H fun vs H1 => spF K n F vs H1 Q E0) (fCallF F fs) := by
  subst hK
  exact ⟨pe_callG G cl hr hg hm hk hb ha.pe hdb he hpl, sem_callF ha.sem fun ρ as ρ1 e => by rw [ha.len ρ as ρ1 e]; exact hn⟩
structure SK (K : PySem.W.Frag) (X : Cx) (kws : List Keyword) (t : TA) (f : A1) : Prop where
  pe : PK X kws t
  sem : SemA K t f
theorem k_nil : SK K X [] tNil fNil := ⟨pk_nil, sem_nil⟩
theorem k_cons {nm : Option Str} {kpos : Pos} {kws : List Keyword} {t : TA} {f : A1} (ha : SE K X a ta fa) (hr : SK K X kws t f) : SK K X (⟨nm, a, kpos⟩ :: kws) (tCons ta t) (fCons fa f) := ⟨pk_cons ha.pe hr.pe, sem_cons ha.sem hr.sem⟩
theorem e_callK {k : Nat} {f : Addr} {fd : FuncData} {ps ks : List Str} {n : Nat} {F : Fn} {x : Str} {p : Pos} {kws : List Keyword} {tk : TA} {fk : A1} (perm : List Nat) (G : FnG X.prog X.w X.K X.mg X.base k f fd ps (spF K n F)) (cl : Cl0 X.A) (hr : Room k X.A) (hg : Gl X x) (hm : X.mg x = some (.ref f)) (hk : PySem.W.keepIn K (.ref f) = true)
    (hb : ∀ (s : Shared) (us : List Value), us.length = ks.length → BindsTo s fd ⟨[], ks.zip us⟩ (ps.zip (pick perm us))) (hp : ∀ ds : List PyData, ds.length = ks.length → (pick perm ds).length = n) (ha : SK K X kws tk fk)
    (hall : (backToKw pos (keywordEach kws X.env)).all (·.1.isSome) = true := by rfl) (hks : (backToKw pos (keywordEach kws X.env)).filterMap (·.1) = ks := by rfl) (hdb : (x == ("__debug__" : Str)) = false := by decide)
    (hpl : ((backTo pos (starEach [] X.env)).any (·.1) || (backToKw pos (keywordEach kws X.env)).any (·.1.isNone)) = false := by rfl) (hK : X.K = K := by rfl) :
    SE K X (.Call (.Name x p) [] kws pos) (fun σ H Q => tk σ H fun zs H1 => zs.length = ks.length ∧ spF K n F (pick perm zs) H1 Q E0) (fCallK F perm ks.length fk) := by
  subst hK
  exact ⟨pe_callK perm G cl hr hg hm hk hb ha.pe hall hks hdb hpl, sem_callK perm ha.sem hp⟩
/-! what is walked -/
structure SI (K : PySem.W.Frag) (X : Cx) (tg e : Expr) (w : TI) (f : A1) : Prop where
  pe : PI X tg e w
  sem : SemI K w f
theorem i_seq {tg : Expr} (h : SE K X a ta fa) (hK : X.K = K := by rfl) : SI K X tg a (iSeq K ta) (fItems fa) := by
  subst hK
  exact ⟨pi_seq h.pe, sem_iseq h.sem⟩
theorem i_rng1 {tg : Expr} {p : Pos} {t : TA} {f : A1} (hg : Gl X "range") (hm : X.mg "range" = none) (h : SA K X [a] t f) (hs : starEach [a] X.env = [(false, eval a X.env)] := by rfl) : SI K X tg (.Call (.Name "range" p) [a] [] pos) (iRng1 t) (fRng1 f) := ⟨pi_range1 hg hm h.pe hs, sem_rng1 h.sem⟩
theorem i_rng2 {tg : Expr} {p : Pos} {t : TA} {f : A1} (hg : Gl X "range") (hm : X.mg "range" = none) (h : SA K X [a, b] t f) (hs : starEach [a, b] X.env = [(false, eval a X.env), (false, eval b X.env)] := by rfl) (hs2 : starEach [b] X.env = [(false, eval b X.env)] := by rfl) :
    SI K X tg (.Call (.Name "range" p) [a, b] [] pos) (iRng2 t) (fRng2 f) := ⟨pi_range2 hg hm h.pe hs hs2, sem_rng2 h.sem⟩
/-! tests -/
theorem t_val (h : SE K X e te fe) (he : ∀ whole, isTrue e X.env whole = (do let v ← whole; standAt e.pos; holding [v] (truthy v)) := by intro _; rfl) : ST K X e (tB te) (fT fe) := ⟨pt_val h.pe he, sem_tB h.sem⟩
theorem t_cmp {op : CmpOp} {r : R2} {g : G2} (s : OpS K r g) (ho : OpR X (compareOp op) r) (ha : SE K X a ta fa) (hb : SE K X b tb fb) (hm : behindInMarks op b = false) (hK : X.K = K := by rfl) : ST K X (.Compare a [op] [b] pos) (tTest (tOp r ta tb)) (fT (f2 g fa fb)) := by
  subst hK
  exact ⟨pt_cmpR ho ha.pe hb.pe hm, sem_tTest (sem_op s ha.sem hb.sem)⟩
theorem t_cmpR {op : CmpOp} {r : R2} {g : G2} {i : Nat} (s : OpS K r g) (ho : OpR X (compareOp op) r) (ha : SE K X a ta fa) (hb : PE X b (tVar i)) (hm : behindInMarks op b = false) (hK : X.K = K := by rfl) : ST K X (.Compare a [op] [b] pos) (tTest (tOp r ta (tVar i))) (fT (fOR g fa i)) := by
  subst hK
  exact ⟨pt_cmpR ho ha.pe hb hm, sem_tTest (sem_opR s i ha.sem)⟩
theorem t_cmpL {op : CmpOp} {r : R2} {g : G2} {i : Nat} (s : OpS K r g) (ho : OpR X (compareOp op) r) (ha : PE X a (tVar i)) (hb : SE K X b tb fb) (hm : behindInMarks op b = false) (hK : X.K = K := by rfl) : ST K X (.Compare a [op] [b] pos) (tTest (tOp r (tVar i) tb)) (fT (fOL g i fb)) := by
  subst hK
  exact ⟨pt_cmpR ho ha hb.pe hm, sem_tTest (sem_opL s i hb.sem)⟩
theorem t_chain {op op' : CmpOp} {r r' : R2} {g g' : G2} (s : OpS K r g) (ho : OpR X (compareOp op) r) (s' : OpS K r' g') (ho' : OpR X (compareOp op') r') (ha : SE K X a ta fa) (hb : SE K X b tb fb) (hc : SE K X c tc fc)
    (hm : lastMarks [op, op'] [b, c] = false := by with_unfolding_all rfl) (hK : X.K = K := by rfl) : ST K X (.Compare a [op, op'] [b, c] pos) (tTest (tChain r r' ta tb tc)) (fT (fChain g g' fa fb fc)) := by
  subst hK
  exact ⟨pt_chain ho ho' ha.pe hb.pe hc.pe hm, sem_tTest (sem_chain s s' ha.sem hb.sem hc.sem)⟩
structure SW (K : PySem.W.Frag) (X : Cx) (e : Expr) (t : TT) (f : B1) : Prop where
  pe : PW X e t
  sem : SemT K t f
section
variable {t u : TT} {ft fu : B1}
theorem t_w (h : SW K X e t ft) : ST K X e t ft := ⟨h.pe.pt, h.sem⟩
theorem w_and1 (h : ST K X a t ft) : SW K X (.BoolOp .And [a] pos) t ft := ⟨pw_and1 h.pe, h.sem⟩
theorem w_or1 (h : ST K X a t ft) : SW K X (.BoolOp .Or [a] pos) t ft := ⟨pw_or1 h.pe, h.sem⟩
theorem w_and {rest : List Expr} (h : ST K X a t ft) (g : SW K X (.BoolOp .And (b :: rest) pos) u fu) : SW K X (.BoolOp .And (a :: b :: rest) pos) (tAnd t u) (fAndT ft fu) := ⟨pw_and h.pe g.pe, sem_andT h.sem g.sem⟩
theorem w_or {rest : List Expr} (h : ST K X a t ft) (g : SW K X (.BoolOp .Or (b :: rest) pos) u fu) : SW K X (.BoolOp .Or (a :: b :: rest) pos) (tOr t u) (fOrT ft fu) := ⟨pw_or h.pe g.pe, sem_orT h.sem g.sem⟩
theorem t_not (h : ST K X a t ft) : ST K X (.UnaryOp .Not a pos) (tNot t) (fNotT ft) := ⟨pt_not h.pe, sem_notT h.sem⟩
/-! targets -/
structure SG (K : PySem.W.Frag) (X : Cx) (e : Expr) (g : TG) (h : T1) : Prop where
  pe : PG X e g
  sem : SemG K g h
theorem g_name {x : Str} (i : Nat) (hN : X.N.Nodup) (hi : X.N[i]? = some x := by rfl) (hx : Loc X.env.scope x := by first | exact .inl rfl | exact .inr rfl) (hf : X.fn x = true ∨ X.env.scope.names.lookup x = some .local := by first | exact .inl rfl | exact .inr rfl) :
    SG K X (.Name x pos) (gName i) (hName i) := ⟨pg_name hN hi hx hf, sem_name i⟩
structure SGs (K : PySem.W.Frag) (X : Cx) (es : List Expr) (g : TGs) (h : TN1) : Prop where
  pe : PGs X es g
  sem : SemGs K g h
theorem gs_nil : SGs K X [] gNil hNil := ⟨pgs_nil, sem_gnil⟩
theorem gs_cons {es : List Expr} {g : TG} {gs : TGs} {h : T1} {k : TN1} (h1 : SG K X e g h) (h2 : SGs K X es gs k) (hs : (assignEach (e :: es) X.env).map (·.2) = assign e X.env :: (assignEach es X.env).map (·.2) := by rfl) : SGs K X (e :: es) (gCons g gs) (hCons h k) := ⟨pgs_cons h1.pe h2.pe hs, sem_gcons h1.sem h2.sem⟩
theorem g_tup {es : List Expr} {k n : Nat} {gs : TGs} {h : TN1} (hc : X.calm = true) (h1 : SGs K X es gs h) (hn : (assignEach es X.env).length = n := by rfl) (hst : (assignEach es X.env).findIdx? (·.1) = none := by rfl) (hK : X.K = K := by rfl) : SG K X (.Tuple es k pos) (gTup K n gs) (hTup n h) := by
  subst hK
  exact ⟨pg_tup hc h1.pe hn hst, sem_gtup h1.sem⟩
theorem g_sub {i : Nat} (hi : SE K X b tb fb) (pg : PE X b tb → PG X (.Subscript a b pos) (L2.gSub (tVar i) tb rSetL)) : SG K X (.Subscript a b pos) (L2.gSub (tVar i) tb rSetL) (hSub i fb) := ⟨pg hi.pe, sem_gsub i hi.sem⟩
end
/-! list comprehensions -/
structure STs (K : PySem.W.Frag) (X : Cx) (ifs : List Expr) (t : TT) (f : B1) : Prop where
  pe : PTs X ifs t
  sem : SemT K t f
theorem ts_nil : STs K X [] tYes fYes := ⟨pts_nil, sem_yes⟩
theorem ts_one {t : TT} {f : B1} (h : ST K X c t f) : STs K X [c] t f := ⟨pts_one h.pe, h.sem⟩
section
variable {elt tg iter tg1 iter1 : Expr} {ifs ifs1 : List Expr} {scope : Scope} {own : List (Str × Nat)} {wi wi1 : TI} {fi fi1 : A1} {g g1 : TG} {h h1 : T1} {tt tt1 : TT} {ft ft1 : B1}
theorem F_lc (hc : X.calm = true) (hN : X.N.Nodup) (hi : SI K X tg iter wi fi) (ok : blkC X.N X.env.scope scope own = true)
    (hg : ∀ (s : Shared) (H : Hp) (C : Addr) (cl : List (Str × Addr)) (fp : List Addr), SG K (X.blk s H scope (compEnvC scope cl C X.env) fp) tg g h) (hv : GIn g (own.map (·.2)))
    (ht : ∀ (s : Shared) (H : Hp) (C : Addr) (cl : List (Str × Addr)) (fp : List Addr), STs K (X.blk s H scope (compEnvC scope cl C X.env) fp) ifs tt ft)
    (he : ∀ (s : Shared) (H : Hp) (C : Addr) (cl : List (Str × Addr)) (fp : List Addr), SE K (X.blk s H scope (compEnvC scope cl C X.env) fp) elt te fe) (hs : ∀ x, foldedSetIterable iter X.env x = pure x := by intro _; rfl) :
    SF K X (.ListComp elt [⟨tg, iter, ifs, 0⟩] scope pos) (tLc wi g tt te (own.map (·.2))) (fLc fi h ft fe (own.map (·.2))) :=
  ⟨pe_lc hc hN hi.pe (blkOk_by ok) (fun s H C cl fp => (hg s H C cl fp).pe) (fun s H C cl fp => (ht s H C cl fp).pe) (fun s H C cl fp => (he s H C cl fp).pe) hs,
    sem_lc _ hi.sem (hg X.s_0 (fun _ => none) 0 [] []).sem hv (ht X.s_0 (fun _ => none) 0 [] []).sem (he X.s_0 (fun _ => none) 0 [] []).sem⟩

theorem F_lc2 {vs1 : List Nat} (hc : X.calm = true) (hN : X.N.Nodup) (hi : SI K X tg iter wi fi) (ok : blkC X.N X.env.scope scope own = true) (hsub : ∀ i, i ∈ vs1 → i ∈ own.map (·.2))
    (hg : ∀ (s : Shared) (H : Hp) (C : Addr) (cl : List (Str × Addr)) (fp : List Addr), SG K (X.blk s H scope (compEnvC scope cl C X.env) fp) tg g h) (hv : GIn g (own.map (·.2)))
    (ht : ∀ (s : Shared) (H : Hp) (C : Addr) (cl : List (Str × Addr)) (fp : List Addr), STs K (X.blk s H scope (compEnvC scope cl C X.env) fp) ifs tt ft)
    (hi1 : ∀ (s : Shared) (H : Hp) (C : Addr) (cl : List (Str × Addr)) (fp : List Addr), SI K (X.blk s H scope (compEnvC scope cl C X.env) fp) tg1 iter1 wi1 fi1)
    (hg1 : ∀ (s : Shared) (H : Hp) (C : Addr) (cl : List (Str × Addr)) (fp : List Addr), SG K (X.blk s H scope (compEnvC scope cl C X.env) fp) tg1 g1 h1) (hv1 : GIn g1 vs1)
    (ht1 : ∀ (s : Shared) (H : Hp) (C : Addr) (cl : List (Str × Addr)) (fp : List Addr), STs K (X.blk s H scope (compEnvC scope cl C X.env) fp) ifs1 tt1 ft1)
    (he : ∀ (s : Shared) (H : Hp) (C : Addr) (cl : List (Str × Addr)) (fp : List Addr), SE K (X.blk s H scope (compEnvC scope cl C X.env) fp) elt te fe) (hs : ∀ x, foldedSetIterable iter X.env x = pure x := by intro _; rfl) (hs1 : ∀ env x, foldedSetIterable iter1 env x = pure x := by intro _ _; rfl) :
    SF K X (.ListComp elt [⟨tg, iter, ifs, 0⟩, ⟨tg1, iter1, ifs1, 0⟩] scope pos) (tLc2 wi g tt wi1 g1 tt1 te (own.map (·.2)) vs1) (fLc2 fi h ft fi1 h1 ft1 fe (own.map (·.2)) vs1) :=
  ⟨pe_lc2 hc hN hi.pe (blkOk_by ok) hsub (fun s H C cl fp => (hg s H C cl fp).pe) (fun s H C cl fp => (ht s H C cl fp).pe) (fun s H C cl fp => (hi1 s H C cl fp).pe) (fun s H C cl fp => (hg1 s H C cl fp).pe) (fun s H C cl fp => (ht1 s H C cl fp).pe) (fun s H C cl fp => (he s H C cl fp).pe) hs hs1,
    sem_lc2 _ vs1 hsub hi.sem (hg X.s_0 (fun _ => none) 0 [] []).sem hv (ht X.s_0 (fun _ => none) 0 [] []).sem (hi1 X.s_0 (fun _ => none) 0 [] []).sem (hg1 X.s_0 (fun _ => none) 0 [] []).sem hv1 (ht1 X.s_0 (fun _ => none) 0 [] []).sem (he X.s_0 (fun _ => none) 0 [] []).sem⟩
/-- name = [..]: the statement's own road -/
theorem s_setLc {y : Str} {py spos : Pos} (i : Nat) (hc : X.calm = true) (hN : X.N.Nodup) (hi : SI K X tg iter wi fi) (ok : blkC X.N X.env.scope scope own = true)
    (hg : ∀ (s : Shared) (H : Hp) (C : Addr) (cl : List (Str × Addr)) (fp : List Addr), SG K (X.blk s H scope (compEnvC scope cl C X.env) fp) tg g h) (hv : GIn g (own.map (·.2)))
    (ht : ∀ (s : Shared) (H : Hp) (C : Addr) (cl : List (Str × Addr)) (fp : List Addr), STs K (X.blk s H scope (compEnvC scope cl C X.env) fp) ifs tt ft)
    (he : ∀ (s : Shared) (H : Hp) (C : Addr) (cl : List (Str × Addr)) (fp : List Addr), SE K (X.blk s H scope (compEnvC scope cl C X.env) fp) elt te fe)
    (hsw : swapsWith (.ListComp elt [⟨tg, iter, ifs, 0⟩] scope pos) (some (.Name y py)) spos.line X.env = pure true)
    (hy : X.N[i]? = some y := by rfl) (hyl : X.env.scope.names.lookup y = some .local := by rfl) (hs : ∀ x, foldedSetIterable iter X.env x = pure x := by intro _; rfl) :
    SS K X (.Assign [.Name y py] (.ListComp elt [⟨tg, iter, ifs, 0⟩] scope pos) spos) (tAsg (tLc wi g tt te (own.map (·.2))) (gName i)) (sAsg (fF (fLc fi h ft fe (own.map (·.2)))) (hName i)) :=
  ⟨ps_setLc hc hN hy hyl hsw hi.pe (blkOk_by ok) (fun s H C cl fp => (hg s H C cl fp).pe) (fun s H C cl fp => (ht s H C cl fp).pe) (fun s H C cl fp => (he s H C cl fp).pe) hs,
    sem_asg (sem_lc _ hi.sem (hg X.s_0 (fun _ => none) 0 [] []).sem hv (ht X.s_0 (fun _ => none) 0 [] []).sem (he X.s_0 (fun _ => none) 0 [] []).sem).e (sem_name i)⟩
theorem s_setLc2 {y : Str} {py spos : Pos} {vs1 : List Nat} (i : Nat) (hc : X.calm = true) (hN : X.N.Nodup) (hi : SI K X tg iter wi fi) (ok : blkC X.N X.env.scope scope own = true) (hsub : ∀ i, i ∈ vs1 → i ∈ own.map (·.2))
    (hg : ∀ (s : Shared) (H : Hp) (C : Addr) (cl : List (Str × Addr)) (fp : List Addr), SG K (X.blk s H scope (compEnvC scope cl C X.env) fp) tg g h) (hv : GIn g (own.map (·.2)))
    (ht : ∀ (s : Shared) (H : Hp) (C : Addr) (cl : List (Str × Addr)) (fp : List Addr), STs K (X.blk s H scope (compEnvC scope cl C X.env) fp) ifs tt ft)
    (hi1 : ∀ (s : Shared) (H : Hp) (C : Addr) (cl : List (Str × Addr)) (fp : List Addr), SI K (X.blk s H scope (compEnvC scope cl C X.env) fp) tg1 iter1 wi1 fi1)
    (hg1 : ∀ (s : Shared) (H : Hp) (C : Addr) (cl : List (Str × Addr)) (fp : List Addr), SG K (X.blk s H scope (compEnvC scope cl C X.env) fp) tg1 g1 h1) (hv1 : GIn g1 vs1)
    (ht1 : ∀ (s : Shared) (H : Hp) (C : Addr) (cl : List (Str × Addr)) (fp : List Addr), STs K (X.blk s H scope (compEnvC scope cl C X.env) fp) ifs1 tt1 ft1)
    (he : ∀ (s : Shared) (H : Hp) (C : Addr) (cl : List (Str × Addr)) (fp : List Addr), SE K (X.blk s H scope (compEnvC scope cl C X.env) fp) elt te fe)
    (hsw : swapsWith (.ListComp elt [⟨tg, iter, ifs, 0⟩, ⟨tg1, iter1, ifs1, 0⟩] scope pos) (some (.Name y py)) spos.line X.env = pure true)
    (hy : X.N[i]? = some y := by rfl) (hyl : X.env.scope.names.lookup y = some .local := by rfl) (hs : ∀ x, foldedSetIterable iter X.env x = pure x := by intro _; rfl) (hs1 : ∀ env x, foldedSetIterable iter1 env x = pure x := by intro _ _; rfl) :
    SS K X (.Assign [.Name y py] (.ListComp elt [⟨tg, iter, ifs, 0⟩, ⟨tg1, iter1, ifs1, 0⟩] scope pos) spos) (tAsg (tLc2 wi g tt wi1 g1 tt1 te (own.map (·.2)) vs1) (gName i)) (sAsg (fF (fLc2 fi h ft fi1 h1 ft1 fe (own.map (·.2)) vs1)) (hName i)) :=
  ⟨ps_setLc2 hc hN hy hyl hsw hi.pe (blkOk_by ok) hsub (fun s H C cl fp => (hg s H C cl fp).pe) (fun s H C cl fp => (ht s H C cl fp).pe) (fun s H C cl fp => (hi1 s H C cl fp).pe) (fun s H C cl fp => (hg1 s H C cl fp).pe) (fun s H C cl fp => (ht1 s H C cl fp).pe) (fun s H C cl fp => (he s H C cl fp).pe) hs hs1,
    sem_asg (sem_lc2 _ vs1 hsub hi.sem (hg X.s_0 (fun _ => none) 0 [] []).sem hv (ht X.s_0 (fun _ => none) 0 [] []).sem (hi1 X.s_0 (fun _ => none) 0 [] []).sem (hg1 X.s_0 (fun _ => none) 0 [] []).sem hv1 (ht1 X.s_0 (fun _ => none) 0 [] []).sem (he X.s_0 (fun _ => none) 0 [] []).sem).e (sem_name i)⟩
end
/-! statements -/
section
variable {st : Stmt} {sts : List Stmt} {t u : TS} {f f' : S1}
theorem ss_nil : SSs K X [] tNext sNext := ⟨pss_nil, sem_next⟩
theorem ss_cons (h : SS K X st t f) (h' : SSs K X sts u f') : SSs K X (st :: sts) (tSeq t u) (sSeq f f') := ⟨pss_cons h.pe h'.pe, sem_seq h.sem h'.sem⟩
theorem ss_one (h : SS K X st t f) : SSs K X [st] t f := ⟨pss_one h.pe, h.sem⟩
theorem s_pass : SS K X (.Pass pos) tNext sNext := ⟨ps_pass, sem_next⟩
theorem s_break : SS K X (.Break pos) tBreak sBreak := ⟨ps_break, sem_break⟩
theorem s_cont : SS K X (.Continue pos) tCont sCont := ⟨ps_continue, sem_cont⟩
theorem s_never : SS K X st tNever sNever := ⟨ps_never, sem_never⟩
theorem s_expr (he : SE K X e te fe) (hs : swapsWith e none pos.line X.env = pure false := by rfl) : SS K X (.Expr e pos) (tDrop te) (sDrop fe) := ⟨ps_expr he.pe hs, sem_drop he.sem⟩
theorem s_ret (he : SE K X e te fe) : SS K X (.Return (some e) pos) (tRet te) (sRet fe) := ⟨ps_ret he.pe, sem_ret he.sem⟩
theorem s_retF {fA : A1} (he : SF K X e te fA) : SS K X (.Return (some e) pos) (tRet te) (sRetF fA) := ⟨ps_ret he.pe, sem_retF he.sem⟩
theorem s_if {tc : TT} {fc : B1} {as bs : List Stmt} (hc : ST K X c tc fc) (ha : SSs K X as t f) (hb : SSs K X bs u f') : SS K X (.If c as bs pos) (tIfS tc t u) (sIf fc f f') := ⟨ps_if hc.pe ha.pe hb.pe, sem_ifS hc.sem ha.sem hb.sem⟩
theorem s_set {x : Str} {pos' : Pos} (i : Nat) (hN : X.N.Nodup) (he : SE K X e te fe) (hi : X.N[i]? = some x := by rfl) (hx : Loc X.env.scope x := by first | exact .inl rfl | exact .inr rfl) (hs : swapsWith e (some (.Name x pos')) pos.line X.env = pure false := by rfl) (hf : X.fn x = true ∨ X.env.scope.names.lookup x = some .local := by first | exact .inl rfl | exact .inr rfl) :
    SS K X (.Assign [.Name x pos'] e pos) (tAsg te (gName i)) (sAsg fe (hName i)) := ⟨ps_set hN hi hx he.pe hs hf, sem_asg he.sem (sem_name i)⟩
theorem s_own {x : Str} {pos' : Pos} {fA : A1} (i : Nat) (hN : X.N.Nodup) (he : SF K X e te fA) (hi : X.N[i]? = some x := by rfl) (hx : Loc X.env.scope x := by first | exact .inl rfl | exact .inr rfl) (hs : swapsWith e (some (.Name x pos')) pos.line X.env = pure false := by rfl) (hf : X.fn x = true ∨ X.env.scope.names.lookup x = some .local := by first | exact .inl rfl | exact .inr rfl) :
    SS K X (.Assign [.Name x pos'] e pos) (tAsg te (gName i)) (sOwn fA i) := ⟨ps_set hN hi hx he.pe hs hf, sem_own he.sem i⟩
theorem s_asg {tg : Expr} {g : TG} {h : T1} (he : SE K X e te fe) (hg : SG K X tg g h) (hs : swapsWithSole [tg] e pos.line X.env = pure false := by rfl) (hw : swappedStores [tg] e X.env = pure none := by rfl) (h1 : (assignEach [tg] X.env).map (·.2) = [assign tg X.env] := by rfl) :
    SS K X (.Assign [tg] e pos) (tAsg te g) (sAsg fe h) := ⟨ps_asg he.pe hg.pe hs hw h1, sem_asg he.sem hg.sem⟩
theorem s_par {x y : Str} {px py pt : Pos} {kt k2 pt2} {ta : TA} {f : A1} (i j : Nat) (hc : X.calm = true) (hN : X.N.Nodup) (ha : SA K X [a, b] ta f) (hij : i ≠ j := by decide) (hi : X.N[i]? = some x := by rfl) (hj : X.N[j]? = some y := by rfl)
    (hx : X.env.scope.names.lookup x = some .local := by rfl) (hy : X.env.scope.names.lookup y = some .local := by rfl) (hw : swappedStores [.Tuple [.Name x px, .Name y py] kt pt] (.Tuple [a, b] k2 pt2) X.env = pure (some [x, y]) := by rfl)
    (hs : swapsWithSole [.Tuple [.Name x px, .Name y py] kt pt] (.Tuple [a, b] k2 pt2) pos.line X.env = pure false := by rfl) :
    SS K X (.Assign [.Tuple [.Name x px, .Name y py] kt pt] (.Tuple [a, b] k2 pt2) pos) (tPar i j ta) (sPar i j f) := ⟨ps_par hc hN hi hj hij hx hy ha.pe hw hs, sem_par i j ha.sem⟩
theorem s_parF {x y : Str} {px py pt : Pos} {kt k2 pt2} {fA : A1} (i j : Nat) (hc : X.calm = true) (hN : X.N.Nodup) (ha : SF K X a ta fA) (hb : SE K X b tb fb) (hij : i ≠ j := by decide) (hi : X.N[i]? = some x := by rfl) (hj : X.N[j]? = some y := by rfl)
    (hx : X.env.scope.names.lookup x = some .local := by rfl) (hy : X.env.scope.names.lookup y = some .local := by rfl) (hw : swappedStores [.Tuple [.Name x px, .Name y py] kt pt] (.Tuple [a, b] k2 pt2) X.env = pure (some [x, y]) := by rfl)
    (hs : swapsWithSole [.Tuple [.Name x px, .Name y py] kt pt] (.Tuple [a, b] k2 pt2) pos.line X.env = pure false := by rfl) (h1 : starEach [a, b] X.env = (false, eval a X.env) :: starEach [b] X.env := by rfl) (h2 : starEach [b] X.env = (false, eval b X.env) :: starEach [] X.env := by rfl) :
    SS K X (.Assign [.Tuple [.Name x px, .Name y py] kt pt] (.Tuple [a, b] k2 pt2) pos) (tPar i j (tCons ta (tCons tb tNil))) (sParF i j fA fb) := ⟨ps_par hc hN hi hj hij hx hy (pa_cons ha.pe (pa_cons hb.pe pa_nil h2) h1) hw hs, sem_parF i j ha.sem hb.sem⟩
theorem s_aug {x : Str} {op : Operator} {r : R2} {g : G2} {pos' : Pos} (i : Nat) (hN : X.N.Nodup) (s : OpS K r g) (ho : OpR X (inplaceOp op) r) (he : SE K X e te fe) (hi : X.N[i]? = some x := by rfl) (hx : Loc X.env.scope x := by first | exact .inl rfl | exact .inr rfl) (hf : X.fn x = true ∨ X.env.scope.names.lookup x = some .local := by first | exact .inl rfl | exact .inr rfl) (hK : X.K = K := by rfl) :
    SS K X (.AugAssign (.Name x pos') op e pos) (tAug i te r) (sAug g i fe) := by
  subst hK
  exact ⟨ps_aug hN hi hx he.pe (fun pins s σ H a b v u Q I r1 r2 h => ho pins s σ H a b v u Q I r1 r2 h) hf, sem_aug s i he.sem⟩
theorem s_app {o : Expr} {apos cpos : Pos} {i : Nat} (ho : PE X o (tVar i)) (he : SE K X e te fe) (hs : swapsWith (.Call (.Attribute o "append" apos) [e] [] cpos) none pos.line X.env = pure false := by rfl)
    (hbase : attributeBase o "append" X.env (eval o X.env) = eval o X.env := by rfl)
    (hfew : ((backTo cpos (starEach [e] X.env)).all (fun x => !x.1) && (backToKw cpos (keywordEach [] X.env)).all (fun x => x.1.isSome) && decide ([e].length + ([] : List Keyword).length + (if ([] : List Keyword).isEmpty then 0 else 1) < 30)) = true := by rfl)
    (hline : (apos.endLine == cpos.line) = true := by rfl) (h1 : starEach [e] X.env = (false, eval e X.env) :: starEach [] X.env := by rfl) (hplain : (backTo cpos (starEach [] X.env)).any (·.1) = false := by rfl) (hK : X.K = K := by rfl) :
    SS K X (.Expr (.Call (.Attribute o "append" apos) [e] [] cpos) pos) (tDrop (tBM K "list" rAppend (tVar i) (tCons te tNil))) (sApp i fe) := by
  subst hK
  exact ⟨ps_expr (pe_bm PySem.F.plainAttrs_list PySem.F.slot_list_append PySem.F.type_list_append mt_append ho (pa_cons he.pe pa_nil h1) hbase hfew hline h1 hplain) hs, sem_app i he.sem⟩
theorem s_for {iter tg : Expr} {body : List Stmt} {wi : TI} {fi : A1} {g : TG} {h : T1} (hp : PassesOwn (model X.prog X.w) X.A X.env X.xe) (hc : X.calm = true) (hi : SI K X tg iter wi fi) (hg : SG K X tg g h) (hb : SSs K X body t f) (hs : ∀ x, foldedSetIterable iter X.env x = pure x := by intro _; rfl) :
    SS K X (.For tg iter body [] pos) (tFor wi g t) (sFor fi h f) := ⟨ps_for hp hc hi.pe hg.pe hb.pe hs, sem_for hi.sem hg.sem hb.sem⟩
end
end
/-- a def that is there, by its name -/
structure Has (P : Program) (w : World) (K : PySem.W.Frag) (mg : Str → Option Value) (base : Heap) (k : Nat) (x : Str) (ps : List Str) (n : Nat) (F : Fn) (kb : FuncData → Prop) : Prop where
  ex : ∃ f fd, FnG P w K mg base k f fd ps (spF K n F) ∧ mg x = some (.ref f) ∧ PySem.W.keepIn K (.ref f) = true ∧ Binds K fd ps [] ∧ kb fd
theorem room65 {A : Around} {k : Nat} (r : Room k A) : A.units + 65 < cLine := by have := r.un; omega
end Dv

/-! Dv: the end of a law's row. -/
namespace Dv
open PySem PySem.Spec PyProof.Rows L2

theorem endG {P : Program} {w : World} {K : PySem.W.Frag} {mg mb : Str → Option Value} {k : Nat} {fa a : Addr} {nm x : Str} {F : Fn} {kb : FuncData → Prop} {s : Shared} {vs : List Value} {ns : List Int}
    (KX : K.In s.heap) (hns : s.heap.Ns mainGlobals mg) (hb : s.heap.Ns builtinsNs mb) (hbb : ∀ x : Str, x ≠ "__name__" → mb x = bootBuiltins x) (hlim : s.heap.NoLimit) (hg : s.gens = #[])
    (ha : s.heap.get? a = some { cls := .type "list", data := .seq vs.toArray }) (hi : IntsAre vs ns) (hl : ns.length ≤ sizeLine) (hr : Room k callerA)
    (hm : mg nm = some (.ref fa)) (GG : ∀ base : Heap, K.In base → base.Ns mainGlobals mg → Has P w K mg base k nm [x] 1 F kb)
    (hF : ∃ outs, F [.pl (.dict [(.none, .list (ns.map .int))])] = some (.pl (.bool true), outs)) :
    codeAny (model P w) callerA (.call (.ref fa) ⟨[.ref a], []⟩) (fun r s' => r = .ok (.ret (.bool true)) ∧ OldK s.heap s'.heap ∧ s'.os = s.os ∧ AllBare s'.gens) s := by
  have rv : Vals (ns.map V.int) vs := vals_ints hi
  obtain ⟨outs, hF⟩ := hF
  -- from any heap that knows the script at most
  have core : ∀ H : Hp, (∀ b, H b = none ∨ ∃ o xs, H b = some (.frz o (.lst xs))) → SqL K H a (ns.map V.int) → HOk P w H s.heap → (∀ b, H b ≠ none → b = a) → (H a ≠ none → K.lookup a = none) →
      codeAny (model P w) callerA (.call (.ref fa) ⟨[.ref a], []⟩) (fun r s' => r = .ok (.ret (.bool true)) ∧ OldK s.heap s'.heap ∧ s'.os = s.os ∧ AllBare s'.gens) s := by
    intro H hO hS hok hA hK
    have out : ∀ {b : Addr} {o : Obj}, s.heap.get? b = some o → b ≠ a → H b = none := fun {b o} e hn => by
      cases q : H b with
      | none => rfl
      | some u => exact absurd (hA b (by rw [q]; exact fun z => by cases z)) hn
    have noDict : ∀ {o : Obj} {es : Array DictEntry} {ep : Nat}, s.heap.get? a = some o → o.data = .dict es ep → False := fun {o es ep} e d => by
      rw [ha] at e
      cases e
      cases (show Data.seq vs.toArray _ = Data.dict es ep from d)
    have ns_ : ∀ {b : Addr} {m : Str → Option Value}, s.heap.Ns b m → (hidT s.heap H).Ns b m := fun {b m} ⟨o, es, ep, e, d, r⟩ => by
      have hn : b ≠ a := fun z => by subst z; exact noDict e d
      exact ⟨o, es, ep, hidT_get e (out e hn), d, r⟩
    have hKb : K.In (hidT s.heap H) := fun b o e => by
      refine hidT_get (KX b o e) ?_
      cases q : H b with
      | none => rfl
      | some u =>
        have e' := hA b (by rw [q]; exact fun z => by cases z)
        subst e'
        rw [hK (by rw [q]; exact fun z => by cases z)] at e
        cases e
    obtain ⟨mc, l1, l2⟩ := hlim
    have hM : Mod K mg (hidT s.heap H) := { kin := hKb, glob := ns_ hns, blt := ⟨mb, ns_ hb, hbb⟩, nolimit := ⟨mc, ns_ l1, l2⟩ }
    have e0 : Env0 P w K mg (hidT s.heap H) callerA [] s H :=
      { frames := rfl, mod := hM, bs := fun b o e => of_hidT e, bsz := Nat.le_of_eq (hidT_size _ _), funs := trivial, frf := (fun b hb => absurd (show b ∈ ([] : List Addr) from hb) (by simp)), hok := hok, bare := .of_eq hg }
    have sp : spF K 1 F [.ref a] H (fun v _ => v = .bl true) E0 := by
      refine ⟨fun _ => False, [none], [.pl (.dict [(.none, .list (ns.map .int))])], .pl (.bool true), outs, hF, rfl, rfl, rfl, fun i x hx => ?_, fun i j c h => ?_, fun b h => h.elim, fun c h => ?_, fun v H' af ro => ?_⟩
      · cases i with
        | zero =>
          simp at hx
          subst hx
          refine ⟨none, .ref a, rfl, rfl, rfl, .scr ?_⟩
          rcases hS with (h | ⟨o, h⟩) | h
          · exact .inl (.inl (hd_some.mpr ⟨fun z => z, by simp, h⟩))
          · exact .inl (.inr ⟨o, hd_some.mpr ⟨fun z => z, by simp, h⟩⟩)
          · exact .inr h
        | succ i => simp at hx
      · cases i with
        | zero => simp at h
        | succ i => simp at h
      · simp at h
      · exact Rp.bl_of ro
    obtain ⟨f1, fd, G1, g1, _, b1, _⟩ := (GG _ hKb (ns_ hns)).ex
    rw [hm] at g1
    cases g1
    have b2 : BindsTo s fd ⟨[.ref a], []⟩ [(x, .ref a)] := b1 s [.ref a] KX rfl
    refine codeAny_mono (G1.go callerA [] s H ⟨[.ref a], []⟩ [.ref a] [.ref a] _ rfl hr e0 b2 (.cons rfl .nil) sp) ?_
    intro r s' h
    rcases r with er | fl
    · exact False.elim h
    · rcases fl with _ | _ | _ | u
      · exact False.elim h
      · exact False.elim h
      · exact False.elim h
      · obtain ⟨v, H', os, bare, un, hok', r', q⟩ := h
        have q' : v = .bl true := q
        subst q'
        obtain rfl : u = Value.bool true := r'
        refine ⟨rfl, OldK.of_keep ?_, os, bare⟩
        intro b o e
        rcases hO b with z | ⟨ob, xs, z⟩
        · exact un.keep b o e z (fun m => by cases (show b ∈ ([] : List Addr) from m)) (by simp)
        · obtain ⟨e1, _⟩ := hok b _ z
          obtain ⟨e2, _⟩ := hok' b _ (un.frzs b ob _ z)
          rw [e] at e1
          cases e1
          exact e2
  have hlen := hi.length
  cases hk : K.lookup a with
  | some o =>
    have e := KX a o hk
    rw [ha] at e
    cases e
    exact core (fun _ => none) (fun _ => .inl rfl) (.inr ⟨_, vs.toArray, _, hk, rfl, rfl, rfl, by rw [List.size_toArray, hlen]; exact hl, by simpa using rv⟩) (fun b u z => nomatch (show (none : Option HO) = some u from z)) (fun b z => absurd rfl z) fun z => absurd rfl z
  | none =>
    let Hs : Hp := fun b => if b = a then some (.frz { cls := .type "list", data := .seq vs.toArray } (.lst (ns.map V.int))) else none
    have hs : Hs a = some (.frz { cls := .type "list", data := .seq vs.toArray } (.lst (ns.map V.int))) := if_pos rfl
    have hn : ∀ b, b ≠ a → Hs b = none := fun b q => if_neg q
    refine core Hs (fun b => ?_) (.inl (.inr ⟨_, hs⟩)) (fun b u z => ?_) (fun b z => ?_) fun _ => hk
    · by_cases q : b = a
      · rw [q]; exact .inr ⟨_, _, hs⟩
      · exact .inl (hn b q)
    · by_cases q : b = a
      · subst q
        rw [hs] at z
        cases z
        exact ⟨ha, by rw [List.length_map]; exact hl, vs, _, rv, ha⟩
      · rw [hn b q] at z; cases z
    · by_cases q : b = a
      · exact q
      · exact absurd (hn b q) z
theorem walkG {l : PySem.W.OpenLaw} {n k : Nat} {q : Program} {loose : List Str} {XP : (Str → Option Value) → Heap → Prop} {YP : World → Heap → Prop} {d : DefRec} {K : Params → PySem.W.Frag} {F : Fn} {kb : FuncData → Prop} {x : Str}
    (hn : l.most = some n) (hn2 : n ≤ sizeLine) (hdf : d.params.defaults = []) (hr : Room k callerA) (hY : ∀ (w : World) (h : Heap), YP w h → (K w.params).In h)
    (hG : ∀ (w : World) (mg : Str → Option Value) (base : Heap), (K w.params).In base → base.Ns mainGlobals mg → Has l.prog w (K w.params) mg base k d.name [x] 1 F kb)
    (hF : ∀ ns : List Int, ns.length ≤ n → ∃ outs, F [.pl (.dict [(.none, .list (ns.map .int))])] = some (.pl (.bool true), outs)) :
    PySem.W.WalkO q loose XP YP l.row.toRowW d [] (fun f vs => PySem.call f vs) := by
  refine Att.attach_call hn hdf ?_
  intro w s₀ s₁ mg mb fa o pm cd doc a vs ns G Y ho hd hcd hmg hobj hints hlen hg
  exact endG (hY w _ Y) G.T.g G.T.b G.T.builtins G.T.nolimit hg hobj hints (Nat.le_trans hlen hn2) hr hmg (hG w mg) (hF ns hlen)
end Dv

/-! Dv: a program of data run step by step. -/
namespace Dv
open PySem
section
variable {ρ ρ1 ρ2 ρ3 ρ4 : REnv} {fa fb fc fe : D1} {ft fu : B1} {f g : S1} {x y z d r : PyData} {b c : Bool}
theorem seqN (e : f ρ = some (.nx, ρ1)) : sSeq f g ρ = g ρ1 := by simp only [sSeq, e]
theorem seqR {r : Ret} (e : f ρ = some (.rt r, ρ1)) : sSeq f g ρ = some (.rt r, ρ1) := by simp only [sSeq, e]
theorem seqB (e : f ρ = some (.bk, ρ1)) : sSeq f g ρ = some (.bk, ρ1) := by simp only [sSeq, e]
theorem ifT (e : ft ρ = some (true, ρ1)) : sIf ft f g ρ = f ρ1 := by simp only [sIf, e]
theorem ifF (e : ft ρ = some (false, ρ1)) : sIf ft f g ρ = g ρ1 := by simp only [sIf, e]
theorem asg (e : fe ρ = some (d, ρ1)) (i : Nat) : sAsg fe (hName i) ρ = some (.nx, ρ1.set i (some (.pl d))) := by simp only [sAsg, e, hName]
theorem asgT {h : T1} (e : fe ρ = some (d, ρ1)) (q : h d ρ1 = some ρ2) : sAsg fe h ρ = some (.nx, ρ2) := by simp only [sAsg, e, q]
theorem ret (e : fe ρ = some (d, ρ1)) : sRet fe ρ = some (.rt (.pl d), ρ1) := by simp only [sRet, e]
theorem retF {fl : A1} {ds : List PyData} (e : fl ρ = some (ds, ρ1)) : sRetF fl ρ = some (.rt (.fr ds), ρ1) := by simp only [sRetF, e]
theorem own_ {fl : A1} {ds : List PyData} (e : fl ρ = some (ds, ρ1)) (i : Nat) : sOwn fl i ρ = some (.nx, ρ1.set i (some (.ow ds))) := by simp only [sOwn, e]
theorem drop_ (e : fe ρ = some (d, ρ1)) : sDrop fe ρ = some (.nx, ρ1) := by simp only [sDrop, e]
theorem par_ {fl : A1} (e : fl ρ = some ([x, y], ρ1)) (i j : Nat) : sPar i j fl ρ = some (.nx, (ρ1.set i (some (.pl x))).set j (some (.pl y))) := by simp only [sPar, e]
theorem parF_ {fl : A1} {ds : List PyData} (e : fl ρ = some (ds, ρ1)) (e2 : fe ρ1 = some (y, ρ2)) (i j : Nat) : sParF i j fl fe ρ = some (.nx, (ρ2.set i (some (.ow ds))).set j (some (.pl y))) := by simp only [sParF, e, e2]
theorem tT (e : fe ρ = some (.bool b, ρ1)) : fT fe ρ = some (b, ρ1) := by simp only [fT, e]
theorem andTt (e : ft ρ = some (true, ρ1)) : fAndT ft fu ρ = fu ρ1 := by simp only [fAndT, e]
theorem andTf (e : ft ρ = some (false, ρ1)) : fAndT ft fu ρ = some (false, ρ1) := by simp only [fAndT, e]
theorem andTb (e : ft ρ = some (b, ρ)) (q : b = true → fu ρ = some (c, ρ)) : fAndT ft fu ρ = some (b && c, ρ) := by
  cases b with
  | true => rw [andTt e, q rfl]; rfl
  | false => rw [andTf e]; rfl
theorem orTt (e : ft ρ = some (true, ρ1)) : fOrT ft fu ρ = some (true, ρ1) := by simp only [fOrT, e]
theorem orTf (e : ft ρ = some (false, ρ1)) : fOrT ft fu ρ = fu ρ1 := by simp only [fOrT, e]
theorem orTb (e : ft ρ = some (b, ρ)) (q : b = false → fu ρ = some (c, ρ)) : fOrT ft fu ρ = some (b || c, ρ) := by
  cases b with
  | true => rw [orTt e]; rfl
  | false => rw [orTf e, q rfl]; rfl
theorem notT_ (e : ft ρ = some (b, ρ1)) : fNotT ft ρ = some (!b, ρ1) := by simp only [fNotT, e]
theorem andVb (e : fa ρ = some (.bool b, ρ)) (q : b = true → fb ρ = some (.bool c, ρ)) : fAndV fa fb ρ = some (.bool (b && c), ρ) := by
  cases b with
  | true => simp only [fAndV, e, q rfl, Bool.true_and]
  | false => simp only [fAndV, e, Bool.false_and]
theorem orVb (e : fa ρ = some (.bool b, ρ)) (q : b = false → fb ρ = some (.bool c, ρ)) : fOrV fa fb ρ = some (.bool (b || c), ρ) := by
  cases b with
  | true => simp only [fOrV, e, Bool.true_or]
  | false => simp only [fOrV, e, q rfl, Bool.false_or]
theorem notV_ (e : fa ρ = some (.bool b, ρ1)) : fNotV fa ρ = some (.bool (!b), ρ1) := by simp only [fNotV, e]
theorem ifVt (e : ft ρ = some (true, ρ1)) : fIf ft fa fb ρ = fa ρ1 := by simp only [fIf, e]
theorem ifVf (e : ft ρ = some (false, ρ1)) : fIf ft fa fb ρ = fb ρ1 := by simp only [fIf, e]
theorem op2 {o : G2} (e1 : fa ρ = some (x, ρ1)) (e2 : fb ρ1 = some (y, ρ2)) (q : o x y = some z) : f2 o fa fb ρ = some (z, ρ2) := by simp only [f2, e1, e2, q]
theorem op1 {o : PyData → Option PyData} (e1 : fa ρ = some (x, ρ1)) (q : o x = some z) : f1 o fa ρ = some (z, ρ1) := by simp only [f1, e1, q]
theorem chainT {o o' : G2} (e1 : fa ρ = some (x, ρ)) (e2 : fb ρ = some (y, ρ)) (e3 : fc ρ = some (z, ρ)) (q1 : o x y = some (.bool b)) (q2 : b = true → o' y z = some (.bool c)) : fChain o o' fa fb fc ρ = some (.bool (b && c), ρ) := by
  cases b with
  | true => simp only [fChain, e1, e2, e3, q1, q2 rfl, Bool.true_and]
  | false => simp only [fChain, e1, e2, q1, Bool.false_and]
theorem nil_ : fNil ρ = some ([], ρ) := rfl
theorem cons_ {fl : A1} {xs : List PyData} (e1 : fa ρ = some (x, ρ1)) (e2 : fl ρ1 = some (xs, ρ2)) : fCons fa fl ρ = some (x :: xs, ρ2) := by simp only [fCons, e1, e2]
theorem one_ (e1 : fa ρ = some (x, ρ1)) : fCons fa fNil ρ = some ([x], ρ1) := by simp only [fCons, e1, fNil]
theorem two_ (e1 : fa ρ = some (x, ρ1)) (e2 : fb ρ1 = some (y, ρ2)) : fCons fa (fCons fb fNil) ρ = some ([x, y], ρ2) := cons_ e1 (one_ e2)
theorem cb_ {o : GN} {fl : A1} {xs : List PyData} (e : fl ρ = some (xs, ρ1)) (q : o xs = some z) : fCB o fl ρ = some (z, ρ1) := by simp only [fCB, e, q]
theorem cb1 {o : GN} (e : fa ρ = some (x, ρ1)) (q : o [x] = some z) : fCB o (fCons fa fNil) ρ = some (z, ρ1) := cb_ (one_ e) q
theorem cb2 {o : GN} (e1 : fa ρ = some (x, ρ1)) (e2 : fb ρ1 = some (y, ρ2)) (q : o [x, y] = some z) : fCB o (fCons fa (fCons fb fNil)) ρ = some (z, ρ2) := cb_ (two_ e1 e2) q
theorem cbF1 {o : List PyData → Option (List PyData)} {zs : List PyData} (e : fa ρ = some (x, ρ1)) (q : o [x] = some zs) : fCBF o (fCons fa fNil) ρ = some (zs, ρ1) := by simp only [fCBF, one_ e, q]
theorem fF_ {fl : A1} {xs : List PyData} (e : fl ρ = some (xs, ρ1)) : fF fl ρ = some (.list xs, ρ1) := by simp only [fF, e]
theorem lst_ {fl : A1} {xs : List PyData} (e : fl ρ = some (xs, ρ1)) (h : xs.length ≤ sizeLine) : fLst fl ρ = some (xs, ρ1) := by simp only [fLst, e, h, if_true]
theorem tup_ {fl : A1} {xs : List PyData} (e : fl ρ = some (xs, ρ1)) (h : xs.length ≤ sizeLine) : fTup fl ρ = some (.tuple xs, ρ1) := by simp only [fTup, e, h, if_true]
theorem items_ {ds : List PyData} (e : fa ρ = some (x, ρ1)) (q : itemsOf x = some ds) : fItems fa ρ = some (ds, ρ1) := by simp only [fItems, e, q]
theorem rng1_ {j : Int} (e : fa ρ = some (.int j, ρ1)) (h : okR j = true) : fRng1 (fCons fa fNil) ρ = some (rangeD 0 j.toNat, ρ1) := by simp only [fRng1, one_ e, h, if_true]
theorem rng2_ {i j : Int} (e : fa ρ = some (.int i, ρ1)) (e2 : fb ρ1 = some (.int j, ρ2)) (h : okR i = true) (h2 : okR j = true) : fRng2 (fCons fa (fCons fb fNil)) ρ = some (rangeD i (j - i).toNat, ρ2) := by simp only [fRng2, two_ e e2, h, h2, Bool.and_self, if_true]
theorem for_ {fl : A1} {h : T1} {ds : List PyData} (e : fl ρ = some (ds, ρ1)) : sFor fl h f ρ = loopF h f ds ρ1 := by simp only [sFor, e]
/-! calls -/
theorem call1 {F : Fn} {o : List (Option (List PyData))} (e : fa ρ = some (x, ρ1)) (q : F [.pl x] = some (.pl r, none :: o)) : fCallE F (aCons fa aNil) ρ = some (r, ρ1) := by
  simp only [fCallE, fCall, aCons, e, aNil, oneBy, toPV, q, setOuts, if_true]
theorem call2 {F : Fn} {o : List (Option (List PyData))} (e : fa ρ = some (x, ρ1)) (e2 : fb ρ1 = some (y, ρ2)) (q : F [.pl x, .pl y] = some (.pl r, none :: none :: o)) : fCallE F (aCons fa (aCons fb aNil)) ρ = some (r, ρ2) := by
  simp only [fCallE, fCall, aCons, e, e2, aNil, oneBy, toPV, q, setOuts, if_true]
theorem callB0 {F : Fn} {i : Nat} {v : PV} {ds ds' : List PyData} {o : List (Option (List PyData))} (ho : ρ[i]? = some (some v)) (hv : v.lst? = some ds) (q : F [.rf ds] = some (.pl r, some ds' :: o)) : fCallE F (aBy i aNil) ρ = some (r, ρ.set i (some (v.put ds'))) := by
  have h1 : ownAt ρ i = some ds := by simp only [ownAt, ho, hv]
  have h2 : oneBy [.by i] = true := rfl
  simp only [fCallE, fCall, aBy, h1, aNil, h2, toPV, q, setOuts, if_true, ho]
theorem callB1 {F : Fn} {i : Nat} {v : PV} {ds ds' : List PyData} {o : List (Option (List PyData))} (ho : ρ[i]? = some (some v)) (hv : v.lst? = some ds) (e : fa ρ = some (x, ρ)) (q : F [.rf ds, .pl x] = some (.pl r, some ds' :: none :: o)) : fCallE F (aBy i (aCons fa aNil)) ρ = some (r, ρ.set i (some (v.put ds'))) := by
  have h1 : ownAt ρ i = some ds := by simp only [ownAt, ho, hv]
  have h2 : oneBy [.by i, .pl x] = true := rfl
  simp only [fCallE, fCall, aBy, h1, aCons, e, aNil, h2, toPV, q, setOuts, if_true, ho]
/-- a def's end -/
theorem fnR {m : Nat} {xs : List PV} {r : Ret} {os : List (Option (List PyData))} (e : f (xs.map some ++ List.replicate (m - xs.length) none) = some (.rt r, ρ1)) (ho : outsOf ρ1 xs = os) : fnOf m f xs = some (r, os) := by simp only [fnOf, e, ho]
theorem fnN {m : Nat} {xs : List PV} {os : List (Option (List PyData))} (e : f (xs.map some ++ List.replicate (m - xs.length) none) = some (.nx, ρ1)) (ho : outsOf ρ1 xs = os) : fnOf m f xs = some (.pl .none, os) := by simp only [fnOf, e, ho]
end
/-! ### comprehensions -/
theorem comp_fm {α : Type} {v : Nat} {ft : B1} {fe : D1} {ρ : REnv} {f : α → PyData} {p : α → Bool} {g : α → PyData} (hw : ∀ x, wipeR (ρ.set v x) [v] = ρ) :
    ∀ (l : List α) (acc : List PyData), (∀ a ∈ l, ft (ρ.set v (some (.pl (f a)))) = some (p a, ρ.set v (some (.pl (f a))))) →
      (∀ a ∈ l, p a = true → fe (ρ.set v (some (.pl (f a)))) = some (g a, ρ.set v (some (.pl (f a))))) →
      compF (hName v) ft fe [v] (l.map f) acc ρ = some (acc ++ (l.filter p).map g, ρ)
  | [], acc, _, _ => by simp [compF]
  | a :: l, acc, h1, h2 => by
    have i1 := h1 a List.mem_cons_self
    have ih := fun acc => comp_fm hw l acc (fun b m => h1 b (List.mem_cons_of_mem _ m)) (fun b m => h2 b (List.mem_cons_of_mem _ m))
    rw [List.map_cons]
    cases hp : p a with
    | false =>
      rw [hp] at i1
      simp [compF, hName, i1, hw, ih, hp]
    | true =>
      rw [hp] at i1
      have i2 := h2 a List.mem_cons_self hp
      simp [compF, hName, i1, i2, hw, ih, hp]
theorem lc_fm {α : Type} {v : Nat} {fi : A1} {ft : B1} {fe : D1} {ρ : REnv} {f : α → PyData} {p : α → Bool} {g : α → PyData} (l : List α) {ds : List PyData} (hd : ds = l.map f) (hi : fi ρ = some (ds, ρ)) (hl : l.length ≤ sizeLine)
    (hw : ∀ x, wipeR ((wipeR ρ [v]).set v x) [v] = wipeR ρ [v]) (hr : restR ρ (wipeR ρ [v]) [v] = ρ)
    (h1 : ∀ a ∈ l, ft ((wipeR ρ [v]).set v (some (.pl (f a)))) = some (p a, (wipeR ρ [v]).set v (some (.pl (f a)))))
    (h2 : ∀ a ∈ l, p a = true → fe ((wipeR ρ [v]).set v (some (.pl (f a)))) = some (g a, (wipeR ρ [v]).set v (some (.pl (f a))))) :
    fLc fi (hName v) ft fe [v] ρ = some ((l.filter p).map g, ρ) := by
  subst hd
  simp [fLc, hi, hl, comp_fm hw l [] h1 h2, hr]
theorem lc_m {α : Type} {v : Nat} {fi : A1} {fe : D1} {ρ : REnv} {f : α → PyData} {g : α → PyData} (l : List α) {ds : List PyData} (hd : ds = l.map f) (hi : fi ρ = some (ds, ρ)) (hl : l.length ≤ sizeLine)
    (hw : ∀ x, wipeR ((wipeR ρ [v]).set v x) [v] = wipeR ρ [v]) (hr : restR ρ (wipeR ρ [v]) [v] = ρ)
    (h2 : ∀ a ∈ l, fe ((wipeR ρ [v]).set v (some (.pl (f a)))) = some (g a, (wipeR ρ [v]).set v (some (.pl (f a))))) :
    fLc fi (hName v) fYes fe [v] ρ = some (l.map g, ρ) := by
  have e := lc_fm (v := v) (fi := fi) (ft := fYes) (fe := fe) (ρ := ρ) (f := f) (p := fun _ => true) (g := g) l hd hi hl hw hr (fun _ _ => rfl) (fun a m _ => h2 a m)
  rwa [List.filter_eq_self.mpr (fun _ _ => rfl)] at e
/-- two clauses, the second one's items by the first one's -/
theorem comp2_fm {α β : Type} {v v1 : Nat} {fi1 : A1} {ft1 : B1} {fe : D1} {ρ : REnv} {f : α → PyData} {m : α → List β} {f1 : α → β → PyData} {p : α → β → Bool} {g : α → β → PyData}
    (hw : ∀ x, wipeR (wipeR (ρ.set v x) [v1]) [v, v1] = ρ) (hw1 : ∀ x y, wipeR ((wipeR (ρ.set v x) [v1]).set v1 y) [v1] = wipeR (ρ.set v x) [v1]) :
    ∀ (l : List α) (acc : List PyData), (∀ a ∈ l, fi1 (ρ.set v (some (.pl (f a)))) = some ((m a).map (f1 a), ρ.set v (some (.pl (f a))))) →
      (∀ a ∈ l, ∀ b ∈ m a, ft1 ((wipeR (ρ.set v (some (.pl (f a)))) [v1]).set v1 (some (.pl (f1 a b)))) = some (p a b, (wipeR (ρ.set v (some (.pl (f a)))) [v1]).set v1 (some (.pl (f1 a b))))) →
      (∀ a ∈ l, ∀ b ∈ m a, p a b = true → fe ((wipeR (ρ.set v (some (.pl (f a)))) [v1]).set v1 (some (.pl (f1 a b)))) = some (g a b, (wipeR (ρ.set v (some (.pl (f a)))) [v1]).set v1 (some (.pl (f1 a b))))) →
      comp2F (hName v) fYes fi1 (hName v1) ft1 fe [v, v1] [v1] (l.map f) acc ρ = some (acc ++ l.flatMap fun a => ((m a).filter (p a)).map (g a), ρ)
  | [], acc, _, _, _ => by simp [comp2F]
  | a :: l, acc, h1, h2, h3 => by
    have ih := fun acc => comp2_fm hw hw1 l acc (fun b q => h1 b (List.mem_cons_of_mem _ q)) (fun b q => h2 b (List.mem_cons_of_mem _ q)) (fun b q => h3 b (List.mem_cons_of_mem _ q))
    have i1 := h1 a List.mem_cons_self
    have i2 := comp_fm (hw1 (some (.pl (f a)))) (m a) acc (h2 a List.mem_cons_self) (h3 a List.mem_cons_self)
    rw [List.map_cons]
    simp [comp2F, hName, fYes, i1, i2, hw, ih]
theorem lc2_fm {α β : Type} {v v1 : Nat} {fi fi1 : A1} {ft1 : B1} {fe : D1} {ρ : REnv} {f : α → PyData} {m : α → List β} {f1 : α → β → PyData} {p : α → β → Bool} {g : α → β → PyData} (l : List α) {ds : List PyData} (hd : ds = l.map f) (hi : fi ρ = some (ds, ρ))
    (hl : (l.flatMap fun a => ((m a).filter (p a)).map (g a)).length ≤ sizeLine) (h0 : wipeR ρ [v, v1] = ρ) (hr : restR ρ ρ [v, v1] = ρ)
    (hw : ∀ x, wipeR (wipeR (ρ.set v x) [v1]) [v, v1] = ρ) (hw1 : ∀ x y, wipeR ((wipeR (ρ.set v x) [v1]).set v1 y) [v1] = wipeR (ρ.set v x) [v1])
    (h1 : ∀ a ∈ l, fi1 (ρ.set v (some (.pl (f a)))) = some ((m a).map (f1 a), ρ.set v (some (.pl (f a)))))
    (h2 : ∀ a ∈ l, ∀ b ∈ m a, ft1 ((wipeR (ρ.set v (some (.pl (f a)))) [v1]).set v1 (some (.pl (f1 a b)))) = some (p a b, (wipeR (ρ.set v (some (.pl (f a)))) [v1]).set v1 (some (.pl (f1 a b)))))
    (h3 : ∀ a ∈ l, ∀ b ∈ m a, p a b = true → fe ((wipeR (ρ.set v (some (.pl (f a)))) [v1]).set v1 (some (.pl (f1 a b)))) = some (g a b, (wipeR (ρ.set v (some (.pl (f a)))) [v1]).set v1 (some (.pl (f1 a b))))) :
    fLc2 fi (hName v) fYes fi1 (hName v1) ft1 fe [v, v1] [v1] ρ = some (l.flatMap fun a => ((m a).filter (p a)).map (g a), ρ) := by
  subst hd
  have e := comp2_fm hw hw1 l [] h1 h2 h3
  rw [List.nil_append] at e
  simp only [fLc2, hi, h0, e, hl, if_true, hr]
theorem bls_map {α : Type} (q : α → Bool) : ∀ l : List α, blsOf (l.map fun a => .bool (q a)) = some (l.map q)
  | [] => rfl
  | a :: l => by simp [blsOf, bls_map q l]
theorem all_map {α : Type} (q : α → Bool) (l : List α) : gAll [.list (l.map fun a => .bool (q a))] = some (.bool (l.all q)) := by
  simp [gAll, bls_map]
theorem any_map {α : Type} (q : α → Bool) (l : List α) : gAny [.list (l.map fun a => .bool (q a))] = some (.bool (l.any q)) := by
  simp [gAny, bls_map]
theorem range_map (lo : Int) (n : Nat) : rangeD lo n = (List.range n).map fun (i : Nat) => .int (lo + (i : Int)) := rfl
theorem sz5 : (100000 : Nat) ≤ sizeLine := by rw [sizeLine_eq]; omega
theorem k5 {n : Nat} (h : n ≤ 100000) : n ≤ sizeLine := Nat.le_trans h sz5
theorem retAll {α : Type} {ρ ρ' : REnv} {fl : A1} {l : List α} {q : α → Bool} (e : fl ρ = some (l.map fun a => .bool (q a), ρ')) : fCB gAll (fCons (fF fl) fNil) ρ = some (.bool (l.all q), ρ') := cb1 (fF_ e) (all_map q l)
theorem retAny {α : Type} {ρ ρ' : REnv} {fl : A1} {l : List α} {q : α → Bool} (e : fl ρ = some (l.map fun a => .bool (q a), ρ')) : fCB gAny (fCons (fF fl) fNil) ρ = some (.bool (l.any q), ρ') := cb1 (fF_ e) (any_map q l)
/-! ### the operations at data -/
theorem oAdd (i j : Int) : gAdd (.int i) (.int j) = some (.int (i + j)) := rfl
theorem oSub (i j : Int) : gSub (.int i) (.int j) = some (.int (i - j)) := rfl
theorem oMulL (i j : Int) (h : small64 i = true) : gMul (.int i) (.int j) = some (.int (i * j)) := by simp [gMul, gOr, gMulI, gI, h]
theorem oMulR (i j : Int) (h : small64 j = true) : gMul (.int i) (.int j) = some (.int (i * j)) := by simp [gMul, gOr, gMulI, gI, h]
theorem oMod (i j : Int) (h : 0 < j) : gMod (.int i) (.int j) = some (.int (i % j)) := by simp [gMod, gI, h]
theorem oDiv (i j : Int) (h : 0 < j ∧ j.natAbs.log2 < 9000) : gDiv (.int i) (.int j) = some (.int (i / j)) := by simp [gDiv, gI, h.1, h.2]
theorem oLt (i j : Int) : gLt (.int i) (.int j) = some (.bool (decide (i < j))) := rfl
theorem oLe (i j : Int) : gLe (.int i) (.int j) = some (.bool (decide (i ≤ j))) := rfl
theorem oGt (i j : Int) : gGt (.int i) (.int j) = some (.bool (decide (j < i))) := rfl
theorem oGe (i j : Int) : gGe (.int i) (.int j) = some (.bool (decide (j ≤ i))) := rfl
theorem oInt (i : Int) : gInt [.int i] = some (.int i) := rfl
theorem oNeg (i : Int) : gNeg (.int i) = some (.int (-i)) := rfl
theorem oCatT (xs ys : List PyData) (h : xs.length + ys.length ≤ sizeLine) : gAdd (.tuple xs) (.tuple ys) = some (.tuple (xs ++ ys)) := by simp [gAdd, gOr, gI, gCatL, gCatT, h]
theorem oCatL (xs ys : List PyData) (h : xs.length + ys.length ≤ sizeLine) : gAdd (.list xs) (.list ys) = some (.list (xs ++ ys)) := by simp [gAdd, gOr, gI, gCatL, gCatT, h]
theorem oIxT (xs : List PyData) (i : Nat) (d : PyData) (h : xs[i]? = some d) : gIx (.tuple xs) (.int i) = some d := by
  have hl : i < xs.length := (List.getElem?_eq_some_iff.mp h).1
  have e : xs[i] = d := (List.getElem?_eq_some_iff.mp h).2
  simp [gIx, L2.atI, L2.ixN, hl, e]
theorem oIxL (xs : List PyData) (i : Nat) (d : PyData) (h : xs[i]? = some d) : gIx (.list xs) (.int i) = some d := by
  have hl : i < xs.length := (List.getElem?_eq_some_iff.mp h).1
  have e : xs[i] = d := (List.getElem?_eq_some_iff.mp h).2
  simp [gIx, L2.atI, L2.ixN, hl, e]
theorem oLenT (xs : List PyData) : gLen [.tuple xs] = some (.int xs.length) := rfl
theorem oLenL (xs : List PyData) : gLen [.list xs] = some (.int xs.length) := rfl
theorem okR_nat {n : Nat} (h : n ≤ 100000) : okR (n : Int) = true := by simp [okR]; omega
theorem okR_int {n : Int} (h : -100000 ≤ n ∧ n ≤ 100000) : okR n = true := by simp [okR]; omega
theorem getD_some {α : Type} {xs : List α} {i : Nat} (z : α) (h : i < xs.length) : xs[i]? = some (xs.getD i z) := by
  rw [List.getElem?_eq_getElem h, List.getD_eq_getElem?_getD, List.getElem?_eq_getElem h]; rfl
theorem oIxT' {xs : List PyData} (i : Nat) (h : i < xs.length) : gIx (.tuple xs) (.int (i : Int)) = some (xs.getD i .none) := oIxT _ _ _ (getD_some _ h)
/-- loops without break or return: by what stands before a round -/
theorem loop_inv {α : Type} {h : T1} {fb : S1} {f : α → PyData} (W : List α → REnv → Prop) (Z : REnv → Prop) (h0 : ∀ ρ, W [] ρ → Z ρ)
    (hs : ∀ a l ρ, W (a :: l) ρ → ∃ ρ1 ρ2, h (f a) ρ = some ρ1 ∧ fb ρ1 = some (.nx, ρ2) ∧ W l ρ2) : ∀ (l : List α) (ρ : REnv), W l ρ → ∃ ρ', loopF h fb (l.map f) ρ = some (.nx, ρ') ∧ Z ρ'
  | [], ρ, w => ⟨ρ, rfl, h0 ρ w⟩
  | a :: l, ρ, w => by
    obtain ⟨ρ1, ρ2, e1, e2, w2⟩ := hs a l ρ w
    obtain ⟨ρ', e, z⟩ := loop_inv W Z h0 hs l ρ2 w2
    exact ⟨ρ', by simp only [List.map_cons, loopF, e1, e2, e], z⟩
end Dv

/-! Dv: zip, enumerate, gcd. -/
namespace Dv
open PySem PySem.Spec PyProof.Rows L2
def zipD : List PyData → List PyData → List PyData
  | x :: xs, y :: ys => .tuple [x, y] :: zipD xs ys
  | _, _ => []
theorem zipD_length : ∀ xs ys : List PyData, (zipD xs ys).length = min xs.length ys.length
  | [], ys => by simp [zipD]
  | x :: xs, [] => by simp [zipD]
  | x :: xs, y :: ys => by simp [zipD, zipD_length xs ys]
theorem zipD_get : ∀ {xs ys : List PyData} {i : Nat} {d : PyData}, (zipD xs ys)[i]? = some d → ∃ x y, xs[i]? = some x ∧ ys[i]? = some y ∧ d = .tuple [x, y]
  | [], ys, i, d, h => by simp [zipD] at h
  | x :: xs, [], i, d, h => by simp [zipD] at h
  | x :: xs, y :: ys, 0, d, h => by simp [zipD] at h; exact ⟨x, y, rfl, rfl, h.symm⟩
  | x :: xs, y :: ys, i + 1, d, h => by
    obtain ⟨a, b, h1, h2, h3⟩ := zipD_get (xs := xs) (ys := ys) (i := i) (by simpa [zipD] using h)
    exact ⟨a, b, by simpa using h1, by simpa using h2, h3⟩
def enumD (i : Nat) : List PyData → List PyData
  | [] => []
  | x :: xs => .tuple [.int i, x] :: enumD (i + 1) xs
theorem enumD_length : ∀ (i : Nat) (xs : List PyData), (enumD i xs).length = xs.length
  | _, [] => rfl
  | i, x :: xs => by simp [enumD, enumD_length (i + 1) xs]
theorem enumD_get : ∀ {k : Nat} {xs : List PyData} {i : Nat} {d : PyData}, (enumD k xs)[i]? = some d → ∃ x, xs[i]? = some x ∧ d = .tuple [.int ((k + i : Nat) : Int), x]
  | k, [], i, d, h => by simp [enumD] at h
  | k, x :: xs, 0, d, h => by simp [enumD] at h; exact ⟨x, rfl, h.symm⟩
  | k, x :: xs, i + 1, d, h => by
    obtain ⟨a, h1, h2⟩ := enumD_get (k := k + 1) (xs := xs) (i := i) (by simpa [enumD] using h)
    exact ⟨a, by simpa using h1, by rw [h2]; congr 4; omega⟩
/-- both lists, or both tuples -/
def fZip (fa : A1) : A1 := fun ρ => match fa ρ with
  | some ([.list xs, .list ys], ρ1) => some (zipD xs ys, ρ1)
  | some ([.tuple xs, .tuple ys], ρ1) => some (zipD xs ys, ρ1)
  | _ => none
def fEnum (fa : A1) : A1 := fun ρ => match fa ρ with
  | some ([.list xs], ρ1) => some (enumD 0 xs, ρ1)
  | _ => none
section
variable {K : PySem.W.Frag}
theorem rp_pair {N : Addr → Prop} {L : List (Option Addr)} {H : Hp} {T : Addr} {x y : V} {dx dy : PyData} (A : Alloc N L H) (hT : H T = none) (rx : Rp K (hd N L H) x dx) (ry : Rp K (hd N L H) y dy) :
    Rp K (hd N L (upd H T (.tup [x, y]))) (.ref T) (.tuple [dx, dy]) :=
  .tup (.of (A.new hT)) (.cons (rx.mono (hd_mono (Le.new hT))) (.cons (ry.mono (hd_mono (Le.new hT))) .nil))
theorem sem_zip {ta : TA} {f : A1} (h : SemA K ta f) : SemI K (RZ.iZipA K ta) (fZip f) := by
  intro G L ρ σ H R ds ρ' Re e q
  unfold fZip at e
  split at e
  · rename_i xs ys ρ1 e1
    cases e
    refine h G L ρ σ H _ _ ρ' Re e1 fun vs H1 L1 s1 R1 w1 r1 => ?_
    cases r1 with
    | cons ra t =>
      cases t with
      | cons rb t =>
        cases t
        cases ra with
        | lst h1 r1 =>
          rename_i a us
          cases rb with
          | lst h2 r2 =>
            rename_i b vs
            refine ⟨a, b, us, vs, rfl, .inl ⟨.of (hd_le _ _ h1), .of (hd_le _ _ h2), q _ H1 L1 s1 R1 w1 ?_⟩⟩
            intro N L H' le A
            have hs1 : SqL K H' a us := .of (hd_le _ _ (le _ _ h1))
            have hs2 : SqL K H' b vs := .of (hd_le _ _ (le _ _ h2))
            refine ⟨⟨us, vs, hs1, hs2, by rw [zipD_length, r1.len, r2.len]; omega⟩, fun i d e => ?_⟩
            obtain ⟨x, y, ex, ey, rfl⟩ := zipD_get e
            obtain ⟨u, hu, ru⟩ := r1.get ex
            obtain ⟨v, hv, rv⟩ := r2.get ey
            refine ⟨⟨us, vs, u, v, hs1, hs2, hu, hv⟩, fun z H'' yl => ?_⟩
            obtain ⟨T, x', y', rfl, hT, rfl, g1, g2⟩ := yl
            have g1 := g1 us hs1
            have g2 := g2 vs hs2
            rw [hu] at g1
            rw [hv] at g2
            cases g1
            cases g2
            exact ⟨Le.new hT, rp_pair A hT (ru.mono le) (rv.mono le)⟩
  · rename_i xs ys ρ1 e1
    cases e
    refine h G L ρ σ H _ _ ρ' Re e1 fun vs H1 L1 s1 R1 w1 r1 => ?_
    cases r1 with
    | cons ra t =>
      cases t with
      | cons rb t =>
        cases t
        cases ra with
        | tup h1 r1 =>
          rename_i a us
          cases rb with
          | tup h2 r2 =>
            rename_i b vs
            refine ⟨a, b, us, vs, rfl, .inr ⟨hd_le.t h1, hd_le.t h2, q _ H1 L1 s1 R1 w1 ?_⟩⟩
            intro N L H' le A
            have hs1 : SqT K H' a us := hd_le.t (le.t h1)
            have hs2 : SqT K H' b vs := hd_le.t (le.t h2)
            refine ⟨⟨us, vs, hs1, hs2, by rw [zipD_length, r1.len, r2.len]; omega⟩, fun i d e => ?_⟩
            obtain ⟨x, y, ex, ey, rfl⟩ := zipD_get e
            obtain ⟨u, hu, ru⟩ := r1.get ex
            obtain ⟨v, hv, rv⟩ := r2.get ey
            refine ⟨⟨us, vs, u, v, hs1, hs2, hu, hv⟩, fun z H'' yl => ?_⟩
            obtain ⟨T, x', y', rfl, hT, rfl, g1, g2⟩ := yl
            have g1 := g1 us hs1
            have g2 := g2 vs hs2
            rw [hu] at g1
            rw [hv] at g2
            cases g1
            cases g2
            exact ⟨Le.new hT, rp_pair A hT (ru.mono le) (rv.mono le)⟩
  · cases e
theorem sem_enum {ta : TA} {f : A1} (h : SemA K ta f) : SemI K (iEnum K ta) (fEnum f) := by
  intro G L ρ σ H R ds ρ' Re e q
  unfold fEnum at e
  split at e
  · rename_i xs ρ1 e1
    cases e
    refine h G L ρ σ H _ _ ρ' Re e1 fun vs H1 L1 s1 R1 w1 r1 => ?_
    cases r1 with
    | cons ra t =>
      cases t
      cases ra with
      | lst h1 r1 =>
        rename_i a us
        refine ⟨a, us, rfl, .of (hd_le _ _ h1), q _ H1 L1 s1 R1 w1 ?_⟩
        intro N L H' le A
        have hs1 : SqL K H' a us := .of (hd_le _ _ (le _ _ h1))
        refine ⟨⟨us, hs1, by rw [enumD_length, r1.len]; exact Nat.le_refl _⟩, fun i d e => ?_⟩
        obtain ⟨x, ex, rfl⟩ := enumD_get e
        obtain ⟨u, hu, ru⟩ := r1.get ex
        refine ⟨⟨us, u, hs1, hu⟩, fun z H'' yl => ?_⟩
        obtain ⟨T, x', rfl, hT, rfl, g1⟩ := yl
        have g1 := g1 us hs1
        rw [hu] at g1
        cases g1
        rw [Nat.zero_add]
        exact ⟨Le.new hT, rp_pair A hT (.int _) (ru.mono le)⟩
  · cases e
/-! gcd -/
def gGcd : GN := fun xs => match xs with
  | [.int a, .int b] => some (.int ((Nat.gcd a.natAbs b.natAbs : Nat) : Int))
  | _ => none
theorem s_gcd : CallS K rGcd gGcd := by
  intro N L H vs ds dz Q A h e q
  unfold gGcd at e
  split at e
  · cases e
    cases h with
    | cons h t =>
      cases t with
      | cons h2 t2 =>
        cases t2
        rw [h.int_of, h2.int_of]
        exact ⟨_, _, rfl, q _ H (.refl H) (.int _)⟩
  · cases e
end
section
variable {K : PySem.W.Frag} {X : Cx} {a b : Expr} {pos : Pos}
theorem i_zip {p tpos : Pos} {elts : List Expr} {kk : Nat} {t : TA} {f : A1} (hg : Gl X "zip") (hm : X.mg "zip" = none) (h : SA K X [a, b] t f) (hs : starEach [a, b] X.env = (false, eval a X.env) :: starEach [b] X.env := by rfl) (hpl : (backTo pos (starEach [b] X.env)).any (·.1) = false := by rfl) (hK : X.K = K := by rfl) :
    SI K X (.Tuple elts kk tpos) (.Call (.Name "zip" p) [a, b] [] pos) (RZ.iZipA K t) (fZip f) := by
  subst hK
  exact ⟨RZ.pi_zipA hg hm h.pe hs hpl, sem_zip h.sem⟩
theorem i_enum {p tpos : Pos} {elts : List Expr} {kk : Nat} {t : TA} {f : A1} (hg : Gl X "enumerate") (hm : X.mg "enumerate" = none) (h : SA K X [a] t f) (hs : starEach [a] X.env = [(false, eval a X.env)] := by rfl) (hK : X.K = K := by rfl) :
    SI K X (.Tuple elts kk tpos) (.Call (.Name "enumerate" p) [a] [] pos) (iEnum K t) (fEnum f) := by
  subst hK
  exact ⟨pi_enum hg hm h.pe hs, sem_enum h.sem⟩
/-- f(..), f a module's name for a function that is built in -/
theorem e_cbf {x : Str} {id : String} {p : Pos} {es : List Expr} {t : TA} {f : A1} {r : List V → Hp → VK → Prop} {g : GN} (s : CallS K r g) (hc : CallR X (.builtin id) r) (hg : Gl X x) (hm : X.mg x = some (.builtin id)) (ha : SA K X (a :: es) t f)
    (hdb : (x == ("__debug__" : Str)) = false := by decide) (he : starEach (a :: es) X.env = (false, eval a X.env) :: starEach es X.env := by rfl) (hpl : (backTo pos (starEach es X.env)).any (·.1) = false := by rfl) (hK : X.K = K := by rfl) :
    SE K X (.Call (.Name x p) (a :: es) [] pos) (tCB r t) (fCB g f) := by
  subst hK
  exact ⟨pe_callBfun hc hg hm ha.pe hdb he hpl, sem_cb s ha.sem⟩
end
end Dv

/-! Dv: while; products of wide ints. -/
namespace Dv
open PySem PySem.Spec PyProof.Rows L2
/-- at most n turns -/
def loopN (ft : B1) (fb : S1) : Nat → REnv → Option (Fl × REnv)
  | 0, _ => none
  | n + 1, ρ => match ft ρ with
    | some (false, ρ1) => some (.nx, ρ1)
    | some (true, ρ1) => match fb ρ1 with
      | some (.nx, ρ2) => loopN ft fb n ρ2
      | some (.ct, ρ2) => loopN ft fb n ρ2
      | some (.bk, ρ2) => some (.nx, ρ2)
      | some (.rt r, ρ2) => some (.rt r, ρ2)
      | none => none
    | none => none
theorem loopN_up (ft : B1) (fb : S1) : ∀ (n : Nat) (ρ : REnv) {x : Fl × REnv}, loopN ft fb n ρ = some x → loopN ft fb (n + 1) ρ = some x
  | 0, ρ, x, h => by cases h
  | n + 1, ρ, x, h => by
    unfold loopN at h ⊢
    split at h
    · exact h
    · split at h
      · exact loopN_up ft fb n _ h
      · exact loopN_up ft fb n _ h
      · exact h
      · exact h
      · cases h
    · cases h
theorem loopN_le {ft : B1} {fb : S1} {n m : Nat} {ρ : REnv} {x : Fl × REnv} (h : loopN ft fb n ρ = some x) (hm : n ≤ m) : loopN ft fb m ρ = some x := by
  obtain ⟨k, rfl⟩ := Nat.exists_eq_add_of_le hm
  clear hm
  induction k with
  | zero => exact h
  | succ k ih => exact loopN_up ft fb (n + k) ρ ih
open Classical in
noncomputable def sWhile (ft : B1) (fb : S1) : S1 := fun ρ => if h : ∃ x, ∃ n, loopN ft fb n ρ = some x then some (choose h) else none
theorem sWhile_of {ft : B1} {fb : S1} {n : Nat} {ρ : REnv} {x : Fl × REnv} (h : loopN ft fb n ρ = some x) : sWhile ft fb ρ = some x := by
  have hx : ∃ x, ∃ n, loopN ft fb n ρ = some x := ⟨x, n, h⟩
  unfold sWhile
  rw [dif_pos hx]
  obtain ⟨m, hm⟩ := Classical.choose_spec hx
  have h1 := loopN_le h (Nat.le_max_left n m)
  have h2 := loopN_le hm (Nat.le_max_right n m)
  rw [h1] at h2
  exact h2.symm
theorem of_sWhile {ft : B1} {fb : S1} {ρ : REnv} {x : Fl × REnv} (h : sWhile ft fb ρ = some x) : ∃ n, loopN ft fb n ρ = some x := by
  unfold sWhile at h
  split at h
  · rename_i hx
    cases h
    exact Classical.choose_spec hx
  · cases h
theorem sem_while {K : PySem.W.Frag} {tc : TT} {ft : B1} {tb : TS} {fb : S1} (hc : SemT K tc ft) (hb : SemS K tb fb) : SemS K (tWhile tc tb) (sWhile ft fb) := by
  intro G L ρ σ H D fl ρ' R e q
  obtain ⟨n, e⟩ := of_sWhile e
  refine ⟨fun m σ' H' => ∃ L' ρ2, Rel K G L' ρ2 σ' H' ∧ Gr L H L' H' ∧ loopN ft fb m ρ2 = some (fl, ρ'), ⟨n, L, ρ, R, .refl _ _, e⟩, ?_⟩
  rintro m σ2 H2 ⟨L2', ρ2, R2, g2, e2⟩
  cases m with
  | zero => cases e2
  | succ m =>
    unfold loopN at e2
    split at e2
    · rename_i ρ1 e3
      cases e2
      refine hc G L2' ρ2 σ2 H2 _ _ ρ' R2 e3 fun H3 L3 s3 R3 w3 => ?_
      rw [if_neg (by simp)]
      exact q L3 σ2 H3 R3 (g2.trans (.of w3 s3))
    · rename_i ρ1 e3
      refine hc G L2' ρ2 σ2 H2 _ _ ρ1 R2 e3 fun H3 L3 s3 R3 w3 => ?_
      have g3 := g2.trans (.of w3 s3)
      rw [if_pos rfl]
      refine ⟨fun σ' H' => ∃ L' ρ4, Rel K G L' ρ4 σ' H' ∧ Gr L H L' H' ∧ loopN ft fb m ρ4 = some (fl, ρ'), fun σ' H' ⟨L', ρ4, z⟩ => ⟨m, Nat.lt_succ_self _, L', ρ4, z⟩, ?_⟩
      split at e2
      · rename_i ρ4 e4
        exact hb G L3 ρ1 σ2 H3 _ .nx ρ4 R3 e4 fun L4 σ4 H4 R4 g4 => ⟨L4, ρ4, R4, g3.trans g4, e2⟩
      · rename_i ρ4 e4
        exact hb G L3 ρ1 σ2 H3 _ .ct ρ4 R3 e4 fun L4 σ4 H4 R4 g4 => ⟨L4, ρ4, R4, g3.trans g4, e2⟩
      · rename_i ρ4 e4
        cases e2
        exact hb G L3 ρ1 σ2 H3 _ .bk ρ' R3 e4 fun L4 σ4 H4 R4 g4 => q L4 σ4 H4 R4 (g3.trans g4)
      · rename_i r ρ4 e4
        cases e2
        refine hb G L3 ρ1 σ2 H3 _ (.rt r) ρ' R3 e4 ?_
        cases r with
        | pl d => exact fun L4 σ4 H4 v R4 g4 rv => q L4 σ4 H4 v R4 (g3.trans g4) rv
        | fr es => exact fun L4 σ4 H4 p vs R4 g4 hp => q L4 σ4 H4 p vs R4 (g3.trans g4) (g3.ew.free hp)
      · cases e2
    · cases e2
theorem s_while {K : PySem.W.Frag} {X : Cx} {c : Expr} {body : List Stmt} {pos : Pos} {tc : TT} {ft : B1} {tb : TS} {fb : S1} (hp : PassesOwn (model X.prog X.w) X.A X.env X.xe) (hc : ST K X c tc ft) (hb : SSs K X body tb fb) : SS K X (.While c body [] pos) (tWhile tc tb) (sWhile ft fb) :=
  ⟨ps_while hp hc.pe hb.pe, sem_while hc.sem hb.sem⟩
/-! products: one small factor, or few bits together -/
def gMulW : G2 := gI fun i j => if decide (i.natAbs.log2 + j.natAbs.log2 < 1000000) then some (.int (i * j)) else none
theorem s_mulWi {K : PySem.W.Frag} : OpS K (rI CMulW fun i j => .int (i * j)) gMulW := ops_I (c := fun i j => decide (i.natAbs.log2 + j.natAbs.log2 < 1000000)) fun i j h => (of_decide_eq_true h : i.natAbs.log2 + j.natAbs.log2 < 1000000)
def rMulA (K : PySem.W.Frag) : R2 := fun x y H Q => rMul K x y H Q ∨ rI CMulW (fun i j => .int (i * j)) x y H Q
def gMulA : G2 := gOr gMul gMulW
theorem o_mulA {X : Cx} : OpR X (binaryOp .Mult) (rMulA X.K) := o_mul.or op_mulW
theorem s_mulA {K : PySem.W.Frag} : OpS K (rMulA K) gMulA := ops_or s_mul s_mulWi
end Dv

/-! Dv: names of the module, lcm, starred displays, list.count, a, b = e, [..]. -/
namespace Dv
open PySem PySem.Spec PyProof.Rows L2
section
variable {K : PySem.W.Frag} {X : Cx} {pos : Pos}
theorem e_gint {x : Str} {i : Int} {t : Tok} (hg : Gl X x) (hm : X.mg x = some (.int i t)) (hd : (x == ("__debug__" : Str)) = false := by decide) : SE K X (.Name x pos) (tC (.int i)) (fC (.int i)) :=
  ⟨pe_glob hg hm ⟨t, rfl⟩ hd, sem_c fun _ => .int i⟩
theorem e_gstr {x y : Str} {t : Tok} (hg : Gl X x) (hm : X.mg x = some (.str y t)) (hd : (x == ("__debug__" : Str)) = false := by decide) : SE K X (.Name x pos) (tC (.str y)) (fC (.str y)) :=
  ⟨pe_glob hg hm ⟨t, rfl⟩ hd, sem_c fun _ => .str y⟩
theorem e_gref {x : Str} {a : Addr} {d : PyData} (r : ∀ H, Rp K H (.ref a) d) (hg : Gl X x) (hm : X.mg x = some (.ref a)) (hd : (x == ("__debug__" : Str)) = false := by decide) : SE K X (.Name x pos) (tC (.ref a)) (fC d) :=
  ⟨pe_glob hg hm rfl hd, sem_c r⟩
end
theorem rp_k2 {K : PySem.W.Frag} {a : Addr} {od : Option Addr} {i j : Int} {t u : Tok} {n : Nat} {sl : Array (Option Value)} (l : K.lookup a = some ⟨.type "tuple", od, .seq #[.int i t, .int j u] n, sl⟩) : ∀ H, Rp K H (.ref a) (.tuple [.int i, .int j]) := fun H =>
  .tup (xs := [.int i, .int j]) (.inr ⟨_, _, n, l, rfl, rfl, by show 2 ≤ 2 ^ 24; omega, .cons ⟨t, rfl⟩ (.cons ⟨u, rfl⟩ .nil)⟩) (.cons (.int i) (.cons (.int j) .nil))
/-! lcm -/
def gLcm : GN := fun xs => match xs with
  | [.int a, .int b] => if decide (a.natAbs.log2 < 13000) && decide (b.natAbs.log2 < 13000) then some (.int ((Nat.lcm a.natAbs b.natAbs : Nat) : Int)) else none
  | _ => none
def rLcm : List V → Hp → VK → Prop := fun vs H Q => ∃ a b : Int, vs = [.int a, .int b] ∧ a.natAbs.log2 < 13000 ∧ b.natAbs.log2 < 13000 ∧ Q (.int ((Nat.lcm a.natAbs b.natAbs : Nat) : Int)) H
theorem log2_mul_lt {a b : Nat} (ha : a.log2 < 13000) (hb : b.log2 < 13000) : (Nat.lcm a b).log2 < 2 ^ 27 := by
  have h1 : a < 2 ^ 13000 := by
    by_cases h : a = 0
    · rw [h]; exact Nat.two_pow_pos _
    · exact (Nat.log2_lt h).mp ha
  have h2 : b < 2 ^ 13000 := by
    by_cases h : b = 0
    · rw [h]; exact Nat.two_pow_pos _
    · exact (Nat.log2_lt h).mp hb
  have h3 : Nat.lcm a b < 2 ^ 26000 := by
    by_cases h : a * b = 0
    · have : Nat.lcm a b = 0 := by rw [Nat.lcm, h, Nat.zero_div]
      rw [this]; exact Nat.two_pow_pos _
    · calc Nat.lcm a b ≤ a * b := Nat.le_of_dvd (Nat.pos_of_ne_zero h) (Nat.lcm_dvd_mul a b)
        _ < 2 ^ 13000 * 2 ^ 13000 := Nat.mul_lt_mul'' h1 h2
        _ = 2 ^ 26000 := by rw [← Nat.pow_add]
  by_cases h : Nat.lcm a b = 0
  · rw [h]; show (0 : Nat).log2 < _; rw [Nat.log2_zero]; exact Nat.two_pow_pos _
  · exact Nat.lt_trans ((Nat.log2_lt h).mpr h3) (by decide)
theorem cr_lcm {X : Cx} : CallR X (.builtin "math.lcm") rLcm := by
  intro pins s σ H vs us Q I r h
  obtain ⟨a, b, rfl, ha, hb, q⟩ := h
  obtain ⟨t, u, rfl⟩ := Vals.int2 r
  have e : Nat.lcm 1 a.natAbs = a.natAbs := Nat.lcm_one_left _
  have hm : ¬(max a.natAbs b.natAbs).log2 / 30 + 1 > 450 := by
    rcases Nat.le_total a.natAbs b.natAbs with h | h
    · rw [Nat.max_eq_right h]; omega
    · rw [Nat.max_eq_left h]; omega
  have hm1 : ¬(max 1 a.natAbs).log2 / 30 + 1 > 450 := by
    rcases Nat.le_total 1 a.natAbs with h | h
    · rw [Nat.max_eq_right h]; omega
    · rw [Nat.max_eq_left h]; decide
  have hz : ((((Nat.lcm 1 a.natAbs).lcm b.natAbs : Nat) : Int)).natAbs.log2 < bitsLine := by
    rw [e, Int.natAbs_natCast]; exact log2_mul_lt ha hb
  have g := PySem.W.mg_run_lcm a t b u hm1 hm hz
  rw [e] at g
  exact call_function_meets PySem.W.MGF.kind_lcm PySem.W.MGF.plain_lcm PySem.W.MGF.entry_lcm (PySem.W.MGF.args_lcm _ _) g.meets ⟨.int _, H, I.tok _, ⟨_, rfl⟩, q⟩
section
variable {K : PySem.W.Frag}
theorem s_lcm : CallS K rLcm gLcm := by
  intro N L H vs ds dz Q A h e q
  unfold gLcm at e
  split at e
  · split at e
    · rename_i hc
      cases e
      cases h with
      | cons h t =>
        cases t with
        | cons h2 t2 =>
          cases t2
          rw [h.int_of, h2.int_of]
          simp only [Bool.and_eq_true, decide_eq_true_eq] at hc
          exact ⟨_, _, rfl, hc.1, hc.2, q _ H (.refl H) (.int _)⟩
    · cases e
  · cases e
/-! [*xs, ..] -/
def fStar (fe : D1) (fr : A1) : A1 := fun ρ => match fe ρ with
  | some (.list xs, ρ1) => match fr ρ1 with
    | some (ys, ρ2) => some (xs ++ ys, ρ2)
    | none => none
  | some (.tuple xs, ρ1) => match fr ρ1 with
    | some (ys, ρ2) => some (xs ++ ys, ρ2)
    | none => none
  | _ => none
theorem sem_star {te : TE} {fe : D1} {tr : TA} {fr : A1} (he : SemE K te fe) (hr : SemA K tr fr) : SemA K (StX.tStar K te tr) (fStar fe fr) := by
  intro G L ρ σ H Q d ρ' R e q
  unfold fStar at e
  split at e
  · rename_i xs ρ1 e1
    split at e
    · rename_i ys ρ2 e2
      cases e
      refine he G L ρ σ H _ _ ρ1 R e1 fun v H1 L1 s1 R1 w1 r1 => ?_
      cases r1 with
      | lst h1 r1 =>
        rename_i a us
        refine ⟨a, us, rfl, .inr (.of (hd_le _ _ h1)), ?_⟩
        refine hr G L1 ρ1 σ H1 _ _ ρ' R1 e2 fun vs H2 L2' s2 R2 w2 r2 => ?_
        exact q (us ++ vs) H2 L2' (s2.trans s1) R2 (w1.trans w2 s1) ((r1.mono (w2.hd s2)).append r2)
    · cases e
  · rename_i xs ρ1 e1
    split at e
    · rename_i ys ρ2 e2
      cases e
      refine he G L ρ σ H _ _ ρ1 R e1 fun v H1 L1 s1 R1 w1 r1 => ?_
      cases r1 with
      | tup h1 r1 =>
        rename_i a us
        refine ⟨a, us, rfl, .inl (hd_le.t h1), ?_⟩
        refine hr G L1 ρ1 σ H1 _ _ ρ' R1 e2 fun vs H2 L2' s2 R2 w2 r2 => ?_
        exact q (us ++ vs) H2 L2' (s2.trans s1) R2 (w1.trans w2 s1) ((r1.mono (w2.hd s2)).append r2)
    · cases e
  · cases e
theorem a_star {X : Cx} {e : Expr} {p : Pos} {te : TE} {fe : D1} {es : List Expr} {t : TA} {f : A1} (he : SE K X e te fe) (hr : SA K X es t f) (hs : starEach (.Starred e p :: es) X.env = (true, eval e X.env) :: starEach es X.env := by rfl) (hK : X.K = K := by rfl) :
    SA K X (.Starred e p :: es) (StX.tStar K te t) (fStar fe f) := by
  subst hK
  exact ⟨StX.pa_star he.pe hr.pe hs, sem_star he.sem hr.sem⟩
/-! xs.count(k) -/
def gCnt : G2 := fun x y => match x, y with
  | .list ds, .int k => match intsOf ds with
    | some ns => some (.int ((ns.count k : Nat) : Int))
    | none => none
  | _, _ => none
theorem sem_cnt {to te : TE} {fo fe : D1} (ho : SemE K to fo) (he : SemE K te fe) : SemE K (tBM K "list" (rCntI K) to (tCons te tNil)) (f2 gCnt fo fe) := by
  intro G L ρ σ H Q d ρ' R e q
  obtain ⟨x, ρ1, y, e1, e2, e3⟩ := f2_some e
  unfold gCnt at e3
  split at e3
  · rename_i ds k
    split at e3
    · rename_i ns en
      cases e3
      have z := intsOf_some en
      subst z
      refine ho G L ρ σ H _ _ ρ1 R e1 fun v H1 L1 s1 R1 w1 r1 => ?_
      cases r1 with
      | lst h1 r1 =>
        rename_i a us
        have eu := r1.ints
        subst eu
        refine ⟨.inl ⟨rfl, _, .of (hd_le _ _ h1)⟩, ?_⟩
        refine he G L1 ρ1 σ H1 _ _ ρ' R1 e2 fun v2 H2 L2' s2 R2 w2 r2 => ?_
        cases r2
        exact ⟨a, ns, k, rfl, rfl, .of (hd_le _ _ (w2.hd s2 _ _ h1)), q _ H2 L2' (s2.trans s1) R2 (w1.trans w2 s1) (.int _)⟩
    · cases e3
  · cases e3
theorem e_cnt {X : Cx} {o e : Expr} {to te : TE} {fo fe : D1} {apos cpos : Pos} (ho : SE K X o to fo) (he : SE K X e te fe)
    (hbase : attributeBase o "count" X.env (eval o X.env) = eval o X.env := by rfl)
    (hfew : ((backTo cpos (starEach [e] X.env)).all (fun x => !x.1) && (backToKw cpos (keywordEach [] X.env)).all (fun x => x.1.isSome) && decide ([e].length + ([] : List Keyword).length + (if ([] : List Keyword).isEmpty then 0 else 1) < 30)) = true := by rfl)
    (hline : (apos.endLine == cpos.line) = true := by rfl) (h1 : starEach [e] X.env = (false, eval e X.env) :: starEach [] X.env := by rfl) (hplain : (backTo cpos (starEach [] X.env)).any (·.1) = false := by rfl) (hK : X.K = K := by rfl) :
    SE K X (.Call (.Attribute o "count" apos) [e] [] cpos) (tBM K "list" (rCntI K) to (tCons te tNil)) (f2 gCnt fo fe) := by
  subst hK
  exact ⟨pe_bm PySem.F.plainAttrs_list PySem.F.slot_list_count PySem.F.type_list_count mt_lcount ho.pe (pa_cons he.pe pa_nil h1) hbase hfew hline h1 hplain, sem_cnt ho.sem he.sem⟩
/-! a, b = e, [..]: b's list its own -/
def sParG (i j : Nat) (fa : D1) (fb : A1) : S1 := fun ρ => match fa ρ with
  | some (x, ρ1) => match fb ρ1 with
    | some (ds, ρ2) => some (.nx, (ρ2.set i (some (.pl x))).set j (some (.ow ds)))
    | none => none
  | none => none
theorem sem_parG (i j : Nat) {ta tb : TE} {fa : D1} {fb : A1} (h : SemE K ta fa) (hb : SemF K tb fb) : SemS K (tPar i j (tCons ta (tCons tb tNil))) (sParG i j fa fb) := by
  intro G L ρ σ H D fl ρ' R e q
  unfold sParG at e
  split at e
  · rename_i x ρ1 e1
    split at e
    · rename_i ds ρ2 e2
      cases e
      refine h G L ρ σ H _ _ ρ1 R e1 fun v H1 L1 s1 R1 w1 r1 => ?_
      refine hb G L1 ρ1 σ H1 _ _ ρ2 R1 e2 fun p vs H2 L2' s2 hp h2 R2 w2 r2 => ?_
      have hf := R1.fresh hp
      have hl2 : some p ∉ L2' := fun m => hf.2.1 (s2.mem m)
      have m0 : Le (hd G.N L1 H1) (hd (G.hide p).N (L2'.set i none) H2) := fun b o z => by
        obtain ⟨z1, z2, z3⟩ := hd_some.mp z
        refine hd_some.mpr ⟨fun y => ?_, fun y => z2 (s2.mem ((LS.set L2' i).mem y)), w2.1 b o z2 z3⟩
        rcases y with y | y
        · exact z1 y
        · rw [y, hp] at z3; cases z3
      have A := R2.setPl i (r1.mono m0)
      have s3 := LS.set L2' i
      have hl3 : some p ∉ L2'.set i none := fun m => hl2 (s3.mem m)
      have B := A.setOw j h2 hl3 hf.2.2 hf.1 (r2.mono ((Ew.refl L2' H2).hd s3)) R.bd
      refine ⟨_, _, rfl, q _ _ H2 B ⟨w1.trans w2 s1, fun a mm => ?_⟩⟩
      rcases mem_set_some mm with z | z
      · exact .inl (s1.mem (s2.mem (s3.mem z)))
      · rw [z]
        cases hH : H p with
        | none => exact .inr rfl
        | some o =>
          exact absurd hH (by
            intro hH
            by_cases hb : some p ∈ L
            · exact absurd hp (by obtain ⟨o', e'⟩ := w1.2 p o hH; rw [e']; simp)
            · have := w1.1 p o hb hH; rw [hp] at this; cases this)
    · cases e
  · cases e
end
section
variable {K : PySem.W.Frag} {X : Cx} {pos : Pos} {a b : Expr} {ta tb : TE} {fa fb : D1}
theorem s_parG {x y : Str} {px py pt : Pos} {kt k2 pt2} {fB : A1} (i j : Nat) (hc : X.calm = true) (hN : X.N.Nodup) (ha : SE K X a ta fa) (hb : SF K X b tb fB) (hij : i ≠ j := by decide) (hi : X.N[i]? = some x := by rfl) (hj : X.N[j]? = some y := by rfl)
    (hx : X.env.scope.names.lookup x = some .local := by rfl) (hy : X.env.scope.names.lookup y = some .local := by rfl) (hw : swappedStores [.Tuple [.Name x px, .Name y py] kt pt] (.Tuple [a, b] k2 pt2) X.env = pure (some [x, y]) := by rfl)
    (hs : swapsWithSole [.Tuple [.Name x px, .Name y py] kt pt] (.Tuple [a, b] k2 pt2) pos.line X.env = pure false := by rfl) (h1 : starEach [a, b] X.env = (false, eval a X.env) :: starEach [b] X.env := by rfl) (h2 : starEach [b] X.env = (false, eval b X.env) :: starEach [] X.env := by rfl) :
    SS K X (.Assign [.Tuple [.Name x px, .Name y py] kt pt] (.Tuple [a, b] k2 pt2) pos) (tPar i j (tCons ta (tCons tb tNil))) (sParG i j fa fB) := ⟨ps_par hc hN hi hj hij hx hy (pa_cons ha.pe (pa_cons hb.pe pa_nil h2) h1) hw hs, sem_parG i j ha.sem hb.sem⟩
/-- a, b = x, y where a name is captured: by way of the pair -/
theorem ps_parC {i j : Nat} {x y : Str} {ta : TA} {px py pt : Pos} {kt k2 pt2} (hc : X.calm = true) (hN : X.N.Nodup) (hi : X.N[i]? = some x) (hj : X.N[j]? = some y)
    (hx : Loc X.env.scope x) (hy : Loc X.env.scope y) (ha : PA X [a, b] ta) (fx : X.fn x = true ∨ X.env.scope.names.lookup x = some .local) (fy : X.fn y = true ∨ X.env.scope.names.lookup y = some .local)
    (hw : swappedStores [.Tuple [.Name x px, .Name y py] kt pt] (.Tuple [a, b] k2 pt2) X.env = pure none)
    (hs : swapsWithSole [.Tuple [.Name x px, .Name y py] kt pt] (.Tuple [a, b] k2 pt2) pos.line X.env = pure false)
    (h1 : (assignEach [.Tuple [.Name x px, .Name y py] kt pt] X.env).map (·.2) = [assign (.Tuple [.Name x px, .Name y py] kt pt) X.env])
    (hn : (assignEach [.Name x px, .Name y py] X.env).length = 2) (hst : (assignEach [.Name x px, .Name y py] X.env).findIdx? (·.1) = none)
    (g1 : (assignEach (.Name x px :: [.Name y py]) X.env).map (·.2) = assign (.Name x px) X.env :: (assignEach [.Name y py] X.env).map (·.2)) (g2 : (assignEach (.Name y py :: []) X.env).map (·.2) = assign (.Name y py) X.env :: (assignEach [] X.env).map (·.2)) :
    PS X (.Assign [.Tuple [.Name x px, .Name y py] kt pt] (.Tuple [a, b] k2 pt2) pos) (tPar i j ta) := by
  refine ⟨fun pins s σ H D I h => ?_⟩
  refine wpAny_Assign_stores (Tuple_ (thn (ha.run _ pins s σ H _ I h) fun us s1 ⟨vs, H1, I1, r1, q1⟩ => ?_)) hs hw
  obtain ⟨v, w, e1, q1⟩ := q1
  subst e1
  obtain ⟨u1, u2, rfl⟩ : ∃ u1 u2, us = [u1, u2] := by
    cases r1 with
    | cons p q =>
      cases q with
      | cons p' q' =>
        cases q'
        exact ⟨_, _, rfl⟩
  refine wpAny_newObj_type ?_ (by show 2 ≤ sizeLine; decide)
  have I2 : Inv X pins σ H1 { s1 with heap := s1.heap.push { cls := .type "tuple", data := .seq [u1, u2].toArray } } := I1.kept (t' := s1.toks) fun b o e => Heap.get?_push_of_some _ e
  rw [h1]
  have P : PGs X [.Name x px, .Name y py] (gCons (gName i) (gCons (gName j) gNil)) := pgs_cons (pg_name hN hi hx fx) (pgs_cons (pg_name hN hj hy fy) pgs_nil g2) g1
  refine assign_Tuple_tuple (items := #[u1, u2]) (I.ok.hd hc) (IsTup.new s1.heap _) (by rw [hn]; rfl) hst fun h' hx' => ?_
  have I3 := I2.kept (h' := h') (t' := s1.toks) fun b o e => hx' b o (Nat.ne_of_lt (Heap.lt_size e)) e
  exact thn (P.run pins _ σ H1 [v, w] _ (fun σ' H' => σ' = (σ.set i (some v)).set j (some w) ∧ H' = H1) I3 r1 ⟨v, [w], rfl, w, [], rfl, rfl, rfl, rfl⟩) fun _ s2 z => by
    obtain ⟨σ2, H2, I4, rfl, rfl⟩ := z
    exact ⟨_, _, I4, q1⟩
theorem s_parGC {x y : Str} {px py pt : Pos} {kt k2 pt2} {fB : A1} (i j : Nat) (hc : X.calm = true) (hN : X.N.Nodup) (ha : SE K X a ta fa) (hb : SF K X b tb fB) (hi : X.N[i]? = some x := by rfl) (hj : X.N[j]? = some y := by rfl)
    (hx : Loc X.env.scope x := by first | exact .inl rfl | exact .inr rfl) (hy : Loc X.env.scope y := by first | exact .inl rfl | exact .inr rfl) (fx : X.fn x = true ∨ X.env.scope.names.lookup x = some .local := by first | exact .inl rfl | exact .inr rfl) (fy : X.fn y = true ∨ X.env.scope.names.lookup y = some .local := by first | exact .inl rfl | exact .inr rfl)
    (hw : swappedStores [.Tuple [.Name x px, .Name y py] kt pt] (.Tuple [a, b] k2 pt2) X.env = pure none := by rfl)
    (hs : swapsWithSole [.Tuple [.Name x px, .Name y py] kt pt] (.Tuple [a, b] k2 pt2) pos.line X.env = pure false := by rfl) (h1 : starEach [a, b] X.env = (false, eval a X.env) :: starEach [b] X.env := by rfl) (h2 : starEach [b] X.env = (false, eval b X.env) :: starEach [] X.env := by rfl)
    (q1 : (assignEach [.Tuple [.Name x px, .Name y py] kt pt] X.env).map (·.2) = [assign (.Tuple [.Name x px, .Name y py] kt pt) X.env] := by rfl)
    (hn : (assignEach [.Name x px, .Name y py] X.env).length = 2 := by rfl) (hst : (assignEach [.Name x px, .Name y py] X.env).findIdx? (·.1) = none := by rfl)
    (g1 : (assignEach (.Name x px :: [.Name y py]) X.env).map (·.2) = assign (.Name x px) X.env :: (assignEach [.Name y py] X.env).map (·.2) := by rfl) (g2 : (assignEach (.Name y py :: []) X.env).map (·.2) = assign (.Name y py) X.env :: (assignEach [] X.env).map (·.2) := by rfl) :
    SS K X (.Assign [.Tuple [.Name x px, .Name y py] kt pt] (.Tuple [a, b] k2 pt2) pos) (tPar i j (tCons ta (tCons tb tNil))) (sParG i j fa fB) := ⟨ps_parC hc hN hi hj hx hy (pa_cons ha.pe (pa_cons hb.pe pa_nil h2) h1) fx fy hw hs q1 hn hst g1 g2, sem_parG i j ha.sem hb.sem⟩
theorem s_parFC {x y : Str} {px py pt : Pos} {kt k2 pt2} {fA : A1} (i j : Nat) (hc : X.calm = true) (hN : X.N.Nodup) (ha : SF K X a ta fA) (hb : SE K X b tb fb) (hi : X.N[i]? = some x := by rfl) (hj : X.N[j]? = some y := by rfl)
    (hx : Loc X.env.scope x := by first | exact .inl rfl | exact .inr rfl) (hy : Loc X.env.scope y := by first | exact .inl rfl | exact .inr rfl) (fx : X.fn x = true ∨ X.env.scope.names.lookup x = some .local := by first | exact .inl rfl | exact .inr rfl) (fy : X.fn y = true ∨ X.env.scope.names.lookup y = some .local := by first | exact .inl rfl | exact .inr rfl)
    (hw : swappedStores [.Tuple [.Name x px, .Name y py] kt pt] (.Tuple [a, b] k2 pt2) X.env = pure none := by rfl)
    (hs : swapsWithSole [.Tuple [.Name x px, .Name y py] kt pt] (.Tuple [a, b] k2 pt2) pos.line X.env = pure false := by rfl) (h1 : starEach [a, b] X.env = (false, eval a X.env) :: starEach [b] X.env := by rfl) (h2 : starEach [b] X.env = (false, eval b X.env) :: starEach [] X.env := by rfl)
    (q1 : (assignEach [.Tuple [.Name x px, .Name y py] kt pt] X.env).map (·.2) = [assign (.Tuple [.Name x px, .Name y py] kt pt) X.env] := by rfl)
    (hn : (assignEach [.Name x px, .Name y py] X.env).length = 2 := by rfl) (hst : (assignEach [.Name x px, .Name y py] X.env).findIdx? (·.1) = none := by rfl)
    (g1 : (assignEach (.Name x px :: [.Name y py]) X.env).map (·.2) = assign (.Name x px) X.env :: (assignEach [.Name y py] X.env).map (·.2) := by rfl) (g2 : (assignEach (.Name y py :: []) X.env).map (·.2) = assign (.Name y py) X.env :: (assignEach [] X.env).map (·.2) := by rfl) :
    SS K X (.Assign [.Tuple [.Name x px, .Name y py] kt pt] (.Tuple [a, b] k2 pt2) pos) (tPar i j (tCons ta (tCons tb tNil))) (sParF i j fA fb) := ⟨ps_parC hc hN hi hj hx hy (pa_cons ha.pe (pa_cons hb.pe pa_nil h2) h1) fx fy hw hs q1 hn hst g1 g2, sem_parF i j ha.sem hb.sem⟩
theorem s_parXC {x y : Str} {px py pt : Pos} {kt k2 pt2} (i j : Nat) (hc : X.calm = true) (hN : X.N.Nodup) (ha : SE K X a ta fa) (hb : SE K X b tb fb) (hi : X.N[i]? = some x := by rfl) (hj : X.N[j]? = some y := by rfl)
    (hx : Loc X.env.scope x := by first | exact .inl rfl | exact .inr rfl) (hy : Loc X.env.scope y := by first | exact .inl rfl | exact .inr rfl) (fx : X.fn x = true ∨ X.env.scope.names.lookup x = some .local := by first | exact .inl rfl | exact .inr rfl) (fy : X.fn y = true ∨ X.env.scope.names.lookup y = some .local := by first | exact .inl rfl | exact .inr rfl)
    (hw : swappedStores [.Tuple [.Name x px, .Name y py] kt pt] (.Tuple [a, b] k2 pt2) X.env = pure none := by rfl)
    (hs : swapsWithSole [.Tuple [.Name x px, .Name y py] kt pt] (.Tuple [a, b] k2 pt2) pos.line X.env = pure false := by rfl) (h1 : starEach [a, b] X.env = (false, eval a X.env) :: starEach [b] X.env := by rfl) (h2 : starEach [b] X.env = (false, eval b X.env) :: starEach [] X.env := by rfl)
    (q1 : (assignEach [.Tuple [.Name x px, .Name y py] kt pt] X.env).map (·.2) = [assign (.Tuple [.Name x px, .Name y py] kt pt) X.env] := by rfl)
    (hn : (assignEach [.Name x px, .Name y py] X.env).length = 2 := by rfl) (hst : (assignEach [.Name x px, .Name y py] X.env).findIdx? (·.1) = none := by rfl)
    (g1 : (assignEach (.Name x px :: [.Name y py]) X.env).map (·.2) = assign (.Name x px) X.env :: (assignEach [.Name y py] X.env).map (·.2) := by rfl) (g2 : (assignEach (.Name y py :: []) X.env).map (·.2) = assign (.Name y py) X.env :: (assignEach [] X.env).map (·.2) := by rfl) :
    SS K X (.Assign [.Tuple [.Name x px, .Name y py] kt pt] (.Tuple [a, b] k2 pt2) pos) (tPar i j (tCons ta (tCons tb tNil))) (sPar i j (fCons fa (fCons fb fNil))) := ⟨ps_parC hc hN hi hj hx hy (pa_cons ha.pe (pa_cons hb.pe pa_nil h2) h1) fx fy hw hs q1 hn hst g1 g2, sem_par i j (sem_cons ha.sem (sem_cons hb.sem sem_nil))⟩
end
end Dv

/-! Dv: tuples of ints of any lengths sorted; sorted(set(..)); places and counts in lists of data. -/
namespace Dv
open PySem PySem.Spec PyProof.Rows L2
section
variable {prog : Program} {w : World} {A : Around} {E : Value → Shared → Prop} {s : Shared}
theorem tup_oneLt {f : Bool} {a b : Value} {ks ms : List Int} {Q : Bool → Shared → Prop} (ta : TS.TupInts s.heap a ks) (tb : TS.TupInts s.heap b ms) (hu : A.units < cLine) (hq : Q (HT.lexLt ks ms) s) : wpAny (model prog w) A (oneLt' f a b) Q E s := by
  obtain ⟨t, xs, rfl, ht, it⟩ := ta
  obtain ⟨u, ys, rfl, hu', iu⟩ := tb
  rw [oneLt'_eq]
  cases f with
  | false =>
    simp only [Bool.false_eq_true, if_false]
    exact wpAny_bind (show wpAny (model prog w) A (richCompare .Lt (.ref t) (.ref u)) _ E s from HT.lt_tupInts ht hu' it iu hu (wpAny_truthy_bool hq))
  | true =>
    simp only [if_true]
    obtain ⟨⟨cls, dd, data, sl⟩, ho, hc, n, hd⟩ := ht
    obtain ⟨⟨cls2, dd2, data2, sl2⟩, ho2, hc2, n2, hd2⟩ := hu'
    simp only at hc hd hc2 hd2
    subst hc hd hc2 hd2
    refine wpAny_bind (wpAny_cRoomFor hu ?_)
    refine wpAny_bind (wpAny_callSpecialIfBound?_slot (T := "tuple") ⟨_, ho, rfl⟩ PySem.F.slot_tuple_lt (call_meets PySem.F.slot_tuple_lt ⟨_, ho, rfl⟩ PySem.F.entry_tuple_lt (PySem.F.args_tuple_lt_2 _ _) (HT.tuple_lt_ints t u xs ys n n2 dd dd2 sl sl2 ks ms it iu) ⟨ho, ho2, ?_⟩))
    exact wpAny_truthy_bool hq
def TupKind (κ : SortKind) : Prop := κ = tuples' true ∨ κ = general' ∨ κ = oneType'
theorem tups_cmp {κ : SortKind} (hk : TupKind κ) {a b : Value} {ks ms : List Int} {Q : Bool → Shared → Prop} (ta : TS.TupInts s.heap a ks) (tb : TS.TupInts s.heap b ms) (hu : A.units < cLine) (hq : Q (HT.lexLt ks ms) s) : wpAny (model prog w) A (keyLt' κ a b) Q E s := by
  rcases hk with rfl | rfl | rfl
  · obtain ⟨t, xs, rfl, ⟨o, ho, _, n, hd⟩, it⟩ := ta
    obtain ⟨u, ys, rfl, ⟨o2, ho2, _, n2, hd2⟩, iu⟩ := tb
    exact PySem.W.kat_lt ho hd ho2 hd2 (lex_walk it 0 iu (by simp) hq)
  · exact tup_oneLt (f := false) ta tb hu hq
  · exact tup_oneLt (f := true) ta tb hu hq
end
section
variable {M : Model} {A : Around} {s : Shared}
theorem firsts_any : ∀ {vs : List Value}, (∀ v ∈ vs, ∃ ks, TS.TupInts s.heap v ks) → ∃ fos : List (Option Value), fos.length = vs.length ∧ (∀ f, some f ∈ fos → ∃ n t, f = Value.int n t) ∧ ∀ (Q : List (Option Value) → Shared → Prop) (E : Value → Shared → Prop), Q fos s → wpAny M A (vs.mapM firstOfTuple') Q E s
  | [], _ => ⟨[], rfl, fun f h => (nomatch h), fun Q E h => by rw [List.mapM_nil]; exact wpAny_pure h⟩
  | v :: vs, t => by
    obtain ⟨fos, h1, h2, h3⟩ := firsts_any fun u m => t u (List.mem_cons_of_mem _ m)
    obtain ⟨ks, a, xs, rfl, ⟨o, ho, hc, n, hd⟩, hi⟩ := t v List.mem_cons_self
    refine ⟨xs[0]? :: fos, by simp [h1], fun f hf => ?_, fun Q E hq => ?_⟩
    · rcases List.mem_cons.mp hf with e | hf
      · have e2 : xs.toList[0]? = some f := by rw [Array.getElem?_toList]; exact e.symm
        cases hx : xs.toList with
        | nil => rw [hx] at e2; cases e2
        | cons y ys =>
          rw [hx] at hi e2
          cases hi with
          | cons k tt _ => cases e2; exact ⟨k, tt, rfl⟩
      · exact h2 f hf
    · rw [List.mapM_cons]
      refine wpAny_bind ?_
      rw [PySem.W.kas_first_eq]
      refine wpAny_bind (PySem.W.Looks.here (show PySem.W.Looks M s.heap (typeOf (.ref a)) o.cls from (PySem.W.Looks.ld ho).andThen .now) ?_)
      rw [hc, if_neg (by first | decide | simp)]
      refine wpAny_bind (listItems_at ho hd (wpAny_pure ?_))
      exact wpAny_bind (h3 (fun bs s' => wpAny M A (pure (xs[0]? :: bs)) Q E s') E (wpAny_pure hq))
theorem all_some {α : Type} : ∀ {l : List (Option α)}, (l.toArray.all fun x => x.isSome) = true → ∃ fs : List α, l = fs.map some
  | [], _ => ⟨[], rfl⟩
  | none :: l, h => by simp at h
  | some x :: l, h => by
    obtain ⟨fs, rfl⟩ := all_some (l := l) (by simpa using h)
    exact ⟨x :: fs, rfl⟩
theorem tups_kind {vs : List Value} (t : ∀ v ∈ vs, ∃ ks, TS.TupInts s.heap v ks) (h2 : 2 ≤ vs.length) : ∃ κ, TupKind κ ∧ ∀ (Q : SortKind → Shared → Prop) (E : Value → Shared → Prop), Q κ s → wpAny M A (keyKind' vs.toArray) Q E s := by
  obtain ⟨fos, f1, f2, f3⟩ := firsts_any (M := M) (A := A) t
  by_cases ha : (fos.toArray.all fun x => x.isSome) = true
  · obtain ⟨fs, rfl⟩ := all_some ha
    refine ⟨tuples' true, .inl rfl, fun Q E hq => ?_⟩
    obtain ⟨f₁, fr, rfl⟩ : ∃ f₁ fr, fs = f₁ :: fr := by
      cases fs with
      | nil => simp at f1; omega
      | cons f₁ fr => exact ⟨f₁, fr, rfl⟩
    rw [PyProof.Rows.kat_kind_eq, List.mapM_toArray, map_eq_pure_bind]
    refine wpAny_bind (wpAny_bind (f3 _ _ (wpAny_pure ?_)))
    rw [if_pos ha]
    refine wpAny_bind (wpAny_rule ?_)
    have hfm : (((f₁ :: fr).map some).toArray.filterMap id) = (f₁ :: fr).toArray := by simp
    rw [hfm, oneTypeOnly'_eq, List.mapM_toArray, map_eq_pure_bind]
    refine wpAny_bind (wpAny_bind (wpAny_bind (PySem.W.kas_mapM (r := Value.type "int") _ (fun v hv Q' hq' => ?_) (wpAny_pure ?_))))
    · obtain ⟨n, tk, rfl⟩ := f2 v (List.mem_map.mpr ⟨v, hv, rfl⟩)
      exact (PySem.W.Looks.now (M := M)).here hq'
    · have hT2 : (Value.type "int" == Value.type "int") = true := by rfl
      have hall2 : ((List.map (fun _ => Value.type "int") (f₁ :: fr)).toArray.all fun x => x == Value.type "int") = true := by
        simp only [List.all_toArray, List.all_map, List.all_eq_true]
        intro _ _
        exact hT2
      have h0 : (List.map (fun _ => Value.type "int") (f₁ :: fr)).toArray[0]? = some (Value.type "int") := by simp
      rw [h0]
      simp only [hall2, if_true]
      refine wpAny_pure (wpAny_pure ?_)
      have e : (Option.any (fun x => x != Value.type "tuple") (some (Value.type "int"))) = true := by first | decide +kernel | rfl | decide
      rw [e]
      exact hq
  · by_cases hf : ((fos.toArray[0]?.bind id).isSome) = true
    · refine ⟨general', .inr (.inl rfl), fun Q E hq => ?_⟩
      rw [PyProof.Rows.kat_kind_eq, List.mapM_toArray, map_eq_pure_bind]
      refine wpAny_bind (wpAny_bind (f3 _ _ (wpAny_pure ?_)))
      rw [if_neg ha, if_pos hf]
      exact wpAny_pure hq
    · refine ⟨oneType', .inr (.inr rfl), fun Q E hq => ?_⟩
      rw [PyProof.Rows.kat_kind_eq, List.mapM_toArray, map_eq_pure_bind]
      refine wpAny_bind (wpAny_bind (f3 _ _ (wpAny_pure ?_)))
      rw [if_neg ha, if_neg hf, oneTypeOnly'_eq, List.mapM_toArray, map_eq_pure_bind]
      refine wpAny_bind (wpAny_bind (wpAny_bind (PySem.W.kas_mapM (r := Value.type "tuple") _ (fun v hv Q' hq' => ?_) (wpAny_pure ?_))))
      · obtain ⟨ks, a, xs, rfl, ⟨o, ho, hc, n, hd⟩, hi⟩ := t v hv
        rw [← hc] at hq'
        exact PySem.W.Looks.here (show PySem.W.Looks M s.heap (typeOf (.ref a)) o.cls from (PySem.W.Looks.ld ho).andThen .now) hq'
      · obtain ⟨v₁, vr, rfl⟩ : ∃ v₁ vr, vs = v₁ :: vr := by
          cases vs with
          | nil => simp at h2
          | cons v₁ vr => exact ⟨v₁, vr, rfl⟩
        have hT2 : (Value.type "tuple" == Value.type "tuple") = true := by rfl
        have hall2 : ((List.map (fun _ => Value.type "tuple") (v₁ :: vr)).toArray.all fun x => x == Value.type "tuple") = true := by
          simp only [List.all_toArray, List.all_map, List.all_eq_true]
          intro _ _
          exact hT2
        have h0 : (List.map (fun _ => Value.type "tuple") (v₁ :: vr)).toArray[0]? = some (Value.type "tuple") := by simp
        rw [h0]
        simp only [hall2, if_true]
        exact wpAny_pure (wpAny_pure hq)
end
section
variable {prog : Program} {w : World} {A : Around} {s : Shared}
theorem tups_sortable {its : List Value} (t1 : ∀ v ∈ its, ∃ ks, TS.TupInts s.heap v ks) (h2 : 2 ≤ its.length) (hu : A.units < cLine) {h₁ : Heap} {a : Addr} (kp : ∀ b u, s.heap.get? b = some u → b ≠ a ∧ h₁.get? b = some u) :
    SrtO.SortableO prog w A { s with heap := h₁ } a its fun v u => HT.lexLt (TS.intsOf s.heap v) (TS.intsOf s.heap u) := by
  intro h' keep
  have tup : ∀ v ∈ its, ∃ ks, TS.TupInts h' v ks ∧ TS.intsOf s.heap v = ks := fun v hv => by
    obtain ⟨ks, t, xs, rfl, ⟨o, ho, hc, n, hd⟩, hi⟩ := t1 v hv
    exact ⟨ks, ⟨t, xs, rfl, ⟨o, keep t o (kp t o ho).1 (kp t o ho).2, hc, n, hd⟩, hi⟩, TS.TupInts.ints ⟨t, xs, rfl, ⟨o, ho, hc, n, hd⟩, hi⟩⟩
  obtain ⟨κ, k1, k2⟩ := tups_kind (M := model prog w) (A := A) (s := { s with heap := h' }) (vs := its) (fun v hv => by obtain ⟨ks, h, _⟩ := tup v hv; exact ⟨ks, h⟩) h2
  refine ⟨κ, k2, fun p q hp hq => ?_⟩
  obtain ⟨ka, ta, ea⟩ := tup p.1 hp
  obtain ⟨kb, tb, eb⟩ := tup q.1 hq
  refine tups_cmp k1 (s := { s with heap := h' }) ta tb hu ⟨rfl, ?_⟩
  show HT.lexLt ka kb = HT.lexLt (TS.intsOf s.heap p.1) (TS.intsOf s.heap q.1)
  rw [ea, eb]
end
/-- a tuple of these ints -/
def IsKA (K : PySem.W.Frag) (H : Hp) (x : V) (ks : List Int) : Prop := ∃ t, x = .ref t ∧ SqT K H t (ks.map V.int)
def rSortTA (K : PySem.W.Frag) : List V → Hp → VK → Prop := fun vs H Q => ∃ (a : Addr) (xs : List V) (kss : List (List Int)) (W : V → List Int → Prop), vs = [.ref a] ∧ (SqL K H a xs ∨ SqT K H a xs) ∧ Paired (fun x ks => IsKA K H x ks ∧ W x ks) xs kss ∧
  ∀ p ys, H p = none → Paired W ys (sortK kss) → Q (.ref p) (upd H p (.lst ys))
section
variable {X : Cx}
/-- each item, its ints -/
theorem ka_items {pins : List (Addr × Obj)} {s : Shared} {σ : L2.St} {H : Hp} (I : Inv X pins σ H s) {W : V → List Int → Prop} : ∀ {ws : List V} {vs : List Value} {ks : List (List Int)}, Vals ws vs → Paired (fun x ks => IsKA X.K H x ks ∧ W x ks) ws ks →
    (∀ v, v ∈ vs → ∃ k, TS.TupInts s.heap v k) ∧ vs.map (TS.intsOf s.heap) = ks ∧ ∀ v, v ∈ vs → ∃ y, RelV y v ∧ W y (TS.intsOf s.heap v) := by
  intro ws vs ks rv hp
  induction rv generalizing ks with
  | nil => cases hp; exact ⟨fun v h => (nomatch h), rfl, fun v h => (nomatch h)⟩
  | @cons y v ws vs ry rt ih =>
    cases hp with
    | @cons _ k _ ks hk ht =>
      obtain ⟨i1, i2, i3⟩ := ih ht
      obtain ⟨⟨t, rfl, hT⟩, hW⟩ := hk
      cases ry
      obtain ⟨its2, r2, p2, _⟩ := I.tuple hT
      have ik : IntsAre its2 k := Vals.ints r2
      have tk : TS.TupInts s.heap (.ref t) k := ⟨t, its2.toArray, rfl, p2, by simpa using ik⟩
      refine ⟨fun v hv => ?_, by rw [List.map_cons, i2, tk.ints], fun v hv => ?_⟩
      · rcases List.mem_cons.mp hv with rfl | hv
        · exact ⟨k, tk⟩
        · exact i1 v hv
      · rcases List.mem_cons.mp hv with rfl | hv
        · exact ⟨.ref t, rfl, by rw [tk.ints]; exact hW⟩
        · exact i3 v hv
theorem back_ka {s : Shared} {W : V → List Int → Prop} {its : List Value} (t3 : ∀ v, v ∈ its → ∃ y, RelV y v ∧ W y (TS.intsOf s.heap v)) : ∀ {l : List Value}, (∀ v, v ∈ l → v ∈ its) → ∃ ys, Vals ys l ∧ Paired W ys (l.map (TS.intsOf s.heap)) := fun {l} => by
  induction l with
  | nil => exact fun _ => ⟨[], .nil, .nil⟩
  | cons v l ih =>
    intro hm
    obtain ⟨ys, y1, y2⟩ := ih fun u hu => hm u (List.mem_cons_of_mem _ hu)
    obtain ⟨y, z2, z3⟩ := t3 v (hm v List.mem_cons_self)
    exact ⟨y :: ys, .cons z2 y1, .cons z3 y2⟩
theorem c_sortTA (hu : X.A.units + 64 < cLine) : CallR X (.builtin "sorted") (rSortTA X.K) := by
  intro pins s σ H vs us Q I r h
  obtain ⟨a, xs, kss, W, rfl, hs, hx, q⟩ := h
  obtain ⟨its, T, o, n, rv, hT, ho, hc, hd, hz⟩ : ∃ (its : List Value) (T : String) (o : Obj) (n : Nat), Vals xs its ∧ (T = "list" ∨ T = "tuple") ∧ s.heap.get? a = some o ∧ o.cls = .type T ∧ o.data = .seq its.toArray n ∧ xs.length ≤ sizeLine := by
    rcases hs with hs | hs
    · obtain ⟨its, rv, hl, hz⟩ := I.list hs
      obtain ⟨o, h1, h2, n, h3⟩ := hl.isList
      exact ⟨its, _, o, n, rv, .inl rfl, h1, h2, h3, hz⟩
    · obtain ⟨its, rv, hl, hz⟩ := I.tuple hs
      obtain ⟨o, h1, h2, n, h3⟩ := hl
      exact ⟨its, _, o, n, rv, .inr rfl, h1, h2, h3, hz⟩
  obtain ⟨u, rfl, ru⟩ := vals1 r
  obtain rfl : u = Value.ref a := ru
  have hlen := rv.length
  obtain ⟨t1, t2, t3⟩ := ka_items I rv hx
  refine sorted_items (lt := fun v u => HT.lexLt (TS.intsOf s.heap v) (TS.intsOf s.heap u)) (swo_key _) hT ho hc hd (by omega) (fun h2 h₁ b hb kp => tups_sortable (A := X.A.in1.in1) t1 h2 (show X.A.units + 1 + 1 < cLine by omega) kp) fun out p g ep so sb pn kg pg => ?_
  obtain ⟨ys, y1, y2⟩ := back_ka t3 (l := out) fun v hv => sb.perm.mem_iff.mp hv
  have es : out.map (TS.intsOf s.heap) = sortK kss := by
    refine sortK_uniq ?_ ?_
    · rw [← t2]; exact sb.perm.map _
    · exact List.pairwise_map.mpr so
  rw [es] at y2
  have hlo : out.length = its.length := sb.perm.length_eq
  have Hp_ : H p = none := by
    cases q : H p with
    | none => rfl
    | some u =>
      obtain ⟨o', e'⟩ := ok_there (I.hok p u q)
      rw [pn] at e'; cases e'
  exact ⟨.ref p, upd H p (.lst ys), I.laidN (t' := s.toks) kg pn Hp_ ⟨by rw [y1.length]; omega, out, ep, y1, pg⟩, rfl, q p ys Hp_ y2⟩
/-- sorted(..) of a set of tuples of ints -/
def rSortSet (K : PySem.W.Frag) (P : Program) (w : World) : List V → Hp → VK → Prop := fun vs H Q => ∃ (a : Addr) (L : List (Addr × List Int)), vs = [V.ref a] ∧ H a = some (SetTO P w a L) ∧ (∀ p ∈ L, SqT K H p.1 (p.2.map V.int)) ∧
  ∀ (M : List (Addr × List Int)) (p : Addr), (∀ q ∈ M, q ∈ L) → (M.map (·.2)).Perm (L.map (·.2)) → (L.map (·.2)).Nodup → (M.map (·.2)).Pairwise (fun q r => HT.lexLt r q = false) → H p = none → Q (.ref p) (upd H p (.lst (M.map fun q => V.ref q.1)))
theorem refs_in {L : List (Addr × List Int)} : ∀ {vs : List Value}, (∀ v ∈ vs, v ∈ L.map fun q => Value.ref q.1) → ∃ M : List (Addr × List Int), vs = M.map (fun q => Value.ref q.1) ∧ ∀ q ∈ M, q ∈ L
  | [], _ => ⟨[], rfl, by simp⟩
  | v :: vs, h => by
    obtain ⟨M, e, h2⟩ := refs_in (vs := vs) fun u m => h u (List.mem_cons_of_mem _ m)
    obtain ⟨q, hq, eq⟩ := List.mem_map.mp (h v List.mem_cons_self)
    refine ⟨q :: M, by rw [List.map_cons, ← e, eq], fun r hr => ?_⟩
    rcases List.mem_cons.mp hr with rfl | hr
    · exact hq
    · exact h2 r hr
theorem c_sortSet (hc : X.calm = true) (hu : X.A.units + 64 < cLine) : CallR X (.builtin "sorted") (rSortSet X.K X.prog X.w) := by
  intro pins s σ H vs us Q I r h
  obtain ⟨a, L, rfl, ha, hk, q⟩ := h
  obtain ⟨es, ep, t, R⟩ := ((I.hok a _ ha).1 : SetT0 X.prog X.w s.heap a L).full fun p hp => I.isT (hk p hp)
  rw [Vals.ref1 r]
  obtain ⟨o, ho, hex, hd⟩ := R.ob
  have few := R.few
  have sz := R.size
  apply Calls.call_function_entry kind_sorted plain_sorted entry_sorted (args_sorted1 _)
  unfold Builtin.«sorted»
  refine wpAny_bind (m := checkCount "sorted" 1 1 _) (wpAny_pure ?_)
  refine wpAny_bind (collect_set (A := X.A.in1) (I.ok.hd hc) ⟨o, ho, hex.1, hd⟩ R.fits (by unfold scanBound; omega) R.tab.ris R.led fun s1 out0 k1 z1 g1 o1 pm => ?_)
  have er : es.toList.map (·.2) = L.map fun q => Value.ref q.1 := by
    rw [R.rows]
    unfold L2.rowsOf
    rw [List.map_map]
    rfl
  rw [er] at pm
  have hl0 : out0.length = L.length := by rw [pm.length_eq, List.length_map]
  have hline : out0.length ≤ sizeLine := by rw [sizeLine_eq]; omega
  have ti : ∀ p ∈ L, TS.TupInts s1.heap (.ref p.1) p.2 := fun p hp => tupInts_of (P := X.prog) (w := X.w) (isT_keep (R.tup p hp) fun b u e => k1 b u e)
  have t1 : ∀ v ∈ out0, ∃ ks, TS.TupInts s1.heap v ks := fun v hv => by
    obtain ⟨p, hp, rfl⟩ := List.mem_map.mp (pm.mem_iff.mp hv)
    exact ⟨p.2, ti p hp⟩
  refine wpAny_bind (wpAny_newList ?_ hline)
  have at_ : (s1.heap.push (seqObj "list" out0.toArray 0)).get? s1.heap.objs.size = some (seqObj "list" out0.toArray 0) := Heap.get?_push_size _ rfl
  have kp : ∀ b u, s1.heap.get? b = some u → b ≠ s1.heap.objs.size ∧ (s1.heap.push (seqObj "list" out0.toArray 0)).get? b = some u := fun b u e => ⟨Nat.ne_of_lt (Heap.lt_size e), Heap.get?_push_of_some _ e⟩
  refine wpAny_bind (wpAny_holding (wpAny_call_entry slot_list_sort ⟨_, at_, rfl⟩ entry_list_sort (SrtO.list_sort_ord (swo_key (TS.intsOf s1.heap)) at_ hline (fun h2 => tups_sortable (A := X.A.in1.in1) t1 h2 (show X.A.units + 1 + 1 < cLine by omega) kp) fun out so sb => ⟨_, rfl, ?_⟩) (args_list_sort _)))
  obtain ⟨e, he⟩ := sortedHeap_at (out := out.toArray) at_
  obtain ⟨M, eM, hM⟩ := refs_in (L := L) (vs := out) fun v hv => pm.mem_iff.mp (sb.perm.mem_iff.mp hv)
  have keys : out.map (TS.intsOf s1.heap) = M.map (·.2) := by
    rw [eM, List.map_map]
    exact List.map_congr_left fun p hp => (ti p (hM p hp)).ints
  have keysL : (L.map fun q => Value.ref q.1).map (TS.intsOf s1.heap) = L.map (·.2) := by
    rw [List.map_map]
    exact List.map_congr_left fun p hp => (ti p hp).ints
  have old : ∀ b u, s.heap.get? b = some u → (sortedHeap (s1.heap.push (seqObj "list" out0.toArray 0)) s1.heap.objs.size out0 out.toArray).get? b = some u := fun b u e => by
    have q1 := k1 b u e
    rw [sortedHeap_old (kp b u q1).1 (Heap.lt_size (kp b u q1).2)]
    exact (kp b u q1).2
  have hn : H s1.heap.objs.size = none := I.hok.fresh z1
  have hlen : (M.map fun q => V.ref q.1).length ≤ sizeLine := by
    have : M.length = out.length := by rw [eM, List.length_map]
    rw [List.length_map, this, sb.perm.length_eq]; exact hline
  have hv : Vals (M.map fun q => V.ref q.1) out := by rw [eM]; exact vals_of_refs M
  refine wpAny_pure ⟨_, rfl, .ref s1.heap.objs.size, upd H s1.heap.objs.size (.lst (M.map fun q => V.ref q.1)), ?_, rfl, q M _ hM ?_ R.nd ?_ hn⟩
  · have hok : HOk X.prog X.w (upd H s1.heap.objs.size (.lst (M.map fun q => V.ref q.1))) (sortedHeap (s1.heap.push (seqObj "list" out0.toArray 0)) s1.heap.objs.size out0 out.toArray) := I.hok.laid old z1 ⟨hlen, out, e, hv, he⟩
    have bare : AllBare s1.gens := by rw [g1]; exact I.bare
    exact I.call' (ch := []) o1 (Un.laid old z1 hn) hok bare (fun _ z => nomatch z)
  · rw [← keys, ← keysL]
    exact (sb.perm.trans pm).map _
  · rw [← keys]
    exact List.pairwise_map.mpr so
end
end Dv

/-! Dv: sorted(set(..)), count and index over data. -/
namespace Dv
open PySem PySem.Spec PyProof.Rows L2
def dedup : List (List Int) → List (List Int)
  | [] => []
  | x :: xs => if x ∈ xs then dedup xs else x :: dedup xs
theorem mem_dedup : ∀ {l : List (List Int)} {x : List Int}, x ∈ dedup l ↔ x ∈ l
  | [], x => by simp [dedup]
  | y :: l, x => by
    unfold dedup
    by_cases h : y ∈ l
    · rw [if_pos h, mem_dedup, List.mem_cons]
      exact ⟨.inr, fun z => z.elim (fun e => e ▸ h) id⟩
    · rw [if_neg h, List.mem_cons, List.mem_cons, mem_dedup]
theorem nodup_dedup : ∀ l : List (List Int), (dedup l).Nodup
  | [] => List.nodup_nil
  | y :: l => by
    unfold dedup
    by_cases h : y ∈ l
    · rw [if_pos h]; exact nodup_dedup l
    · rw [if_neg h]; exact List.nodup_cons.mpr ⟨fun z => h (mem_dedup.mp z), nodup_dedup l⟩
theorem dedup_len : ∀ l : List (List Int), (dedup l).length ≤ l.length
  | [] => Nat.le_refl _
  | y :: l => by
    unfold dedup
    have := dedup_len l
    split
    · rw [List.length_cons]; omega
    · rw [List.length_cons, List.length_cons]; omega
/-- rows of ints, some may be empty -/
def rowsA : List PyData → Option (List (List Int))
  | [] => some []
  | .tuple xs :: r => match intsOf xs with
    | some ns => match rowsA r with
      | some kss => some (ns :: kss)
      | none => none
    | none => none
  | _ => none
theorem rowsA_map : ∀ kss : List (List Int), rowsA (kss.map fun ks => .tuple (ks.map .int)) = some kss
  | [] => rfl
  | k :: kss => by
    rw [List.map_cons]
    unfold rowsA
    rw [intsOf_map, rowsA_map kss]
def gSSet : PyData → Option PyData := fun x => match x with
  | .list ds => match rowsA ds with
    | some kss => if kss.length < 64 then some (.list ((sortK (dedup kss)).map fun ks => .tuple (ks.map .int))) else none
    | none => none
  | _ => none
theorem keyed {K : PySem.W.Frag} {H : Hp} : ∀ {vs : List V} {ds : List PyData} {kss : List (List Int)}, RpA K H vs ds → rowsA ds = some kss → ∃ ks : List (Addr × List Int), vs = ks.map (fun p => V.ref p.1) ∧ kss = ks.map (·.2) ∧ ∀ p ∈ ks, SqT K H p.1 (p.2.map V.int)
  | _, [], _, .nil, e => by cases e; exact ⟨[], rfl, rfl, by simp⟩
  | _, .tuple xs :: r, kss, .cons h t, e => by
    unfold rowsA at e
    split at e
    · rename_i ns e1
      split at e
      · rename_i ks0 e2
        cases e
        obtain ⟨ks, rfl, rfl, h3⟩ := keyed t e2
        have z := intsOf_some e1
        subst z
        cases h with
        | tup h1 r1 =>
          rename_i a us
          have v := r1.ints
          subst v
          refine ⟨(a, ns) :: ks, rfl, rfl, fun p hp => ?_⟩
          rcases List.mem_cons.mp hp with rfl | hp
          · exact h1
          · exact h3 p hp
      · cases e
    · cases e
  | _, .none :: r, _, _, e => by simp [rowsA] at e
  | _, .bool _ :: r, _, _, e => by simp [rowsA] at e
  | _, .int _ :: r, _, _, e => by simp [rowsA] at e
  | _, .str _ :: r, _, _, e => by simp [rowsA] at e
  | _, .list _ :: r, _, _, e => by simp [rowsA] at e
  | _, .dict _ :: r, _, _, e => by simp [rowsA] at e
theorem rp_keyed {K : PySem.W.Frag} {H : Hp} : ∀ {M : List (Addr × List Int)}, (∀ p ∈ M, SqT K H p.1 (p.2.map V.int)) → RpA K H (M.map fun p => V.ref p.1) ((M.map (·.2)).map fun ks => .tuple (ks.map .int))
  | [], _ => .nil
  | p :: M, h => .cons (.tup (h p List.mem_cons_self) (.of_ints p.2)) (rp_keyed fun q m => h q (List.mem_cons_of_mem _ m))
section
variable {K : PySem.W.Frag} {P : Program} {w : World}
theorem sem_sset {te : TE} {fe : D1} (he : SemE K te fe) : SemE K (tCB (rSortSet K P w) (tCons (tCB (rSetOfT K P w) (tCons te tNil)) tNil)) (f1 gSSet fe) := by
  intro G L ρ σ H Q d ρ' R e q
  unfold f1 at e
  split at e
  · cases e
  rename_i x ρ1 e1
  split at e
  · cases e
  rename_i z e2
  cases e
  unfold gSSet at e2
  split at e2
  · rename_i ds
    split at e2
    · rename_i kss e3
      split at e2
      · rename_i hl
        cases e2
        refine he G L ρ σ H _ _ ρ' R e1 fun v H1 L1 s1 R1 w1 r1 => ?_
        cases r1 with
        | lst h1 r1 =>
          rename_i a us
          obtain ⟨ks, rfl, rfl, hk⟩ := keyed r1 e3
          refine ⟨a, ks, rfl, .of (hd_le _ _ h1), fun p hp => hd_le.t (hk p hp), by simpa using hl, fun s S hs hS1 hS2 => ?_⟩
          have le1 : Le H1 (upd H1 s (SetTO P w s S)) := Le.new hs
          refine ⟨s, S, rfl, upd_same, fun p hp => le1.t (hd_le.t (hk p (hS1 p hp))), fun M p hM pm nd srt hp => ?_⟩
          have le2 := Le.new (o := .lst (M.map fun q => V.ref q.1)) hp
          have le : Le H1 (upd (upd H1 s (SetTO P w s S)) p (.lst (M.map fun q => V.ref q.1))) := le1.trans le2
          have keys : M.map (·.2) = sortK (dedup (ks.map (·.2))) := by
            refine sortK_uniq (pm.trans ?_) srt
            refine (List.perm_ext_iff_of_nodup nd (nodup_dedup _)).mpr fun k => ?_
            rw [mem_dedup]
            constructor
            · intro hk
              obtain ⟨p, hp, rfl⟩ := List.mem_map.mp hk
              exact List.mem_map.mpr ⟨p, hS1 p hp, rfl⟩
            · intro hk
              obtain ⟨p, hp, rfl⟩ := List.mem_map.mp hk
              exact hS2 p hp
          have R2 := (R1.mono le1)
          rw [← keys] at q
          exact q _ _ L1 s1 (R1.mono le) (w1.trans (le.ew (L := L1)) s1) (.lst (R2.alloc.new hp) (rp_keyed fun p hp => (hd_mono le).t (hk p (hS1 p (hM p hp)))))
      · cases e2
    · cases e2
  · cases e2
end
theorem e_sset {K : PySem.W.Frag} {X : Cx} {e : Expr} {te : TE} {fe : D1} {p p2 pos2 pos : Pos} (hc : X.calm = true) (hu : X.A.units + 65 < cLine) (hg : Gl X "sorted") (hm : X.mg "sorted" = none) (hg2 : Gl X "set") (hm2 : X.mg "set" = none) (he : SE K X e te fe)
    (h1 : starEach [e] X.env = (false, eval e X.env) :: starEach [] X.env := by rfl) (h2 : starEach [.Call (.Name "set" p2) [e] [] pos2] X.env = (false, eval (.Call (.Name "set" p2) [e] [] pos2) X.env) :: starEach [] X.env := by rfl) (q1 : (backTo pos2 (starEach [] X.env)).any (·.1) = false := by rfl) (q2 : (backTo pos (starEach [] X.env)).any (·.1) = false := by rfl) (hK : X.K = K := by rfl) :
    SE K X (.Call (.Name "sorted" p) [.Call (.Name "set" p2) [e] [] pos2] [] pos) (tCB (rSortSet K X.prog X.w) (tCons (tCB (rSetOfT K X.prog X.w) (tCons te tNil)) tNil)) (f1 gSSet fe) := by
  subst hK
  exact ⟨pe_callB (c_sortSet hc (by omega)) hg hm (by rfl) (pa_cons (pe_callTy (cr_setOfT hc (by omega)) hg2 hm2 (by rfl) (pa_cons he.pe pa_nil h1) (by decide) (by decide) h1 q1) pa_nil h2) (by decide) (by decide) h2 q2, sem_sset he.sem⟩
/-! ### xs.count(d), xs.index(d), d data -/
def gCntD : G2 := fun x y => match x with
  | .list ds => if SeqAt.shaped (.list ds) && SeqAt.shaped y then some (.int (((ds.countP fun z => PyData.eqv z y) : Nat) : Int)) else none
  | _ => none
def gIndex : G2 := fun x y => match x with
  | .list ds => if SeqAt.shaped (.list ds) && SeqAt.shaped y then (match ds.findIdx? fun z => PyData.eqv z y with
    | some j => some (.int ((j : Nat) : Int))
    | none => none) else none
  | _ => none
def rCntD (K : PySem.W.Frag) : V → List V → Hp → VK → Prop := fun x xs H Q => ∃ (a : Addr) (y : V) (d : PyData) (ds : List PyData), x = V.ref a ∧ xs = [y] ∧ Dp K H (V.ref a) (.list ds) ∧ Dp K H y d ∧ SeqAt.shaped (.list ds) = true ∧ SeqAt.shaped d = true ∧ Q (.int (((ds.countP fun z => PyData.eqv z d) : Nat) : Int)) H
section
variable {X : Cx}
theorem mt_cntD (hu : X.A.units + 65 < cLine) : MtR X "list.count" (rCntD X.K) := by
  intro pins s σ H x xs v us Q I rx rxs h
  obtain ⟨a, y, d, ds, rfl, rfl, hl, hy, sl, sd, q⟩ := h
  cases rx
  obtain ⟨u, rfl, ru⟩ := rxs.one
  obtain ⟨bs, rd⟩ := Dp.reads I d y u hy ru
  have lay := SeqAt.canLay_of_shaped sl
  have room : X.A.units + 1 + min (PyData.depthAll ds) d.depth < cLine := room_in_shaped sd hu
  cases hl with
  | lst hs ha =>
    obtain ⟨its, rv, ⟨⟨cls, dd, data, slots⟩, n, ho, hc, _, hdt⟩, _⟩ := I.list hs
    simp only at hc hdt
    subst hc hdt
    obtain ⟨as, ra⟩ := Dp.readsAll I ds _ its ha rv
    have em : its.map (SeqAt.readOf s.heap) = ds := SeqAt.readsAll_map ds its as lay ra
    have ec : its.toArray.toList.countP (fun z => PyData.eqv (SeqAt.readOf s.heap z) d) = ds.countP fun z => PyData.eqv z d := by
      rw [← em, List.countP_map]
      rfl
    refine call_meets PySem.F.slot_list_count ⟨_, ho, rfl⟩ PySem.F.entry_list_count (PySem.F.args_list_count_2 _ _)
      (SeqAt.list_countAt a its.toArray n dd slots u fun z => PyData.eqv (SeqAt.readOf s.heap z) d) ⟨ho, SeqAt.items_eqAt (vs := its.toArray) (by simpa using ra) rd lay (SeqAt.canLay_of_shaped sd) room, ?_⟩
    refine ⟨.int _, H, I.tok _, ⟨s.toks, ?_⟩, q⟩
    rw [ec]
end
section
variable {K : PySem.W.Frag}
/-- a method of a list with one argument, by what is read -/
theorem sem_mt1 {r : V → List V → Hp → VK → Prop} {g : G2} {to te : TE} {fo fe : D1} (hg : ∀ {x y z : PyData}, g x y = some z → ∃ ds, x = .list ds) (hr : ∀ (N : Addr → Prop) (L : List (Option Addr)) (H : Hp) (a : Addr) (us : List V) (ds : List PyData) (v : V) (y z : PyData) (Q : VK), Alloc N L H → hd N L H a = some (.lst us) → RpA K (hd N L H) us ds → Rp K (hd N L H) v y → g (.list ds) y = some z → (∀ v H', Le H H' → Rp K (hd N L H') v z → Q v H') → r (.ref a) [v] H Q)
    (ho : SemE K to fo) (he : SemE K te fe) : SemE K (tBM K "list" r to (tCons te tNil)) (f2 g fo fe) := by
  intro G L ρ σ H Q d ρ' R e q
  obtain ⟨x, ρ1, y, e1, e2, e3⟩ := f2_some e
  obtain ⟨ds, rfl⟩ := hg e3
  refine ho G L ρ σ H _ _ ρ1 R e1 fun v H1 L1 s1 R1 w1 r1 => ?_
  cases r1 with
  | lst h1 r1 =>
    rename_i a us
    refine ⟨.inl ⟨rfl, _, .of (hd_le _ _ h1)⟩, ?_⟩
    refine he G L1 ρ1 σ H1 _ _ ρ' R1 e2 fun v2 H2 L2' s2 R2 w2 r2 => ?_
    refine hr G.N L2' H2 a us ds v2 y d Q R2.alloc (w2.hd s2 _ _ h1) (r1.mono (w2.hd s2)) r2 e3 fun v H' le rv => ?_
    exact q v H' L2' (s2.trans s1) (R2.mono le) ((w1.trans w2 s1).trans (le.ew (L := L2')) (s2.trans s1)) rv
theorem lay_of {d : PyData} (h : SeqAt.shaped d = true) : d.canLay0 = true := SeqAt.canLay_of_shaped h
theorem sem_cntD {to te : TE} {fo fe : D1} (ho : SemE K to fo) (he : SemE K te fe) : SemE K (tBM K "list" (rCntD K) to (tCons te tNil)) (f2 gCntD fo fe) := by
  refine sem_mt1 (fun {x y z} h => ?_) (fun N L H a us ds v y z Q A h1 r1 r2 e q => ?_) ho he
  · unfold gCntD at h
    split at h
    · exact ⟨_, rfl⟩
    · cases h
  · simp only [gCntD] at e
    split at e
    · rename_i hs
      cases e
      rw [Bool.and_eq_true] at hs
      exact ⟨a, v, y, ds, rfl, rfl, (Rp.lst h1 r1 : Rp K (hd N L H) (.ref a) (.list ds)).mono hd_le |>.dp (lay_of hs.1), (r2.mono hd_le).dp (lay_of hs.2), hs.1, hs.2, q _ H (.refl H) (.int _)⟩
    · cases e
theorem sem_index {to te : TE} {fo fe : D1} (ho : SemE K to fo) (he : SemE K te fe) : SemE K (tBM K "list" (rIndexD K) to (tCons te tNil)) (f2 gIndex fo fe) := by
  refine sem_mt1 (fun {x y z} h => ?_) (fun N L H a us ds v y z Q A h1 r1 r2 e q => ?_) ho he
  · unfold gIndex at h
    split at h
    · exact ⟨_, rfl⟩
    · cases h
  · simp only [gIndex] at e
    split at e
    · rename_i hs
      split at e
      · rename_i j hj
        cases e
        rw [Bool.and_eq_true] at hs
        obtain ⟨j1, j2, j3⟩ := List.findIdx?_eq_some_iff_getElem.mp hj
        refine ⟨a, v, y, ds, j, ds[j], rfl, rfl, (Rp.lst h1 r1 : Rp K (hd N L H) (.ref a) (.list ds)).mono hd_le |>.dp (lay_of hs.1), (r2.mono hd_le).dp (lay_of hs.2), hs.1, hs.2, List.getElem?_eq_getElem j1, j2, fun m z' hm hz => ?_, q _ H (.refl H) (.int _)⟩
        obtain ⟨m1, rfl⟩ := List.getElem?_eq_some_iff.mp hz
        have := j3 m hm
        simpa using this
      · cases e
    · cases e
end
section
variable {K : PySem.W.Frag} {X : Cx} {o e : Expr} {to te : TE} {fo fe : D1} {apos cpos : Pos}
theorem e_cntD (hu : X.A.units + 65 < cLine) (ho : SE K X o to fo) (he : SE K X e te fe)
    (hbase : attributeBase o "count" X.env (eval o X.env) = eval o X.env := by rfl)
    (hfew : ((backTo cpos (starEach [e] X.env)).all (fun x => !x.1) && (backToKw cpos (keywordEach [] X.env)).all (fun x => x.1.isSome) && decide ([e].length + ([] : List Keyword).length + (if ([] : List Keyword).isEmpty then 0 else 1) < 30)) = true := by rfl)
    (hline : (apos.endLine == cpos.line) = true := by rfl) (h1 : starEach [e] X.env = (false, eval e X.env) :: starEach [] X.env := by rfl) (hplain : (backTo cpos (starEach [] X.env)).any (·.1) = false := by rfl) (hK : X.K = K := by rfl) :
    SE K X (.Call (.Attribute o "count" apos) [e] [] cpos) (tBM K "list" (rCntD K) to (tCons te tNil)) (f2 gCntD fo fe) := by
  subst hK
  exact ⟨pe_bm PySem.F.plainAttrs_list PySem.F.slot_list_count PySem.F.type_list_count (mt_cntD hu) ho.pe (pa_cons he.pe pa_nil h1) hbase hfew hline h1 hplain, sem_cntD ho.sem he.sem⟩
theorem e_index (hu : X.A.units + 65 < cLine) (ho : SE K X o to fo) (he : SE K X e te fe)
    (hbase : attributeBase o "index" X.env (eval o X.env) = eval o X.env := by rfl)
    (hfew : ((backTo cpos (starEach [e] X.env)).all (fun x => !x.1) && (backToKw cpos (keywordEach [] X.env)).all (fun x => x.1.isSome) && decide ([e].length + ([] : List Keyword).length + (if ([] : List Keyword).isEmpty then 0 else 1) < 30)) = true := by rfl)
    (hline : (apos.endLine == cpos.line) = true := by rfl) (h1 : starEach [e] X.env = (false, eval e X.env) :: starEach [] X.env := by rfl) (hplain : (backTo cpos (starEach [] X.env)).any (·.1) = false := by rfl) (hK : X.K = K := by rfl) :
    SE K X (.Call (.Attribute o "index" apos) [e] [] cpos) (tBM K "list" (rIndexD K) to (tCons te tNil)) (f2 gIndex fo fe) := by
  subst hK
  exact ⟨pe_bm PySem.F.plainAttrs_list PySem.F.slot_list_index PySem.F.type_list_index (mt_indexD hu) ho.pe (pa_cons he.pe pa_nil h1) hbase hfew hline h1 hplain, sem_index ho.sem he.sem⟩
end
end Dv

/-! Dv: a, b, c = e, [..], [..]; targets ((a, b), c). -/
namespace Dv
open PySem PySem.Spec PyProof.Rows L2
def tPar3 (i j k : Nat) (ta : TA) : TS := fun D σ H => ta σ H fun vs H1 => ∃ u v w, vs = [u, v, w] ∧ D.nx (((σ.set i (some u)).set j (some v)).set k (some w)) H1
/-- three names, stored from the left by way of the tuple -/
structure Par3 (X : Cx) (x y z : Str) (px py pz pt : Pos) (kt : Nat) : Prop where
  w1 : (assignEach [.Tuple [.Name x px, .Name y py, .Name z pz] kt pt] X.env).map (·.2) = [assign (.Tuple [.Name x px, .Name y py, .Name z pz] kt pt) X.env]
  w2 : (assignEach [.Name x px, .Name y py, .Name z pz] X.env).length = 3
  w3 : (assignEach [.Name x px, .Name y py, .Name z pz] X.env).findIdx? (·.1) = none
  g1 : (assignEach (.Name x px :: [.Name y py, .Name z pz]) X.env).map (·.2) = assign (.Name x px) X.env :: (assignEach [.Name y py, .Name z pz] X.env).map (·.2)
  g2 : (assignEach (.Name y py :: [.Name z pz]) X.env).map (·.2) = assign (.Name y py) X.env :: (assignEach [.Name z pz] X.env).map (·.2)
  g3 : (assignEach (.Name z pz :: []) X.env).map (·.2) = assign (.Name z pz) X.env :: (assignEach [] X.env).map (·.2)
section
variable {X : Cx} {i j k : Nat} {x y z : Str} {a b c : Expr} {ta : TA} {px py pz pt pos : Pos} {kt : Nat} {k2 pt2}
theorem ps_par3C (hc : X.calm = true) (hN : X.N.Nodup) (hi : X.N[i]? = some x) (hj : X.N[j]? = some y) (hk : X.N[k]? = some z) (hx : Loc X.env.scope x) (hy : Loc X.env.scope y) (hz : Loc X.env.scope z) (ha : PA X [a, b, c] ta)
    (fx : X.fn x = true ∨ X.env.scope.names.lookup x = some .local) (fy : X.fn y = true ∨ X.env.scope.names.lookup y = some .local) (fz : X.fn z = true ∨ X.env.scope.names.lookup z = some .local)
    (hw : swappedStores [.Tuple [.Name x px, .Name y py, .Name z pz] kt pt] (.Tuple [a, b, c] k2 pt2) X.env = pure none) (hs : swapsWithSole [.Tuple [.Name x px, .Name y py, .Name z pz] kt pt] (.Tuple [a, b, c] k2 pt2) pos.line X.env = pure false)
    (W : Par3 X x y z px py pz pt kt) : PS X (.Assign [.Tuple [.Name x px, .Name y py, .Name z pz] kt pt] (.Tuple [a, b, c] k2 pt2) pos) (tPar3 i j k ta) := by
  refine ⟨fun pins s σ H D I h => wpAny_Assign_stores (Tuple_ (thn (ha.run _ pins s σ H _ I h) fun us s1 ⟨vs, H1, I1, r1, q1⟩ => ?_)) hs hw⟩
  obtain ⟨u, v, w, rfl, q1⟩ := q1
  obtain ⟨u1, u2, u3, rfl⟩ : ∃ u1 u2 u3, us = [u1, u2, u3] := by
    cases r1 with
    | cons _ q =>
      cases q with
      | cons _ q =>
        cases q with
        | cons _ q => cases q; exact ⟨_, _, _, rfl⟩
  have J : Inv X pins σ H1 { s1 with heap := s1.heap.push { cls := .type "tuple", data := .seq [u1, u2, u3].toArray } } := I1.kept (t' := s1.toks) fun m o e => Heap.get?_push_of_some _ e
  have T : PGs X [.Name x px, .Name y py, .Name z pz] (gCons (gName i) (gCons (gName j) (gCons (gName k) gNil))) := pgs_cons (pg_name hN hi hx fx) (pgs_cons (pg_name hN hj hy fy) (pgs_cons (pg_name hN hk hz fz) pgs_nil W.g3) W.g2) W.g1
  refine wpAny_newObj_type ?_ (show 3 ≤ sizeLine by decide)
  rw [W.w1]
  refine assign_Tuple_tuple (items := #[u1, u2, u3]) (I.ok.hd hc) (IsTup.new s1.heap _) (by rw [W.w2]; rfl) W.w3 fun h' keep => ?_
  have J2 := J.kept (h' := h') (t' := s1.toks) fun m o e => keep m o (Nat.ne_of_lt (Heap.lt_size e)) e
  refine thn (T.run pins _ σ H1 [u, v, w] _ (fun σ' H' => σ' = ((σ.set i (some u)).set j (some v)).set k (some w) ∧ H' = H1) J2 r1 ⟨u, [v, w], rfl, v, [w], rfl, w, [], rfl, rfl, rfl, rfl⟩) fun _ s2 z => ?_
  obtain ⟨_, _, J3, rfl, rfl⟩ := z
  exact ⟨_, _, J3, q1⟩
end
def sPar3 (i j k : Nat) (fa : D1) (fb fc : A1) : S1 := fun ρ => match fa ρ with
  | some (x, ρ1) => match fb ρ1 with
    | some (ds, ρ2) => match fc ρ2 with
      | some (es, ρ3) => some (.nx, ((ρ3.set i (some (.pl x))).set j (some (.ow ds))).set k (some (.ow es)))
      | none => none
    | none => none
  | none => none
section
variable {K : PySem.W.Frag}
theorem sem_par3 (i j k : Nat) (hjk : j ≠ k) {ta tb tc : TE} {fa : D1} {fb fc : A1} (h : SemE K ta fa) (hb : SemF K tb fb) (hc : SemF K tc fc) : SemS K (tPar3 i j k (tCons ta (tCons tb (tCons tc tNil)))) (sPar3 i j k fa fb fc) := by
  intro G L ρ σ H D fl ρ' R e q
  unfold sPar3 at e
  split at e
  · rename_i x ρ1 e1
    split at e
    · rename_i ds ρ2 e2
      split at e
      · rename_i es ρ3 e3
        cases e
        refine h G L ρ σ H _ _ ρ1 R e1 fun v H1 L1 s1 R1 w1 r1 => ?_
        refine hb G L1 ρ1 σ H1 _ _ ρ2 R1 e2 fun p vs H2 L2' s2 hp h2 R2 w2 r2 => ?_
        have fp := R1.fresh hp
        have np2 : some p ∉ L2' := fun m => fp.2.1 (s2.mem m)
        refine hc (G.hide p) L2' ρ2 σ H2 _ _ ρ3 R2 e3 fun o us H3 L3 s3 ho h3 R3 w3 r3 => ?_
        have fo := R2.fresh ho
        have no3 : some o ∉ L3 := fun m => fo.2.1 (s3.mem m)
        have np3 : some p ∉ L3 := fun m => np2 (s3.mem m)
        have hp3 : H3 p = some (.lst vs) := w3.1 p _ np2 h2
        have hop : o ≠ p := fun e => by rw [e, h2] at ho; cases ho
        have si := LS.set L3 i
        have mo : ∀ {N : Addr → Prop} {Ha Hb : Hp} {La Lb : List (Option Addr)}, Le (hd N La Ha) (hd N La Ha) := fun b o h => h
        -- what the first one is, with both lists hidden
        have m1 : Le (hd G.N L1 H1) (hd ((G.hide p).hide o).N (L3.set i none) H3) := fun b u z => by
          obtain ⟨z1, z2, z3⟩ := hd_some.mp z
          have z4 : H2 b = some u := w2.1 b u z2 z3
          have z5 : H3 b = some u := w3.1 b u (fun m => z2 (s2.mem m)) z4
          refine hd_some.mpr ⟨fun y => ?_, fun y => z2 (s2.mem (s3.mem (si.mem y))), z5⟩
          rcases y with (y | y) | y
          · exact z1 y
          · rw [y, hp] at z3; cases z3
          · rw [y, ho] at z4; cases z4
        have A := R3.setPl i (r1.mono m1)
        have r3' : RpA K (hd ((G.hide p).hide o).N (L3.set i none) H3) us es := r3.mono ((Ew.refl L3 H3).hd si)
        have B := A.setOw k h3 (fun m => no3 (si.mem m)) (show (G.hide p).H0 o = none from fo.2.2) fo.1 r3' (fun b hb => .inl (R.bd b hb))
        have r2' : RpA K (hd (G.hide p).N ((L3.set i none).set k (some o)) H3) vs ds := r2.mono fun b u z => by
          obtain ⟨z1, z2, z3⟩ := hd_some.mp z
          refine hd_some.mpr ⟨z1, fun y => ?_, w3.1 b u z2 z3⟩
          rcases mem_set_some y with y | y
          · exact z2 (s3.mem (si.mem y))
          · rw [y, ho] at z3; cases z3
        have np4 : some p ∉ (L3.set i none).set k (some o) := fun m => by
          rcases mem_set_some m with m | m
          · exact np3 (si.mem m)
          · exact hop m.symm
        have C := B.setOw j hp3 np4 fp.2.2 fp.1 r2' R.bd
        rw [List.set_comm (l := L3.set i none) _ _ (Ne.symm hjk), List.set_comm (l := List.set ρ3 i (some (.pl x))) _ _ (Ne.symm hjk), List.set_comm (l := List.set σ i (some v)) _ _ (Ne.symm hjk)] at C
        refine ⟨_, _, _, rfl, q _ _ H3 C ⟨(w1.trans w2 s1).trans w3 (s2.trans s1), fun b mm => ?_⟩⟩
        have back : ∀ {u : Addr}, H1 u = none → H u = none := fun {u} hu => by
          cases hH : H u with
          | none => rfl
          | some o' => obtain ⟨o2, e2⟩ := w1.2 u o' hH; rw [hu] at e2; cases e2
        have back2 : ∀ {u : Addr}, H2 u = none → H1 u = none := fun {u} hu => by
          cases hH : H1 u with
          | none => rfl
          | some o' => obtain ⟨o2, e2⟩ := w2.2 u o' hH; rw [hu] at e2; cases e2
        rcases mem_set_some mm with z | z
        · rcases mem_set_some z with z | z
          · exact .inl (s1.mem (s2.mem (s3.mem (si.mem z))))
          · rw [z]; exact .inr (back hp)
        · rw [z]; exact .inr (back (back2 ho))
      · cases e
    · cases e
  · cases e
theorem gin_p21 {i j k n m : Nat} {vs : List Nat} (hi : i ∈ vs) (hj : j ∈ vs) (hk : k ∈ vs) : GIn (gTup K n (gCons (gTup K m (gCons (gName i) (gCons (gName j) gNil))) (gCons (gName k) gNil))) vs := fun v σ H Q q => by
  obtain ⟨a, xs, e1, e2, e3, x, r, e4, a2, xs2, f1, f2, f3, y, r2, f4, z, r3, f5, f6, t, r4, e7, e8, q⟩ := q
  have e : wipe (((σ.set i (some y)).set j (some z)).set k (some t)) vs = wipe σ vs := by rw [wipe_set hk, wipe_set hj, wipe_set hi]
  exact ⟨a, xs, e1, e2, e3, x, r, e4, a2, xs2, f1, f2, f3, y, r2, f4, z, r3, f5, f6, t, r4, e7, e8, e, q e⟩
end
section
variable {K : PySem.W.Frag} {X : Cx} {pos : Pos} {a b c : Expr} {ta tb tc : TE} {fa : D1}
theorem s_par3C {x y z : Str} {px py pz pt : Pos} {kt : Nat} {k2 pt2} {fB fC : A1} (i j k : Nat) (hc : X.calm = true) (hN : X.N.Nodup) (ha : SE K X a ta fa) (hb : SF K X b tb fB) (hd : SF K X c tc fC) (hjk : j ≠ k := by decide) (hi : X.N[i]? = some x := by rfl) (hj : X.N[j]? = some y := by rfl) (hk : X.N[k]? = some z := by rfl)
    (hx : Loc X.env.scope x := by first | exact .inl rfl | exact .inr rfl) (hy : Loc X.env.scope y := by first | exact .inl rfl | exact .inr rfl) (hz : Loc X.env.scope z := by first | exact .inl rfl | exact .inr rfl) (fx : X.fn x = true ∨ X.env.scope.names.lookup x = some .local := by first | exact .inl rfl | exact .inr rfl) (fy : X.fn y = true ∨ X.env.scope.names.lookup y = some .local := by first | exact .inl rfl | exact .inr rfl) (fz : X.fn z = true ∨ X.env.scope.names.lookup z = some .local := by first | exact .inl rfl | exact .inr rfl)
    (hw : swappedStores [.Tuple [.Name x px, .Name y py, .Name z pz] kt pt] (.Tuple [a, b, c] k2 pt2) X.env = pure none := by rfl) (hs : swapsWithSole [.Tuple [.Name x px, .Name y py, .Name z pz] kt pt] (.Tuple [a, b, c] k2 pt2) pos.line X.env = pure false := by rfl)
    (W : Par3 X x y z px py pz pt kt := by exact ⟨rfl, rfl, rfl, rfl, rfl, rfl⟩)
    (h1 : starEach [a, b, c] X.env = (false, eval a X.env) :: starEach [b, c] X.env := by rfl) (h2 : starEach [b, c] X.env = (false, eval b X.env) :: starEach [c] X.env := by rfl) (h3 : starEach [c] X.env = (false, eval c X.env) :: starEach [] X.env := by rfl) :
    SS K X (.Assign [.Tuple [.Name x px, .Name y py, .Name z pz] kt pt] (.Tuple [a, b, c] k2 pt2) pos) (tPar3 i j k (tCons ta (tCons tb (tCons tc tNil)))) (sPar3 i j k fa fB fC) :=
  ⟨ps_par3C hc hN hi hj hk hx hy hz (pa_cons ha.pe (pa_cons hb.pe (pa_cons hd.pe pa_nil h3) h2) h1) fx fy fz hw hs W, sem_par3 i j k hjk ha.sem hb.sem hd.sem⟩
end
end Dv

/-! Dv: lists of one's own lent to an expression that only reads them. -/
namespace Dv
open PySem PySem.Spec PyProof.Rows L2
mutual
/-- no list in it -/
def noL : PyData → Bool
  | .none => true
  | .bool _ => true
  | .int _ => true
  | .str _ => true
  | .tuple xs => noLs xs
  | .list _ => false
  | .dict _ => false
def noLs : List PyData → Bool
  | [] => true
  | x :: xs => noL x && noLs xs
end
section
variable {K : PySem.W.Frag} {A B : Hp}
mutual
theorem Rp.carry (h : ∀ b o, A b = some o → (∀ vs, o ≠ .lst vs) → B b = some o) : ∀ {v : V} {d : PyData}, Rp K A v d → noL d = true → Rp K B v d
  | _, _, .non, _ => .non
  | _, _, .bl b, _ => .bl b
  | _, _, .int i, _ => .int i
  | _, _, .str x, _ => .str x
  | _, _, .lst _ _, e => by simp [noL] at e
  | _, _, .tup (ds := ds) q r, e => .tup (by
      rcases q with (q | ⟨o, q⟩) | q
      · exact .inl (.inl (h _ _ q fun vs z => by cases z))
      · exact .inl (.inr ⟨o, h _ _ q fun vs z => by cases z⟩)
      · exact .inr q) (r.carry h (by simpa [noL] using e))
  | _, _, .dic _, e => by simp [noL] at e
  | _, _, .scr _, e => by simp [noL] at e
theorem RpA.carry (h : ∀ b o, A b = some o → (∀ vs, o ≠ .lst vs) → B b = some o) : ∀ {vs : List V} {ds : List PyData}, RpA K A vs ds → noLs ds = true → RpA K B vs ds
  | _, _, .nil, _ => .nil
  | _, _, .cons (d := d) (ds := ds) r t, e => by
    have e' : noL d = true ∧ noLs ds = true := by simpa [noLs] using e
    exact .cons (r.carry h e'.1) (t.carry h e'.2)
end
end
def openV : Option PV → Option PV
  | some (.pl d) => some (.pl d)
  | some (.ow ds) => some (.pl (.list ds))
  | some (.rf ds) => some (.pl (.list ds))
  | none => none
def openR (ρ : REnv) : REnv := List.map openV ρ
theorem openV_pl (d : PyData) : openV (some (.pl d)) = some (.pl d) := rfl
theorem openV_ow (ds : List PyData) : openV (some (.ow ds)) = some (.pl (.list ds)) := rfl
theorem openV_rf (ds : List PyData) : openV (some (.rf ds)) = some (.pl (.list ds)) := rfl
theorem openV_none : openV none = none := rfl
theorem openV_junk (j : Option PyData) : openV (j.map PV.pl) = j.map PV.pl := by cases j <;> rfl
section
variable {K : PySem.W.Frag} {G : Ent} {L : List (Option Addr)} {ρ : REnv} {σ : L2.St} {H : Hp}
/-- a list that is lent -/
def Lent (ρ : REnv) (σ : L2.St) (H : Hp) (a : Addr) : Prop := ∃ vs, H a = some (.lst vs) ∧ ∃ (i : Nat) (ds : List PyData), σ[i]? = some (some (.ref a)) ∧ (ρ[i]? = some (some (.ow ds)) ∨ ρ[i]? = some (some (.rf ds)))
/-- all lists as data, what else was hidden stays so -/
def lendE (G : Ent) (L : List (Option Addr)) (ρ : REnv) (σ : L2.St) (H : Hp) : Ent := ⟨fun b => (G.N b ∨ some b ∈ L) ∧ ¬ Lent ρ σ H b, [], H⟩
def nones (L : List (Option Addr)) : List (Option Addr) := L.map fun _ => none
theorem not_nones {a : Addr} : some a ∉ nones L := fun h => by obtain ⟨_, _, e⟩ := List.mem_map.mp h; cases e
theorem nones_get {i : Nat} (h : i < L.length) : (nones L)[i]? = some none := by
  unfold nones
  rw [List.getElem?_map, List.getElem?_eq_getElem h]; rfl
theorem lend_le : Le (hd G.N L H) (hd (lendE G L ρ σ H).N (nones L) H) := fun b o h => by
  obtain ⟨h1, h2, h3⟩ := hd_some.mp h
  exact hd_some.mpr ⟨fun z => z.1.elim h1 h2, not_nones, h3⟩
theorem Rel.lend (R : Rel K G L ρ σ H) : Rel K (lendE G L ρ σ H) (nones L) (openR ρ) σ H where
  ln := by unfold openR; rw [List.length_map]; exact R.ln
  lL := by unfold nones; rw [List.length_map]; exact R.lL
  at_ := fun i x h => by
    unfold openR at h
    rw [List.getElem?_map] at h
    cases e : ρ[i]? with
    | none => rw [e] at h; cases h
    | some y =>
      rw [e] at h
      cases y with
      | none => cases h
      | some p =>
        obtain ⟨v, l, h1, h2, h3⟩ := R.at_ i p e
        have hi : i < L.length := (List.getElem?_eq_some_iff.mp h2).1
        refine ⟨v, none, h1, nones_get hi, ?_⟩
        cases p with
        | pl d => cases h; exact ⟨rfl, h3.2.mono lend_le⟩
        | ow ds =>
          cases h
          obtain ⟨a, vs, rfl, rfl, q3, q4, q5⟩ := h3
          exact ⟨rfl, .lst (hd_some.mpr ⟨fun z => z.2 ⟨vs, q4, i, ds, h1, .inl e⟩, not_nones, q4⟩) (q5.mono lend_le)⟩
        | rf ds =>
          cases h
          obtain ⟨a, vs, rfl, rfl, q3, q4, q5⟩ := h3
          exact ⟨rfl, .lst (hd_some.mpr ⟨fun z => z.2 ⟨vs, q4, i, ds, h1, .inr e⟩, not_nones, q4⟩) (q5.mono lend_le)⟩
  inj := fun i j a h _ => absurd (List.mem_of_getElem? h) not_nones
  lt := fun a h => absurd h not_nones
  fr := fun b o _ h => h
  nd := fun b h => h.1.elim (R.nd b) (R.lt b)
  bd := fun b h => nomatch h
  lo := fun a h => absurd h not_nones
/-- what was read of lent lists, once they are taken back -/
theorem lend_back (R : Rel K G L ρ σ H) {H' : Hp} {L' : List (Option Addr)} (s : LS L' (nones L)) (w : Ew (nones L) H H') {v : V} {d : PyData} (r : Rp K (hd (lendE G L ρ σ H).N L' H') v d) (e : noL d = true) : Le H H' ∧ Rp K (hd G.N L H') v d := by
  have le : Le H H' := fun b o h => w.1 b o not_nones h
  refine ⟨le, r.carry (fun b o h hn => ?_) e⟩
  obtain ⟨h1, h2, h3⟩ := hd_some.mp h
  have nl : ¬ Lent ρ σ H b := fun ⟨vs, q, _⟩ => by
    have := le b _ q
    rw [h3] at this
    cases this
    exact hn vs rfl
  exact hd_some.mpr ⟨fun z => h1 ⟨.inl z, nl⟩, fun z => h1 ⟨.inr z, nl⟩, h3⟩
/-- f over lent lists -/
def fBor (f : D1) : D1 := fun ρ => match f (openR ρ) with
  | some (d, _) => if noL d then some (d, ρ) else none
  | none => none
theorem sem_bor {te : TE} {f : D1} (h : SemE K te f) : SemE K te (fBor f) := by
  intro G L ρ σ H Q d ρ' R e q
  unfold fBor at e
  split at e
  · rename_i x ρ2 e1
    split at e
    · rename_i hn
      cases e
      refine h _ _ _ σ H _ _ ρ2 R.lend e1 fun v H' L' s R' w r => ?_
      obtain ⟨le, r'⟩ := lend_back R s w r hn
      exact q v H' L (.refl L) (R.mono le) (le.ew (L := L)) r'
    · cases e
  · cases e
end
theorem e_bor {K : PySem.W.Frag} {X : Cx} {e : Expr} {te : TE} {f : D1} (h : SE K X e te f) : SE K X e te (fBor f) := ⟨h.pe, sem_bor h.sem⟩
section
variable {K : PySem.W.Frag} {X : Cx} {pos : Pos} {te : TE} {fe : D1}
variable {elt tg iter tg1 iter1 : Expr} {ifs ifs1 : List Expr} {scope : Scope} {own : List (Str × Nat)} {wi wi1 : TI} {fi fi1 : A1} {g g1 : TG} {h h1 : T1} {tt tt1 : TT} {ft ft1 : B1}
/-- name = [..], the name's own list -/
theorem s_setLcO {y : Str} {py spos : Pos} (i : Nat) (hc : X.calm = true) (hN : X.N.Nodup) (hi : SI K X tg iter wi fi) (ok : blkC X.N X.env.scope scope own = true)
    (hg : ∀ (s : Shared) (H : Hp) (C : Addr) (cl : List (Str × Addr)) (fp : List Addr), SG K (X.blk s H scope (compEnvC scope cl C X.env) fp) tg g h) (hv : GIn g (own.map (·.2)))
    (ht : ∀ (s : Shared) (H : Hp) (C : Addr) (cl : List (Str × Addr)) (fp : List Addr), STs K (X.blk s H scope (compEnvC scope cl C X.env) fp) ifs tt ft)
    (he : ∀ (s : Shared) (H : Hp) (C : Addr) (cl : List (Str × Addr)) (fp : List Addr), SE K (X.blk s H scope (compEnvC scope cl C X.env) fp) elt te fe)
    (hsw : swapsWith (.ListComp elt [⟨tg, iter, ifs, 0⟩] scope pos) (some (.Name y py)) spos.line X.env = pure true)
    (hy : X.N[i]? = some y := by rfl) (hyl : X.env.scope.names.lookup y = some .local := by rfl) (hs : ∀ x, foldedSetIterable iter X.env x = pure x := by intro _; rfl) :
    SS K X (.Assign [.Name y py] (.ListComp elt [⟨tg, iter, ifs, 0⟩] scope pos) spos) (tAsg (tLc wi g tt te (own.map (·.2))) (gName i)) (sOwn (fLc fi h ft fe (own.map (·.2))) i) :=
  ⟨ps_setLc hc hN hy hyl hsw hi.pe (blkOk_by ok) (fun s H C cl fp => (hg s H C cl fp).pe) (fun s H C cl fp => (ht s H C cl fp).pe) (fun s H C cl fp => (he s H C cl fp).pe) hs,
    sem_own (sem_lc _ hi.sem (hg X.s_0 (fun _ => none) 0 [] []).sem hv (ht X.s_0 (fun _ => none) 0 [] []).sem (he X.s_0 (fun _ => none) 0 [] []).sem) i⟩
theorem s_setLc2O {y : Str} {py spos : Pos} {vs1 : List Nat} (i : Nat) (hc : X.calm = true) (hN : X.N.Nodup) (hi : SI K X tg iter wi fi) (ok : blkC X.N X.env.scope scope own = true) (hsub : ∀ i, i ∈ vs1 → i ∈ own.map (·.2))
    (hg : ∀ (s : Shared) (H : Hp) (C : Addr) (cl : List (Str × Addr)) (fp : List Addr), SG K (X.blk s H scope (compEnvC scope cl C X.env) fp) tg g h) (hv : GIn g (own.map (·.2)))
    (ht : ∀ (s : Shared) (H : Hp) (C : Addr) (cl : List (Str × Addr)) (fp : List Addr), STs K (X.blk s H scope (compEnvC scope cl C X.env) fp) ifs tt ft)
    (hi1 : ∀ (s : Shared) (H : Hp) (C : Addr) (cl : List (Str × Addr)) (fp : List Addr), SI K (X.blk s H scope (compEnvC scope cl C X.env) fp) tg1 iter1 wi1 fi1)
    (hg1 : ∀ (s : Shared) (H : Hp) (C : Addr) (cl : List (Str × Addr)) (fp : List Addr), SG K (X.blk s H scope (compEnvC scope cl C X.env) fp) tg1 g1 h1) (hv1 : GIn g1 vs1)
    (ht1 : ∀ (s : Shared) (H : Hp) (C : Addr) (cl : List (Str × Addr)) (fp : List Addr), STs K (X.blk s H scope (compEnvC scope cl C X.env) fp) ifs1 tt1 ft1)
    (he : ∀ (s : Shared) (H : Hp) (C : Addr) (cl : List (Str × Addr)) (fp : List Addr), SE K (X.blk s H scope (compEnvC scope cl C X.env) fp) elt te fe)
    (hsw : swapsWith (.ListComp elt [⟨tg, iter, ifs, 0⟩, ⟨tg1, iter1, ifs1, 0⟩] scope pos) (some (.Name y py)) spos.line X.env = pure true)
    (hy : X.N[i]? = some y := by rfl) (hyl : X.env.scope.names.lookup y = some .local := by rfl) (hs : ∀ x, foldedSetIterable iter X.env x = pure x := by intro _; rfl) (hs1 : ∀ env x, foldedSetIterable iter1 env x = pure x := by intro _ _; rfl) :
    SS K X (.Assign [.Name y py] (.ListComp elt [⟨tg, iter, ifs, 0⟩, ⟨tg1, iter1, ifs1, 0⟩] scope pos) spos) (tAsg (tLc2 wi g tt wi1 g1 tt1 te (own.map (·.2)) vs1) (gName i)) (sOwn (fLc2 fi h ft fi1 h1 ft1 fe (own.map (·.2)) vs1) i) :=
  ⟨ps_setLc2 hc hN hy hyl hsw hi.pe (blkOk_by ok) hsub (fun s H C cl fp => (hg s H C cl fp).pe) (fun s H C cl fp => (ht s H C cl fp).pe) (fun s H C cl fp => (hi1 s H C cl fp).pe) (fun s H C cl fp => (hg1 s H C cl fp).pe) (fun s H C cl fp => (ht1 s H C cl fp).pe) (fun s H C cl fp => (he s H C cl fp).pe) hs hs1,
    sem_own (sem_lc2 _ vs1 hsub hi.sem (hg X.s_0 (fun _ => none) 0 [] []).sem hv (ht X.s_0 (fun _ => none) 0 [] []).sem (hi1 X.s_0 (fun _ => none) 0 [] []).sem (hg1 X.s_0 (fun _ => none) 0 [] []).sem hv1 (ht1 X.s_0 (fun _ => none) 0 [] []).sem (he X.s_0 (fun _ => none) 0 [] []).sem) i⟩
end
end Dv

/-! Dv: sums of tuples. -/
namespace Dv
open PySem PySem.Spec PyProof.Rows L2
def rSumA (K : PySem.W.Frag) : List V → Hp → VK → Prop := fun vs H Q => rSum K vs H Q ∨ ∃ (a : Addr) (ns : List Int), vs = [V.ref a] ∧ SqT K H a (ns.map V.int) ∧ Q (.int ns.sum) H
theorem cr_sumA {X : Cx} (hc : X.calm = true) : CallR X (.builtin "sum") (rSumA X.K) := by
  intro pins s σ H vs us Q I r h
  rcases h with h | h
  · exact cr_sum hc pins s σ H vs us Q I r h
  · obtain ⟨a, ns, rfl, hs, q⟩ := h
    obtain ⟨its, rv, ht, _⟩ := I.tuple hs
    rw [Vals.ref1 r]
    have hi : IntsAre its ns := rv.ints
    obtain ⟨xs, e⟩ := hi.allInts.items
    have hn : numsOf (intItems xs).toList = ns := by rw [← e]; exact hi.numsOf
    rw [nums_intItems] at hn
    rw [e] at ht
    refine PySem.W.ktm_sumG (I.ok.hd hc) ht fun h' tk t' hk => ?_
    rw [preSum_eq, List.take_of_length_le (by simp), hn]
    exact ⟨.int _, H, I.kept hk, ⟨_, rfl⟩, q⟩
def gSumA : GN := fun xs => match xs with
  | [.list ds] => match intsOf ds with
    | some ns => some (.int ns.sum)
    | none => none
  | [.tuple ds] => match intsOf ds with
    | some ns => some (.int ns.sum)
    | none => none
  | _ => none
theorem s_sumA {K : PySem.W.Frag} : CallS K (rSumA K) gSumA := by
  intro N L H vs ds dz Q A h e q
  unfold gSumA at e
  split at e
  · split at e
    · rename_i bs e1
      cases e
      cases h with
      | cons h t =>
        cases t
        cases h with
        | lst h1 r1 =>
          have z := intsOf_some e1
          subst z
          have v := r1.ints
          subst v
          exact .inl ⟨_, bs, rfl, .of h1, q _ H (.refl H) (.int _)⟩
    · cases e
  · split at e
    · rename_i bs e1
      cases e
      cases h with
      | cons h t =>
        cases t
        cases h with
        | tup h1 _ r1 =>
          have z := intsOf_some e1
          subst z
          have v := r1.ints
          subst v
          exact .inr ⟨_, bs, rfl, h1, q _ H (.refl H) (.int _)⟩
    · cases e
  · cases e
end Dv

/-! Dv: a = b = e. -/
namespace Dv
open PySem PySem.Spec PyProof.Rows L2
def sAsg2T (fe : D1) (i j : Nat) : S1 := fun ρ => match fe ρ with
  | none => none
  | some (d, ρ1) => some (.nx, (ρ1.set i (some (.pl d))).set j (some (.pl d)))
section
variable {K : PySem.W.Frag} {X : Cx} {pos : Pos} {e : Expr} {te : TE} {fe : D1}
theorem sem_asg2T (i j : Nat) (he : SemE K te fe) : SemS K (tAsg2 te (gName i) (gName j)) (sAsg2T fe i j) := by
  intro G L ρ σ H D fl ρ' R e q
  unfold sAsg2T at e
  split at e
  · cases e
  rename_i d ρ1 e1
  cases e
  refine he G L ρ σ H _ _ ρ1 R e1 fun v H1 L1 s1 R1 w1 r1 => ?_
  have A := R1.setPl i (r1.mono ((Ew.refl L1 H1).hd (LS.set L1 i)))
  have s2 := LS.set (L1.set i none) j
  have B := A.setPl j (r1.mono (((Ew.refl L1 H1).hd (LS.set L1 i)).trans ((Ew.refl _ H1).hd s2)))
  exact q _ _ H1 B (.of w1 ((s2.trans (LS.set L1 i)).trans s1))
theorem s_asg2T {x y : Str} {px py : Pos} (i j : Nat) (hN : X.N.Nodup) (he : SE K X e te fe) (hi : X.N[i]? = some x := by rfl) (hj : X.N[j]? = some y := by rfl) (hx : Loc X.env.scope x := by first | exact .inl rfl | exact .inr rfl) (hy : Loc X.env.scope y := by first | exact .inl rfl | exact .inr rfl)
    (fx : X.fn x = true ∨ X.env.scope.names.lookup x = some .local := by first | exact .inl rfl | exact .inr rfl) (fy : X.fn y = true ∨ X.env.scope.names.lookup y = some .local := by first | exact .inl rfl | exact .inr rfl)
    (ha : (assignEach [.Name x px, .Name y py] X.env).map (·.2) = [assign (.Name x px) X.env, assign (.Name y py) X.env] := by rfl) (hw : swappedStores [.Name x px, .Name y py] e X.env = pure none := by rfl) :
    SS K X (.Assign [.Name x px, .Name y py] e pos) (tAsg2 te (gName i) (gName j)) (sAsg2T fe i j) := ⟨ps_asg2 he.pe (pg_name hN hi hx fx) (pg_name hN hj hy fy) ha hw, sem_asg2T i j he.sem⟩
/-- an own list becomes a value ahead of a statement -/
def sFrz (i : Nat) (f : S1) : S1 := fun ρ => match ρ[i]? with
  | some (some (.ow ds)) => f (ρ.set i (some (.pl (.list ds))))
  | _ => none
theorem sem_frz {t : TS} {f : S1} (i : Nat) (h : SemS K t f) : SemS K t (sFrz i f) := by
  intro G L ρ σ H D fl ρ' R e q
  unfold sFrz at e
  split at e
  · rename_i ds hd
    obtain ⟨a, h1, R2, r⟩ := R.moveOw hd
    exact h G _ _ σ H D fl ρ' R2 e (q.le (Gr.of (.refl L H) (LS.set L i)))
  · cases e
theorem s_frz {st : Stmt} {t : TS} {f : S1} (i : Nat) (h : SS K X st t f) : SS K X st t (sFrz i f) := ⟨h.pe, sem_frz i h.sem⟩
end
end Dv

/-! Dv: xs[i] op= e, xs one's own list. -/
namespace Dv
open PySem PySem.Spec PyProof.Rows L2
section
variable {K : PySem.W.Frag} {X : Cx} {pos : Pos}
theorem get_list : PGet X (rIxL X.K) := by
  intro pins s σ H o i ov iv Q I ro ri h
  obtain ⟨p, xs, k, z, rfl, rfl, hq, he, q⟩ := h
  cases ro
  obtain ⟨t, rfl⟩ := ri
  obtain ⟨its, r, pl, hz⟩ := I.list hq
  obtain ⟨j, h1, h2, h3, h4, h5⟩ := atI_get he
  obtain ⟨w, ew, rw'⟩ := r.get h2
  have hl := r.length
  have hn := line63
  have fin : EP X pins σ Q w s := ⟨z, H, I, rw', q⟩
  by_cases h0 : 0 ≤ k
  · have hj : k.toNat = j := by
      rw [seqIndex_of h0 h5] at h1
      exact Option.some.inj h1
    exact wpAny_getItem_list pl.isList h0 (by omega) (by rw [hj]; simpa using ew) fin
  · have hj : (k + (its.toArray.size : Int)).toNat = j := by
      rw [seqIndex_neg (by omega) h4] at h1
      rw [List.size_toArray, ← hl]
      exact Option.some.inj h1
    exact wpAny_getItem_list_neg pl.isList (by omega) (by rw [List.size_toArray] <;> omega) (by omega) (by rw [hj]; simpa using ew) fin
/-- xs[i] op= e: the old item, e, the new item -/
def sAugS (g : G2) (i : Nat) (fi fe : D1) : S1 := fun ρ => match ownAt ρ i with
  | none => none
  | some _ => match fi ρ with
    | some (.int k, ρ1) => match ρ1[i]? with
      | some (some x) => match x.lst? with
        | some ds => match L2.atI ds k with
          | some d => match fe ρ1 with
            | some (y, ρ2) => match ρ2[i]? with
              | some (some x2) => match x2.lst? with
                | some es => match ixN es.length k with
                  | some j => match g d y with
                    | some z => some (.nx, ρ2.set i (some (x2.put (es.set j z))))
                    | none => none
                  | none => none
                | none => none
              | _ => none
            | none => none
          | none => none
        | none => none
      | _ => none
    | _ => none
theorem sem_augS {r : R2} {g : G2} {ti te : TE} {fi fe : D1} (i : Nat) (s : OpS K r g) (hi : SemE K ti fi) (he : SemE K te fe) : SemS K (tAugS (tVar i) ti te (rIxL K) r rSetL) (sAugS g i fi fe) := by
  intro G L ρ σ H D fl ρ' R e q
  unfold sAugS at e
  split at e
  · cases e
  rename_i ds0 e0
  split at e
  · rename_i k ρ1 e1
    split at e
    · rename_i x e2
      split at e
      · rename_i ds e3
        split at e
        · rename_i d e4
          split at e
          · rename_i y ρ2 e5
            split at e
            · rename_i x2 e6
              split at e
              · rename_i es e7
                split at e
                · rename_i j e8
                  split at e
                  · rename_i z e9
                    cases e
                    obtain ⟨vo, hv, _⟩ := R.tpOwn e0
                    refine ⟨vo, hv, hi G L ρ σ H _ _ ρ1 R e1 fun vi H1 L1 s1 R1 w1 r1 => ?_⟩
                    obtain ⟨a, vs, g1, g2, g3, g4⟩ := R1.own e2 e3
                    cases slot_same hv g1
                    obtain ⟨v, hv1, rv⟩ := g4.atI e4
                    refine ⟨a, vs, k, v, rfl, r1.int_of, .of g3, hv1, ?_⟩
                    refine he G L1 ρ1 σ H1 _ _ ρ2 R1 e5 fun vy H2 L2' s2 R2 w2 r2 => ?_
                    have rv2 := rv.mono (w2.hd s2)
                    refine s G.N L2' H2 v vy d y z _ R2.alloc (rv2.tp hd_le) (r2.tp hd_le) e9 fun vz H3 le rz => ?_
                    have R3 := R2.mono le
                    obtain ⟨a', vs', p1, p2, p3, p4⟩ := R3.own e6 e7
                    cases slot_same g1 p1
                    have ma : some a ∈ L2' := List.mem_of_getElem? p2
                    refine ⟨a, vs', k, j, rfl, r1.int_of, p3, by rw [p4.len]; exact e8, ?_⟩
                    have W : Ew L2' H2 (upd H3 a (.lst (vs'.set j vz))) := (le.ew (L := L2')).trans (Ew.write ma) (.refl L2')
                    exact q L2' σ _ (R3.write e6 e7 p2 (p4.set j rz)) (.of ((w1.trans w2 s1).trans W (s2.trans s1)) (s2.trans s1))
                  · cases e
                · cases e
              · cases e
            · cases e
          · cases e
        · cases e
      · cases e
    · cases e
  · cases e
theorem s_augS {o i' e : Expr} {op : Operator} {r : R2} {g : G2} {ti te : TE} {fi fe : D1} {tpos : Pos} (i : Nat) (s : OpS K r g) (ho : OpR X (inplaceOp op) r) (hv : PE X o (tVar i)) (hi : SE K X i' ti fi) (he : SE K X e te fe) (hK : X.K = K := by rfl)
    (ha : ∀ ov iv new, augStore i' ov iv new = (do holding [new, ov, iv] (setItem ov iv new); release [new, ov, iv] []; pure .next) := by intros; rfl) :
    SS K X (.AugAssign (.Subscript o i' tpos) op e pos) (tAugS (tVar i) ti te (rIxL K) r rSetL) (sAugS g i fi fe) := by
  subst hK
  exact ⟨ps_augS hv hi.pe get_list he.pe (fun pins s σ H a b v u Q I r1 r2 h => ho pins s σ H a b v u Q I r1 r2 h) set_list ha, sem_augS i s hi.sem he.sem⟩
end
end Dv

/-! Dv: math.comb. -/
namespace Dv
open PySem PySem.Spec PyProof.Rows L2
def gComb : GN := fun xs => match xs with
  | [.int a, .int b] => if decide (0 ≤ a ∧ 0 ≤ b ∧ a ≤ 9000) then some (.int (PySem.W.mcComb a b)) else none
  | _ => none
def rComb : List V → Hp → VK → Prop := fun vs H Q => ∃ a b : Int, vs = [.int a, .int b] ∧ (0 ≤ a ∧ 0 ≤ b ∧ a ≤ 9000) ∧ Q (.int (PySem.W.mcComb a b)) H
theorem cr_comb {X : Cx} : CallR X (.builtin "math.comb") rComb := by
  intro pins s σ H vs us Q I r h
  obtain ⟨a, b, rfl, h, q⟩ := h
  obtain ⟨t, u, rfl⟩ := Vals.int2 r
  have g := PySem.W.mc_gives_comb t u h.1 h.2.1 (by omega) (.inr (by omega : a ≤ 18000))
  exact call_function_meets PySem.W.MGF.kind_comb PySem.W.MGF.plain_comb PySem.W.MGF.entry_comb (PySem.W.MGF.args_comb _ _) g.meets ⟨.int _, H, I.tok _, ⟨_, rfl⟩, q⟩
theorem s_comb {K : PySem.W.Frag} : CallS K rComb gComb := by
  intro N L H vs ds dz Q A h e q
  unfold gComb at e
  split at e
  · split at e
    · rename_i hc
      cases e
      cases h with
      | cons h t =>
        cases t with
        | cons h2 t2 =>
          cases t2
          rw [h.int_of, h2.int_of]
          exact ⟨_, _, rfl, of_decide_eq_true hc, q _ H (.refl H) (.int _)⟩
    · cases e
  · cases e
end Dv

/-! Dw: direct code of a def's function. -/
namespace Dv
open PySem
/-- f at ρ is what o says, and leaves ρ' -/
def Ev {α : Type} (f : REnv → Option (α × REnv)) (ρ ρ' : REnv) (o : Option α) : Prop := ∀ d, o = some d → f ρ = some (d, ρ')
/-- the same with a list that changes on the way -/
def EvS {α S : Type} (f : REnv → Option (α × REnv)) (ρ : REnv) (m : Option (α × S)) (E : S → REnv) : Prop := ∀ d s, m = some (d, s) → f ρ = some (d, E s)
/-- at most the line; no road for the kernel -/
noncomputable def fits : Nat → Bool := Classical.choose (⟨fun n => decide (n ≤ sizeLine), fun _ => rfl⟩ : ∃ f : Nat → Bool, ∀ n, f n = decide (n ≤ sizeLine))
theorem fits_eq (n : Nat) : fits n = decide (n ≤ sizeLine) := Classical.choose_spec (⟨fun n => decide (n ≤ sizeLine), fun _ => rfl⟩ : ∃ f : Nat → Bool, ∀ n, f n = decide (n ≤ sizeLine)) n
theorem fits_le {n : Nat} (h : fits n = true) : n ≤ sizeLine := by rw [fits_eq] at h; exact of_decide_eq_true h
theorem le_fits {n : Nat} (h : n ≤ sizeLine) : fits n = true := by rw [fits_eq]; exact decide_eq_true h
def tB (o : Option PyData) : Option Bool := o.bind fun d => match d with
  | .bool b => some b
  | _ => none
def tBd (d : PyData) : Option Bool := match d with
  | .bool b => some b
  | _ => none
def andO (a b : Option PyData) : Option PyData := a.bind fun d => match d with
  | .bool true => b
  | .bool false => some (.bool false)
  | _ => none
def orO (a b : Option PyData) : Option PyData := a.bind fun d => match d with
  | .bool true => some (.bool true)
  | .bool false => b
  | _ => none
def notO (a : Option PyData) : Option PyData := a.bind fun d => match d with
  | .bool b => some (.bool (!b))
  | _ => none
def andT (a b : Option Bool) : Option Bool := a.bind fun x => if x then b else some false
def orT (a b : Option Bool) : Option Bool := a.bind fun x => if x then some true else b
def isi (T : String) (d : PyData) : Option PyData := match tyName d with
  | none => none
  | some n => match L2.kitB n T with
    | some b => some (.bool b)
    | none => none
noncomputable def tupO (xs : List PyData) : Option PyData := if fits xs.length then some (.tuple xs) else none
noncomputable def lstO (xs : List PyData) : Option (List PyData) := if fits xs.length then some xs else none
def rngO (j : PyData) : Option (List PyData) := match j with
  | .int j => if okR j then some (rangeD 0 j.toNat) else none
  | _ => none
def rng2O (i j : PyData) : Option (List PyData) := match i, j with
  | .int i, .int j => if okR i && okR j then some (rangeD i (j - i).toNat) else none
  | _, _ => none
def partO (d : PyData) : Option (Option Int) := match d with
  | .int i => some (some i)
  | _ => none
def un2 (d : PyData) : Option (PyData × PyData) := match d with
  | .tuple [a, b] => some (a, b)
  | _ => none
def un3 (d : PyData) : Option (PyData × PyData × PyData) := match d with
  | .tuple [a, b, c] => some (a, b, c)
  | _ => none
def un2s : List PyData → Option (List (PyData × PyData))
  | [] => some []
  | d :: ds => (un2 d).bind fun p => (un2s ds).bind fun ps => some (p :: ps)
def un3s : List PyData → Option (List (PyData × PyData × PyData))
  | [] => some []
  | d :: ds => (un3 d).bind fun p => (un3s ds).bind fun ps => some (p :: ps)
abbrev tup2 (p : PyData × PyData) : PyData := .tuple [p.1, p.2]
abbrev tup3 (p : PyData × PyData × PyData) : PyData := .tuple [p.1, p.2.1, p.2.2]
theorem un2_some {d : PyData} {p : PyData × PyData} (h : un2 d = some p) : d = tup2 p := by
  unfold un2 at h; split at h <;> cases h; rfl
theorem un3_some {d : PyData} {p : PyData × PyData × PyData} (h : un3 d = some p) : d = tup3 p := by
  unfold un3 at h; split at h <;> cases h; rfl
theorem un2s_some : ∀ {ds : List PyData} {ps : List (PyData × PyData)}, un2s ds = some ps → ds = ps.map tup2
  | [], ps, h => by cases h; rfl
  | d :: ds, ps, h => by
    simp only [un2s, Option.bind_eq_some_iff] at h
    obtain ⟨p, h1, qs, h2, h3⟩ := h
    cases h3
    rw [List.map_cons, ← un2s_some h2, ← un2_some h1]
theorem un3s_some : ∀ {ds : List PyData} {ps : List (PyData × PyData × PyData)}, un3s ds = some ps → ds = ps.map tup3
  | [], ps, h => by cases h; rfl
  | d :: ds, ps, h => by
    simp only [un3s, Option.bind_eq_some_iff] at h
    obtain ⟨p, h1, qs, h2, h3⟩ := h
    cases h3
    rw [List.map_cons, ← un3s_some h2, ← un3_some h1]
theorem un2s_map {α : Type} (f g : α → PyData) : ∀ l : List α, un2s (l.map fun a => .tuple [f a, g a]) = some (l.map fun a => (f a, g a))
  | [] => rfl
  | a :: l => by simp [un2s, un2, un2s_map f g l]
/-! comprehensions -/
def lcf {α β : Type} (t : α → Option Bool) (e : α → Option β) : List α → Option (List β)
  | [] => some []
  | a :: l => (t a).bind fun b => if b then (e a).bind fun y => (lcf t e l).bind fun ys => some (y :: ys) else lcf t e l
def lcm' {α β : Type} (e : α → Option β) : List α → Option (List β)
  | [] => some []
  | a :: l => (e a).bind fun y => (lcm' e l).bind fun ys => some (y :: ys)
/-- [e for a in xs if t] -/
noncomputable def lcO {α β : Type} (t : α → Option Bool) (e : α → Option β) (xs : List α) : Option (List β) := if fits xs.length then lcf t e xs else none
noncomputable def lmO {α β : Type} (e : α → Option β) (xs : List α) : Option (List β) := if fits xs.length then lcm' e xs else none
def lc2f {α β γ : Type} (t : α → Option Bool) (i : α → Option (List β)) (t1 : α → β → Option Bool) (e : α → β → Option γ) : List α → Option (List γ)
  | [] => some []
  | a :: l => (t a).bind fun b => if b then (i a).bind fun ds => (lcf (t1 a) (e a) ds).bind fun ys => (lc2f t i t1 e l).bind fun zs => some (ys ++ zs) else lc2f t i t1 e l
noncomputable def lc2O {α β γ : Type} (t : α → Option Bool) (i : α → Option (List β)) (t1 : α → β → Option Bool) (e : α → β → Option γ) (xs : List α) : Option (List γ) := (lc2f t i t1 e xs).bind fun zs => if fits zs.length then some zs else none
/-- with a list that changes -/
def lcfS {α β S : Type} (t : α → S → Option (Bool × S)) (e : α → S → Option (β × S)) : List α → S → Option (List β × S)
  | [], s => some ([], s)
  | a :: l, s => (t a s).bind fun p => if p.1 then (e a p.2).bind fun q => (lcfS t e l q.2).bind fun r => some (q.1 :: r.1, r.2) else lcfS t e l p.2
noncomputable def lcOS {α β S : Type} (t : α → S → Option (Bool × S)) (e : α → S → Option (β × S)) (xs : List α) (s : S) : Option (List β × S) := if fits xs.length then lcfS t e xs s else none
section
variable {ρ ρ1 ρ2 ρ3 : REnv} {fa fb fc fe : D1} {ft fu : B1} {a b c : Option PyData} {ta tb : Option Bool} {la : A1} {l : Option (List PyData)}
theorem ev_var (i : Nat) {d : PyData} (h : ρ[i]? = some (some (.pl d)) := by rfl) : Ev (fVar i) ρ ρ (some d) := fun x e => by cases e; simp only [fVar, h]
/-- moved -/
theorem ev_mv (i : Nat) {ds : List PyData} (h : ρ[i]? = some (some (.ow ds)) := by rfl) : Ev (fVar i) ρ (ρ.set i (some (.pl (.list ds)))) (some (.list ds)) := fun x e => by cases e; simp only [fVar, h]
theorem ev_c (d : PyData) : Ev (fC d) ρ ρ (some d) := fun x e => by cases e; rfl
theorem ev_1 {g : PyData → Option PyData} (ha : Ev fa ρ ρ1 a) : Ev (f1 g fa) ρ ρ1 (a.bind fun x => g x) := fun z h => by
  obtain ⟨x, h1, h2⟩ := Option.bind_eq_some_iff.mp h
  simp only [f1, ha x h1, h2]
theorem ev_2 {g : G2} (ha : Ev fa ρ ρ1 a) (hb : Ev fb ρ1 ρ2 b) : Ev (f2 g fa fb) ρ ρ2 (a.bind fun x => b.bind fun y => g x y) := fun z h => by
  obtain ⟨x, h1, h2⟩ := Option.bind_eq_some_iff.mp h
  obtain ⟨y, h3, h4⟩ := Option.bind_eq_some_iff.mp h2
  simp only [f2, ha x h1, hb y h3, h4]
theorem ev_2F {g : PyData → PyData → Option (List PyData)} (ha : Ev fa ρ ρ1 a) (hb : Ev fb ρ1 ρ2 b) : Ev (f2F g fa fb) ρ ρ2 (a.bind fun x => b.bind fun y => g x y) := fun z h => by
  obtain ⟨x, h1, h2⟩ := Option.bind_eq_some_iff.mp h
  obtain ⟨y, h3, h4⟩ := Option.bind_eq_some_iff.mp h2
  simp only [f2F, ha x h1, hb y h3, h4]
theorem ev_OL {g : G2} (i : Nat) {ds : List PyData} (hb : Ev fb ρ ρ b) (h0 : ownAt ρ i = some ds := by rfl) : Ev (fOL g i fb) ρ ρ (b.bind fun y => g (.list ds) y) := fun z h => by
  obtain ⟨y, h3, h4⟩ := Option.bind_eq_some_iff.mp h
  simp only [fOL, h0, hb y h3, h4]
theorem ev_OR {g : G2} (i : Nat) {ds : List PyData} (hb : Ev fb ρ ρ b) (h0 : ownAt ρ i = some ds := by rfl) : Ev (fOR g fb i) ρ ρ (b.bind fun y => g y (.list ds)) := fun z h => by
  obtain ⟨y, h3, h4⟩ := Option.bind_eq_some_iff.mp h
  simp only [fOR, h0, hb y h3, h4]
theorem ev_OU {g : PyData → Option PyData} (i : Nat) {ds : List PyData} (h0 : ownAt ρ i = some ds := by rfl) : Ev (fOU g i) ρ ρ (g (.list ds)) := fun z h => by
  simp only [fOU, h0, h]
theorem ev_nil : Ev fNil ρ ρ (some []) := fun x e => by cases e; rfl
theorem ev_cons (ha : Ev fa ρ ρ1 a) (hl : Ev la ρ1 ρ2 l) : Ev (fCons fa la) ρ ρ2 (a.bind fun x => l.bind fun xs => some (x :: xs)) := fun z h => by
  obtain ⟨x, h1, h2⟩ := Option.bind_eq_some_iff.mp h
  obtain ⟨y, h3, h4⟩ := Option.bind_eq_some_iff.mp h2
  cases h4
  simp only [fCons, ha x h1, hl y h3]
theorem ev_tup (hl : Ev la ρ ρ1 l) : Ev (fTup la) ρ ρ1 (l.bind fun xs => tupO xs) := fun z h => by
  obtain ⟨y, h3, h4⟩ := Option.bind_eq_some_iff.mp h
  unfold tupO at h4
  split at h4 <;> cases h4
  rename_i hz
  simp only [fTup, hl y h3, fits_le hz, if_true]
theorem ev_lst (hl : Ev la ρ ρ1 l) : Ev (fLst la) ρ ρ1 (l.bind fun xs => lstO xs) := fun z h => by
  obtain ⟨y, h3, h4⟩ := Option.bind_eq_some_iff.mp h
  unfold lstO at h4
  split at h4 <;> cases h4
  rename_i hz
  simp only [fLst, hl z h3, fits_le hz, if_true]
theorem ev_f (hl : Ev la ρ ρ1 l) : Ev (fF la) ρ ρ1 (l.bind fun xs => some (.list xs)) := fun z h => by
  obtain ⟨y, h3, h4⟩ := Option.bind_eq_some_iff.mp h
  cases h4
  simp only [fF, hl y h3]
theorem ev_T (ha : Ev fa ρ ρ1 a) : Ev (fT fa) ρ ρ1 (a.bind fun d => tBd d) := fun z h => by
  obtain ⟨y, h3, h4⟩ := Option.bind_eq_some_iff.mp h
  unfold tBd at h4
  split at h4 <;> cases h4
  simp only [fT, ha _ h3]
theorem ev_andT (ha : Ev ft ρ ρ ta) (hb : Ev fu ρ ρ tb) : Ev (fAndT ft fu) ρ ρ (ta.bind fun x => if x then tb else some false) := fun z h => by
  obtain ⟨y, h3, h4⟩ := Option.bind_eq_some_iff.mp h
  cases y with
  | true => simp only [if_true] at h4; simp only [fAndT, ha _ h3, hb _ h4]
  | false => simp at h4; subst h4; simp only [fAndT, ha _ h3]
theorem ev_orT (ha : Ev ft ρ ρ ta) (hb : Ev fu ρ ρ tb) : Ev (fOrT ft fu) ρ ρ (ta.bind fun x => if x then some true else tb) := fun z h => by
  obtain ⟨y, h3, h4⟩ := Option.bind_eq_some_iff.mp h
  cases y with
  | true => simp at h4; subst h4; simp only [fOrT, ha _ h3]
  | false => simp only [Bool.false_eq_true, if_false] at h4; simp only [fOrT, ha _ h3, hb _ h4]
theorem ev_notT (ha : Ev ft ρ ρ1 ta) : Ev (fNotT ft) ρ ρ1 (ta.bind fun x => some (!x)) := fun z h => by
  obtain ⟨y, h3, h4⟩ := Option.bind_eq_some_iff.mp h
  cases h4
  simp only [fNotT, ha _ h3]
theorem ev_andV (ha : Ev fa ρ ρ a) (hb : Ev fb ρ ρ b) : Ev (fAndV fa fb) ρ ρ (andO a b) := fun z h => by
  obtain ⟨y, h3, h4⟩ := Option.bind_eq_some_iff.mp h
  split at h4
  · simp only [fAndV, ha _ h3, hb _ h4]
  · cases h4; simp only [fAndV, ha _ h3]
  · cases h4
theorem ev_orV (ha : Ev fa ρ ρ a) (hb : Ev fb ρ ρ b) : Ev (fOrV fa fb) ρ ρ (orO a b) := fun z h => by
  obtain ⟨y, h3, h4⟩ := Option.bind_eq_some_iff.mp h
  split at h4
  · cases h4; simp only [fOrV, ha _ h3]
  · simp only [fOrV, ha _ h3, hb _ h4]
  · cases h4
theorem ev_notV (ha : Ev fa ρ ρ1 a) : Ev (fNotV fa) ρ ρ1 (notO a) := fun z h => by
  obtain ⟨y, h3, h4⟩ := Option.bind_eq_some_iff.mp h
  split at h4
  · cases h4; simp only [fNotV, ha _ h3]
  · cases h4
theorem ev_if (ht : Ev ft ρ ρ ta) (ha : Ev fa ρ ρ a) (hb : Ev fb ρ ρ b) : Ev (fIf ft fa fb) ρ ρ (ta.bind fun x => if x then a else b) := fun z h => by
  obtain ⟨y, h3, h4⟩ := Option.bind_eq_some_iff.mp h
  cases y with
  | true => simp only [if_true] at h4; simp only [fIf, ht _ h3, ha _ h4]
  | false => simp only [Bool.false_eq_true, if_false] at h4; simp only [fIf, ht _ h3, hb _ h4]
theorem ev_chain {g g' : G2} (ha : Ev fa ρ ρ a) (hb : Ev fb ρ ρ b) (hc : Ev fc ρ ρ c) : Ev (fChain g g' fa fb fc) ρ ρ (a.bind fun x => b.bind fun y => andO (g x y) (c.bind fun z => g' y z)) := fun z h => by
  obtain ⟨x, h1, h2⟩ := Option.bind_eq_some_iff.mp h
  obtain ⟨y, h3, h4⟩ := Option.bind_eq_some_iff.mp h2
  obtain ⟨u, h5, h6⟩ := Option.bind_eq_some_iff.mp h4
  split at h6
  · obtain ⟨w, h7, h8⟩ := Option.bind_eq_some_iff.mp h6
    simp only [fChain, ha _ h1, hb _ h3, h5, hc _ h7, h8]
  · cases h6; simp only [fChain, ha _ h1, hb _ h3, h5]
  · cases h6
theorem ev_no : Ev fNo ρ ρ (some none) := fun x e => by cases e; rfl
theorem ev_part (ha : Ev fa ρ ρ1 a) : Ev (fPart fa) ρ ρ1 (a.bind fun d => partO d) := fun z h => by
  obtain ⟨y, h3, h4⟩ := Option.bind_eq_some_iff.mp h
  unfold partO at h4
  split at h4 <;> cases h4
  simp only [fPart, ha _ h3]
theorem ev_sl {fl fh : REnv → Option (Option Int × REnv)} {lo hi : Option (Option Int)} (ha : Ev fa ρ ρ1 a) (hl : Ev fl ρ1 ρ2 lo) (hh : Ev fh ρ2 ρ3 hi) : Ev (fSl fa fl fh) ρ ρ3 (a.bind fun x => lo.bind fun i => hi.bind fun j => gSl x i j) := fun z h => by
  obtain ⟨x, h1, h2⟩ := Option.bind_eq_some_iff.mp h
  obtain ⟨y, h3, h4⟩ := Option.bind_eq_some_iff.mp h2
  obtain ⟨u, h5, h6⟩ := Option.bind_eq_some_iff.mp h4
  simp only [fSl, ha _ h1, hl _ h3, hh _ h5, h6]
theorem ev_cb {g : GN} (hl : Ev la ρ ρ1 l) : Ev (fCB g la) ρ ρ1 (l.bind fun xs => g xs) := fun z h => by
  obtain ⟨y, h3, h4⟩ := Option.bind_eq_some_iff.mp h
  simp only [fCB, hl _ h3, h4]
theorem ev_cbF {g : List PyData → Option (List PyData)} (hl : Ev la ρ ρ1 l) : Ev (fCBF g la) ρ ρ1 (l.bind fun xs => g xs) := fun z h => by
  obtain ⟨y, h3, h4⟩ := Option.bind_eq_some_iff.mp h
  simp only [fCBF, hl _ h3, h4]
theorem ev_isi (T : String) (ha : Ev fa ρ ρ1 a) : Ev (fIsi T fa) ρ ρ1 (a.bind fun d => isi T d) := fun z h => by
  obtain ⟨y, h3, h4⟩ := Option.bind_eq_some_iff.mp h
  unfold isi at h4
  split at h4
  · cases h4
  rename_i n e
  split at h4
  · rename_i b e2
    cases h4
    simp only [fIsi, ha _ h3, e, e2]
  · cases h4
theorem ev_items (ha : Ev fa ρ ρ1 a) : Ev (fItems fa) ρ ρ1 (a.bind fun d => itemsOf d) := fun z h => by
  obtain ⟨y, h3, h4⟩ := Option.bind_eq_some_iff.mp h
  simp only [fItems, ha _ h3, h4]
theorem ev_yes : Ev fYes ρ ρ (some true) := fun x e => by cases e; rfl
theorem ev_dic : Ev fDic ρ ρ (some (.dict [])) := fun x e => by cases e; rfl
theorem ev_rng1 (ha : Ev fa ρ ρ1 a) : Ev (fRng1 (fCons fa fNil)) ρ ρ1 (a.bind fun d => rngO d) := fun z h => by
  obtain ⟨y, h3, h4⟩ := Option.bind_eq_some_iff.mp h
  unfold rngO at h4
  split at h4
  · split at h4 <;> cases h4
    rename_i hz
    exact rng1_ (ha _ h3) hz
  · cases h4
theorem ev_rng2 (ha : Ev fa ρ ρ1 a) (hb : Ev fb ρ1 ρ2 b) : Ev (fRng2 (fCons fa (fCons fb fNil))) ρ ρ2 (a.bind fun i => b.bind fun j => rng2O i j) := fun z h => by
  obtain ⟨x, h1, h2⟩ := Option.bind_eq_some_iff.mp h
  obtain ⟨y, h3, h4⟩ := Option.bind_eq_some_iff.mp h2
  unfold rng2O at h4
  split at h4
  · split at h4 <;> cases h4
    rename_i hz
    simp only [Bool.and_eq_true] at hz
    exact rng2_ (ha _ h1) (hb _ h3) hz.1 hz.2
  · cases h4
end
end Dv

/-! Dw: direct code: comprehensions, expressions with a list that changes. -/
namespace Dv
open PySem
def rsl (x : Option (Option PV)) : Option PV := match x with
  | some (some (.pl d)) => some (.pl d)
  | _ => none
theorem restR_nil (ρ0 ρ : REnv) : restR ρ0 ρ [] = ρ := rfl
theorem restR_cons (ρ0 ρ : REnv) (v : Nat) (vs : List Nat) : restR ρ0 ρ (v :: vs) = (restR ρ0 ρ vs).set v (rsl ρ0[v]?) := rfl
theorem rsl_junk (j : Option PyData) : rsl (some (j.map PV.pl)) = j.map PV.pl := by cases j <;> rfl
theorem rsl_pl (d : PyData) : rsl (some (some (.pl d))) = some (.pl d) := rfl
theorem rsl_none : rsl (some none) = none := rfl
section
variable {ρ ρ1 ρ2 ρ3 : REnv} {fa fb fc fe : D1} {ft fu : B1} {a b c : Option PyData} {ta tb : Option Bool} {la fi : A1} {l : Option (List PyData)}
def rgO (i j : Int) : Option (List PyData) := if okRg i j then some (rangeD i (j - i).toNat) else none
def tupR (d : PyData) : Option PyData := match d with
  | .int n => if okRg 0 n then some (.tuple (rangeD 0 (n - 0).toNat)) else none
  | _ => none
def lstR (d : PyData) : Option (List PyData) := match d with
  | .int n => if okRg 0 n then some (rangeD 0 (n - 0).toNat) else none
  | _ => none
theorem ev_tupR (ha : Ev fa ρ ρ1 a) : Ev (fTupR (fRg1 fa)) ρ ρ1 (a.bind fun d => tupR d) := fun z h => by
  obtain ⟨y, h3, h4⟩ := Option.bind_eq_some_iff.mp h
  unfold tupR at h4
  split at h4
  · split at h4 <;> cases h4
    rename_i hz
    simp only [fTupR, fRg1, ha _ h3, hz, if_true]
  · cases h4
theorem ev_lstR (ha : Ev fa ρ ρ1 a) : Ev (fLstR (fRg1 fa)) ρ ρ1 (a.bind fun d => lstR d) := fun z h => by
  obtain ⟨y, h3, h4⟩ := Option.bind_eq_some_iff.mp h
  unfold lstR at h4
  split at h4
  · split at h4 <;> cases h4
    rename_i hz
    simp only [fLstR, fRg1, ha _ h3, hz, if_true]
  · cases h4
/-! comprehensions -/
theorem comp_gen {α : Type} {h : T1} {vs : List Nat} {ρv : REnv} (D : α → PyData) (B : α → REnv) {t : α → Option Bool} {e : α → Option PyData} (hb : ∀ a, h (D a) ρv = some (B a)) (hw : ∀ a, wipeR (B a) vs = ρv)
    (ht : ∀ a, Ev ft (B a) (B a) (t a)) (he : ∀ a, Ev fe (B a) (B a) (e a)) : ∀ (xs : List α) (acc ys : List PyData), lcf t e xs = some ys → compF h ft fe vs (xs.map D) acc ρv = some (acc ++ ys, ρv)
  | [], acc, ys, q => by cases q; simp [compF]
  | x :: xs, acc, ys, q => by
    simp only [lcf] at q
    obtain ⟨b, h1, h2⟩ := Option.bind_eq_some_iff.mp q
    cases b with
    | true =>
      simp only [if_true] at h2
      obtain ⟨y, h3, h4⟩ := Option.bind_eq_some_iff.mp h2
      obtain ⟨zs, h5, h6⟩ := Option.bind_eq_some_iff.mp h4
      cases h6
      have ih := comp_gen D B hb hw ht he xs (acc ++ [y]) zs h5
      simp only [List.map_cons, compF, hb, ht x true h1, he x y h3, hw, ih, List.append_assoc, List.singleton_append]
    | false =>
      simp only [Bool.false_eq_true, if_false] at h2
      have ih := comp_gen D B hb hw ht he xs acc ys h2
      simp only [List.map_cons, compF, hb, ht x false h1, hw, ih]
theorem lcm_lcf {α β : Type} (e : α → Option β) : ∀ xs, lcf (fun _ => some true) e xs = lcm' e xs
  | [] => rfl
  | x :: xs => by simp only [lcf, lcm', Option.bind_some, if_true, lcm_lcf e xs]
theorem lc_gen {α : Type} {h : T1} {vs : List Nat} (D : α → PyData) (B : α → REnv) {t : α → Option Bool} {e : α → Option PyData} (hi : Ev fi ρ ρ1 l) (U : List PyData → Option (List α)) (hU : ∀ ds xs, U ds = some xs → ds = xs.map D)
    (hb : ∀ a, h (D a) (wipeR ρ1 vs) = some (B a)) (hw : ∀ a, wipeR (B a) vs = wipeR ρ1 vs) (hr : restR ρ1 (wipeR ρ1 vs) vs = ρ1)
    (ht : ∀ a, Ev ft (B a) (B a) (t a)) (he : ∀ a, Ev fe (B a) (B a) (e a)) : Ev (fLc fi h ft fe vs) ρ ρ1 (l.bind fun ds => (U ds).bind fun xs => lcO t e xs) := fun z q => by
  obtain ⟨ds, h1, h2⟩ := Option.bind_eq_some_iff.mp q
  obtain ⟨xs, h3, h4⟩ := Option.bind_eq_some_iff.mp h2
  have hd := hU _ _ h3
  subst hd
  unfold lcO at h4
  split at h4
  · rename_i hz
    have := comp_gen D B hb hw ht he xs [] z h4
    replace hz := fits_le hz
    simp only [fLc, hi _ h1, List.length_map, hz, if_true, this, List.nil_append, hr]
  · cases h4
/-- [e for x in xs if t] -/
theorem ev_lcf {v : Nat} {t : PyData → Option Bool} {e : PyData → Option PyData} (hi : Ev fi ρ ρ1 l)
    (ht : ∀ a, Ev ft ((wipeR ρ1 [v]).set v (some (.pl a))) ((wipeR ρ1 [v]).set v (some (.pl a))) (t a)) (he : ∀ a, Ev fe ((wipeR ρ1 [v]).set v (some (.pl a))) ((wipeR ρ1 [v]).set v (some (.pl a))) (e a))
    (hw : ∀ a : PyData, wipeR ((wipeR ρ1 [v]).set v (some (.pl a))) [v] = wipeR ρ1 [v] := by intro _; rfl) (hr : restR ρ1 (wipeR ρ1 [v]) [v] = ρ1 := by first | rfl | (simp only [restR_cons, restR_nil, List.getElem?_cons_succ, List.getElem?_cons_zero, rsl_junk, rsl_pl, rsl_none]; rfl) | (simp only [restR_cons, restR_nil, wipeR, List.set_cons_succ, List.set_cons_zero, List.getElem?_cons_succ, List.getElem?_cons_zero, rsl_junk, rsl_pl, rsl_none])) :
    Ev (fLc fi (hName v) ft fe [v]) ρ ρ1 (l.bind fun ds => lcO t e ds) := fun z q =>
  lc_gen (ft := ft) (fe := fe) (h := hName v) (fun a : PyData => a) (fun a => (wipeR ρ1 [v]).set v (some (.pl a))) hi some (fun ds xs h => by cases h; simp) (fun _ => rfl) hw hr ht he z q
theorem ev_lcm {v : Nat} {e : PyData → Option PyData} (hi : Ev fi ρ ρ1 l)
    (he : ∀ a, Ev fe ((wipeR ρ1 [v]).set v (some (.pl a))) ((wipeR ρ1 [v]).set v (some (.pl a))) (e a))
    (hw : ∀ a : PyData, wipeR ((wipeR ρ1 [v]).set v (some (.pl a))) [v] = wipeR ρ1 [v] := by intro _; rfl) (hr : restR ρ1 (wipeR ρ1 [v]) [v] = ρ1 := by first | rfl | (simp only [restR_cons, restR_nil, List.getElem?_cons_succ, List.getElem?_cons_zero, rsl_junk, rsl_pl, rsl_none]; rfl) | (simp only [restR_cons, restR_nil, wipeR, List.set_cons_succ, List.set_cons_zero, List.getElem?_cons_succ, List.getElem?_cons_zero, rsl_junk, rsl_pl, rsl_none])) :
    Ev (fLc fi (hName v) fYes fe [v]) ρ ρ1 (l.bind fun ds => lmO e ds) := fun z q =>
  ev_lcf (t := fun _ => some true) (e := e) hi (fun _ => ev_yes) he hw hr z (by simpa only [lcO, lmO, lcm_lcf] using q)
/-- [e for x, y in xs if t] -/
theorem ev_lcf2 {v w : Nat} {vs : List Nat} {t : PyData × PyData → Option Bool} {e : PyData × PyData → Option PyData} (hi : Ev fi ρ ρ1 l)
    (ht : ∀ p : PyData × PyData, Ev ft (((wipeR ρ1 vs).set v (some (.pl p.1))).set w (some (.pl p.2))) (((wipeR ρ1 vs).set v (some (.pl p.1))).set w (some (.pl p.2))) (t p)) (he : ∀ p : PyData × PyData, Ev fe (((wipeR ρ1 vs).set v (some (.pl p.1))).set w (some (.pl p.2))) (((wipeR ρ1 vs).set v (some (.pl p.1))).set w (some (.pl p.2))) (e p))
    (hw : ∀ a b : PyData, wipeR (((wipeR ρ1 vs).set v (some (.pl a))).set w (some (.pl b))) vs = wipeR ρ1 vs := by intro _ _; rfl) (hr : restR ρ1 (wipeR ρ1 vs) vs = ρ1 := by first | rfl | (simp only [restR_cons, restR_nil, List.getElem?_cons_succ, List.getElem?_cons_zero, rsl_junk, rsl_pl, rsl_none]; rfl) | (simp only [restR_cons, restR_nil, wipeR, List.set_cons_succ, List.set_cons_zero, List.getElem?_cons_succ, List.getElem?_cons_zero, rsl_junk, rsl_pl, rsl_none])) :
    Ev (fLc fi (hTup 2 (hCons (hName v) (hCons (hName w) hNil))) ft fe vs) ρ ρ1 (l.bind fun ds => (un2s ds).bind fun ps => lcO t e ps) := fun z q =>
  lc_gen (ft := ft) (fe := fe) (h := hTup 2 (hCons (hName v) (hCons (hName w) hNil))) tup2 (fun p => ((wipeR ρ1 vs).set v (some (.pl p.1))).set w (some (.pl p.2))) hi un2s (fun ds xs h => un2s_some h) (fun _ => rfl) (fun p => hw p.1 p.2) hr ht he z q
theorem ev_lcm2 {v w : Nat} {vs : List Nat} {e : PyData × PyData → Option PyData} (hi : Ev fi ρ ρ1 l)
    (he : ∀ p : PyData × PyData, Ev fe (((wipeR ρ1 vs).set v (some (.pl p.1))).set w (some (.pl p.2))) (((wipeR ρ1 vs).set v (some (.pl p.1))).set w (some (.pl p.2))) (e p))
    (hw : ∀ a b : PyData, wipeR (((wipeR ρ1 vs).set v (some (.pl a))).set w (some (.pl b))) vs = wipeR ρ1 vs := by intro _ _; rfl) (hr : restR ρ1 (wipeR ρ1 vs) vs = ρ1 := by first | rfl | (simp only [restR_cons, restR_nil, List.getElem?_cons_succ, List.getElem?_cons_zero, rsl_junk, rsl_pl, rsl_none]; rfl) | (simp only [restR_cons, restR_nil, wipeR, List.set_cons_succ, List.set_cons_zero, List.getElem?_cons_succ, List.getElem?_cons_zero, rsl_junk, rsl_pl, rsl_none])) :
    Ev (fLc fi (hTup 2 (hCons (hName v) (hCons (hName w) hNil))) fYes fe vs) ρ ρ1 (l.bind fun ds => (un2s ds).bind fun ps => lmO e ps) := fun z q =>
  ev_lcf2 (t := fun _ => some true) (e := e) hi (fun _ => ev_yes) he hw hr z (by simpa only [lcO, lmO, lcm_lcf] using q)
theorem ev_lcf3 {v w u : Nat} {vs : List Nat} {t : PyData × PyData × PyData → Option Bool} {e : PyData × PyData × PyData → Option PyData} (hi : Ev fi ρ ρ1 l)
    (ht : ∀ p : PyData × PyData × PyData, Ev ft ((((wipeR ρ1 vs).set v (some (.pl p.1))).set w (some (.pl p.2.1))).set u (some (.pl p.2.2))) ((((wipeR ρ1 vs).set v (some (.pl p.1))).set w (some (.pl p.2.1))).set u (some (.pl p.2.2))) (t p)) (he : ∀ p : PyData × PyData × PyData, Ev fe ((((wipeR ρ1 vs).set v (some (.pl p.1))).set w (some (.pl p.2.1))).set u (some (.pl p.2.2))) ((((wipeR ρ1 vs).set v (some (.pl p.1))).set w (some (.pl p.2.1))).set u (some (.pl p.2.2))) (e p))
    (hw : ∀ a b c : PyData, wipeR ((((wipeR ρ1 vs).set v (some (.pl a))).set w (some (.pl b))).set u (some (.pl c))) vs = wipeR ρ1 vs := by intro _ _ _; rfl) (hr : restR ρ1 (wipeR ρ1 vs) vs = ρ1 := by first | rfl | (simp only [restR_cons, restR_nil, List.getElem?_cons_succ, List.getElem?_cons_zero, rsl_junk, rsl_pl, rsl_none]; rfl) | (simp only [restR_cons, restR_nil, wipeR, List.set_cons_succ, List.set_cons_zero, List.getElem?_cons_succ, List.getElem?_cons_zero, rsl_junk, rsl_pl, rsl_none])) :
    Ev (fLc fi (hTup 3 (hCons (hName v) (hCons (hName w) (hCons (hName u) hNil)))) ft fe vs) ρ ρ1 (l.bind fun ds => (un3s ds).bind fun ps => lcO t e ps) := fun z q =>
  lc_gen (ft := ft) (fe := fe) (h := hTup 3 (hCons (hName v) (hCons (hName w) (hCons (hName u) hNil)))) tup3 (fun p => (((wipeR ρ1 vs).set v (some (.pl p.1))).set w (some (.pl p.2.1))).set u (some (.pl p.2.2))) hi un3s (fun ds xs h => un3s_some h) (fun _ => rfl) (fun p => hw p.1 p.2.1 p.2.2) hr ht he z q
/-! two clauses -/
theorem comp2_gen {α β : Type} {h h1 : T1} {vs vs1 : List Nat} {fi1 : A1} {ft1 : B1} {ρv : REnv} (D : α → PyData) (B : α → REnv) (D1 : β → PyData) (B1 : α → β → REnv) {t : α → Option Bool} {l1 : α → Option (List PyData)} (U1 : List PyData → Option (List β)) (hU1 : ∀ ds xs, U1 ds = some xs → ds = xs.map D1)
    {t1 : α → β → Option Bool} {e : α → β → Option PyData} (hb : ∀ a, h (D a) ρv = some (B a)) (hw : ∀ a, wipeR (B a) vs = ρv) (hw1 : ∀ a, wipeR (wipeR (B a) vs1) vs = ρv)
    (ht : ∀ a, Ev ft (B a) (B a) (t a)) (hi1 : ∀ a, Ev fi1 (B a) (B a) (l1 a)) (hb1 : ∀ a b, h1 (D1 b) (wipeR (B a) vs1) = some (B1 a b)) (hw2 : ∀ a b, wipeR (B1 a b) vs1 = wipeR (B a) vs1)
    (ht1 : ∀ a b, Ev ft1 (B1 a b) (B1 a b) (t1 a b)) (he : ∀ a b, Ev fe (B1 a b) (B1 a b) (e a b)) : ∀ (xs : List α) (acc ys : List PyData), lc2f t (fun a => (l1 a).bind U1) t1 e xs = some ys → comp2F h ft fi1 h1 ft1 fe vs vs1 (xs.map D) acc ρv = some (acc ++ ys, ρv)
  | [], acc, ys, q => by cases q; simp [comp2F]
  | x :: xs, acc, ys, q => by
    simp only [lc2f] at q
    obtain ⟨b, h1, h2⟩ := Option.bind_eq_some_iff.mp q
    cases b with
    | true =>
      simp only [if_true] at h2
      obtain ⟨es, h3, h4⟩ := Option.bind_eq_some_iff.mp h2
      obtain ⟨ds, h5, h6⟩ := Option.bind_eq_some_iff.mp h3
      obtain ⟨zs, h7, h8⟩ := Option.bind_eq_some_iff.mp h4
      obtain ⟨us, h9, h10⟩ := Option.bind_eq_some_iff.mp h8
      cases h10
      have hd := hU1 _ _ h6
      subst hd
      have c1 := comp_gen D1 (B1 x) (hb1 x) (hw2 x) (ht1 x) (he x) es acc zs h7
      have ih := comp2_gen D B D1 B1 U1 hU1 hb hw hw1 ht hi1 hb1 hw2 ht1 he xs (acc ++ zs) us h9
      simp only [List.map_cons, comp2F, hb, ht x true h1, hi1 x _ h5, c1, hw1, ih, List.append_assoc]
    | false =>
      simp only [Bool.false_eq_true, if_false] at h2
      have ih := comp2_gen D B D1 B1 U1 hU1 hb hw hw1 ht hi1 hb1 hw2 ht1 he xs acc ys h2
      simp only [List.map_cons, comp2F, hb, ht x false h1, hw, ih]
theorem lc2_gen {α β : Type} {h h1 : T1} {vs vs1 : List Nat} {fi1 : A1} {ft1 : B1} (D : α → PyData) (B : α → REnv) (U : List PyData → Option (List α)) (hU : ∀ ds xs, U ds = some xs → ds = xs.map D) (D1 : β → PyData) (B1 : α → β → REnv) {t : α → Option Bool} {l1 : α → Option (List PyData)} (U1 : List PyData → Option (List β)) (hU1 : ∀ ds xs, U1 ds = some xs → ds = xs.map D1)
    {t1 : α → β → Option Bool} {e : α → β → Option PyData} (hi : Ev fi ρ ρ1 l) (hb : ∀ a, h (D a) (wipeR ρ1 vs) = some (B a)) (hw : ∀ a, wipeR (B a) vs = wipeR ρ1 vs) (hw1 : ∀ a, wipeR (wipeR (B a) vs1) vs = wipeR ρ1 vs)
    (ht : ∀ a, Ev ft (B a) (B a) (t a)) (hi1 : ∀ a, Ev fi1 (B a) (B a) (l1 a)) (hb1 : ∀ a b, h1 (D1 b) (wipeR (B a) vs1) = some (B1 a b)) (hw2 : ∀ a b, wipeR (B1 a b) vs1 = wipeR (B a) vs1)
    (ht1 : ∀ a b, Ev ft1 (B1 a b) (B1 a b) (t1 a b)) (he : ∀ a b, Ev fe (B1 a b) (B1 a b) (e a b)) (hr : restR ρ1 (wipeR ρ1 vs) vs = ρ1) :
    Ev (fLc2 fi h ft fi1 h1 ft1 fe vs vs1) ρ ρ1 (l.bind fun ds => (U ds).bind fun xs => lc2O t (fun a => (l1 a).bind U1) t1 e xs) := fun z q => by
  obtain ⟨ds, h1, h2⟩ := Option.bind_eq_some_iff.mp q
  obtain ⟨xs, h3, h4⟩ := Option.bind_eq_some_iff.mp h2
  have hd := hU _ _ h3
  subst hd
  unfold lc2O at h4
  obtain ⟨zs, h5, h6⟩ := Option.bind_eq_some_iff.mp h4
  split at h6
  · rename_i hz
    cases h6
    have := comp2_gen D B D1 B1 U1 hU1 hb hw hw1 ht hi1 hb1 hw2 ht1 he xs [] z h5
    simp only [fLc2, hi _ h1, this, List.nil_append, fits_le hz, if_true, hr]
  · cases h6
/-! by values of the bound names: n: one name, p: two names -/
abbrev bn (v : Nat) (ρ : REnv) (a : PyData) : REnv := ρ.set v (some (.pl a))
abbrev bp (v w : Nat) (ρ : REnv) (p : PyData × PyData) : REnv := (ρ.set v (some (.pl p.1))).set w (some (.pl p.2))
theorem ev_lc2nn {v w : Nat} {vs : List Nat} {fi1 : A1} {ft1 : B1} {t : PyData → Option Bool} {l1 : PyData → Option (List PyData)} {t1 e} (hi : Ev fi ρ ρ1 l)
    (ht : ∀ a, Ev ft (bn v (wipeR ρ1 vs) a) (bn v (wipeR ρ1 vs) a) (t a)) (hi1 : ∀ a, Ev fi1 (bn v (wipeR ρ1 vs) a) (bn v (wipeR ρ1 vs) a) (l1 a))
    (ht1 : ∀ a b, Ev ft1 (bn w (wipeR (bn v (wipeR ρ1 vs) a) [w]) b) (bn w (wipeR (bn v (wipeR ρ1 vs) a) [w]) b) (t1 a b)) (he : ∀ a b, Ev fe (bn w (wipeR (bn v (wipeR ρ1 vs) a) [w]) b) (bn w (wipeR (bn v (wipeR ρ1 vs) a) [w]) b) (e a b))
    (hw : ∀ a : PyData, wipeR (bn v (wipeR ρ1 vs) a) vs = wipeR ρ1 vs := by intro _; rfl) (hw1 : ∀ a : PyData, wipeR (wipeR (bn v (wipeR ρ1 vs) a) [w]) vs = wipeR ρ1 vs := by intro _; rfl) (hw2 : ∀ a b : PyData, wipeR (bn w (wipeR (bn v (wipeR ρ1 vs) a) [w]) b) [w] = wipeR (bn v (wipeR ρ1 vs) a) [w] := by intro _ _; rfl) (hr : restR ρ1 (wipeR ρ1 vs) vs = ρ1 := by first | rfl | (simp only [restR_cons, restR_nil, List.getElem?_cons_succ, List.getElem?_cons_zero, rsl_junk, rsl_pl, rsl_none]; rfl) | (simp only [restR_cons, restR_nil, wipeR, List.set_cons_succ, List.set_cons_zero, List.getElem?_cons_succ, List.getElem?_cons_zero, rsl_junk, rsl_pl, rsl_none])) :
    Ev (fLc2 fi (hName v) ft fi1 (hName w) ft1 fe vs [w]) ρ ρ1 (l.bind fun ds => lc2O t (fun a => (l1 a).bind some) t1 e ds) := fun z q =>
  lc2_gen (h := hName v) (h1 := hName w) (fun a : PyData => a) (bn v (wipeR ρ1 vs)) some (fun ds xs h => by cases h; simp) (fun a : PyData => a) (fun a => bn w (wipeR (bn v (wipeR ρ1 vs) a) [w])) some (fun ds xs h => by cases h; simp) hi (fun _ => rfl) hw hw1 ht hi1 (fun _ _ => rfl) hw2 ht1 he hr z q
theorem ev_lc2np {v w u : Nat} {vs vs1 : List Nat} {fi1 : A1} {ft1 : B1} {t : PyData → Option Bool} {l1 : PyData → Option (List PyData)} {t1 e} (hi : Ev fi ρ ρ1 l)
    (ht : ∀ a, Ev ft (bn v (wipeR ρ1 vs) a) (bn v (wipeR ρ1 vs) a) (t a)) (hi1 : ∀ a, Ev fi1 (bn v (wipeR ρ1 vs) a) (bn v (wipeR ρ1 vs) a) (l1 a))
    (ht1 : ∀ a (p : PyData × PyData), Ev ft1 (bp w u (wipeR (bn v (wipeR ρ1 vs) a) vs1) p) (bp w u (wipeR (bn v (wipeR ρ1 vs) a) vs1) p) (t1 a p)) (he : ∀ a (p : PyData × PyData), Ev fe (bp w u (wipeR (bn v (wipeR ρ1 vs) a) vs1) p) (bp w u (wipeR (bn v (wipeR ρ1 vs) a) vs1) p) (e a p))
    (hw : ∀ a : PyData, wipeR (bn v (wipeR ρ1 vs) a) vs = wipeR ρ1 vs := by intro _; rfl) (hw1 : ∀ a : PyData, wipeR (wipeR (bn v (wipeR ρ1 vs) a) vs1) vs = wipeR ρ1 vs := by intro _; rfl) (hw2 : ∀ (a : PyData) (p : PyData × PyData), wipeR (bp w u (wipeR (bn v (wipeR ρ1 vs) a) vs1) p) vs1 = wipeR (bn v (wipeR ρ1 vs) a) vs1 := by intro _ _; rfl) (hr : restR ρ1 (wipeR ρ1 vs) vs = ρ1 := by first | rfl | (simp only [restR_cons, restR_nil, List.getElem?_cons_succ, List.getElem?_cons_zero, rsl_junk, rsl_pl, rsl_none]; rfl) | (simp only [restR_cons, restR_nil, wipeR, List.set_cons_succ, List.set_cons_zero, List.getElem?_cons_succ, List.getElem?_cons_zero, rsl_junk, rsl_pl, rsl_none])) :
    Ev (fLc2 fi (hName v) ft fi1 (hTup 2 (hCons (hName w) (hCons (hName u) hNil))) ft1 fe vs vs1) ρ ρ1 (l.bind fun ds => lc2O t (fun a => (l1 a).bind un2s) t1 e ds) := fun z q =>
  lc2_gen (h := hName v) (h1 := hTup 2 (hCons (hName w) (hCons (hName u) hNil))) (fun a : PyData => a) (bn v (wipeR ρ1 vs)) some (fun ds xs h => by cases h; simp) tup2 (fun a => bp w u (wipeR (bn v (wipeR ρ1 vs) a) vs1)) un2s (fun ds xs h => un2s_some h) hi (fun _ => rfl) hw hw1 ht hi1 (fun _ _ => rfl) hw2 ht1 he hr z q
theorem ev_lc2pn {v w u : Nat} {vs : List Nat} {fi1 : A1} {ft1 : B1} {t : PyData × PyData → Option Bool} {l1 : PyData × PyData → Option (List PyData)} {t1 e} (hi : Ev fi ρ ρ1 l)
    (ht : ∀ a, Ev ft (bp v w (wipeR ρ1 vs) a) (bp v w (wipeR ρ1 vs) a) (t a)) (hi1 : ∀ a, Ev fi1 (bp v w (wipeR ρ1 vs) a) (bp v w (wipeR ρ1 vs) a) (l1 a))
    (ht1 : ∀ a b, Ev ft1 (bn u (wipeR (bp v w (wipeR ρ1 vs) a) [u]) b) (bn u (wipeR (bp v w (wipeR ρ1 vs) a) [u]) b) (t1 a b)) (he : ∀ a b, Ev fe (bn u (wipeR (bp v w (wipeR ρ1 vs) a) [u]) b) (bn u (wipeR (bp v w (wipeR ρ1 vs) a) [u]) b) (e a b))
    (hw : ∀ a : PyData × PyData, wipeR (bp v w (wipeR ρ1 vs) a) vs = wipeR ρ1 vs := by intro _; rfl) (hw1 : ∀ a : PyData × PyData, wipeR (wipeR (bp v w (wipeR ρ1 vs) a) [u]) vs = wipeR ρ1 vs := by intro _; rfl) (hw2 : ∀ (a : PyData × PyData) (b : PyData), wipeR (bn u (wipeR (bp v w (wipeR ρ1 vs) a) [u]) b) [u] = wipeR (bp v w (wipeR ρ1 vs) a) [u] := by intro _ _; rfl) (hr : restR ρ1 (wipeR ρ1 vs) vs = ρ1 := by first | rfl | (simp only [restR_cons, restR_nil, List.getElem?_cons_succ, List.getElem?_cons_zero, rsl_junk, rsl_pl, rsl_none]; rfl) | (simp only [restR_cons, restR_nil, wipeR, List.set_cons_succ, List.set_cons_zero, List.getElem?_cons_succ, List.getElem?_cons_zero, rsl_junk, rsl_pl, rsl_none])) :
    Ev (fLc2 fi (hTup 2 (hCons (hName v) (hCons (hName w) hNil))) ft fi1 (hName u) ft1 fe vs [u]) ρ ρ1 (l.bind fun ds => (un2s ds).bind fun ps => lc2O t (fun a => (l1 a).bind some) t1 e ps) := fun z q =>
  lc2_gen (h := hTup 2 (hCons (hName v) (hCons (hName w) hNil))) (h1 := hName u) tup2 (bp v w (wipeR ρ1 vs)) un2s (fun ds xs h => un2s_some h) (fun a : PyData => a) (fun a => bn u (wipeR (bp v w (wipeR ρ1 vs) a) [u])) some (fun ds xs h => by cases h; simp) hi (fun _ => rfl) hw hw1 ht hi1 (fun _ _ => rfl) hw2 ht1 he hr z q
theorem ev_lc2pp {v w u x : Nat} {vs vs1 : List Nat} {fi1 : A1} {ft1 : B1} {t : PyData × PyData → Option Bool} {l1 : PyData × PyData → Option (List PyData)} {t1 e} (hi : Ev fi ρ ρ1 l)
    (ht : ∀ a, Ev ft (bp v w (wipeR ρ1 vs) a) (bp v w (wipeR ρ1 vs) a) (t a)) (hi1 : ∀ a, Ev fi1 (bp v w (wipeR ρ1 vs) a) (bp v w (wipeR ρ1 vs) a) (l1 a))
    (ht1 : ∀ a b, Ev ft1 (bp u x (wipeR (bp v w (wipeR ρ1 vs) a) vs1) b) (bp u x (wipeR (bp v w (wipeR ρ1 vs) a) vs1) b) (t1 a b)) (he : ∀ a b, Ev fe (bp u x (wipeR (bp v w (wipeR ρ1 vs) a) vs1) b) (bp u x (wipeR (bp v w (wipeR ρ1 vs) a) vs1) b) (e a b))
    (hw : ∀ a : PyData × PyData, wipeR (bp v w (wipeR ρ1 vs) a) vs = wipeR ρ1 vs := by intro _; rfl) (hw1 : ∀ a : PyData × PyData, wipeR (wipeR (bp v w (wipeR ρ1 vs) a) vs1) vs = wipeR ρ1 vs := by intro _; rfl) (hw2 : ∀ (a b : PyData × PyData), wipeR (bp u x (wipeR (bp v w (wipeR ρ1 vs) a) vs1) b) vs1 = wipeR (bp v w (wipeR ρ1 vs) a) vs1 := by intro _ _; rfl) (hr : restR ρ1 (wipeR ρ1 vs) vs = ρ1 := by first | rfl | (simp only [restR_cons, restR_nil, List.getElem?_cons_succ, List.getElem?_cons_zero, rsl_junk, rsl_pl, rsl_none]; rfl) | (simp only [restR_cons, restR_nil, wipeR, List.set_cons_succ, List.set_cons_zero, List.getElem?_cons_succ, List.getElem?_cons_zero, rsl_junk, rsl_pl, rsl_none])) :
    Ev (fLc2 fi (hTup 2 (hCons (hName v) (hCons (hName w) hNil))) ft fi1 (hTup 2 (hCons (hName u) (hCons (hName x) hNil))) ft1 fe vs vs1) ρ ρ1 (l.bind fun ds => (un2s ds).bind fun ps => lc2O t (fun a => (l1 a).bind un2s) t1 e ps) := fun z q =>
  lc2_gen (h := hTup 2 (hCons (hName v) (hCons (hName w) hNil))) (h1 := hTup 2 (hCons (hName u) (hCons (hName x) hNil))) tup2 (bp v w (wipeR ρ1 vs)) un2s (fun ds xs h => un2s_some h) tup2 (fun a => bp u x (wipeR (bp v w (wipeR ρ1 vs) a) vs1)) un2s (fun ds xs h => un2s_some h) hi (fun _ => rfl) hw hw1 ht hi1 (fun _ _ => rfl) hw2 ht1 he hr z q
end
end Dv

/-! Dw: direct code: calls, expressions with a list that changes. -/
namespace Dv
open PySem
theorem obind {α β : Type} {a : Option α} {k : α → Option β} {z : β} (h : (a.bind k) = some z) : ∃ x, a = some x ∧ k x = some z := Option.bind_eq_some_iff.mp h
section
variable {ρ ρ1 ρ2 ρ3 : REnv} {fa fb fc fe : D1} {ft fu : B1} {a b c : Option PyData} {ta tb : Option Bool} {la fi : A1} {l : Option (List PyData)} {F : Fn}
theorem evs_call0   {v : List PyData → Option (PyData × List PyData)} {i : Nat} {x : PV} {ws : List PyData} {E : List PyData → REnv}  (hv : ∀  p, v ws  = some p → F [.rf ws] = some (.pl p.1, [some p.2])) (g1 : ρ[i]? = some (some x) := by rfl) (g2 : x.lst? = some ws := by rfl) (hE : ∀ w, ρ.set i (some (x.put w)) = E w := by intro _; rfl) : EvS (fCallE F (aBy i aNil)) ρ (v ws ) E := fun z w h => by
  have hh1 : ownAt ρ i = some ws := by simp only [ownAt, g1, g2]
  have hh2 : oneBy [.by i] = true := rfl
  simp only [fCallE, fCall, aBy, hh1, aCons, aNil, hh2, toPV, hv  (z, w) h, setOuts, if_true, g1, hE]
theorem ev_call1 {f0 : D1} {o0 : Option PyData} {ρ1 : REnv} {v : PyData → Option PyData} (h0 : Ev f0 ρ ρ1 o0) (hv : ∀ x0 d, v x0 = some d → F [.pl x0] = some (.pl d, [none])) : Ev (fCallE F (aCons f0 aNil)) ρ ρ1 (o0.bind fun x0 => v x0) := fun z h => by
  obtain ⟨x0, e0, q0⟩ := obind h
  simp only [fCallE, fCall, aCons, aNil, h0 _ e0, oneBy, toPV, hv _ _ q0, setOuts, if_true]
theorem ev_callX1 {f0 : D1} {o0 : Option PyData} {ρ1 : REnv} {v : PyData → Option (List PyData)} (h0 : Ev f0 ρ ρ1 o0) (hv : ∀ x0 d, v x0 = some d → F [.pl x0] = some (.fr d, [none])) : Ev (fCallE F (aCons f0 aNil)) ρ ρ1 (o0.bind fun x0 => (v x0).bind fun ds => some (.list ds)) := fun z h => by
  obtain ⟨x0, e0, q0⟩ := obind h
  obtain ⟨ds, e9, q9⟩ := obind q0
  cases q9
  simp only [fCallE, fCall, aCons, aNil, h0 _ e0, oneBy, toPV, hv _ _ e9, setOuts, if_true]
theorem ev_callF1 {f0 : D1} {o0 : Option PyData} {ρ1 : REnv} {v : PyData → Option (List PyData)} (h0 : Ev f0 ρ ρ1 o0) (hv : ∀ x0 d, v x0 = some d → F [.pl x0] = some (.fr d, [none])) : Ev (fCallF F (aCons f0 aNil)) ρ ρ1 (o0.bind fun x0 => v x0) := fun z h => by
  obtain ⟨x0, e0, q0⟩ := obind h
  simp [fCallF, aCons, aNil, h0 _ e0, isPl, toPV, hv _ _ q0]
theorem evs_call1 {f0 : D1} {o0 : Option PyData} {v : List PyData → PyData → Option (PyData × List PyData)} {i : Nat} {x : PV} {ws : List PyData} {E : List PyData → REnv} (h0 : Ev f0 ρ ρ o0) (hv : ∀ x0 p, v ws x0 = some p → F [.rf ws, .pl x0] = some (.pl p.1, [some p.2, none])) (g1 : ρ[i]? = some (some x) := by rfl) (g2 : x.lst? = some ws := by rfl) (hE : ∀ w, ρ.set i (some (x.put w)) = E w := by intro _; rfl) : EvS (fCallE F (aBy i (aCons f0 aNil))) ρ (o0.bind fun x0 => v ws x0) E := fun z w h => by
  obtain ⟨x0, e0, q0⟩ := obind h
  have hh1 : ownAt ρ i = some ws := by simp only [ownAt, g1, g2]
  have hh2 : oneBy [.by i, .pl x0] = true := rfl
  simp only [fCallE, fCall, aBy, hh1, aCons, aNil, h0 _ e0, hh2, toPV, hv _ (z, w) q0, setOuts, if_true, g1, hE]
theorem ev_call2 {f0 : D1} {f1 : D1} {o0 : Option PyData} {o1 : Option PyData} {ρ1 : REnv} {ρ2 : REnv} {v : PyData → PyData → Option PyData} (h0 : Ev f0 ρ ρ1 o0) (h1 : Ev f1 ρ1 ρ2 o1) (hv : ∀ x0 x1 d, v x0 x1 = some d → F [.pl x0, .pl x1] = some (.pl d, [none, none])) : Ev (fCallE F (aCons f0 (aCons f1 aNil))) ρ ρ2 (o0.bind fun x0 => o1.bind fun x1 => v x0 x1) := fun z h => by
  obtain ⟨x0, e0, q0⟩ := obind h
  obtain ⟨x1, e1, q1⟩ := obind q0
  simp only [fCallE, fCall, aCons, aNil, h0 _ e0, h1 _ e1, oneBy, toPV, hv _ _ _ q1, setOuts, if_true]
theorem ev_callX2 {f0 : D1} {f1 : D1} {o0 : Option PyData} {o1 : Option PyData} {ρ1 : REnv} {ρ2 : REnv} {v : PyData → PyData → Option (List PyData)} (h0 : Ev f0 ρ ρ1 o0) (h1 : Ev f1 ρ1 ρ2 o1) (hv : ∀ x0 x1 d, v x0 x1 = some d → F [.pl x0, .pl x1] = some (.fr d, [none, none])) : Ev (fCallE F (aCons f0 (aCons f1 aNil))) ρ ρ2 (o0.bind fun x0 => o1.bind fun x1 => (v x0 x1).bind fun ds => some (.list ds)) := fun z h => by
  obtain ⟨x0, e0, q0⟩ := obind h
  obtain ⟨x1, e1, q1⟩ := obind q0
  obtain ⟨ds, e9, q9⟩ := obind q1
  cases q9
  simp only [fCallE, fCall, aCons, aNil, h0 _ e0, h1 _ e1, oneBy, toPV, hv _ _ _ e9, setOuts, if_true]
theorem ev_callF2 {f0 : D1} {f1 : D1} {o0 : Option PyData} {o1 : Option PyData} {ρ1 : REnv} {ρ2 : REnv} {v : PyData → PyData → Option (List PyData)} (h0 : Ev f0 ρ ρ1 o0) (h1 : Ev f1 ρ1 ρ2 o1) (hv : ∀ x0 x1 d, v x0 x1 = some d → F [.pl x0, .pl x1] = some (.fr d, [none, none])) : Ev (fCallF F (aCons f0 (aCons f1 aNil))) ρ ρ2 (o0.bind fun x0 => o1.bind fun x1 => v x0 x1) := fun z h => by
  obtain ⟨x0, e0, q0⟩ := obind h
  obtain ⟨x1, e1, q1⟩ := obind q0
  simp [fCallF, aCons, aNil, h0 _ e0, h1 _ e1, isPl, toPV, hv _ _ _ q1]
theorem evs_call2 {f0 : D1} {f1 : D1} {o0 : Option PyData} {o1 : Option PyData} {v : List PyData → PyData → PyData → Option (PyData × List PyData)} {i : Nat} {x : PV} {ws : List PyData} {E : List PyData → REnv} (h0 : Ev f0 ρ ρ o0) (h1 : Ev f1 ρ ρ o1) (hv : ∀ x0 x1 p, v ws x0 x1 = some p → F [.rf ws, .pl x0, .pl x1] = some (.pl p.1, [some p.2, none, none])) (g1 : ρ[i]? = some (some x) := by rfl) (g2 : x.lst? = some ws := by rfl) (hE : ∀ w, ρ.set i (some (x.put w)) = E w := by intro _; rfl) : EvS (fCallE F (aBy i (aCons f0 (aCons f1 aNil)))) ρ (o0.bind fun x0 => o1.bind fun x1 => v ws x0 x1) E := fun z w h => by
  obtain ⟨x0, e0, q0⟩ := obind h
  obtain ⟨x1, e1, q1⟩ := obind q0
  have hh1 : ownAt ρ i = some ws := by simp only [ownAt, g1, g2]
  have hh2 : oneBy [.by i, .pl x0, .pl x1] = true := rfl
  simp only [fCallE, fCall, aBy, hh1, aCons, aNil, h0 _ e0, h1 _ e1, hh2, toPV, hv _ _ (z, w) q1, setOuts, if_true, g1, hE]
theorem ev_call3 {f0 : D1} {f1 : D1} {f2 : D1} {o0 : Option PyData} {o1 : Option PyData} {o2 : Option PyData} {ρ1 : REnv} {ρ2 : REnv} {ρ3 : REnv} {v : PyData → PyData → PyData → Option PyData} (h0 : Ev f0 ρ ρ1 o0) (h1 : Ev f1 ρ1 ρ2 o1) (h2 : Ev f2 ρ2 ρ3 o2) (hv : ∀ x0 x1 x2 d, v x0 x1 x2 = some d → F [.pl x0, .pl x1, .pl x2] = some (.pl d, [none, none, none])) : Ev (fCallE F (aCons f0 (aCons f1 (aCons f2 aNil)))) ρ ρ3 (o0.bind fun x0 => o1.bind fun x1 => o2.bind fun x2 => v x0 x1 x2) := fun z h => by
  obtain ⟨x0, e0, q0⟩ := obind h
  obtain ⟨x1, e1, q1⟩ := obind q0
  obtain ⟨x2, e2, q2⟩ := obind q1
  simp only [fCallE, fCall, aCons, aNil, h0 _ e0, h1 _ e1, h2 _ e2, oneBy, toPV, hv _ _ _ _ q2, setOuts, if_true]
theorem ev_callX3 {f0 : D1} {f1 : D1} {f2 : D1} {o0 : Option PyData} {o1 : Option PyData} {o2 : Option PyData} {ρ1 : REnv} {ρ2 : REnv} {ρ3 : REnv} {v : PyData → PyData → PyData → Option (List PyData)} (h0 : Ev f0 ρ ρ1 o0) (h1 : Ev f1 ρ1 ρ2 o1) (h2 : Ev f2 ρ2 ρ3 o2) (hv : ∀ x0 x1 x2 d, v x0 x1 x2 = some d → F [.pl x0, .pl x1, .pl x2] = some (.fr d, [none, none, none])) : Ev (fCallE F (aCons f0 (aCons f1 (aCons f2 aNil)))) ρ ρ3 (o0.bind fun x0 => o1.bind fun x1 => o2.bind fun x2 => (v x0 x1 x2).bind fun ds => some (.list ds)) := fun z h => by
  obtain ⟨x0, e0, q0⟩ := obind h
  obtain ⟨x1, e1, q1⟩ := obind q0
  obtain ⟨x2, e2, q2⟩ := obind q1
  obtain ⟨ds, e9, q9⟩ := obind q2
  cases q9
  simp only [fCallE, fCall, aCons, aNil, h0 _ e0, h1 _ e1, h2 _ e2, oneBy, toPV, hv _ _ _ _ e9, setOuts, if_true]
theorem ev_callF3 {f0 : D1} {f1 : D1} {f2 : D1} {o0 : Option PyData} {o1 : Option PyData} {o2 : Option PyData} {ρ1 : REnv} {ρ2 : REnv} {ρ3 : REnv} {v : PyData → PyData → PyData → Option (List PyData)} (h0 : Ev f0 ρ ρ1 o0) (h1 : Ev f1 ρ1 ρ2 o1) (h2 : Ev f2 ρ2 ρ3 o2) (hv : ∀ x0 x1 x2 d, v x0 x1 x2 = some d → F [.pl x0, .pl x1, .pl x2] = some (.fr d, [none, none, none])) : Ev (fCallF F (aCons f0 (aCons f1 (aCons f2 aNil)))) ρ ρ3 (o0.bind fun x0 => o1.bind fun x1 => o2.bind fun x2 => v x0 x1 x2) := fun z h => by
  obtain ⟨x0, e0, q0⟩ := obind h
  obtain ⟨x1, e1, q1⟩ := obind q0
  obtain ⟨x2, e2, q2⟩ := obind q1
  simp [fCallF, aCons, aNil, h0 _ e0, h1 _ e1, h2 _ e2, isPl, toPV, hv _ _ _ _ q2]
theorem evs_call3 {f0 : D1} {f1 : D1} {f2 : D1} {o0 : Option PyData} {o1 : Option PyData} {o2 : Option PyData} {v : List PyData → PyData → PyData → PyData → Option (PyData × List PyData)} {i : Nat} {x : PV} {ws : List PyData} {E : List PyData → REnv} (h0 : Ev f0 ρ ρ o0) (h1 : Ev f1 ρ ρ o1) (h2 : Ev f2 ρ ρ o2) (hv : ∀ x0 x1 x2 p, v ws x0 x1 x2 = some p → F [.rf ws, .pl x0, .pl x1, .pl x2] = some (.pl p.1, [some p.2, none, none, none])) (g1 : ρ[i]? = some (some x) := by rfl) (g2 : x.lst? = some ws := by rfl) (hE : ∀ w, ρ.set i (some (x.put w)) = E w := by intro _; rfl) : EvS (fCallE F (aBy i (aCons f0 (aCons f1 (aCons f2 aNil))))) ρ (o0.bind fun x0 => o1.bind fun x1 => o2.bind fun x2 => v ws x0 x1 x2) E := fun z w h => by
  obtain ⟨x0, e0, q0⟩ := obind h
  obtain ⟨x1, e1, q1⟩ := obind q0
  obtain ⟨x2, e2, q2⟩ := obind q1
  have hh1 : ownAt ρ i = some ws := by simp only [ownAt, g1, g2]
  have hh2 : oneBy [.by i, .pl x0, .pl x1, .pl x2] = true := rfl
  simp only [fCallE, fCall, aBy, hh1, aCons, aNil, h0 _ e0, h1 _ e1, h2 _ e2, hh2, toPV, hv _ _ _ (z, w) q2, setOuts, if_true, g1, hE]
theorem ev_call4 {f0 : D1} {f1 : D1} {f2 : D1} {f3 : D1} {o0 : Option PyData} {o1 : Option PyData} {o2 : Option PyData} {o3 : Option PyData} {ρ1 : REnv} {ρ2 : REnv} {ρ3 : REnv} {ρ4 : REnv} {v : PyData → PyData → PyData → PyData → Option PyData} (h0 : Ev f0 ρ ρ1 o0) (h1 : Ev f1 ρ1 ρ2 o1) (h2 : Ev f2 ρ2 ρ3 o2) (h3 : Ev f3 ρ3 ρ4 o3) (hv : ∀ x0 x1 x2 x3 d, v x0 x1 x2 x3 = some d → F [.pl x0, .pl x1, .pl x2, .pl x3] = some (.pl d, [none, none, none, none])) : Ev (fCallE F (aCons f0 (aCons f1 (aCons f2 (aCons f3 aNil))))) ρ ρ4 (o0.bind fun x0 => o1.bind fun x1 => o2.bind fun x2 => o3.bind fun x3 => v x0 x1 x2 x3) := fun z h => by
  obtain ⟨x0, e0, q0⟩ := obind h
  obtain ⟨x1, e1, q1⟩ := obind q0
  obtain ⟨x2, e2, q2⟩ := obind q1
  obtain ⟨x3, e3, q3⟩ := obind q2
  simp only [fCallE, fCall, aCons, aNil, h0 _ e0, h1 _ e1, h2 _ e2, h3 _ e3, oneBy, toPV, hv _ _ _ _ _ q3, setOuts, if_true]
theorem ev_callX4 {f0 : D1} {f1 : D1} {f2 : D1} {f3 : D1} {o0 : Option PyData} {o1 : Option PyData} {o2 : Option PyData} {o3 : Option PyData} {ρ1 : REnv} {ρ2 : REnv} {ρ3 : REnv} {ρ4 : REnv} {v : PyData → PyData → PyData → PyData → Option (List PyData)} (h0 : Ev f0 ρ ρ1 o0) (h1 : Ev f1 ρ1 ρ2 o1) (h2 : Ev f2 ρ2 ρ3 o2) (h3 : Ev f3 ρ3 ρ4 o3) (hv : ∀ x0 x1 x2 x3 d, v x0 x1 x2 x3 = some d → F [.pl x0, .pl x1, .pl x2, .pl x3] = some (.fr d, [none, none, none, none])) : Ev (fCallE F (aCons f0 (aCons f1 (aCons f2 (aCons f3 aNil))))) ρ ρ4 (o0.bind fun x0 => o1.bind fun x1 => o2.bind fun x2 => o3.bind fun x3 => (v x0 x1 x2 x3).bind fun ds => some (.list ds)) := fun z h => by
  obtain ⟨x0, e0, q0⟩ := obind h
  obtain ⟨x1, e1, q1⟩ := obind q0
  obtain ⟨x2, e2, q2⟩ := obind q1
  obtain ⟨x3, e3, q3⟩ := obind q2
  obtain ⟨ds, e9, q9⟩ := obind q3
  cases q9
  simp only [fCallE, fCall, aCons, aNil, h0 _ e0, h1 _ e1, h2 _ e2, h3 _ e3, oneBy, toPV, hv _ _ _ _ _ e9, setOuts, if_true]
theorem ev_callF4 {f0 : D1} {f1 : D1} {f2 : D1} {f3 : D1} {o0 : Option PyData} {o1 : Option PyData} {o2 : Option PyData} {o3 : Option PyData} {ρ1 : REnv} {ρ2 : REnv} {ρ3 : REnv} {ρ4 : REnv} {v : PyData → PyData → PyData → PyData → Option (List PyData)} (h0 : Ev f0 ρ ρ1 o0) (h1 : Ev f1 ρ1 ρ2 o1) (h2 : Ev f2 ρ2 ρ3 o2) (h3 : Ev f3 ρ3 ρ4 o3) (hv : ∀ x0 x1 x2 x3 d, v x0 x1 x2 x3 = some d → F [.pl x0, .pl x1, .pl x2, .pl x3] = some (.fr d, [none, none, none, none])) : Ev (fCallF F (aCons f0 (aCons f1 (aCons f2 (aCons f3 aNil))))) ρ ρ4 (o0.bind fun x0 => o1.bind fun x1 => o2.bind fun x2 => o3.bind fun x3 => v x0 x1 x2 x3) := fun z h => by
  obtain ⟨x0, e0, q0⟩ := obind h
  obtain ⟨x1, e1, q1⟩ := obind q0
  obtain ⟨x2, e2, q2⟩ := obind q1
  obtain ⟨x3, e3, q3⟩ := obind q2
  simp [fCallF, aCons, aNil, h0 _ e0, h1 _ e1, h2 _ e2, h3 _ e3, isPl, toPV, hv _ _ _ _ _ q3]
theorem evs_call4 {f0 : D1} {f1 : D1} {f2 : D1} {f3 : D1} {o0 : Option PyData} {o1 : Option PyData} {o2 : Option PyData} {o3 : Option PyData} {v : List PyData → PyData → PyData → PyData → PyData → Option (PyData × List PyData)} {i : Nat} {x : PV} {ws : List PyData} {E : List PyData → REnv} (h0 : Ev f0 ρ ρ o0) (h1 : Ev f1 ρ ρ o1) (h2 : Ev f2 ρ ρ o2) (h3 : Ev f3 ρ ρ o3) (hv : ∀ x0 x1 x2 x3 p, v ws x0 x1 x2 x3 = some p → F [.rf ws, .pl x0, .pl x1, .pl x2, .pl x3] = some (.pl p.1, [some p.2, none, none, none, none])) (g1 : ρ[i]? = some (some x) := by rfl) (g2 : x.lst? = some ws := by rfl) (hE : ∀ w, ρ.set i (some (x.put w)) = E w := by intro _; rfl) : EvS (fCallE F (aBy i (aCons f0 (aCons f1 (aCons f2 (aCons f3 aNil)))))) ρ (o0.bind fun x0 => o1.bind fun x1 => o2.bind fun x2 => o3.bind fun x3 => v ws x0 x1 x2 x3) E := fun z w h => by
  obtain ⟨x0, e0, q0⟩ := obind h
  obtain ⟨x1, e1, q1⟩ := obind q0
  obtain ⟨x2, e2, q2⟩ := obind q1
  obtain ⟨x3, e3, q3⟩ := obind q2
  have hh1 : ownAt ρ i = some ws := by simp only [ownAt, g1, g2]
  have hh2 : oneBy [.by i, .pl x0, .pl x1, .pl x2, .pl x3] = true := rfl
  simp only [fCallE, fCall, aBy, hh1, aCons, aNil, h0 _ e0, h1 _ e1, h2 _ e2, h3 _ e3, hh2, toPV, hv _ _ _ _ (z, w) q3, setOuts, if_true, g1, hE]
theorem ev_call5 {f0 : D1} {f1 : D1} {f2 : D1} {f3 : D1} {f4 : D1} {o0 : Option PyData} {o1 : Option PyData} {o2 : Option PyData} {o3 : Option PyData} {o4 : Option PyData} {ρ1 : REnv} {ρ2 : REnv} {ρ3 : REnv} {ρ4 : REnv} {ρ5 : REnv} {v : PyData → PyData → PyData → PyData → PyData → Option PyData} (h0 : Ev f0 ρ ρ1 o0) (h1 : Ev f1 ρ1 ρ2 o1) (h2 : Ev f2 ρ2 ρ3 o2) (h3 : Ev f3 ρ3 ρ4 o3) (h4 : Ev f4 ρ4 ρ5 o4) (hv : ∀ x0 x1 x2 x3 x4 d, v x0 x1 x2 x3 x4 = some d → F [.pl x0, .pl x1, .pl x2, .pl x3, .pl x4] = some (.pl d, [none, none, none, none, none])) : Ev (fCallE F (aCons f0 (aCons f1 (aCons f2 (aCons f3 (aCons f4 aNil)))))) ρ ρ5 (o0.bind fun x0 => o1.bind fun x1 => o2.bind fun x2 => o3.bind fun x3 => o4.bind fun x4 => v x0 x1 x2 x3 x4) := fun z h => by
  obtain ⟨x0, e0, q0⟩ := obind h
  obtain ⟨x1, e1, q1⟩ := obind q0
  obtain ⟨x2, e2, q2⟩ := obind q1
  obtain ⟨x3, e3, q3⟩ := obind q2
  obtain ⟨x4, e4, q4⟩ := obind q3
  simp only [fCallE, fCall, aCons, aNil, h0 _ e0, h1 _ e1, h2 _ e2, h3 _ e3, h4 _ e4, oneBy, toPV, hv _ _ _ _ _ _ q4, setOuts, if_true]
theorem ev_callX5 {f0 : D1} {f1 : D1} {f2 : D1} {f3 : D1} {f4 : D1} {o0 : Option PyData} {o1 : Option PyData} {o2 : Option PyData} {o3 : Option PyData} {o4 : Option PyData} {ρ1 : REnv} {ρ2 : REnv} {ρ3 : REnv} {ρ4 : REnv} {ρ5 : REnv} {v : PyData → PyData → PyData → PyData → PyData → Option (List PyData)} (h0 : Ev f0 ρ ρ1 o0) (h1 : Ev f1 ρ1 ρ2 o1) (h2 : Ev f2 ρ2 ρ3 o2) (h3 : Ev f3 ρ3 ρ4 o3) (h4 : Ev f4 ρ4 ρ5 o4) (hv : ∀ x0 x1 x2 x3 x4 d, v x0 x1 x2 x3 x4 = some d → F [.pl x0, .pl x1, .pl x2, .pl x3, .pl x4] = some (.fr d, [none, none, none, none, none])) : Ev (fCallE F (aCons f0 (aCons f1 (aCons f2 (aCons f3 (aCons f4 aNil)))))) ρ ρ5 (o0.bind fun x0 => o1.bind fun x1 => o2.bind fun x2 => o3.bind fun x3 => o4.bind fun x4 => (v x0 x1 x2 x3 x4).bind fun ds => some (.list ds)) := fun z h => by
  obtain ⟨x0, e0, q0⟩ := obind h
  obtain ⟨x1, e1, q1⟩ := obind q0
  obtain ⟨x2, e2, q2⟩ := obind q1
  obtain ⟨x3, e3, q3⟩ := obind q2
  obtain ⟨x4, e4, q4⟩ := obind q3
  obtain ⟨ds, e9, q9⟩ := obind q4
  cases q9
  simp only [fCallE, fCall, aCons, aNil, h0 _ e0, h1 _ e1, h2 _ e2, h3 _ e3, h4 _ e4, oneBy, toPV, hv _ _ _ _ _ _ e9, setOuts, if_true]
theorem ev_callF5 {f0 : D1} {f1 : D1} {f2 : D1} {f3 : D1} {f4 : D1} {o0 : Option PyData} {o1 : Option PyData} {o2 : Option PyData} {o3 : Option PyData} {o4 : Option PyData} {ρ1 : REnv} {ρ2 : REnv} {ρ3 : REnv} {ρ4 : REnv} {ρ5 : REnv} {v : PyData → PyData → PyData → PyData → PyData → Option (List PyData)} (h0 : Ev f0 ρ ρ1 o0) (h1 : Ev f1 ρ1 ρ2 o1) (h2 : Ev f2 ρ2 ρ3 o2) (h3 : Ev f3 ρ3 ρ4 o3) (h4 : Ev f4 ρ4 ρ5 o4) (hv : ∀ x0 x1 x2 x3 x4 d, v x0 x1 x2 x3 x4 = some d → F [.pl x0, .pl x1, .pl x2, .pl x3, .pl x4] = some (.fr d, [none, none, none, none, none])) : Ev (fCallF F (aCons f0 (aCons f1 (aCons f2 (aCons f3 (aCons f4 aNil)))))) ρ ρ5 (o0.bind fun x0 => o1.bind fun x1 => o2.bind fun x2 => o3.bind fun x3 => o4.bind fun x4 => v x0 x1 x2 x3 x4) := fun z h => by
  obtain ⟨x0, e0, q0⟩ := obind h
  obtain ⟨x1, e1, q1⟩ := obind q0
  obtain ⟨x2, e2, q2⟩ := obind q1
  obtain ⟨x3, e3, q3⟩ := obind q2
  obtain ⟨x4, e4, q4⟩ := obind q3
  simp [fCallF, aCons, aNil, h0 _ e0, h1 _ e1, h2 _ e2, h3 _ e3, h4 _ e4, isPl, toPV, hv _ _ _ _ _ _ q4]
theorem evs_call5 {f0 : D1} {f1 : D1} {f2 : D1} {f3 : D1} {f4 : D1} {o0 : Option PyData} {o1 : Option PyData} {o2 : Option PyData} {o3 : Option PyData} {o4 : Option PyData} {v : List PyData → PyData → PyData → PyData → PyData → PyData → Option (PyData × List PyData)} {i : Nat} {x : PV} {ws : List PyData} {E : List PyData → REnv} (h0 : Ev f0 ρ ρ o0) (h1 : Ev f1 ρ ρ o1) (h2 : Ev f2 ρ ρ o2) (h3 : Ev f3 ρ ρ o3) (h4 : Ev f4 ρ ρ o4) (hv : ∀ x0 x1 x2 x3 x4 p, v ws x0 x1 x2 x3 x4 = some p → F [.rf ws, .pl x0, .pl x1, .pl x2, .pl x3, .pl x4] = some (.pl p.1, [some p.2, none, none, none, none, none])) (g1 : ρ[i]? = some (some x) := by rfl) (g2 : x.lst? = some ws := by rfl) (hE : ∀ w, ρ.set i (some (x.put w)) = E w := by intro _; rfl) : EvS (fCallE F (aBy i (aCons f0 (aCons f1 (aCons f2 (aCons f3 (aCons f4 aNil))))))) ρ (o0.bind fun x0 => o1.bind fun x1 => o2.bind fun x2 => o3.bind fun x3 => o4.bind fun x4 => v ws x0 x1 x2 x3 x4) E := fun z w h => by
  obtain ⟨x0, e0, q0⟩ := obind h
  obtain ⟨x1, e1, q1⟩ := obind q0
  obtain ⟨x2, e2, q2⟩ := obind q1
  obtain ⟨x3, e3, q3⟩ := obind q2
  obtain ⟨x4, e4, q4⟩ := obind q3
  have hh1 : ownAt ρ i = some ws := by simp only [ownAt, g1, g2]
  have hh2 : oneBy [.by i, .pl x0, .pl x1, .pl x2, .pl x3, .pl x4] = true := rfl
  simp only [fCallE, fCall, aBy, hh1, aCons, aNil, h0 _ e0, h1 _ e1, h2 _ e2, h3 _ e3, h4 _ e4, hh2, toPV, hv _ _ _ _ _ (z, w) q4, setOuts, if_true, g1, hE]
theorem ev_call6 {f0 : D1} {f1 : D1} {f2 : D1} {f3 : D1} {f4 : D1} {f5 : D1} {o0 : Option PyData} {o1 : Option PyData} {o2 : Option PyData} {o3 : Option PyData} {o4 : Option PyData} {o5 : Option PyData} {ρ1 : REnv} {ρ2 : REnv} {ρ3 : REnv} {ρ4 : REnv} {ρ5 : REnv} {ρ6 : REnv} {v : PyData → PyData → PyData → PyData → PyData → PyData → Option PyData} (h0 : Ev f0 ρ ρ1 o0) (h1 : Ev f1 ρ1 ρ2 o1) (h2 : Ev f2 ρ2 ρ3 o2) (h3 : Ev f3 ρ3 ρ4 o3) (h4 : Ev f4 ρ4 ρ5 o4) (h5 : Ev f5 ρ5 ρ6 o5) (hv : ∀ x0 x1 x2 x3 x4 x5 d, v x0 x1 x2 x3 x4 x5 = some d → F [.pl x0, .pl x1, .pl x2, .pl x3, .pl x4, .pl x5] = some (.pl d, [none, none, none, none, none, none])) : Ev (fCallE F (aCons f0 (aCons f1 (aCons f2 (aCons f3 (aCons f4 (aCons f5 aNil))))))) ρ ρ6 (o0.bind fun x0 => o1.bind fun x1 => o2.bind fun x2 => o3.bind fun x3 => o4.bind fun x4 => o5.bind fun x5 => v x0 x1 x2 x3 x4 x5) := fun z h => by
  obtain ⟨x0, e0, q0⟩ := obind h
  obtain ⟨x1, e1, q1⟩ := obind q0
  obtain ⟨x2, e2, q2⟩ := obind q1
  obtain ⟨x3, e3, q3⟩ := obind q2
  obtain ⟨x4, e4, q4⟩ := obind q3
  obtain ⟨x5, e5, q5⟩ := obind q4
  simp only [fCallE, fCall, aCons, aNil, h0 _ e0, h1 _ e1, h2 _ e2, h3 _ e3, h4 _ e4, h5 _ e5, oneBy, toPV, hv _ _ _ _ _ _ _ q5, setOuts, if_true]
theorem ev_callX6 {f0 : D1} {f1 : D1} {f2 : D1} {f3 : D1} {f4 : D1} {f5 : D1} {o0 : Option PyData} {o1 : Option PyData} {o2 : Option PyData} {o3 : Option PyData} {o4 : Option PyData} {o5 : Option PyData} {ρ1 : REnv} {ρ2 : REnv} {ρ3 : REnv} {ρ4 : REnv} {ρ5 : REnv} {ρ6 : REnv} {v : PyData → PyData → PyData → PyData → PyData → PyData → Option (List PyData)} (h0 : Ev f0 ρ ρ1 o0) (h1 : Ev f1 ρ1 ρ2 o1) (h2 : Ev f2 ρ2 ρ3 o2) (h3 : Ev f3 ρ3 ρ4 o3) (h4 : Ev f4 ρ4 ρ5 o4) (h5 : Ev f5 ρ5 ρ6 o5) (hv : ∀ x0 x1 x2 x3 x4 x5 d, v x0 x1 x2 x3 x4 x5 = some d → F [.pl x0, .pl x1, .pl x2, .pl x3, .pl x4, .pl x5] = some (.fr d, [none, none, none, none, none, none])) : Ev (fCallE F (aCons f0 (aCons f1 (aCons f2 (aCons f3 (aCons f4 (aCons f5 aNil))))))) ρ ρ6 (o0.bind fun x0 => o1.bind fun x1 => o2.bind fun x2 => o3.bind fun x3 => o4.bind fun x4 => o5.bind fun x5 => (v x0 x1 x2 x3 x4 x5).bind fun ds => some (.list ds)) := fun z h => by
  obtain ⟨x0, e0, q0⟩ := obind h
  obtain ⟨x1, e1, q1⟩ := obind q0
  obtain ⟨x2, e2, q2⟩ := obind q1
  obtain ⟨x3, e3, q3⟩ := obind q2
  obtain ⟨x4, e4, q4⟩ := obind q3
  obtain ⟨x5, e5, q5⟩ := obind q4
  obtain ⟨ds, e9, q9⟩ := obind q5
  cases q9
  simp only [fCallE, fCall, aCons, aNil, h0 _ e0, h1 _ e1, h2 _ e2, h3 _ e3, h4 _ e4, h5 _ e5, oneBy, toPV, hv _ _ _ _ _ _ _ e9, setOuts, if_true]
theorem ev_callF6 {f0 : D1} {f1 : D1} {f2 : D1} {f3 : D1} {f4 : D1} {f5 : D1} {o0 : Option PyData} {o1 : Option PyData} {o2 : Option PyData} {o3 : Option PyData} {o4 : Option PyData} {o5 : Option PyData} {ρ1 : REnv} {ρ2 : REnv} {ρ3 : REnv} {ρ4 : REnv} {ρ5 : REnv} {ρ6 : REnv} {v : PyData → PyData → PyData → PyData → PyData → PyData → Option (List PyData)} (h0 : Ev f0 ρ ρ1 o0) (h1 : Ev f1 ρ1 ρ2 o1) (h2 : Ev f2 ρ2 ρ3 o2) (h3 : Ev f3 ρ3 ρ4 o3) (h4 : Ev f4 ρ4 ρ5 o4) (h5 : Ev f5 ρ5 ρ6 o5) (hv : ∀ x0 x1 x2 x3 x4 x5 d, v x0 x1 x2 x3 x4 x5 = some d → F [.pl x0, .pl x1, .pl x2, .pl x3, .pl x4, .pl x5] = some (.fr d, [none, none, none, none, none, none])) : Ev (fCallF F (aCons f0 (aCons f1 (aCons f2 (aCons f3 (aCons f4 (aCons f5 aNil))))))) ρ ρ6 (o0.bind fun x0 => o1.bind fun x1 => o2.bind fun x2 => o3.bind fun x3 => o4.bind fun x4 => o5.bind fun x5 => v x0 x1 x2 x3 x4 x5) := fun z h => by
  obtain ⟨x0, e0, q0⟩ := obind h
  obtain ⟨x1, e1, q1⟩ := obind q0
  obtain ⟨x2, e2, q2⟩ := obind q1
  obtain ⟨x3, e3, q3⟩ := obind q2
  obtain ⟨x4, e4, q4⟩ := obind q3
  obtain ⟨x5, e5, q5⟩ := obind q4
  simp [fCallF, aCons, aNil, h0 _ e0, h1 _ e1, h2 _ e2, h3 _ e3, h4 _ e4, h5 _ e5, isPl, toPV, hv _ _ _ _ _ _ _ q5]
theorem evs_call6 {f0 : D1} {f1 : D1} {f2 : D1} {f3 : D1} {f4 : D1} {f5 : D1} {o0 : Option PyData} {o1 : Option PyData} {o2 : Option PyData} {o3 : Option PyData} {o4 : Option PyData} {o5 : Option PyData} {v : List PyData → PyData → PyData → PyData → PyData → PyData → PyData → Option (PyData × List PyData)} {i : Nat} {x : PV} {ws : List PyData} {E : List PyData → REnv} (h0 : Ev f0 ρ ρ o0) (h1 : Ev f1 ρ ρ o1) (h2 : Ev f2 ρ ρ o2) (h3 : Ev f3 ρ ρ o3) (h4 : Ev f4 ρ ρ o4) (h5 : Ev f5 ρ ρ o5) (hv : ∀ x0 x1 x2 x3 x4 x5 p, v ws x0 x1 x2 x3 x4 x5 = some p → F [.rf ws, .pl x0, .pl x1, .pl x2, .pl x3, .pl x4, .pl x5] = some (.pl p.1, [some p.2, none, none, none, none, none, none])) (g1 : ρ[i]? = some (some x) := by rfl) (g2 : x.lst? = some ws := by rfl) (hE : ∀ w, ρ.set i (some (x.put w)) = E w := by intro _; rfl) : EvS (fCallE F (aBy i (aCons f0 (aCons f1 (aCons f2 (aCons f3 (aCons f4 (aCons f5 aNil)))))))) ρ (o0.bind fun x0 => o1.bind fun x1 => o2.bind fun x2 => o3.bind fun x3 => o4.bind fun x4 => o5.bind fun x5 => v ws x0 x1 x2 x3 x4 x5) E := fun z w h => by
  obtain ⟨x0, e0, q0⟩ := obind h
  obtain ⟨x1, e1, q1⟩ := obind q0
  obtain ⟨x2, e2, q2⟩ := obind q1
  obtain ⟨x3, e3, q3⟩ := obind q2
  obtain ⟨x4, e4, q4⟩ := obind q3
  obtain ⟨x5, e5, q5⟩ := obind q4
  have hh1 : ownAt ρ i = some ws := by simp only [ownAt, g1, g2]
  have hh2 : oneBy [.by i, .pl x0, .pl x1, .pl x2, .pl x3, .pl x4, .pl x5] = true := rfl
  simp only [fCallE, fCall, aBy, hh1, aCons, aNil, h0 _ e0, h1 _ e1, h2 _ e2, h3 _ e3, h4 _ e4, h5 _ e5, hh2, toPV, hv _ _ _ _ _ _ (z, w) q5, setOuts, if_true, g1, hE]
theorem ev_call7 {f0 : D1} {f1 : D1} {f2 : D1} {f3 : D1} {f4 : D1} {f5 : D1} {f6 : D1} {o0 : Option PyData} {o1 : Option PyData} {o2 : Option PyData} {o3 : Option PyData} {o4 : Option PyData} {o5 : Option PyData} {o6 : Option PyData} {ρ1 : REnv} {ρ2 : REnv} {ρ3 : REnv} {ρ4 : REnv} {ρ5 : REnv} {ρ6 : REnv} {ρ7 : REnv} {v : PyData → PyData → PyData → PyData → PyData → PyData → PyData → Option PyData} (h0 : Ev f0 ρ ρ1 o0) (h1 : Ev f1 ρ1 ρ2 o1) (h2 : Ev f2 ρ2 ρ3 o2) (h3 : Ev f3 ρ3 ρ4 o3) (h4 : Ev f4 ρ4 ρ5 o4) (h5 : Ev f5 ρ5 ρ6 o5) (h6 : Ev f6 ρ6 ρ7 o6) (hv : ∀ x0 x1 x2 x3 x4 x5 x6 d, v x0 x1 x2 x3 x4 x5 x6 = some d → F [.pl x0, .pl x1, .pl x2, .pl x3, .pl x4, .pl x5, .pl x6] = some (.pl d, [none, none, none, none, none, none, none])) : Ev (fCallE F (aCons f0 (aCons f1 (aCons f2 (aCons f3 (aCons f4 (aCons f5 (aCons f6 aNil)))))))) ρ ρ7 (o0.bind fun x0 => o1.bind fun x1 => o2.bind fun x2 => o3.bind fun x3 => o4.bind fun x4 => o5.bind fun x5 => o6.bind fun x6 => v x0 x1 x2 x3 x4 x5 x6) := fun z h => by
  obtain ⟨x0, e0, q0⟩ := obind h
  obtain ⟨x1, e1, q1⟩ := obind q0
  obtain ⟨x2, e2, q2⟩ := obind q1
  obtain ⟨x3, e3, q3⟩ := obind q2
  obtain ⟨x4, e4, q4⟩ := obind q3
  obtain ⟨x5, e5, q5⟩ := obind q4
  obtain ⟨x6, e6, q6⟩ := obind q5
  simp only [fCallE, fCall, aCons, aNil, h0 _ e0, h1 _ e1, h2 _ e2, h3 _ e3, h4 _ e4, h5 _ e5, h6 _ e6, oneBy, toPV, hv _ _ _ _ _ _ _ _ q6, setOuts, if_true]
theorem ev_callX7 {f0 : D1} {f1 : D1} {f2 : D1} {f3 : D1} {f4 : D1} {f5 : D1} {f6 : D1} {o0 : Option PyData} {o1 : Option PyData} {o2 : Option PyData} {o3 : Option PyData} {o4 : Option PyData} {o5 : Option PyData} {o6 : Option PyData} {ρ1 : REnv} {ρ2 : REnv} {ρ3 : REnv} {ρ4 : REnv} {ρ5 : REnv} {ρ6 : REnv} {ρ7 : REnv} {v : PyData → PyData → PyData → PyData → PyData → PyData → PyData → Option (List PyData)} (h0 : Ev f0 ρ ρ1 o0) (h1 : Ev f1 ρ1 ρ2 o1) (h2 : Ev f2 ρ2 ρ3 o2) (h3 : Ev f3 ρ3 ρ4 o3) (h4 : Ev f4 ρ4 ρ5 o4) (h5 : Ev f5 ρ5 ρ6 o5) (h6 : Ev f6 ρ6 ρ7 o6) (hv : ∀ x0 x1 x2 x3 x4 x5 x6 d, v x0 x1 x2 x3 x4 x5 x6 = some d → F [.pl x0, .pl x1, .pl x2, .pl x3, .pl x4, .pl x5, .pl x6] = some (.fr d, [none, none, none, none, none, none, none])) : Ev (fCallE F (aCons f0 (aCons f1 (aCons f2 (aCons f3 (aCons f4 (aCons f5 (aCons f6 aNil)))))))) ρ ρ7 (o0.bind fun x0 => o1.bind fun x1 => o2.bind fun x2 => o3.bind fun x3 => o4.bind fun x4 => o5.bind fun x5 => o6.bind fun x6 => (v x0 x1 x2 x3 x4 x5 x6).bind fun ds => some (.list ds)) := fun z h => by
  obtain ⟨x0, e0, q0⟩ := obind h
  obtain ⟨x1, e1, q1⟩ := obind q0
  obtain ⟨x2, e2, q2⟩ := obind q1
  obtain ⟨x3, e3, q3⟩ := obind q2
  obtain ⟨x4, e4, q4⟩ := obind q3
  obtain ⟨x5, e5, q5⟩ := obind q4
  obtain ⟨x6, e6, q6⟩ := obind q5
  obtain ⟨ds, e9, q9⟩ := obind q6
  cases q9
  simp only [fCallE, fCall, aCons, aNil, h0 _ e0, h1 _ e1, h2 _ e2, h3 _ e3, h4 _ e4, h5 _ e5, h6 _ e6, oneBy, toPV, hv _ _ _ _ _ _ _ _ e9, setOuts, if_true]
theorem ev_callF7 {f0 : D1} {f1 : D1} {f2 : D1} {f3 : D1} {f4 : D1} {f5 : D1} {f6 : D1} {o0 : Option PyData} {o1 : Option PyData} {o2 : Option PyData} {o3 : Option PyData} {o4 : Option PyData} {o5 : Option PyData} {o6 : Option PyData} {ρ1 : REnv} {ρ2 : REnv} {ρ3 : REnv} {ρ4 : REnv} {ρ5 : REnv} {ρ6 : REnv} {ρ7 : REnv} {v : PyData → PyData → PyData → PyData → PyData → PyData → PyData → Option (List PyData)} (h0 : Ev f0 ρ ρ1 o0) (h1 : Ev f1 ρ1 ρ2 o1) (h2 : Ev f2 ρ2 ρ3 o2) (h3 : Ev f3 ρ3 ρ4 o3) (h4 : Ev f4 ρ4 ρ5 o4) (h5 : Ev f5 ρ5 ρ6 o5) (h6 : Ev f6 ρ6 ρ7 o6) (hv : ∀ x0 x1 x2 x3 x4 x5 x6 d, v x0 x1 x2 x3 x4 x5 x6 = some d → F [.pl x0, .pl x1, .pl x2, .pl x3, .pl x4, .pl x5, .pl x6] = some (.fr d, [none, none, none, none, none, none, none])) : Ev (fCallF F (aCons f0 (aCons f1 (aCons f2 (aCons f3 (aCons f4 (aCons f5 (aCons f6 aNil)))))))) ρ ρ7 (o0.bind fun x0 => o1.bind fun x1 => o2.bind fun x2 => o3.bind fun x3 => o4.bind fun x4 => o5.bind fun x5 => o6.bind fun x6 => v x0 x1 x2 x3 x4 x5 x6) := fun z h => by
  obtain ⟨x0, e0, q0⟩ := obind h
  obtain ⟨x1, e1, q1⟩ := obind q0
  obtain ⟨x2, e2, q2⟩ := obind q1
  obtain ⟨x3, e3, q3⟩ := obind q2
  obtain ⟨x4, e4, q4⟩ := obind q3
  obtain ⟨x5, e5, q5⟩ := obind q4
  obtain ⟨x6, e6, q6⟩ := obind q5
  simp [fCallF, aCons, aNil, h0 _ e0, h1 _ e1, h2 _ e2, h3 _ e3, h4 _ e4, h5 _ e5, h6 _ e6, isPl, toPV, hv _ _ _ _ _ _ _ _ q6]
theorem evs_call7 {f0 : D1} {f1 : D1} {f2 : D1} {f3 : D1} {f4 : D1} {f5 : D1} {f6 : D1} {o0 : Option PyData} {o1 : Option PyData} {o2 : Option PyData} {o3 : Option PyData} {o4 : Option PyData} {o5 : Option PyData} {o6 : Option PyData} {v : List PyData → PyData → PyData → PyData → PyData → PyData → PyData → PyData → Option (PyData × List PyData)} {i : Nat} {x : PV} {ws : List PyData} {E : List PyData → REnv} (h0 : Ev f0 ρ ρ o0) (h1 : Ev f1 ρ ρ o1) (h2 : Ev f2 ρ ρ o2) (h3 : Ev f3 ρ ρ o3) (h4 : Ev f4 ρ ρ o4) (h5 : Ev f5 ρ ρ o5) (h6 : Ev f6 ρ ρ o6) (hv : ∀ x0 x1 x2 x3 x4 x5 x6 p, v ws x0 x1 x2 x3 x4 x5 x6 = some p → F [.rf ws, .pl x0, .pl x1, .pl x2, .pl x3, .pl x4, .pl x5, .pl x6] = some (.pl p.1, [some p.2, none, none, none, none, none, none, none])) (g1 : ρ[i]? = some (some x) := by rfl) (g2 : x.lst? = some ws := by rfl) (hE : ∀ w, ρ.set i (some (x.put w)) = E w := by intro _; rfl) : EvS (fCallE F (aBy i (aCons f0 (aCons f1 (aCons f2 (aCons f3 (aCons f4 (aCons f5 (aCons f6 aNil))))))))) ρ (o0.bind fun x0 => o1.bind fun x1 => o2.bind fun x2 => o3.bind fun x3 => o4.bind fun x4 => o5.bind fun x5 => o6.bind fun x6 => v ws x0 x1 x2 x3 x4 x5 x6) E := fun z w h => by
  obtain ⟨x0, e0, q0⟩ := obind h
  obtain ⟨x1, e1, q1⟩ := obind q0
  obtain ⟨x2, e2, q2⟩ := obind q1
  obtain ⟨x3, e3, q3⟩ := obind q2
  obtain ⟨x4, e4, q4⟩ := obind q3
  obtain ⟨x5, e5, q5⟩ := obind q4
  obtain ⟨x6, e6, q6⟩ := obind q5
  have hh1 : ownAt ρ i = some ws := by simp only [ownAt, g1, g2]
  have hh2 : oneBy [.by i, .pl x0, .pl x1, .pl x2, .pl x3, .pl x4, .pl x5, .pl x6] = true := rfl
  simp only [fCallE, fCall, aBy, hh1, aCons, aNil, h0 _ e0, h1 _ e1, h2 _ e2, h3 _ e3, h4 _ e4, h5 _ e5, h6 _ e6, hh2, toPV, hv _ _ _ _ _ _ _ (z, w) q6, setOuts, if_true, g1, hE]
theorem ev_call8 {f0 : D1} {f1 : D1} {f2 : D1} {f3 : D1} {f4 : D1} {f5 : D1} {f6 : D1} {f7 : D1} {o0 : Option PyData} {o1 : Option PyData} {o2 : Option PyData} {o3 : Option PyData} {o4 : Option PyData} {o5 : Option PyData} {o6 : Option PyData} {o7 : Option PyData} {ρ1 : REnv} {ρ2 : REnv} {ρ3 : REnv} {ρ4 : REnv} {ρ5 : REnv} {ρ6 : REnv} {ρ7 : REnv} {ρ8 : REnv} {v : PyData → PyData → PyData → PyData → PyData → PyData → PyData → PyData → Option PyData} (h0 : Ev f0 ρ ρ1 o0) (h1 : Ev f1 ρ1 ρ2 o1) (h2 : Ev f2 ρ2 ρ3 o2) (h3 : Ev f3 ρ3 ρ4 o3) (h4 : Ev f4 ρ4 ρ5 o4) (h5 : Ev f5 ρ5 ρ6 o5) (h6 : Ev f6 ρ6 ρ7 o6) (h7 : Ev f7 ρ7 ρ8 o7) (hv : ∀ x0 x1 x2 x3 x4 x5 x6 x7 d, v x0 x1 x2 x3 x4 x5 x6 x7 = some d → F [.pl x0, .pl x1, .pl x2, .pl x3, .pl x4, .pl x5, .pl x6, .pl x7] = some (.pl d, [none, none, none, none, none, none, none, none])) : Ev (fCallE F (aCons f0 (aCons f1 (aCons f2 (aCons f3 (aCons f4 (aCons f5 (aCons f6 (aCons f7 aNil))))))))) ρ ρ8 (o0.bind fun x0 => o1.bind fun x1 => o2.bind fun x2 => o3.bind fun x3 => o4.bind fun x4 => o5.bind fun x5 => o6.bind fun x6 => o7.bind fun x7 => v x0 x1 x2 x3 x4 x5 x6 x7) := fun z h => by
  obtain ⟨x0, e0, q0⟩ := obind h
  obtain ⟨x1, e1, q1⟩ := obind q0
  obtain ⟨x2, e2, q2⟩ := obind q1
  obtain ⟨x3, e3, q3⟩ := obind q2
  obtain ⟨x4, e4, q4⟩ := obind q3
  obtain ⟨x5, e5, q5⟩ := obind q4
  obtain ⟨x6, e6, q6⟩ := obind q5
  obtain ⟨x7, e7, q7⟩ := obind q6
  simp only [fCallE, fCall, aCons, aNil, h0 _ e0, h1 _ e1, h2 _ e2, h3 _ e3, h4 _ e4, h5 _ e5, h6 _ e6, h7 _ e7, oneBy, toPV, hv _ _ _ _ _ _ _ _ _ q7, setOuts, if_true]
theorem ev_callX8 {f0 : D1} {f1 : D1} {f2 : D1} {f3 : D1} {f4 : D1} {f5 : D1} {f6 : D1} {f7 : D1} {o0 : Option PyData} {o1 : Option PyData} {o2 : Option PyData} {o3 : Option PyData} {o4 : Option PyData} {o5 : Option PyData} {o6 : Option PyData} {o7 : Option PyData} {ρ1 : REnv} {ρ2 : REnv} {ρ3 : REnv} {ρ4 : REnv} {ρ5 : REnv} {ρ6 : REnv} {ρ7 : REnv} {ρ8 : REnv} {v : PyData → PyData → PyData → PyData → PyData → PyData → PyData → PyData → Option (List PyData)} (h0 : Ev f0 ρ ρ1 o0) (h1 : Ev f1 ρ1 ρ2 o1) (h2 : Ev f2 ρ2 ρ3 o2) (h3 : Ev f3 ρ3 ρ4 o3) (h4 : Ev f4 ρ4 ρ5 o4) (h5 : Ev f5 ρ5 ρ6 o5) (h6 : Ev f6 ρ6 ρ7 o6) (h7 : Ev f7 ρ7 ρ8 o7) (hv : ∀ x0 x1 x2 x3 x4 x5 x6 x7 d, v x0 x1 x2 x3 x4 x5 x6 x7 = some d → F [.pl x0, .pl x1, .pl x2, .pl x3, .pl x4, .pl x5, .pl x6, .pl x7] = some (.fr d, [none, none, none, none, none, none, none, none])) : Ev (fCallE F (aCons f0 (aCons f1 (aCons f2 (aCons f3 (aCons f4 (aCons f5 (aCons f6 (aCons f7 aNil))))))))) ρ ρ8 (o0.bind fun x0 => o1.bind fun x1 => o2.bind fun x2 => o3.bind fun x3 => o4.bind fun x4 => o5.bind fun x5 => o6.bind fun x6 => o7.bind fun x7 => (v x0 x1 x2 x3 x4 x5 x6 x7).bind fun ds => some (.list ds)) := fun z h => by
  obtain ⟨x0, e0, q0⟩ := obind h
  obtain ⟨x1, e1, q1⟩ := obind q0
  obtain ⟨x2, e2, q2⟩ := obind q1
  obtain ⟨x3, e3, q3⟩ := obind q2
  obtain ⟨x4, e4, q4⟩ := obind q3
  obtain ⟨x5, e5, q5⟩ := obind q4
  obtain ⟨x6, e6, q6⟩ := obind q5
  obtain ⟨x7, e7, q7⟩ := obind q6
  obtain ⟨ds, e9, q9⟩ := obind q7
  cases q9
  simp only [fCallE, fCall, aCons, aNil, h0 _ e0, h1 _ e1, h2 _ e2, h3 _ e3, h4 _ e4, h5 _ e5, h6 _ e6, h7 _ e7, oneBy, toPV, hv _ _ _ _ _ _ _ _ _ e9, setOuts, if_true]
theorem ev_callF8 {f0 : D1} {f1 : D1} {f2 : D1} {f3 : D1} {f4 : D1} {f5 : D1} {f6 : D1} {f7 : D1} {o0 : Option PyData} {o1 : Option PyData} {o2 : Option PyData} {o3 : Option PyData} {o4 : Option PyData} {o5 : Option PyData} {o6 : Option PyData} {o7 : Option PyData} {ρ1 : REnv} {ρ2 : REnv} {ρ3 : REnv} {ρ4 : REnv} {ρ5 : REnv} {ρ6 : REnv} {ρ7 : REnv} {ρ8 : REnv} {v : PyData → PyData → PyData → PyData → PyData → PyData → PyData → PyData → Option (List PyData)} (h0 : Ev f0 ρ ρ1 o0) (h1 : Ev f1 ρ1 ρ2 o1) (h2 : Ev f2 ρ2 ρ3 o2) (h3 : Ev f3 ρ3 ρ4 o3) (h4 : Ev f4 ρ4 ρ5 o4) (h5 : Ev f5 ρ5 ρ6 o5) (h6 : Ev f6 ρ6 ρ7 o6) (h7 : Ev f7 ρ7 ρ8 o7) (hv : ∀ x0 x1 x2 x3 x4 x5 x6 x7 d, v x0 x1 x2 x3 x4 x5 x6 x7 = some d → F [.pl x0, .pl x1, .pl x2, .pl x3, .pl x4, .pl x5, .pl x6, .pl x7] = some (.fr d, [none, none, none, none, none, none, none, none])) : Ev (fCallF F (aCons f0 (aCons f1 (aCons f2 (aCons f3 (aCons f4 (aCons f5 (aCons f6 (aCons f7 aNil))))))))) ρ ρ8 (o0.bind fun x0 => o1.bind fun x1 => o2.bind fun x2 => o3.bind fun x3 => o4.bind fun x4 => o5.bind fun x5 => o6.bind fun x6 => o7.bind fun x7 => v x0 x1 x2 x3 x4 x5 x6 x7) := fun z h => by
  obtain ⟨x0, e0, q0⟩ := obind h
  obtain ⟨x1, e1, q1⟩ := obind q0
  obtain ⟨x2, e2, q2⟩ := obind q1
  obtain ⟨x3, e3, q3⟩ := obind q2
  obtain ⟨x4, e4, q4⟩ := obind q3
  obtain ⟨x5, e5, q5⟩ := obind q4
  obtain ⟨x6, e6, q6⟩ := obind q5
  obtain ⟨x7, e7, q7⟩ := obind q6
  simp [fCallF, aCons, aNil, h0 _ e0, h1 _ e1, h2 _ e2, h3 _ e3, h4 _ e4, h5 _ e5, h6 _ e6, h7 _ e7, isPl, toPV, hv _ _ _ _ _ _ _ _ _ q7]
theorem evs_call8 {f0 : D1} {f1 : D1} {f2 : D1} {f3 : D1} {f4 : D1} {f5 : D1} {f6 : D1} {f7 : D1} {o0 : Option PyData} {o1 : Option PyData} {o2 : Option PyData} {o3 : Option PyData} {o4 : Option PyData} {o5 : Option PyData} {o6 : Option PyData} {o7 : Option PyData} {v : List PyData → PyData → PyData → PyData → PyData → PyData → PyData → PyData → PyData → Option (PyData × List PyData)} {i : Nat} {x : PV} {ws : List PyData} {E : List PyData → REnv} (h0 : Ev f0 ρ ρ o0) (h1 : Ev f1 ρ ρ o1) (h2 : Ev f2 ρ ρ o2) (h3 : Ev f3 ρ ρ o3) (h4 : Ev f4 ρ ρ o4) (h5 : Ev f5 ρ ρ o5) (h6 : Ev f6 ρ ρ o6) (h7 : Ev f7 ρ ρ o7) (hv : ∀ x0 x1 x2 x3 x4 x5 x6 x7 p, v ws x0 x1 x2 x3 x4 x5 x6 x7 = some p → F [.rf ws, .pl x0, .pl x1, .pl x2, .pl x3, .pl x4, .pl x5, .pl x6, .pl x7] = some (.pl p.1, [some p.2, none, none, none, none, none, none, none, none])) (g1 : ρ[i]? = some (some x) := by rfl) (g2 : x.lst? = some ws := by rfl) (hE : ∀ w, ρ.set i (some (x.put w)) = E w := by intro _; rfl) : EvS (fCallE F (aBy i (aCons f0 (aCons f1 (aCons f2 (aCons f3 (aCons f4 (aCons f5 (aCons f6 (aCons f7 aNil)))))))))) ρ (o0.bind fun x0 => o1.bind fun x1 => o2.bind fun x2 => o3.bind fun x3 => o4.bind fun x4 => o5.bind fun x5 => o6.bind fun x6 => o7.bind fun x7 => v ws x0 x1 x2 x3 x4 x5 x6 x7) E := fun z w h => by
  obtain ⟨x0, e0, q0⟩ := obind h
  obtain ⟨x1, e1, q1⟩ := obind q0
  obtain ⟨x2, e2, q2⟩ := obind q1
  obtain ⟨x3, e3, q3⟩ := obind q2
  obtain ⟨x4, e4, q4⟩ := obind q3
  obtain ⟨x5, e5, q5⟩ := obind q4
  obtain ⟨x6, e6, q6⟩ := obind q5
  obtain ⟨x7, e7, q7⟩ := obind q6
  have hh1 : ownAt ρ i = some ws := by simp only [ownAt, g1, g2]
  have hh2 : oneBy [.by i, .pl x0, .pl x1, .pl x2, .pl x3, .pl x4, .pl x5, .pl x6, .pl x7] = true := rfl
  simp only [fCallE, fCall, aBy, hh1, aCons, aNil, h0 _ e0, h1 _ e1, h2 _ e2, h3 _ e3, h4 _ e4, h5 _ e5, h6 _ e6, h7 _ e7, hh2, toPV, hv _ _ _ _ _ _ _ _ (z, w) q7, setOuts, if_true, g1, hE]
end
section
variable {S : Type} {ρ ρ1 : REnv} {E : S → REnv} {fa fb fc fe : D1} {ft fu : B1} {a b : Option PyData} {ma mb : Option (PyData × S)} {ta tb : Option Bool} {mt mu : Option (Bool × S)} {la fi : A1} {l : Option (List PyData)} {ml : Option (List PyData × S)}
theorem evs_pure {α : Type} {f : REnv → Option (α × REnv)} {o : Option α} (w : S) (ha : Ev f ρ (E w) o) : EvS f ρ (o.bind fun d => some (d, w)) E := fun z s h => by
  obtain ⟨d, e, q⟩ := obind h; cases q; exact ha _ e
theorem evs_1 {g : PyData → Option PyData} (ha : EvS fa ρ ma E) : EvS (f1 g fa) ρ (ma.bind fun p => (g p.1).bind fun z => some (z, p.2)) E := fun z s h => by
  obtain ⟨⟨x, w⟩, e, q⟩ := obind h; obtain ⟨y, e2, q2⟩ := obind q; cases q2
  simp only [f1, ha _ _ e, e2]
theorem evs_2ep {g : G2} {ob : S → Option PyData} (ha : EvS fa ρ ma E) (hb : ∀ w, Ev fb (E w) (E w) (ob w)) : EvS (f2 g fa fb) ρ (ma.bind fun p => (ob p.2).bind fun y => (g p.1 y).bind fun z => some (z, p.2)) E := fun z s h => by
  obtain ⟨⟨x, w⟩, e, q⟩ := obind h; obtain ⟨y, e2, q2⟩ := obind q; obtain ⟨u, e3, q3⟩ := obind q2; cases q3
  simp only [f2, ha _ _ e, hb _ _ e2, e3]
theorem evs_2pe {g : G2} (ha : Ev fa ρ ρ a) (hb : EvS fb ρ mb E) : EvS (f2 g fa fb) ρ (a.bind fun x => mb.bind fun q => (g x q.1).bind fun z => some (z, q.2)) E := fun z s h => by
  obtain ⟨x, e, q⟩ := obind h; obtain ⟨⟨y, w⟩, e2, q2⟩ := obind q; obtain ⟨u, e3, q3⟩ := obind q2; cases q3
  simp only [f2, ha _ e, hb _ _ e2, e3]
theorem evs_2ee {g : G2} {mb : S → Option (PyData × S)} (ha : EvS fa ρ ma E) (hb : ∀ w, EvS fb (E w) (mb w) E) : EvS (f2 g fa fb) ρ (ma.bind fun p => (mb p.2).bind fun q => (g p.1 q.1).bind fun z => some (z, q.2)) E := fun z s h => by
  obtain ⟨⟨x, w⟩, e, q⟩ := obind h; obtain ⟨⟨y, w'⟩, e2, q2⟩ := obind q; obtain ⟨u, e3, q3⟩ := obind q2; cases q3
  simp only [f2, ha _ _ e, hb _ _ _ e2, e3]
theorem evs_2Fpe {g : PyData → PyData → Option (List PyData)} (ha : Ev fa ρ ρ a) (hb : EvS fb ρ mb E) : EvS (f2F g fa fb) ρ (a.bind fun x => mb.bind fun q => (g x q.1).bind fun z => some (z, q.2)) E := fun z s h => by
  obtain ⟨x, e, q⟩ := obind h; obtain ⟨⟨y, w⟩, e2, q2⟩ := obind q; obtain ⟨u, e3, q3⟩ := obind q2; cases q3
  simp only [f2F, ha _ e, hb _ _ e2, e3]
theorem evs_consep {ol : S → Option (List PyData)} (ha : EvS fa ρ ma E) (hl : ∀ w, Ev la (E w) (E w) (ol w)) : EvS (fCons fa la) ρ (ma.bind fun p => (ol p.2).bind fun xs => some (p.1 :: xs, p.2)) E := fun z s h => by
  obtain ⟨⟨x, w⟩, e, q⟩ := obind h; obtain ⟨y, e2, q2⟩ := obind q; cases q2
  simp only [fCons, ha _ _ e, hl _ _ e2]
theorem evs_conspe (ha : Ev fa ρ ρ a) (hl : EvS la ρ ml E) : EvS (fCons fa la) ρ (a.bind fun x => ml.bind fun q => some (x :: q.1, q.2)) E := fun z s h => by
  obtain ⟨x, e, q⟩ := obind h; obtain ⟨⟨y, w⟩, e2, q2⟩ := obind q; cases q2
  simp only [fCons, ha _ e, hl _ _ e2]
theorem evs_consee {ml : S → Option (List PyData × S)} (ha : EvS fa ρ ma E) (hl : ∀ w, EvS la (E w) (ml w) E) : EvS (fCons fa la) ρ (ma.bind fun p => (ml p.2).bind fun q => some (p.1 :: q.1, q.2)) E := fun z s h => by
  obtain ⟨⟨x, w⟩, e, q⟩ := obind h; obtain ⟨⟨y, w'⟩, e2, q2⟩ := obind q; cases q2
  simp only [fCons, ha _ _ e, hl _ _ _ e2]
theorem evs_tup (hl : EvS la ρ ml E) : EvS (fTup la) ρ (ml.bind fun q => (tupO q.1).bind fun z => some (z, q.2)) E := fun z s h => by
  obtain ⟨⟨y, w⟩, e, q⟩ := obind h; obtain ⟨u, e3, q3⟩ := obind q; cases q3
  unfold tupO at e3; split at e3 <;> cases e3
  rename_i hz
  simp only [fTup, hl _ _ e, fits_le hz, if_true]
theorem evs_lst (hl : EvS la ρ ml E) : EvS (fLst la) ρ (ml.bind fun q => (lstO q.1).bind fun z => some (z, q.2)) E := fun z s h => by
  obtain ⟨⟨y, w⟩, e, q⟩ := obind h; obtain ⟨u, e3, q3⟩ := obind q; cases q3
  unfold lstO at e3; split at e3 <;> cases e3
  rename_i hz
  simp only [fLst, hl _ _ e, fits_le hz, if_true]
theorem evs_f (hl : EvS la ρ ml E) : EvS (fF la) ρ (ml.bind fun q => some (.list q.1, q.2)) E := fun z s h => by
  obtain ⟨⟨y, w⟩, e, q⟩ := obind h; cases q
  simp only [fF, hl _ _ e]
theorem evs_T (ha : EvS fa ρ ma E) : EvS (fT fa) ρ (ma.bind fun p => (tBd p.1).bind fun z => some (z, p.2)) E := fun z s h => by
  obtain ⟨⟨y, w⟩, e, q⟩ := obind h; obtain ⟨u, e3, q3⟩ := obind q; cases q3
  replace e3 : tBd y = some z := e3
  unfold tBd at e3; split at e3 <;> cases e3
  simp only [fT, ha _ _ e]
theorem evs_notT (ha : EvS ft ρ mt E) : EvS (fNotT ft) ρ (mt.bind fun p => some (!p.1, p.2)) E := fun z s h => by
  obtain ⟨⟨y, w⟩, e, q⟩ := obind h; cases q
  simp only [fNotT, ha _ _ e]
/-- and: only the second one draws -/
theorem evs_andTpe {w : S} (hw : E w = ρ) (ha : Ev ft ρ ρ ta) (hb : EvS fu ρ mu E) : EvS (fAndT ft fu) ρ (ta.bind fun x => if x then mu else some (false, w)) E := fun z s h => by
  obtain ⟨y, e, q⟩ := obind h
  cases y with
  | true => simp only [if_true] at q; simp only [fAndT, ha _ e, hb _ _ q]
  | false => simp at q; obtain ⟨rfl, rfl⟩ := q; simp only [fAndT, ha _ e, hw]
theorem evs_orTpe {w : S} (hw : E w = ρ) (ha : Ev ft ρ ρ ta) (hb : EvS fu ρ mu E) : EvS (fOrT ft fu) ρ (ta.bind fun x => if x then some (true, w) else mu) E := fun z s h => by
  obtain ⟨y, e, q⟩ := obind h
  cases y with
  | true => simp at q; obtain ⟨rfl, rfl⟩ := q; simp only [fOrT, ha _ e, hw]
  | false => simp only [Bool.false_eq_true, if_false] at q; simp only [fOrT, ha _ e, hb _ _ q]
theorem evs_andTep {tu : S → Option Bool} (ha : EvS ft ρ mt E) (hb : ∀ w, Ev fu (E w) (E w) (tu w)) : EvS (fAndT ft fu) ρ (mt.bind fun p => (if p.1 then tu p.2 else some false).bind fun z => some (z, p.2)) E := fun z s h => by
  obtain ⟨⟨y, w⟩, e, q⟩ := obind h; obtain ⟨u, e3, q3⟩ := obind q; cases q3
  cases y with
  | true => simp only [if_true] at e3; simp only [fAndT, ha _ _ e, hb _ _ e3]
  | false => simp at e3; subst e3; simp only [fAndT, ha _ _ e]
theorem evs_orTep {tu : S → Option Bool} (ha : EvS ft ρ mt E) (hb : ∀ w, Ev fu (E w) (E w) (tu w)) : EvS (fOrT ft fu) ρ (mt.bind fun p => (if p.1 then some true else tu p.2).bind fun z => some (z, p.2)) E := fun z s h => by
  obtain ⟨⟨y, w⟩, e, q⟩ := obind h; obtain ⟨u, e3, q3⟩ := obind q; cases q3
  cases y with
  | true => simp at e3; subst e3; simp only [fOrT, ha _ _ e]
  | false => simp only [Bool.false_eq_true, if_false] at e3; simp only [fOrT, ha _ _ e, hb _ _ e3]
theorem evs_if {m1 m2 : S → Option (PyData × S)} (ht : EvS ft ρ mt E) (ha : ∀ w, EvS fa (E w) (m1 w) E) (hb : ∀ w, EvS fb (E w) (m2 w) E) : EvS (fIf ft fa fb) ρ (mt.bind fun p => if p.1 then m1 p.2 else m2 p.2) E := fun z s h => by
  obtain ⟨⟨y, w⟩, e, q⟩ := obind h
  cases y with
  | true => simp only [if_true] at q; simp only [fIf, ht _ _ e, ha _ _ _ q]
  | false => simp only [Bool.false_eq_true, if_false] at q; simp only [fIf, ht _ _ e, hb _ _ _ q]
theorem evs_ifp {m1 m2 : Option (PyData × S)} (ht : Ev ft ρ ρ ta) (ha : EvS fa ρ m1 E) (hb : EvS fb ρ m2 E) : EvS (fIf ft fa fb) ρ (ta.bind fun p => if p then m1 else m2) E := fun z s h => by
  obtain ⟨y, e, q⟩ := obind h
  cases y with
  | true => simp only [if_true] at q; simp only [fIf, ht _ e, ha _ _ q]
  | false => simp only [Bool.false_eq_true, if_false] at q; simp only [fIf, ht _ e, hb _ _ q]
theorem evs_cb {g : GN} (hl : EvS la ρ ml E) : EvS (fCB g la) ρ (ml.bind fun q => (g q.1).bind fun z => some (z, q.2)) E := fun z s h => by
  obtain ⟨⟨y, w⟩, e, q⟩ := obind h; obtain ⟨u, e3, q3⟩ := obind q; cases q3
  simp only [fCB, hl _ _ e, e3]
theorem evs_cbF {g : List PyData → Option (List PyData)} (hl : EvS la ρ ml E) : EvS (fCBF g la) ρ (ml.bind fun q => (g q.1).bind fun z => some (z, q.2)) E := fun z s h => by
  obtain ⟨⟨y, w⟩, e, q⟩ := obind h; obtain ⟨u, e3, q3⟩ := obind q; cases q3
  simp only [fCBF, hl _ _ e, e3]
theorem evs_items (ha : EvS fa ρ ma E) : EvS (fItems fa) ρ (ma.bind fun q => (itemsOf q.1).bind fun z => some (z, q.2)) E := fun z s h => by
  obtain ⟨⟨y, w⟩, e, q⟩ := obind h; obtain ⟨u, e3, q3⟩ := obind q; cases q3
  simp only [fItems, ha _ _ e, e3]
theorem evs_rng1 (ha : EvS fa ρ ma E) : EvS (fRng1 (fCons fa fNil)) ρ (ma.bind fun q => (rngO q.1).bind fun z => some (z, q.2)) E := fun z s h => by
  obtain ⟨⟨y, w⟩, e, q⟩ := obind h; obtain ⟨u, e3, q3⟩ := obind q; cases q3
  replace e3 : rngO y = some z := e3
  unfold rngO at e3
  split at e3
  · split at e3 <;> cases e3
    rename_i hz
    exact rng1_ (ha _ _ e) hz
  · cases e3
/-! arguments that draw -/
def EvG (f : G1) (ρ : REnv) (m : Option (List PyData × S)) (E : S → REnv) : Prop := ∀ ds s, m = some (ds, s) → f ρ = some (ds.map Ag.pl, E s)
theorem evg_nil (w : S) (h : E w = ρ := by rfl) : EvG aNil ρ (some ([], w)) E := fun z s e => by cases e; rw [h]; rfl
theorem evg_p {m : Option (List PyData × S)} {fr : G1} (ha : Ev fa ρ ρ a) (hl : EvG fr ρ m E) : EvG (aCons fa fr) ρ (a.bind fun x => m.bind fun q => some (x :: q.1, q.2)) E := fun z s h => by
  obtain ⟨x, e, q⟩ := obind h; obtain ⟨⟨y, w⟩, e2, q2⟩ := obind q; cases q2
  simp only [aCons, ha _ e, hl _ _ e2, List.map_cons]
theorem evg_e {m : S → Option (List PyData × S)} {fr : G1} (ha : EvS fa ρ ma E) (hl : ∀ w, EvG fr (E w) (m w) E) : EvG (aCons fa fr) ρ (ma.bind fun p => (m p.2).bind fun q => some (p.1 :: q.1, q.2)) E := fun z s h => by
  obtain ⟨⟨x, w⟩, e, q⟩ := obind h; obtain ⟨⟨y, w'⟩, e2, q2⟩ := obind q; cases q2
  simp only [aCons, ha _ _ e, hl _ _ _ e2, List.map_cons]
theorem oneBy_pl : ∀ ds : List PyData, oneBy (ds.map Ag.pl) = true
  | [] => rfl
  | d :: ds => by simp only [List.map_cons, oneBy, oneBy_pl ds]
theorem oneBy_by (i : Nat) (ds : List PyData) : oneBy (.by i :: ds.map Ag.pl) = true := by simp [oneBy]
theorem toPV_pl (ρ : REnv) : ∀ ds : List PyData, toPV ρ (ds.map Ag.pl) = some (ds.map PV.pl)
  | [] => rfl
  | d :: ds => by simp only [List.map_cons, toPV, toPV_pl ρ ds]
theorem setOuts_pl' (ρ : REnv) : ∀ ds : List PyData, setOuts ρ (ds.map Ag.pl) (ds.map fun _ => none) = some ρ
  | [] => rfl
  | d :: ds => by simp only [List.map_cons, setOuts, setOuts_pl' ρ ds]
theorem evs_callG {F : Fn} {fr : G1} {m : Option (List PyData × S)} {v : List PyData → Option PyData} (hl : EvG fr ρ m E) (hv : ∀ xs d, v xs = some d → F (xs.map .pl) = some (.pl d, xs.map fun _ => none)) : EvS (fCallE F fr) ρ (m.bind fun q => (v q.1).bind fun d => some (d, q.2)) E := fun z s h => by
  obtain ⟨⟨y, w⟩, e, q⟩ := obind h; obtain ⟨u, e3, q3⟩ := obind q; cases q3
  simp only [fCallE, fCall, hl _ _ e, oneBy_pl, toPV_pl, hv _ _ e3, setOuts_pl', if_true]
theorem evs_callR {F : Fn} {fr : G1} {i : Nat} {ws : List PyData} {E : List PyData → REnv} {m : Option (List PyData × List PyData)} {v : List PyData → List PyData → Option (PyData × List PyData)} (hl : EvG fr ρ m E) (hv : ∀ ws xs p, v ws xs = some p → F (.rf ws :: xs.map .pl) = some (.pl p.1, some p.2 :: xs.map fun _ => none))
    (K : List PyData → PV) (g0 : ownAt ρ i = some ws := by rfl) (g1 : ∀ w, (E w)[i]? = some (some (K w)) := by intro _; rfl) (g2 : ∀ w, (K w).lst? = some w := by intro _; rfl) (hE : ∀ w w', (E w).set i (some ((K w).put w')) = E w' := by intro _ _; rfl) : EvS (fCallE F (aBy i fr)) ρ (m.bind fun q => v q.2 q.1) E := fun z s h => by
  obtain ⟨⟨y, w⟩, e, q⟩ := obind h
  have h1 : ownAt (E w) i = some w := by simp only [ownAt, g1, g2]
  simp only [fCallE, fCall, aBy, g0, hl _ _ e, oneBy_by, toPV, h1, toPV_pl, hv _ _ _ q, setOuts, if_true, g1, hE, setOuts_pl']
end
section
variable {ρ ρ1 : REnv} {la : A1} {l : Option (List PyData)}
theorem ev_callK {F : Fn} {perm : List Nat} {m : Nat} {v : List PyData → Option PyData} (hl : Ev la ρ ρ1 l) (hv : ∀ ds d, v ds = some d → ds.length = m ∧ ∃ o, F ((pick perm ds).map .pl) = some (.pl d, o)) : Ev (fCallK F perm m la) ρ ρ1 (l.bind fun ds => v ds) := fun z h => by
  obtain ⟨ds, e, q⟩ := obind h
  obtain ⟨h1, o, h2⟩ := hv _ _ q
  simp only [fCallK, hl _ e, h1, if_true, h2]
theorem ev_tmp {F : Fn} {v : List PyData → Option (PyData × List PyData)} (hl : Ev la ρ ρ1 l) (hv : ∀ ds p, v ds = some p → F [.rf ds] = some (.pl p.1, [some p.2])) : Ev (fTmpE F la) ρ ρ1 (l.bind fun ds => (v ds).bind fun p => some p.1) := fun z h => by
  obtain ⟨ds, e, q⟩ := obind h
  obtain ⟨p, e2, q2⟩ := obind q
  cases q2
  simp only [fTmpE, fTmp, hl _ e, hv _ _ e2]
end
def vP1 (v : PyData → Option PyData) : List PyData → Option PyData := fun l => match l with | [x0] => v x0 | _ => none
theorem vP1_ok {F : Fn} {v : PyData → Option PyData} (hv : ∀ x0 d, v x0 = some d → F [.pl x0] = some (.pl d, [none])) : ∀ xs d, vP1 v xs = some d → F (xs.map .pl) = some (.pl d, xs.map fun _ => none) := fun l d h => by
  unfold vP1 at h; split at h
  · exact hv _ _ h
  · cases h
def vR1 (v : List PyData → PyData → Option (PyData × List PyData)) : List PyData → List PyData → Option (PyData × List PyData) := fun w l => match l with | [x0] => v w x0 | _ => none
theorem vR1_ok {F : Fn} {v : List PyData → PyData → Option (PyData × List PyData)} (hv : ∀ ws x0 p, v ws x0 = some p → F [.rf ws, .pl x0] = some (.pl p.1, some p.2 :: [none])) : ∀ ws xs p, vR1 v ws xs = some p → F (.rf ws :: xs.map .pl) = some (.pl p.1, some p.2 :: xs.map fun _ => none) := fun ws l d h => by
  unfold vR1 at h; split at h
  · exact hv _ _ _ h
  · cases h
def vP2 (v : PyData → PyData → Option PyData) : List PyData → Option PyData := fun l => match l with | [x0, x1] => v x0 x1 | _ => none
theorem vP2_ok {F : Fn} {v : PyData → PyData → Option PyData} (hv : ∀ x0 x1 d, v x0 x1 = some d → F [.pl x0, .pl x1] = some (.pl d, [none, none])) : ∀ xs d, vP2 v xs = some d → F (xs.map .pl) = some (.pl d, xs.map fun _ => none) := fun l d h => by
  unfold vP2 at h; split at h
  · exact hv _ _ _ h
  · cases h
def vR2 (v : List PyData → PyData → PyData → Option (PyData × List PyData)) : List PyData → List PyData → Option (PyData × List PyData) := fun w l => match l with | [x0, x1] => v w x0 x1 | _ => none
theorem vR2_ok {F : Fn} {v : List PyData → PyData → PyData → Option (PyData × List PyData)} (hv : ∀ ws x0 x1 p, v ws x0 x1 = some p → F [.rf ws, .pl x0, .pl x1] = some (.pl p.1, some p.2 :: [none, none])) : ∀ ws xs p, vR2 v ws xs = some p → F (.rf ws :: xs.map .pl) = some (.pl p.1, some p.2 :: xs.map fun _ => none) := fun ws l d h => by
  unfold vR2 at h; split at h
  · exact hv _ _ _ _ h
  · cases h
def vP3 (v : PyData → PyData → PyData → Option PyData) : List PyData → Option PyData := fun l => match l with | [x0, x1, x2] => v x0 x1 x2 | _ => none
theorem vP3_ok {F : Fn} {v : PyData → PyData → PyData → Option PyData} (hv : ∀ x0 x1 x2 d, v x0 x1 x2 = some d → F [.pl x0, .pl x1, .pl x2] = some (.pl d, [none, none, none])) : ∀ xs d, vP3 v xs = some d → F (xs.map .pl) = some (.pl d, xs.map fun _ => none) := fun l d h => by
  unfold vP3 at h; split at h
  · exact hv _ _ _ _ h
  · cases h
def vR3 (v : List PyData → PyData → PyData → PyData → Option (PyData × List PyData)) : List PyData → List PyData → Option (PyData × List PyData) := fun w l => match l with | [x0, x1, x2] => v w x0 x1 x2 | _ => none
theorem vR3_ok {F : Fn} {v : List PyData → PyData → PyData → PyData → Option (PyData × List PyData)} (hv : ∀ ws x0 x1 x2 p, v ws x0 x1 x2 = some p → F [.rf ws, .pl x0, .pl x1, .pl x2] = some (.pl p.1, some p.2 :: [none, none, none])) : ∀ ws xs p, vR3 v ws xs = some p → F (.rf ws :: xs.map .pl) = some (.pl p.1, some p.2 :: xs.map fun _ => none) := fun ws l d h => by
  unfold vR3 at h; split at h
  · exact hv _ _ _ _ _ h
  · cases h
def vP4 (v : PyData → PyData → PyData → PyData → Option PyData) : List PyData → Option PyData := fun l => match l with | [x0, x1, x2, x3] => v x0 x1 x2 x3 | _ => none
theorem vP4_ok {F : Fn} {v : PyData → PyData → PyData → PyData → Option PyData} (hv : ∀ x0 x1 x2 x3 d, v x0 x1 x2 x3 = some d → F [.pl x0, .pl x1, .pl x2, .pl x3] = some (.pl d, [none, none, none, none])) : ∀ xs d, vP4 v xs = some d → F (xs.map .pl) = some (.pl d, xs.map fun _ => none) := fun l d h => by
  unfold vP4 at h; split at h
  · exact hv _ _ _ _ _ h
  · cases h
def vR4 (v : List PyData → PyData → PyData → PyData → PyData → Option (PyData × List PyData)) : List PyData → List PyData → Option (PyData × List PyData) := fun w l => match l with | [x0, x1, x2, x3] => v w x0 x1 x2 x3 | _ => none
theorem vR4_ok {F : Fn} {v : List PyData → PyData → PyData → PyData → PyData → Option (PyData × List PyData)} (hv : ∀ ws x0 x1 x2 x3 p, v ws x0 x1 x2 x3 = some p → F [.rf ws, .pl x0, .pl x1, .pl x2, .pl x3] = some (.pl p.1, some p.2 :: [none, none, none, none])) : ∀ ws xs p, vR4 v ws xs = some p → F (.rf ws :: xs.map .pl) = some (.pl p.1, some p.2 :: xs.map fun _ => none) := fun ws l d h => by
  unfold vR4 at h; split at h
  · exact hv _ _ _ _ _ _ h
  · cases h
def vP5 (v : PyData → PyData → PyData → PyData → PyData → Option PyData) : List PyData → Option PyData := fun l => match l with | [x0, x1, x2, x3, x4] => v x0 x1 x2 x3 x4 | _ => none
theorem vP5_ok {F : Fn} {v : PyData → PyData → PyData → PyData → PyData → Option PyData} (hv : ∀ x0 x1 x2 x3 x4 d, v x0 x1 x2 x3 x4 = some d → F [.pl x0, .pl x1, .pl x2, .pl x3, .pl x4] = some (.pl d, [none, none, none, none, none])) : ∀ xs d, vP5 v xs = some d → F (xs.map .pl) = some (.pl d, xs.map fun _ => none) := fun l d h => by
  unfold vP5 at h; split at h
  · exact hv _ _ _ _ _ _ h
  · cases h
def vR5 (v : List PyData → PyData → PyData → PyData → PyData → PyData → Option (PyData × List PyData)) : List PyData → List PyData → Option (PyData × List PyData) := fun w l => match l with | [x0, x1, x2, x3, x4] => v w x0 x1 x2 x3 x4 | _ => none
theorem vR5_ok {F : Fn} {v : List PyData → PyData → PyData → PyData → PyData → PyData → Option (PyData × List PyData)} (hv : ∀ ws x0 x1 x2 x3 x4 p, v ws x0 x1 x2 x3 x4 = some p → F [.rf ws, .pl x0, .pl x1, .pl x2, .pl x3, .pl x4] = some (.pl p.1, some p.2 :: [none, none, none, none, none])) : ∀ ws xs p, vR5 v ws xs = some p → F (.rf ws :: xs.map .pl) = some (.pl p.1, some p.2 :: xs.map fun _ => none) := fun ws l d h => by
  unfold vR5 at h; split at h
  · exact hv _ _ _ _ _ _ _ h
  · cases h
def vP6 (v : PyData → PyData → PyData → PyData → PyData → PyData → Option PyData) : List PyData → Option PyData := fun l => match l with | [x0, x1, x2, x3, x4, x5] => v x0 x1 x2 x3 x4 x5 | _ => none
theorem vP6_ok {F : Fn} {v : PyData → PyData → PyData → PyData → PyData → PyData → Option PyData} (hv : ∀ x0 x1 x2 x3 x4 x5 d, v x0 x1 x2 x3 x4 x5 = some d → F [.pl x0, .pl x1, .pl x2, .pl x3, .pl x4, .pl x5] = some (.pl d, [none, none, none, none, none, none])) : ∀ xs d, vP6 v xs = some d → F (xs.map .pl) = some (.pl d, xs.map fun _ => none) := fun l d h => by
  unfold vP6 at h; split at h
  · exact hv _ _ _ _ _ _ _ h
  · cases h
def vR6 (v : List PyData → PyData → PyData → PyData → PyData → PyData → PyData → Option (PyData × List PyData)) : List PyData → List PyData → Option (PyData × List PyData) := fun w l => match l with | [x0, x1, x2, x3, x4, x5] => v w x0 x1 x2 x3 x4 x5 | _ => none
theorem vR6_ok {F : Fn} {v : List PyData → PyData → PyData → PyData → PyData → PyData → PyData → Option (PyData × List PyData)} (hv : ∀ ws x0 x1 x2 x3 x4 x5 p, v ws x0 x1 x2 x3 x4 x5 = some p → F [.rf ws, .pl x0, .pl x1, .pl x2, .pl x3, .pl x4, .pl x5] = some (.pl p.1, some p.2 :: [none, none, none, none, none, none])) : ∀ ws xs p, vR6 v ws xs = some p → F (.rf ws :: xs.map .pl) = some (.pl p.1, some p.2 :: xs.map fun _ => none) := fun ws l d h => by
  unfold vR6 at h; split at h
  · exact hv _ _ _ _ _ _ _ _ h
  · cases h
def vP7 (v : PyData → PyData → PyData → PyData → PyData → PyData → PyData → Option PyData) : List PyData → Option PyData := fun l => match l with | [x0, x1, x2, x3, x4, x5, x6] => v x0 x1 x2 x3 x4 x5 x6 | _ => none
theorem vP7_ok {F : Fn} {v : PyData → PyData → PyData → PyData → PyData → PyData → PyData → Option PyData} (hv : ∀ x0 x1 x2 x3 x4 x5 x6 d, v x0 x1 x2 x3 x4 x5 x6 = some d → F [.pl x0, .pl x1, .pl x2, .pl x3, .pl x4, .pl x5, .pl x6] = some (.pl d, [none, none, none, none, none, none, none])) : ∀ xs d, vP7 v xs = some d → F (xs.map .pl) = some (.pl d, xs.map fun _ => none) := fun l d h => by
  unfold vP7 at h; split at h
  · exact hv _ _ _ _ _ _ _ _ h
  · cases h
def vR7 (v : List PyData → PyData → PyData → PyData → PyData → PyData → PyData → PyData → Option (PyData × List PyData)) : List PyData → List PyData → Option (PyData × List PyData) := fun w l => match l with | [x0, x1, x2, x3, x4, x5, x6] => v w x0 x1 x2 x3 x4 x5 x6 | _ => none
theorem vR7_ok {F : Fn} {v : List PyData → PyData → PyData → PyData → PyData → PyData → PyData → PyData → Option (PyData × List PyData)} (hv : ∀ ws x0 x1 x2 x3 x4 x5 x6 p, v ws x0 x1 x2 x3 x4 x5 x6 = some p → F [.rf ws, .pl x0, .pl x1, .pl x2, .pl x3, .pl x4, .pl x5, .pl x6] = some (.pl p.1, some p.2 :: [none, none, none, none, none, none, none])) : ∀ ws xs p, vR7 v ws xs = some p → F (.rf ws :: xs.map .pl) = some (.pl p.1, some p.2 :: xs.map fun _ => none) := fun ws l d h => by
  unfold vR7 at h; split at h
  · exact hv _ _ _ _ _ _ _ _ _ h
  · cases h
end Dv

/-! Dw: direct code: statements. -/
namespace Dv
open PySem
/-- how a turn ends -/
inductive Fw (σ τ : Type) where
  | nx (s : σ)
  | bk (s : σ)
  | rt (r : τ)
def Sim {α : Type} (f : S1) (ρ : REnv) (m : Option α) (P : α → Fl → REnv → Prop) : Prop := ∀ a, m = some a → ∃ fl ρ', f ρ = some (fl, ρ') ∧ P a fl ρ'
section
variable {α β S : Type} {ρ ρ1 ρ2 : REnv} {f g k f1 f2 : S1} {P : α → Fl → REnv → Prop} {fe fa fb : D1} {ft : B1} {la : A1} {o : Option PyData} {l : Option (List PyData)} {t : Option Bool} {E : S → REnv} {mo : Option (PyData × S)} {ml : Option (List PyData × S)} {mt : Option (Bool × S)}
theorem seq_next (f : S1) (ρ : REnv) : sSeq f sNext ρ = f ρ := by
  unfold sSeq
  split
  · rename_i h; rw [h]; rfl
  · rfl
theorem seq_assoc (f g k : S1) (ρ : REnv) : sSeq (sSeq f g) k ρ = sSeq f (sSeq g k) ρ := by
  unfold sSeq
  cases e : f ρ with
  | none => rfl
  | some p => obtain ⟨fl, r⟩ := p; cases fl <;> rfl
theorem sim_last {m : Option α} (h : Sim (sSeq f sNext) ρ m P) : Sim f ρ m P := fun a e => by
  obtain ⟨fl, r, h1, h2⟩ := h a e; rw [seq_next] at h1; exact ⟨fl, r, h1, h2⟩
theorem sim_assoc {m : Option α} (h : Sim (sSeq f (sSeq g k)) ρ m P) : Sim (sSeq (sSeq f g) k) ρ m P := fun a e => by
  obtain ⟨fl, r, h1, h2⟩ := h a e; rw [← seq_assoc] at h1; exact ⟨fl, r, h1, h2⟩
theorem sim_next {m : Option α} (h : Sim g ρ m P) : Sim (sSeq sNext g) ρ m P := fun a e => by
  obtain ⟨fl, r, h1, h2⟩ := h a e; exact ⟨fl, r, h1, h2⟩
theorem sim_end {a : α} (h : P a .nx ρ) : Sim sNext ρ (some a) P := fun b e => by cases e; exact ⟨_, _, rfl, h⟩
theorem sim_bk {a : α} (h : P a .bk ρ) : Sim (sSeq sBreak g) ρ (some a) P := fun b e => by cases e; exact ⟨_, _, rfl, h⟩
theorem sim_ct {a : α} (h : P a .ct ρ) : Sim (sSeq sCont g) ρ (some a) P := fun b e => by cases e; exact ⟨_, _, rfl, h⟩
theorem sim_never : Sim (sSeq sNever g) ρ (none : Option α) P := fun b e => by cases e
theorem sim_asg {i : Nat} {c : PyData → Option α} (he : Ev fe ρ ρ1 o) (h : ∀ d, Sim g (ρ1.set i (some (.pl d))) (c d) P) : Sim (sSeq (sAsg fe (hName i)) g) ρ (o.bind fun d => c d) P := fun a e => by
  obtain ⟨d, e1, e2⟩ := obind e
  obtain ⟨fl, r, h1, h2⟩ := h d a e2
  exact ⟨fl, r, by rw [seqN (asg (he d e1) i)]; exact h1, h2⟩
theorem sim_asgS {i : Nat} {c : PyData → S → Option α} (he : EvS fe ρ mo E) (h : ∀ d w, Sim g ((E w).set i (some (.pl d))) (c d w) P) : Sim (sSeq (sAsg fe (hName i)) g) ρ (mo.bind fun p => c p.1 p.2) P := fun a e => by
  obtain ⟨⟨d, w⟩, e1, e2⟩ := obind e
  obtain ⟨fl, r, h1, h2⟩ := h d w a e2
  exact ⟨fl, r, by rw [seqN (asg (he d w e1) i)]; exact h1, h2⟩
theorem sim_asg2 {i j : Nat} {c : PyData → PyData → Option α} (he : Ev fe ρ ρ1 o) (h : ∀ a b, Sim g ((ρ1.set i (some (.pl a))).set j (some (.pl b))) (c a b) P) : Sim (sSeq (sAsg fe (hTup 2 (hCons (hName i) (hCons (hName j) hNil)))) g) ρ (o.bind fun d => (un2 d).bind fun p => c p.1 p.2) P := fun a e => by
  obtain ⟨d, e1, e2⟩ := obind e
  obtain ⟨⟨x, y⟩, e3, e4⟩ := obind e2
  obtain ⟨fl, r, h1, h2⟩ := h x y a e4
  have hd := un2_some e3
  subst hd
  exact ⟨fl, r, by rw [seqN (asgT (he _ e1) rfl)]; exact h1, h2⟩
theorem sim_asg3 {i j k : Nat} {c : PyData → PyData → PyData → Option α} (he : Ev fe ρ ρ1 o) (h : ∀ a b d, Sim g (((ρ1.set i (some (.pl a))).set j (some (.pl b))).set k (some (.pl d))) (c a b d) P) : Sim (sSeq (sAsg fe (hTup 3 (hCons (hName i) (hCons (hName j) (hCons (hName k) hNil))))) g) ρ (o.bind fun d => (un3 d).bind fun p => c p.1 p.2.1 p.2.2) P := fun a e => by
  obtain ⟨d, e1, e2⟩ := obind e
  obtain ⟨⟨x, y, z⟩, e3, e4⟩ := obind e2
  obtain ⟨fl, r, h1, h2⟩ := h x y z a e4
  have hd := un3_some e3
  subst hd
  exact ⟨fl, r, by rw [seqN (asgT (he _ e1) rfl)]; exact h1, h2⟩
theorem sim_par {i j : Nat} {c : PyData → PyData → Option α} {oa ob : Option PyData} (ha : Ev fa ρ ρ1 oa) (hb : Ev fb ρ1 ρ2 ob) (h : ∀ a b, Sim g ((ρ2.set i (some (.pl a))).set j (some (.pl b))) (c a b) P) : Sim (sSeq (sPar i j (fCons fa (fCons fb fNil))) g) ρ (oa.bind fun a => ob.bind fun b => c a b) P := fun a e => by
  obtain ⟨x, e1, e2⟩ := obind e
  obtain ⟨y, e3, e4⟩ := obind e2
  obtain ⟨fl, r, h1, h2⟩ := h x y a e4
  exact ⟨fl, r, by rw [seqN (par_ (two_ (ha _ e1) (hb _ e3)) i j)]; exact h1, h2⟩
/-- by the list of both -/
theorem sim_parS {i j : Nat} {c : PyData → PyData → S → Option α} (he : EvS la ρ ml E) (h : ∀ a b w, Sim g (((E w).set i (some (.pl a))).set j (some (.pl b))) (c a b w) P) : Sim (sSeq (sPar i j la) g) ρ (ml.bind fun p => match p.1 with | [a, b] => c a b p.2 | _ => none) P := fun a e => by
  obtain ⟨⟨xs, w⟩, e1, e2⟩ := obind e
  split at e2
  · rename_i x y hx
    have hx' : xs = [x, y] := hx
    subst hx'
    obtain ⟨fl, r, h1, h2⟩ := h x y w a e2
    exact ⟨fl, r, by rw [seqN (par_ (he _ _ e1) i j)]; exact h1, h2⟩
  · cases e2
theorem sim_own {i : Nat} {c : List PyData → Option α} (he : Ev la ρ ρ1 l) (h : ∀ d, Sim g (ρ1.set i (some (.ow d))) (c d) P) : Sim (sSeq (sOwn la i) g) ρ (l.bind fun d => c d) P := fun a e => by
  obtain ⟨d, e1, e2⟩ := obind e
  obtain ⟨fl, r, h1, h2⟩ := h d a e2
  exact ⟨fl, r, by rw [seqN (own_ (he d e1) i)]; exact h1, h2⟩
theorem sim_ownS {i : Nat} {c : List PyData → S → Option α} (he : EvS la ρ ml E) (h : ∀ d w, Sim g ((E w).set i (some (.ow d))) (c d w) P) : Sim (sSeq (sOwn la i) g) ρ (ml.bind fun p => c p.1 p.2) P := fun a e => by
  obtain ⟨⟨d, w⟩, e1, e2⟩ := obind e
  obtain ⟨fl, r, h1, h2⟩ := h d w a e2
  exact ⟨fl, r, by rw [seqN (own_ (he d w e1) i)]; exact h1, h2⟩
theorem sim_parF {i j : Nat} {c : List PyData → PyData → Option α} {ob : Option PyData} (ha : Ev la ρ ρ1 l) (hb : Ev fb ρ1 ρ2 ob) (h : ∀ a b, Sim g ((ρ2.set i (some (.ow a))).set j (some (.pl b))) (c a b) P) : Sim (sSeq (sParF i j la fb) g) ρ (l.bind fun a => ob.bind fun b => c a b) P := fun a e => by
  obtain ⟨x, e1, e2⟩ := obind e
  obtain ⟨y, e3, e4⟩ := obind e2
  obtain ⟨fl, r, h1, h2⟩ := h x y a e4
  exact ⟨fl, r, by rw [seqN (parF_ (ha _ e1) (hb _ e3) i j)]; exact h1, h2⟩
theorem sim_aug {i : Nat} {G : G2} {x : PyData} {c : PyData → Option α} (he : Ev fe ρ ρ o) (h : ∀ d, Sim g (ρ.set i (some (.pl d))) (c d) P) (h0 : ρ[i]? = some (some (.pl x)) := by rfl) : Sim (sSeq (sAug G i fe) g) ρ (o.bind fun y => (G x y).bind fun d => c d) P := fun a e => by
  obtain ⟨y, e1, e2⟩ := obind e
  obtain ⟨d, e3, e4⟩ := obind e2
  obtain ⟨fl, r, h1, h2⟩ := h d a e4
  exact ⟨fl, r, by rw [seqN (show sAug G i fe ρ = some (.nx, ρ.set i (some (.pl d))) by simp only [sAug, h0, he _ e1, e3])]; exact h1, h2⟩
theorem sim_augS {i : Nat} {G : G2} {x : PyData} {c : PyData → S → Option α} (he : EvS fe ρ mo E) (h : ∀ d w, Sim g ((E w).set i (some (.pl d))) (c d w) P) (h0 : ρ[i]? = some (some (.pl x)) := by rfl) : Sim (sSeq (sAug G i fe) g) ρ (mo.bind fun p => (G x p.1).bind fun d => c d p.2) P := fun a e => by
  obtain ⟨⟨y, w⟩, e1, e2⟩ := obind e
  obtain ⟨d, e3, e4⟩ := obind e2
  obtain ⟨fl, r, h1, h2⟩ := h d w a e4
  replace e3 : G x y = some d := e3
  exact ⟨fl, r, by rw [seqN (show sAug G i fe ρ = some (.nx, (E w).set i (some (.pl d))) by simp only [sAug, h0, he _ _ e1, e3])]; exact h1, h2⟩
noncomputable def appO (xs : List PyData) (d : PyData) : Option (List PyData) := if fits (xs.length + 1) then some (xs ++ [d]) else none
theorem sim_app {i : Nat} {x : PV} {xs : List PyData} {c : List PyData → Option α} (he : Ev fe ρ ρ o) (h : ∀ d, Sim g (ρ.set i (some (x.put d))) (c d) P) (h0 : ρ[i]? = some (some x) := by rfl) (h00 : x.lst? = some xs := by rfl) : Sim (sSeq (sApp i fe) g) ρ (o.bind fun y => (appO xs y).bind fun d => c d) P := fun a e => by
  obtain ⟨y, e1, e2⟩ := obind e
  obtain ⟨d, e3, e4⟩ := obind e2
  unfold appO at e3
  split at e3 <;> cases e3
  rename_i hz
  obtain ⟨fl, r, h1, h2⟩ := h _ a e4
  have hh : ownAt ρ i = some xs := by simp only [ownAt, h0, h00]
  exact ⟨fl, r, by rw [seqN (show sApp i fe ρ = some (.nx, ρ.set i (some (x.put (xs ++ [y])))) by simp only [sApp, hh, he _ e1, h0, h00, Nat.lt_of_succ_le (fits_le hz), if_true])]; exact h1, h2⟩
/-- the item draws: the list itself stays -/
theorem sim_appS {i : Nat} {x : PV} {xs : List PyData} {c : List PyData → S → Option α} (he : EvS fe ρ mo E) (h : ∀ d w, Sim g ((E w).set i (some (x.put d))) (c d w) P) (hh : ownAt ρ i = some xs := by rfl) (h0 : ∀ w, (E w)[i]? = some (some x) := by intro _; rfl) (h00 : x.lst? = some xs := by rfl) : Sim (sSeq (sApp i fe) g) ρ (mo.bind fun p => (appO xs p.1).bind fun d => c d p.2) P := fun a e => by
  obtain ⟨⟨y, w⟩, e1, e2⟩ := obind e
  obtain ⟨d, e3, e4⟩ := obind e2
  replace e3 : appO xs y = some d := e3
  unfold appO at e3
  split at e3 <;> cases e3
  rename_i hz
  obtain ⟨fl, r, h1, h2⟩ := h _ w a e4
  exact ⟨fl, r, by rw [seqN (show sApp i fe ρ = some (.nx, (E w).set i (some (x.put (xs ++ [y])))) by simp only [sApp, hh, he _ _ e1, h0, h00, Nat.lt_of_succ_le (fits_le hz), if_true])]; exact h1, h2⟩
/-- xs[j] = d -/
def setO (xs : List PyData) (j d : PyData) : Option (List PyData) := match j with
  | .int k => match L2.ixN xs.length k with
    | some n => some (xs.set n d)
    | none => none
  | _ => none
theorem sim_st {i : Nat} {x : PV} {xs : List PyData} {fi : D1} {oi : Option PyData} {c : List PyData → Option α} (he : Ev fe ρ ρ o) (hi : Ev fi ρ ρ oi) (h : ∀ d, Sim g (ρ.set i (some (x.put d))) (c d) P) (h0 : ρ[i]? = some (some x) := by rfl) (h00 : x.lst? = some xs := by rfl) : Sim (sSeq (sAsg fe (hSub i fi)) g) ρ (o.bind fun y => oi.bind fun j => (setO xs j y).bind fun d => c d) P := fun a e => by
  obtain ⟨y, e1, e2⟩ := obind e
  obtain ⟨j, e3, e4⟩ := obind e2
  obtain ⟨d, e5, e6⟩ := obind e4
  obtain ⟨fl, r, h1, h2⟩ := h _ a e6
  have hh : ownAt ρ i = some xs := by simp only [ownAt, h0, h00]
  unfold setO at e5
  split at e5
  · split at e5
    · rename_i n hn
      cases e5
      exact ⟨fl, r, by rw [seqN (asgT (he _ e1) (show hSub i fi y ρ = some (ρ.set i (some (x.put (xs.set n y)))) by simp only [hSub, hh, hi _ e3, h0, h00, hn]))]; exact h1, h2⟩
    · cases e5
  · cases e5
/-- the index draws -/
theorem sim_stpe {i : Nat} {x : PV} {xs : List PyData} {fi : D1} {c : List PyData → S → Option α} (he : Ev fe ρ ρ o) (hi : EvS fi ρ mo E) (h : ∀ d w, Sim g ((E w).set i (some (x.put d))) (c d w) P) (hh : ownAt ρ i = some xs := by rfl) (h0 : ∀ w, (E w)[i]? = some (some x) := by intro _; rfl) (h00 : x.lst? = some xs := by rfl) : Sim (sSeq (sAsg fe (hSub i fi)) g) ρ (o.bind fun y => mo.bind fun p => (setO xs p.1 y).bind fun d => c d p.2) P := fun a e => by
  obtain ⟨y, e1, e2⟩ := obind e
  obtain ⟨⟨j, w⟩, e3, e4⟩ := obind e2
  obtain ⟨d, e5, e6⟩ := obind e4
  obtain ⟨fl, r, h1, h2⟩ := h _ w a e6
  replace e5 : setO xs j y = some d := e5
  unfold setO at e5
  split at e5
  · split at e5
    · rename_i n hn
      cases e5
      exact ⟨fl, r, by rw [seqN (asgT (he _ e1) (show hSub i fi y ρ = some ((E w).set i (some (x.put (xs.set n y)))) by simp only [hSub, hh, hi _ _ e3, h0, h00, hn]))]; exact h1, h2⟩
    · cases e5
  · cases e5
/-- the value draws -/
theorem sim_step {i : Nat} {x : PV} {xs : List PyData} {fi : D1} {oi : S → Option PyData} {c : List PyData → S → Option α} (he : EvS fe ρ mo E) (hi : ∀ w, Ev fi (E w) (E w) (oi w)) (h : ∀ d w, Sim g ((E w).set i (some (x.put d))) (c d w) P) (h0 : ∀ w, (E w)[i]? = some (some x) := by intro _; rfl) (h00 : x.lst? = some xs := by rfl) : Sim (sSeq (sAsg fe (hSub i fi)) g) ρ (mo.bind fun p => (oi p.2).bind fun j => (setO xs j p.1).bind fun d => c d p.2) P := fun a e => by
  obtain ⟨⟨y, w⟩, e1, e2⟩ := obind e
  obtain ⟨j, e3, e4⟩ := obind e2
  obtain ⟨d, e5, e6⟩ := obind e4
  obtain ⟨fl, r, h1, h2⟩ := h _ w a e6
  have hh : ownAt (E w) i = some xs := by simp only [ownAt, h0, h00]
  replace e5 : setO xs j y = some d := e5
  unfold setO at e5
  split at e5
  · split at e5
    · rename_i n hn
      cases e5
      exact ⟨fl, r, by rw [seqN (asgT (he _ _ e1) (show hSub i fi y (E w) = some ((E w).set i (some (x.put (xs.set n y)))) by simp only [hSub, hh, hi _ _ e3, h0, h00, hn]))]; exact h1, h2⟩
    · cases e5
  · cases e5
/-- both draw -/
theorem sim_stee {i : Nat} {x : PV} {xs : List PyData} {fi : D1} {mi : S → Option (PyData × S)} {c : List PyData → S → Option α} (he : EvS fe ρ mo E) (hi : ∀ w, EvS fi (E w) (mi w) E) (h : ∀ d w, Sim g ((E w).set i (some (x.put d))) (c d w) P) (h0 : ∀ w, (E w)[i]? = some (some x) := by intro _; rfl) (h00 : x.lst? = some xs := by rfl) : Sim (sSeq (sAsg fe (hSub i fi)) g) ρ (mo.bind fun p => (mi p.2).bind fun q => (setO xs q.1 p.1).bind fun d => c d q.2) P := fun a e => by
  obtain ⟨⟨y, w0⟩, e1, e2⟩ := obind e
  obtain ⟨⟨j, w⟩, e3, e4⟩ := obind e2
  obtain ⟨d, e5, e6⟩ := obind e4
  obtain ⟨fl, r, h1, h2⟩ := h _ w a e6
  have hh : ownAt (E w0) i = some xs := by simp only [ownAt, h0, h00]
  replace e5 : setO xs j y = some d := e5
  unfold setO at e5
  split at e5
  · split at e5
    · rename_i n hn
      cases e5
      exact ⟨fl, r, by rw [seqN (asgT (he _ _ e1) (show hSub i fi y (E w0) = some ((E w).set i (some (x.put (xs.set n y)))) by simp only [hSub, hh, hi _ _ _ e3, h0, h00, hn]))]; exact h1, h2⟩
    · cases e5
  · cases e5
theorem sim_drop {m : PyData → Option α} (he : Ev fe ρ ρ1 o) (h : ∀ d, Sim g ρ1 (m d) P) : Sim (sSeq (sDrop fe) g) ρ (o.bind fun d => m d) P := fun a e => by
  obtain ⟨d, e1, e2⟩ := obind e
  obtain ⟨fl, r, h1, h2⟩ := h d a e2
  exact ⟨fl, r, by rw [seqN (drop_ (he d e1))]; exact h1, h2⟩
theorem sim_ret {c : PyData → α} (he : Ev fe ρ ρ1 o) (h : ∀ d, P (c d) (.rt (.pl d)) ρ1) : Sim (sSeq (sRet fe) g) ρ (o.bind fun d => some (c d)) P := fun a e => by
  obtain ⟨d, e1, e2⟩ := obind e
  cases e2
  exact ⟨_, _, seqR (ret (he d e1)), h d⟩
theorem sim_retS {c : PyData → S → α} (he : EvS fe ρ mo E) (h : ∀ d w, P (c d w) (.rt (.pl d)) (E w)) : Sim (sSeq (sRet fe) g) ρ (mo.bind fun p => some (c p.1 p.2)) P := fun a e => by
  obtain ⟨⟨d, w⟩, e1, e2⟩ := obind e
  cases e2
  exact ⟨_, _, seqR (ret (he d w e1)), h d w⟩
theorem sim_retF {c : List PyData → α} (he : Ev la ρ ρ1 l) (h : ∀ d, P (c d) (.rt (.fr d)) ρ1) : Sim (sSeq (sRetF la) g) ρ (l.bind fun d => some (c d)) P := fun a e => by
  obtain ⟨d, e1, e2⟩ := obind e
  cases e2
  exact ⟨_, _, seqR (retF (he d e1)), h d⟩
theorem sim_if {a b : Option α} (ht : Ev ft ρ ρ t) (h1 : Sim (sSeq f1 g) ρ a P) (h2 : Sim (sSeq f2 g) ρ b P) : Sim (sSeq (sIf ft f1 f2) g) ρ (t.bind fun x => if x then a else b) P := fun z e => by
  obtain ⟨x, e1, e2⟩ := obind e
  cases x with
  | true =>
    obtain ⟨fl, r, q1, q2⟩ := h1 z e2
    exact ⟨fl, r, by simp only [sSeq, ifT (ht _ e1)] at q1 ⊢; exact q1, q2⟩
  | false =>
    obtain ⟨fl, r, q1, q2⟩ := h2 z (by simpa using e2)
    exact ⟨fl, r, by simp only [sSeq, ifF (ht _ e1)] at q1 ⊢; exact q1, q2⟩
theorem sim_ifS {a b : S → Option α} (ht : EvS ft ρ mt E) (h1 : ∀ w, Sim (sSeq f1 g) (E w) (a w) P) (h2 : ∀ w, Sim (sSeq f2 g) (E w) (b w) P) : Sim (sSeq (sIf ft f1 f2) g) ρ (mt.bind fun p => if p.1 then a p.2 else b p.2) P := fun z e => by
  obtain ⟨⟨x, w⟩, e1, e2⟩ := obind e
  cases x with
  | true =>
    obtain ⟨fl, r, q1, q2⟩ := h1 w z e2
    exact ⟨fl, r, by simp only [sSeq, ifT (ht _ _ e1)] at q1 ⊢; exact q1, q2⟩
  | false =>
    obtain ⟨fl, r, q1, q2⟩ := h2 w z (by simpa using e2)
    exact ⟨fl, r, by simp only [sSeq, ifF (ht _ _ e1)] at q1 ⊢; exact q1, q2⟩
/-- a branch that goes on: what it leaves is told by C -/
def Jn {σ κ : Type} (C : σ → κ → REnv) : σ → Fl → REnv → Prop := fun s fl r => fl = .nx ∧ ∃ j, r = C s j
/-- then on from what a part leaves -/
theorem sim_join {σ κ : Type} {C : σ → κ → REnv} {m : Option σ} {c : σ → Option α} (h : Sim f ρ m (Jn C)) (hk : ∀ s j, Sim g (C s j) (c s) P) : Sim (sSeq f g) ρ (m.bind fun s => c s) P := fun a e => by
  obtain ⟨s, e1, e2⟩ := obind e
  obtain ⟨fl, r, h1, rfl, j, rfl⟩ := h s e1
  obtain ⟨fl, r, q1, q2⟩ := hk s j a e2
  exact ⟨fl, r, by rw [seqN h1]; exact q1, q2⟩
end
/-! ### loops -/
def loopM {σ α : Type} (f : σ → α → Option σ) : List α → σ → Option σ
  | [], s => some s
  | a :: l, s => (f s a).bind fun s' => loopM f l s'
def loopW {σ τ α : Type} (f : σ → α → Option (Fw σ τ)) : List α → σ → Option (Fw σ τ)
  | [], s => some (.nx s)
  | a :: l, s => (f s a).bind fun o => match o with
    | .nx s' => loopW f l s'
    | o => some o
/-- behind a turn -/
def Tn {σ κ τ : Type} (C : σ → κ → REnv) (R : τ → Fl → REnv → Prop) : Fw σ τ → Fl → REnv → Prop := fun o fl r => match o with
  | .nx s => (fl = .nx ∨ fl = .ct) ∧ ∃ j, r = C s j
  | .bk s => fl = .bk ∧ ∃ j, r = C s j
  | .rt t => (∃ x, fl = .rt x) ∧ R t fl r
def TnM {σ κ : Type} (C : σ → κ → REnv) : σ → Fl → REnv → Prop := fun s fl r => (fl = .nx ∨ fl = .ct) ∧ ∃ j, r = C s j
section
variable {α β σ κ τ : Type} {ρ ρ1 : REnv} {fb g : S1} {h : T1} {P : β → Fl → REnv → Prop} {fi : A1} {l : Option (List PyData)}
theorem loopM_sim {C : σ → κ → REnv} {D : α → PyData} {B : σ → κ → α → REnv} {body : σ → α → Option σ} (hb : ∀ s j a, h (D a) (C s j) = some (B s j a)) (hs : ∀ s j a, Sim fb (B s j a) (body s a) (TnM C)) :
    ∀ (xs : List α) (s : σ) (j : κ) (s' : σ), loopM body xs s = some s' → ∃ j', loopF h fb (xs.map D) (C s j) = some (.nx, C s' j')
  | [], s, j, s', e => by cases e; exact ⟨j, rfl⟩
  | x :: xs, s, j, s', e => by
    obtain ⟨s1, e1, e2⟩ := obind e
    obtain ⟨fl, r, q1, q2, j1, rfl⟩ := hs s j x s1 e1
    obtain ⟨j', q⟩ := loopM_sim hb hs xs s1 j1 s' e2
    refine ⟨j', ?_⟩
    rcases q2 with rfl | rfl <;> simp only [List.map_cons, loopF, hb, q1, q]
theorem loopW_sim {C : σ → κ → REnv} {R : τ → Fl → REnv → Prop} {D : α → PyData} {B : σ → κ → α → REnv} {body : σ → α → Option (Fw σ τ)} (hb : ∀ s j a, h (D a) (C s j) = some (B s j a)) (hs : ∀ s j a, Sim fb (B s j a) (body s a) (Tn C R)) :
    ∀ (xs : List α) (s : σ) (j : κ) (o : Fw σ τ), loopW body xs s = some o → ∃ fl r, loopF h fb (xs.map D) (C s j) = some (fl, r) ∧ match o with
      | .nx s' => fl = .nx ∧ ∃ j', r = C s' j'
      | .bk s' => fl = .nx ∧ ∃ j', r = C s' j'
      | .rt t => (∃ x, fl = .rt x) ∧ R t fl r
  | [], s, j, o, e => by cases e; exact ⟨_, _, rfl, rfl, j, rfl⟩
  | x :: xs, s, j, o, e => by
    obtain ⟨o1, e1, e2⟩ := obind e
    obtain ⟨fl, r, q1, q2⟩ := hs s j x o1 e1
    cases o1 with
    | nx s1 =>
      obtain ⟨q2, j1, rfl⟩ := q2
      obtain ⟨fl', r', q, q3⟩ := loopW_sim hb hs xs s1 j1 o e2
      refine ⟨fl', r', ?_, q3⟩
      rcases q2 with rfl | rfl <;> simp only [List.map_cons, loopF, hb, q1, q]
    | bk s1 =>
      cases e2
      obtain ⟨rfl, j1, rfl⟩ := q2
      exact ⟨.nx, _, by simp only [List.map_cons, loopF, hb, q1], rfl, j1, rfl⟩
    | rt t =>
      cases e2
      obtain ⟨⟨x, rfl⟩, q3⟩ := q2
      exact ⟨_, _, by simp only [List.map_cons, loopF, hb, q1], ⟨x, rfl⟩, q3⟩
/-- behind a loop: on, or out -/
def goW {σ τ β : Type} (e : τ → β) (k : σ → Option β) (o : Fw σ τ) : Option β := match o with
  | .nx s => k s
  | .bk s => k s
  | .rt r => some (e r)
theorem sim_forM {C : σ → κ → REnv} (D : α → PyData) (B : σ → κ → α → REnv) (U : List PyData → Option (List α)) (hU : ∀ ds xs, U ds = some xs → ds = xs.map D) {body : σ → α → Option σ} {c : σ → Option β} (s0 : σ) (j0 : κ) (hi : Ev fi ρ ρ1 l) (h0 : ρ1 = C s0 j0)
    (hb : ∀ s j a, h (D a) (C s j) = some (B s j a)) (hs : ∀ s j a, Sim fb (B s j a) (body s a) (TnM C)) (hk : ∀ s j, Sim g (C s j) (c s) P) :
    Sim (sSeq (sFor fi h fb) g) ρ (l.bind fun ds => (U ds).bind fun xs => (loopM body xs s0).bind fun s => c s) P := fun a e => by
  obtain ⟨ds, e1, e2⟩ := obind e
  obtain ⟨xs, e3, e4⟩ := obind e2
  obtain ⟨s, e5, e6⟩ := obind e4
  have hd := hU _ _ e3
  subst hd
  subst h0
  obtain ⟨j', q⟩ := loopM_sim hb hs xs s0 j0 s e5
  obtain ⟨fl, r, q1, q2⟩ := hk s j' a e6
  exact ⟨fl, r, by rw [seqN (show sFor fi h fb ρ = _ by simp only [sFor, hi _ e1]; exact q)]; exact q1, q2⟩
theorem sim_forW {C : σ → κ → REnv} {R : τ → Fl → REnv → Prop} (em : τ → β) (D : α → PyData) (B : σ → κ → α → REnv) (U : List PyData → Option (List α)) (hU : ∀ ds xs, U ds = some xs → ds = xs.map D) {body : σ → α → Option (Fw σ τ)} {c : σ → Option β} (s0 : σ) (j0 : κ) (hi : Ev fi ρ ρ1 l) (h0 : ρ1 = C s0 j0)
    (hb : ∀ s j a, h (D a) (C s j) = some (B s j a)) (hs : ∀ s j a, Sim fb (B s j a) (body s a) (Tn C R)) (hk : ∀ s j, Sim g (C s j) (c s) P) (hr : ∀ t x r, R t (.rt x) r → P (em t) (.rt x) r) :
    Sim (sSeq (sFor fi h fb) g) ρ (l.bind fun ds => (U ds).bind fun xs => (loopW body xs s0).bind fun o => goW em c o) P := fun a e => by
  obtain ⟨ds, e1, e2⟩ := obind e
  obtain ⟨xs, e3, e4⟩ := obind e2
  obtain ⟨o, e5, e6⟩ := obind e4
  have hd := hU _ _ e3
  subst hd
  subst h0
  obtain ⟨fl, r, q, q2⟩ := loopW_sim hb hs xs s0 j0 o e5
  have hf : sFor fi h fb ρ = some (fl, r) := by simp only [sFor, hi _ e1]; exact q
  cases o with
  | nx s =>
    obtain ⟨rfl, j', rfl⟩ := q2
    obtain ⟨fl, r, q3, q4⟩ := hk s j' a e6
    exact ⟨fl, r, by rw [seqN hf]; exact q3, q4⟩
  | bk s =>
    obtain ⟨rfl, j', rfl⟩ := q2
    obtain ⟨fl, r, q3, q4⟩ := hk s j' a e6
    exact ⟨fl, r, by rw [seqN hf]; exact q3, q4⟩
  | rt t =>
    obtain ⟨⟨x, rfl⟩, q3⟩ := q2
    cases e6
    exact ⟨_, _, seqR hf, hr t x r q3⟩
/-- what is walked draws -/
theorem sim_forMS {S : Type} {E : S → REnv} {ml : Option (List PyData × S)} {C : σ → κ → REnv} (D : α → PyData) (B : σ → κ → α → REnv) (U : List PyData → Option (List α)) (hU : ∀ ds xs, U ds = some xs → ds = xs.map D) {body : σ → α → Option σ} {c : σ → Option β} (s0 : S → σ) (j0 : κ) (hi : EvS fi ρ ml E) (h0 : ∀ w, E w = C (s0 w) j0)
    (hb : ∀ s j a, h (D a) (C s j) = some (B s j a)) (hs : ∀ s j a, Sim fb (B s j a) (body s a) (TnM C)) (hk : ∀ s j, Sim g (C s j) (c s) P) :
    Sim (sSeq (sFor fi h fb) g) ρ (ml.bind fun p => (U p.1).bind fun xs => (loopM body xs (s0 p.2)).bind fun s => c s) P := fun a e => by
  obtain ⟨⟨ds, w⟩, e1, e2⟩ := obind e
  obtain ⟨xs, e3, e4⟩ := obind e2
  obtain ⟨s, e5, e6⟩ := obind e4
  have hd := hU _ _ e3
  replace hd : ds = xs.map D := hd
  subst hd
  obtain ⟨j', q⟩ := loopM_sim hb hs xs _ j0 s e5
  obtain ⟨fl, r, q1, q2⟩ := hk s j' a e6
  exact ⟨fl, r, by rw [seqN (show sFor fi h fb ρ = _ by simp only [sFor, hi _ _ e1, h0]; exact q)]; exact q1, q2⟩
theorem sim_forWS {S : Type} {E : S → REnv} {ml : Option (List PyData × S)} {C : σ → κ → REnv} {R : τ → Fl → REnv → Prop} (em : τ → β) (D : α → PyData) (B : σ → κ → α → REnv) (U : List PyData → Option (List α)) (hU : ∀ ds xs, U ds = some xs → ds = xs.map D) {body : σ → α → Option (Fw σ τ)} {c : σ → Option β} (s0 : S → σ) (j0 : κ) (hi : EvS fi ρ ml E) (h0 : ∀ w, E w = C (s0 w) j0)
    (hb : ∀ s j a, h (D a) (C s j) = some (B s j a)) (hs : ∀ s j a, Sim fb (B s j a) (body s a) (Tn C R)) (hk : ∀ s j, Sim g (C s j) (c s) P) (hr : ∀ t x r, R t (.rt x) r → P (em t) (.rt x) r) :
    Sim (sSeq (sFor fi h fb) g) ρ (ml.bind fun p => (U p.1).bind fun xs => (loopW body xs (s0 p.2)).bind fun o => goW em c o) P := fun a e => by
  obtain ⟨⟨ds, w⟩, e1, e2⟩ := obind e
  obtain ⟨xs, e3, e4⟩ := obind e2
  obtain ⟨o, e5, e6⟩ := obind e4
  have hd := hU _ _ e3
  replace hd : ds = xs.map D := hd
  subst hd
  obtain ⟨fl, r, q, q2⟩ := loopW_sim hb hs xs _ j0 o e5
  have hf : sFor fi h fb ρ = some (fl, r) := by simp only [sFor, hi _ _ e1, h0]; exact q
  cases o with
  | nx s =>
    obtain ⟨rfl, j', rfl⟩ := q2
    obtain ⟨fl, r, q3, q4⟩ := hk s j' a e6
    exact ⟨fl, r, by rw [seqN hf]; exact q3, q4⟩
  | bk s =>
    obtain ⟨rfl, j', rfl⟩ := q2
    obtain ⟨fl, r, q3, q4⟩ := hk s j' a e6
    exact ⟨fl, r, by rw [seqN hf]; exact q3, q4⟩
  | rt t =>
    obtain ⟨⟨x, rfl⟩, q3⟩ := q2
    cases e6
    exact ⟨_, _, seqR hf, hr t x r q3⟩
theorem some_map (ds xs : List PyData) (h : some ds = some xs) : ds = xs.map fun a => a := by cases h; simp
end
/-! ### a def's end -/
def flR : Fl → Option Ret
  | .rt r => some r
  | .nx => some (.pl .none)
  | _ => none
/-- the whole def: its value and what the lists handed in hold -/
def Pf {α : Type} (xs : List PV) (r : α → Ret) (os : α → List (Option (List PyData))) : α → Fl → REnv → Prop := fun a fl ρ => flR fl = some (r a) ∧ outsOf ρ xs = os a
theorem fn_sim {α : Type} {m : Nat} {f : S1} {xs : List PV} {o : Option α} {r : α → Ret} {os : α → List (Option (List PyData))} (h : Sim f (xs.map some ++ List.replicate (m - xs.length) none) o (Pf xs r os)) {a : α} (e : o = some a) : fnOf m f xs = some (r a, os a) := by
  obtain ⟨fl, ρ', h1, h2, h3⟩ := h a e
  unfold fnOf
  rw [h1]
  cases fl with
  | nx => have q := Option.some.inj h2; simp only [← q, ← h3]
  | rt x => have q := Option.some.inj h2; simp only [← q, ← h3]
  | bk => cases h2
  | ct => cases h2
end Dv

/-! Dw: reckoning with direct code. -/
namespace Dv
open PySem
/-- no road for dsimp -/
theorem nr {α : Type} {a b : α} (h : a = b) : a = b := h
theorem bsome {α β : Type} (a : α) (f : α → Option β) : (some a).bind f = f a := nr rfl
theorem bassoc {α β γ : Type} (o : Option α) (f : α → Option β) (g : β → Option γ) : (o.bind f).bind g = o.bind fun x => (f x).bind g := by cases o <;> rfl
theorem nLenT (xs : List PyData) : gLen [.tuple xs] = some (.int xs.length) := nr rfl
theorem nLenL (xs : List PyData) : gLen [.list xs] = some (.int xs.length) := nr rfl
theorem nAdd (i j : Int) : gAdd (.int i) (.int j) = some (.int (i + j)) := nr rfl
theorem nSub (i j : Int) : gSub (.int i) (.int j) = some (.int (i - j)) := nr rfl
theorem nLt (i j : Int) : gLt (.int i) (.int j) = some (.bool (decide (i < j))) := nr rfl
theorem nLe (i j : Int) : gLe (.int i) (.int j) = some (.bool (decide (i ≤ j))) := nr rfl
theorem nGt (i j : Int) : gGt (.int i) (.int j) = some (.bool (decide (j < i))) := nr rfl
theorem nGe (i j : Int) : gGe (.int i) (.int j) = some (.bool (decide (j ≤ i))) := nr rfl
theorem nInt (i : Int) : gInt [.int i] = some (.int i) := nr rfl
theorem nNeg (i : Int) : gNeg (.int i) = some (.int (-i)) := nr rfl
theorem nItT (xs : List PyData) : itemsOf (.tuple xs) = some xs := nr rfl
theorem nItL (xs : List PyData) : itemsOf (.list xs) = some xs := nr rfl
theorem nTupL (xs : List PyData) : gTuple [.list xs] = some (.tuple xs) := nr rfl
theorem nTupT (xs : List PyData) : gTuple [.tuple xs] = some (.tuple xs) := nr rfl
theorem nListT (xs : List PyData) : gList [.tuple xs] = some xs := nr rfl
theorem nListL (xs : List PyData) : gList [.list xs] = some xs := nr rfl
theorem nIx2a (a b : PyData) : gIx (.tuple [a, b]) (.int 0) = some a := nr rfl
theorem nIx2b (a b : PyData) : gIx (.tuple [a, b]) (.int 1) = some b := nr rfl
theorem nUn2 (a b : PyData) : un2 (.tuple [a, b]) = some (a, b) := nr rfl
theorem nUn3 (a b c : PyData) : un3 (.tuple [a, b, c]) = some (a, b, c) := nr rfl
theorem nPart (i : Int) : partO (.int i) = some (some i) := nr rfl
theorem nNotT : (!true) = false := nr rfl
theorem nNotF : (!false) = true := nr rfl
theorem nGoN {σ τ β : Type} (e : τ → β) (k : σ → Option β) (s : σ) : goW e k (.nx s) = k s := nr rfl
theorem nGoB {σ τ β : Type} (e : τ → β) (k : σ → Option β) (s : σ) : goW e k (.bk s) = k s := nr rfl
theorem nGoR {σ τ β : Type} (e : τ → β) (k : σ → Option β) (r : τ) : goW e k (.rt r) = some (e r) := nr rfl
/-- it ends, and P holds of it -/
def WP {α : Type} (o : Option α) (P : α → Prop) : Prop := ∃ a, o = some a ∧ P a
section
variable {α β : Type} {o : Option α} {P : α → Prop} {Q : β → Prop}
theorem WP.ret {a : α} (h : P a) : WP (Option.some a) P := ⟨a, rfl, h⟩
theorem WP.of {a : α} (e : o = some a) (h : P a) : WP o P := ⟨a, e, h⟩
theorem WP.bind {k : α → Option β} (h : WP o P) (hk : ∀ a, P a → WP (k a) Q) : WP (o.bind k) Q := by
  obtain ⟨a, rfl, h⟩ := h; exact hk a h
theorem WP.mono {P' : α → Prop} (h : WP o P) (hk : ∀ a, P a → P' a) : WP o P' := by
  obtain ⟨a, e, h⟩ := h; exact ⟨a, e, hk a h⟩
theorem WP.eq {a : α} {k : α → Option β} (e : o = .some a) (h : WP (k a) Q) : WP (o.bind k) Q := by subst e; exact h
theorem WP.ite {b : Bool} {x y : Option α} (h1 : b = true → WP x P) (h2 : b = false → WP y P) : WP (if b then x else y) P := by
  cases b with
  | true => exact h1 rfl
  | false => exact h2 rfl
theorem loopM_wp {σ : Type} {f : σ → α → Option σ} (I : σ → Prop) : ∀ (xs : List α) (s : σ), I s → (∀ s a, a ∈ xs → I s → WP (f s a) I) → WP (loopM f xs s) I
  | [], s, h, _ => ⟨s, rfl, h⟩
  | x :: xs, s, h, hf => (hf s x List.mem_cons_self h).bind fun s' h' => loopM_wp I xs s' h' fun s a m => hf s a (List.mem_cons_of_mem _ m)
/-- by what has been walked -/
theorem loopM_wpi {σ : Type} {f : σ → α → Option σ} (I : List α → σ → Prop) : ∀ (xs pre : List α) (s : σ), I pre s → (∀ pre a post s, pre ++ a :: post = pre ++ a :: post → I pre s → a ∈ xs → WP (f s a) (I (pre ++ [a]))) → WP (loopM f xs s) (I (pre ++ xs))
  | [], pre, s, h, _ => ⟨s, rfl, by rwa [List.append_nil]⟩
  | x :: xs, pre, s, h, hf => (hf pre x xs s rfl h List.mem_cons_self).bind fun s' h' => by
    have := loopM_wpi I xs (pre ++ [x]) s' h' fun p a q s e i m => hf p a q s e i (List.mem_cons_of_mem _ m)
    rwa [List.append_assoc] at this
theorem loopW_wp {σ τ : Type} {f : σ → α → Option (Fw σ τ)} (I : σ → Prop) (Z : Fw σ τ → Prop) (hz : ∀ s, I s → Z (.nx s)) : ∀ (xs : List α) (s : σ), I s → (∀ s a, a ∈ xs → I s → WP (f s a) fun o => match o with | .nx s => I s | o => Z o) → WP (loopW f xs s) Z
  | [], s, h, _ => ⟨_, rfl, hz s h⟩
  | x :: xs, s, h, hf => by
    obtain ⟨o, e, h'⟩ := hf s x List.mem_cons_self h
    unfold loopW
    rw [e, Option.bind_some]
    cases o with
    | nx s' => exact loopW_wp I Z hz xs s' h' fun s a m => hf s a (List.mem_cons_of_mem _ m)
    | bk s' => exact ⟨_, rfl, h'⟩
    | rt r => exact ⟨_, rfl, h'⟩
/-- a search -/
theorem loopW_find {σ τ : Type} {f : σ → α → Option (Fw σ τ)} {s : σ} {r : τ} (q : α → Bool) : ∀ (xs : List α), (∀ a ∈ xs, f s a = if q a then some (.rt r) else some (.nx s)) → loopW f xs s = if xs.any q then some (.rt r) else some (.nx s)
  | [], _ => rfl
  | x :: xs, h => by
    unfold loopW
    rw [h x List.mem_cons_self, List.any_cons]
    cases hq : q x with
    | true => simp
    | false =>
      simp only [Bool.false_eq_true, if_false, Option.bind_some, Bool.false_or]
      exact loopW_find q xs fun a m => h a (List.mem_cons_of_mem _ m)
theorem lm_some {e : α → Option β} {g : α → β} {xs : List α} (h : ∀ a ∈ xs, e a = some (g a)) (hl : xs.length ≤ sizeLine) : lmO e xs = some (xs.map g) := by
  unfold lmO
  rw [if_pos (le_fits hl)]
  clear hl
  induction xs with
  | nil => rfl
  | cons x xs ih =>
    unfold lcm'
    rw [h x List.mem_cons_self, Option.bind_some, ih fun a m => h a (List.mem_cons_of_mem _ m)]; rfl
theorem lcf_some {t : α → Option Bool} {p : α → Bool} {e : α → Option β} {g : α → β} : ∀ {xs : List α}, (∀ a ∈ xs, t a = some (p a)) → (∀ a ∈ xs, p a = true → e a = some (g a)) → lcf t e xs = some ((xs.filter p).map g)
  | [], _, _ => rfl
  | x :: xs, ht, he => by
    unfold lcf
    rw [ht x List.mem_cons_self, Option.bind_some, lcf_some (fun a m => ht a (List.mem_cons_of_mem _ m)) fun a m => he a (List.mem_cons_of_mem _ m)]
    cases hp : p x with
    | true => simp [he x List.mem_cons_self hp, hp]
    | false => simp [hp]
theorem lc_some {t : α → Option Bool} {p : α → Bool} {e : α → Option β} {g : α → β} {xs : List α} (ht : ∀ a ∈ xs, t a = some (p a)) (he : ∀ a ∈ xs, p a = true → e a = some (g a)) (hl : xs.length ≤ sizeLine) : lcO t e xs = some ((xs.filter p).map g) := by
  unfold lcO
  rw [if_pos (le_fits hl), lcf_some ht he]
theorem lc2f_some {γ : Type} {t : α → Option Bool} {p : α → Bool} {i : α → Option (List β)} {m : α → List β} {t1 : α → β → Option Bool} {p1 : α → β → Bool} {e : α → β → Option γ} {g : α → β → γ} : ∀ {xs : List α}, (∀ a ∈ xs, t a = some (p a)) → (∀ a ∈ xs, p a = true → i a = some (m a)) →
    (∀ a ∈ xs, p a = true → ∀ b ∈ m a, t1 a b = some (p1 a b)) → (∀ a ∈ xs, p a = true → ∀ b ∈ m a, p1 a b = true → e a b = some (g a b)) → lc2f t i t1 e xs = some ((xs.filter p).flatMap fun a => ((m a).filter (p1 a)).map (g a))
  | [], _, _, _, _ => rfl
  | x :: xs, ht, hi, h1, h2 => by
    unfold lc2f
    rw [ht x List.mem_cons_self, Option.bind_some, lc2f_some (fun a m => ht a (List.mem_cons_of_mem _ m)) (fun a m => hi a (List.mem_cons_of_mem _ m)) (fun a m => h1 a (List.mem_cons_of_mem _ m)) fun a m => h2 a (List.mem_cons_of_mem _ m)]
    cases hp : p x with
    | true =>
      simp only [if_true, hi x List.mem_cons_self hp, Option.bind_some, lcf_some (h1 x List.mem_cons_self hp) (h2 x List.mem_cons_self hp), List.filter_cons, hp, List.flatMap_cons]
    | false => simp [hp]
theorem lc2_some {γ : Type} {t : α → Option Bool} {p : α → Bool} {i : α → Option (List β)} {m : α → List β} {t1 : α → β → Option Bool} {p1 : α → β → Bool} {e : α → β → Option γ} {g : α → β → γ} {xs : List α} (ht : ∀ a ∈ xs, t a = some (p a)) (hi : ∀ a ∈ xs, p a = true → i a = some (m a))
    (h1 : ∀ a ∈ xs, p a = true → ∀ b ∈ m a, t1 a b = some (p1 a b)) (h2 : ∀ a ∈ xs, p a = true → ∀ b ∈ m a, p1 a b = true → e a b = some (g a b)) (hl : ((xs.filter p).flatMap fun a => ((m a).filter (p1 a)).map (g a)).length ≤ sizeLine) : lc2O t i t1 e xs = some ((xs.filter p).flatMap fun a => ((m a).filter (p1 a)).map (g a)) := by
  unfold lc2O
  rw [lc2f_some ht hi h1 h2, Option.bind_some, if_pos (le_fits hl)]
end
/-! ### what a value is -/
/-- plain data, no row longer than n -/
inductive Gd (n : Nat) : PyData → Prop
  | non : Gd n .none
  | bl (b : Bool) : Gd n (.bool b)
  | int (i : Int) : Gd n (.int i)
  | str (x : Str) : Gd n (.str x)
  | dic : Gd n (.dict [])
  | lst {ds : List PyData} (h : ds.length ≤ n) (t : ∀ d ∈ ds, Gd n d) : Gd n (.list ds)
  | tup {ds : List PyData} (h : ds.length ≤ n) (t : ∀ d ∈ ds, Gd n d) : Gd n (.tuple ds)
theorem Gd.up {n m : Nat} (h : n ≤ m) : ∀ {d : PyData}, Gd n d → Gd m d := fun g => by
  induction g with
  | non => exact .non
  | bl b => exact .bl b
  | int i => exact .int i
  | str x => exact .str x
  | dic => exact .dic
  | lst h1 _ ih => exact .lst (Nat.le_trans h1 h) ih
  | tup h1 _ ih => exact .tup (Nat.le_trans h1 h) ih
theorem Gd.len {n : Nat} {xs : List PyData} (h : Gd n (.tuple xs)) : xs.length ≤ n := by cases h; assumption
theorem Gd.mem {n : Nat} {xs : List PyData} (h : Gd n (.tuple xs)) : ∀ d ∈ xs, Gd n d := by cases h; assumption
def isW : PyData → Bool
  | .int _ => true
  | _ => false
def isI : PyData → Bool
  | .int _ => true
  | .bool _ => true
  | _ => false
def isB : PyData → Bool
  | .bool _ => true
  | _ => false
def isT : PyData → Bool
  | .tuple _ => true
  | _ => false
def isS : PyData → Bool
  | .str _ => true
  | _ => false
section
variable {n : Nat} {d : PyData}
theorem isi_int' (h : Gd n d) : isi "int" d = some (.bool (isI d)) := by
  unfold isi
  cases h <;> first | rfl | (simp only [tyName]; first | rfl | decide +kernel)
theorem isi_bool' (h : Gd n d) : isi "bool" d = some (.bool (isB d)) := by
  unfold isi
  cases h <;> first | rfl | (simp only [tyName]; first | rfl | decide +kernel)
theorem isi_tup' (h : Gd n d) : isi "tuple" d = some (.bool (isT d)) := by
  unfold isi
  cases h <;> first | rfl | (simp only [tyName]; first | rfl | decide +kernel)
theorem isi_str' (h : Gd n d) : isi "str" d = some (.bool (isS d)) := by
  unfold isi
  cases h <;> first | rfl | (simp only [tyName]; first | rfl | decide +kernel)
end
theorem isT_ex {d : PyData} (h : isT d = true) : ∃ xs, d = .tuple xs := by cases d <;> simp [isT] at h; exact ⟨_, rfl⟩
theorem isW_ex {d : PyData} (h : isW d = true) : ∃ i, d = .int i := by cases d <;> simp [isW] at h; exact ⟨_, rfl⟩
theorem andO_bb (b c : Bool) : andO (some (.bool b)) (some (.bool c)) = some (.bool (b && c)) := by cases b <;> rfl
/-- the second one only where the first one holds -/
theorem andO_of {b c : Bool} {o : Option PyData} (h : b = true → o = some (.bool c)) : andO (some (.bool b)) o = some (.bool (b && c)) := by
  cases b with
  | true => rw [h rfl]; rfl
  | false => rfl
theorem orO_of {b c : Bool} {o : Option PyData} (h : b = false → o = some (.bool c)) : orO (some (.bool b)) o = some (.bool (b || c)) := by
  cases b with
  | true => rfl
  | false => rw [h rfl]; rfl
theorem notO_b (b : Bool) : notO (some (.bool b)) = some (.bool (!b)) := nr rfl
theorem tBd_b (b : Bool) : tBd (.bool b) = some b := nr rfl
theorem isi_w (n : Nat) {d : PyData} (h : Gd n d) : andO (isi "int" d) (notO (isi "bool" d)) = some (.bool (isW d)) := by
  rw [isi_int' h, isi_bool' h, notO_b, andO_bb]
  cases h <;> rfl
theorem tupO_ok {xs : List PyData} (h : xs.length ≤ 100000) : tupO xs = some (.tuple xs) := by unfold tupO; rw [if_pos (le_fits (k5 h))]
theorem lstO_ok {xs : List PyData} (h : xs.length ≤ 100000) : lstO xs = some xs := by unfold lstO; rw [if_pos (le_fits (k5 h))]
theorem appO_ok {xs : List PyData} {d : PyData} (h : xs.length < 100000) : appO xs d = some (xs ++ [d]) := by unfold appO; rw [if_pos (le_fits (Nat.le_trans h sz5))]
theorem rngO_nat {n : Nat} (h : n ≤ 100000) : rngO (.int n) = some ((List.range n).map fun (i : Nat) => .int i) := by
  unfold rngO
  simp only [okR_nat h, if_true, rangeD, Int.toNat_natCast]
  congr 2
  funext i
  rw [Int.zero_add]
theorem rngO_int {j : Int} (h : -100000 ≤ j ∧ j ≤ 100000) : rngO (.int j) = some ((List.range j.toNat).map fun (i : Nat) => .int i) := by
  unfold rngO
  simp only [okR_int h, if_true, rangeD]
  congr 2
  funext i
  rw [Int.zero_add]
theorem rng2O_1 {n : Nat} (h : n ≤ 100000) : rng2O (.int 1) (.int n) = some ((List.range (n - 1)).map fun (i : Nat) => .int (1 + (i : Int))) := by
  unfold rng2O
  simp only [okR_nat h, okR_nat (n := 1) (by omega), if_true, rangeD]
  rw [show okR 1 = true from rfl]
  simp only [Bool.and_self, if_true]
  congr 3
  omega
theorem eqNat (a b : Nat) : gEqA (.int a) (.int b) = some (.bool (decide (a = b))) := by
  show gEq (.int a) (.int b) = _
  simp [gEq, SeqAt.shaped, PyData.canLay0, PyData.depth, PyData.eqv]
  exact Bool.eq_iff_iff.mpr (by simp; omega)
theorem eqInt (a b : Int) : gEqA (.int a) (.int b) = some (.bool (decide (a = b))) := by
  show gEq (.int a) (.int b) = _
  simp [gEq, SeqAt.shaped, PyData.canLay0, PyData.depth, PyData.eqv]
  exact Bool.eq_iff_iff.mpr (by simp)
theorem neInt (a b : Int) : gNeA (.int a) (.int b) = some (.bool (!decide (a = b))) := by
  show gNe (.int a) (.int b) = _
  simp [gNe, SeqAt.shaped, PyData.canLay0, PyData.depth, PyData.eqv]
  exact Bool.eq_iff_iff.mpr (by simp)
theorem eqStr (a b : Str) : gEqA (.str a) (.str b) = some (.bool (decide (a = b))) := nr rfl
theorem neStr (a b : Str) : gNeA (.str a) (.str b) = some (.bool (!decide (a = b))) := nr rfl
theorem all_bool (bs : List Bool) : gAll [.list (bs.map .bool)] = some (.bool (bs.all id)) := by simp [gAll, blsOf_map]
theorem any_bool (bs : List Bool) : gAny [.list (bs.map .bool)] = some (.bool (bs.any id)) := by simp [gAny, blsOf_map]
/-! ### a well of draws -/
def W3 (w : List PyData) : Prop := ∃ a b c : Int, w = [.int a, .int b, .int c]
theorem sm_mod (i : Int) : small64 (i % 2147483489) = true := by
  have a := Int.emod_nonneg i (show (2147483489 : Int) ≠ 0 by omega)
  have b := Int.emod_lt_of_pos i (show (0 : Int) < 2147483489 by omega)
  simp [small64]; omega
theorem ix30 : L2.ixN 3 0 = some 0 := rfl
theorem ix31 : L2.ixN 3 1 = some 1 := rfl
theorem ix32 : L2.ixN 3 2 = some 2 := rfl
theorem ixL0 (a b c : PyData) : gIx (.list [a, b, c]) (.int 0) = some a := rfl
theorem ixL1 (a b c : PyData) : gIx (.list [a, b, c]) (.int 1) = some b := rfl
theorem ixL2 (a b c : PyData) : gIx (.list [a, b, c]) (.int 2) = some c := rfl
end Dv

/-! Dw: rows of ints, rows of these. -/
namespace Dv
open PySem
theorem lm_map {α β γ : Type} {e : β → Option γ} {f : α → β} {g : α → γ} {l : List α} (h : ∀ a ∈ l, e (f a) = some (g a)) (hl : l.length ≤ 100000) : lmO e (l.map f) = some (l.map g) := by
  have q : lmO e (l.map f) = lmO (fun a => e (f a)) l := by
    unfold lmO
    rw [List.length_map]
    congr 1
    clear h hl
    induction l with
    | nil => rfl
    | cons x xs ih => simp only [List.map_cons, lcm', ih]
  rw [q]
  exact lm_some h (k5 hl)
theorem lc_map {α β γ : Type} {t : β → Option Bool} {e : β → Option γ} {f : α → β} {p : α → Bool} {g : α → γ} {l : List α} (ht : ∀ a ∈ l, t (f a) = some (p a)) (h : ∀ a ∈ l, p a = true → e (f a) = some (g a)) (hl : l.length ≤ 100000) : lcO t e (l.map f) = some ((l.filter p).map g) := by
  have q : lcO t e (l.map f) = lcO (fun a => t (f a)) (fun a => e (f a)) l := by
    unfold lcO
    rw [List.length_map]
    congr 1
    clear h hl ht
    induction l with
    | nil => rfl
    | cons x xs ih => simp only [List.map_cons, lcf, ih]
  rw [q]
  exact lc_some ht h (k5 hl)
theorem lcf_map {α β γ : Type} {t : β → Option Bool} {e : β → Option γ} {f : α → β} {p : α → Bool} {g : α → γ} : ∀ {l : List α}, (∀ a ∈ l, t (f a) = some (p a)) → (∀ a ∈ l, p a = true → e (f a) = some (g a)) → lcf t e (l.map f) = some ((l.filter p).map g)
  | [], _, _ => rfl
  | x :: xs, ht, he => by
    rw [List.map_cons]
    unfold lcf
    rw [ht x List.mem_cons_self, bsome, lcf_map (fun a m => ht a (List.mem_cons_of_mem _ m)) fun a m => he a (List.mem_cons_of_mem _ m)]
    cases hp : p x with
    | true => simp [he x List.mem_cons_self hp, hp]
    | false => simp [hp]
theorem lc2_map {α α' β β' γ : Type} {f : α → β} {f1 : α' → β'} {t : β → Option Bool} {p : α → Bool} {i : β → Option (List β')} {m : α → List α'} {t1 : β → β' → Option Bool} {p1 : α → α' → Bool} {e : β → β' → Option γ} {g : α → α' → γ} {l : List α} (ht : ∀ a ∈ l, t (f a) = some (p a)) (hi : ∀ a ∈ l, p a = true → i (f a) = some ((m a).map f1))
    (h1 : ∀ a ∈ l, p a = true → ∀ b ∈ m a, t1 (f a) (f1 b) = some (p1 a b)) (h2 : ∀ a ∈ l, p a = true → ∀ b ∈ m a, p1 a b = true → e (f a) (f1 b) = some (g a b)) (hl : ((l.filter p).flatMap fun a => ((m a).filter (p1 a)).map (g a)).length ≤ 100000) : lc2O t i t1 e (l.map f) = some ((l.filter p).flatMap fun a => ((m a).filter (p1 a)).map (g a)) := by
  have q : lc2f t i t1 e (l.map f) = some ((l.filter p).flatMap fun a => ((m a).filter (p1 a)).map (g a)) := by
    clear hl
    induction l with
    | nil => rfl
    | cons x xs ih =>
      rw [List.map_cons]
      unfold lc2f
      rw [ht x List.mem_cons_self, bsome, ih (fun a m => ht a (List.mem_cons_of_mem _ m)) (fun a m => hi a (List.mem_cons_of_mem _ m)) (fun a m => h1 a (List.mem_cons_of_mem _ m)) fun a m => h2 a (List.mem_cons_of_mem _ m)]
      cases hp : p x with
      | true =>
        rw [if_pos rfl, hi x List.mem_cons_self hp, bsome, lcf_map (h1 x List.mem_cons_self hp) (h2 x List.mem_cons_self hp), bsome, bsome, List.filter_cons, if_pos hp, List.flatMap_cons]
      | false => simp [hp]
  unfold lc2O
  rw [q, bsome, if_pos (le_fits (k5 hl))]
abbrev ti (ns : List Int) : PyData := .tuple (ns.map .int)
abbrev tt (ls : List (List Int)) : PyData := .tuple (ls.map ti)
theorem lay_ints : ∀ ns : List Int, PyData.canLayAll0 (ns.map .int) = true
  | [] => rfl
  | n :: ns => by simp [PyData.canLayAll0, PyData.canLay0, lay_ints ns]
theorem dep_ints : ∀ ns : List Int, PyData.depthAll (ns.map .int) = 0
  | [] => rfl
  | n :: ns => by simp [PyData.depthAll, PyData.depth, dep_ints ns]
theorem lay_tis : ∀ ls : List (List Int), PyData.canLayAll0 (ls.map ti) = true
  | [] => rfl
  | l :: ls => by simp [PyData.canLayAll0, PyData.canLay0, lay_ints, lay_tis ls]
theorem dep_tis : ∀ ls : List (List Int), PyData.depthAll (ls.map ti) ≤ 1
  | [] => by simp [PyData.depthAll]
  | l :: ls => by have := dep_tis ls; simp [PyData.depthAll, PyData.depth, dep_ints]; omega
theorem sh_ti (ns : List Int) : SeqAt.shaped (ti ns) = true := by
  simp [SeqAt.shaped, PyData.canLay0, lay_ints, PyData.depth, dep_ints]
theorem sh_li (ns : List Int) : SeqAt.shaped (.list (ns.map .int)) = true := by
  simp [SeqAt.shaped, PyData.canLay0, lay_ints, PyData.depth, dep_ints]
theorem sh_tt (ls : List (List Int)) : SeqAt.shaped (tt ls) = true := by
  have := dep_tis ls
  simp [SeqAt.shaped, PyData.canLay0, lay_tis, PyData.depth]; omega
theorem sh_lt (ls : List (List Int)) : SeqAt.shaped (.list (ls.map ti)) = true := by
  have := dep_tis ls
  simp [SeqAt.shaped, PyData.canLay0, lay_tis, PyData.depth]; omega
theorem sh_int (i : Int) : SeqAt.shaped (.int i) = true := rfl
theorem eqv_ints : ∀ a b : List Int, PyData.eqvAll (a.map .int) (b.map .int) = decide (a = b)
  | [], [] => rfl
  | [], _ :: _ => rfl
  | _ :: _, [] => rfl
  | x :: a, y :: b => by
    simp only [List.map_cons, PyData.eqvAll, PyData.eqv, eqv_ints a b]
    exact Bool.eq_iff_iff.mpr (by simp)
theorem eqv_ti (a b : List Int) : PyData.eqv (ti a) (ti b) = decide (a = b) := by simp only [PyData.eqv, eqv_ints]
theorem eqv_tis : ∀ a b : List (List Int), PyData.eqvAll (a.map ti) (b.map ti) = decide (a = b)
  | [], [] => rfl
  | [], _ :: _ => rfl
  | _ :: _, [] => rfl
  | x :: a, y :: b => by
    simp only [List.map_cons, PyData.eqvAll, eqv_ti, eqv_tis a b]
    exact Bool.eq_iff_iff.mpr (by simp)
theorem eq_ti (a b : List Int) : gEqA (ti a) (ti b) = some (.bool (decide (a = b))) := by
  show gEq (ti a) (ti b) = _
  unfold gEq; rw [sh_ti, sh_ti, eqv_ti]; rfl
theorem ne_ti (a b : List Int) : gNeA (ti a) (ti b) = some (.bool (!decide (a = b))) := by
  show gNe (ti a) (ti b) = _
  unfold gNe; rw [sh_ti, sh_ti, eqv_ti]; rfl
theorem eq_tt (a b : List (List Int)) : gEqA (tt a) (tt b) = some (.bool (decide (a = b))) := by
  show gEq (tt a) (tt b) = _
  unfold gEq; rw [sh_tt, sh_tt]; simp only [PyData.eqv, eqv_tis, Bool.and_self, if_true]
theorem eq_li (a b : List Int) : gEqA (.list (a.map .int)) (.list (b.map .int)) = some (.bool (decide (a = b))) := by
  show gEq (.list (a.map .int)) (.list (b.map .int)) = _
  unfold gEq; rw [sh_li, sh_li]; simp only [PyData.eqv, eqv_ints, Bool.and_self, if_true]
theorem ne_li (a b : List Int) : gNeA (.list (a.map .int)) (.list (b.map .int)) = some (.bool (!decide (a = b))) := by
  show gNe (.list (a.map .int)) (.list (b.map .int)) = _
  unfold gNe; rw [sh_li, sh_li]; simp only [PyData.eqv, eqv_ints, Bool.and_self, if_true]
theorem eq_lt (a b : List (List Int)) : gEqA (.list (a.map ti)) (.list (b.map ti)) = some (.bool (decide (a = b))) := by
  show gEq (.list (a.map ti)) (.list (b.map ti)) = _
  unfold gEq; rw [sh_lt, sh_lt]; simp only [PyData.eqv, eqv_tis, Bool.and_self, if_true]
theorem eq_ln (a : List (List Int)) : gEqA (.list (a.map ti)) (.list []) = some (.bool (decide (a = []))) := eq_lt a []
theorem eq_in (a : List Int) : gEqA (.list (a.map .int)) (.list []) = some (.bool (decide (a = []))) := eq_li a []
theorem ne_in (a : List Int) : gNeA (.list (a.map .int)) (.list []) = some (.bool (!decide (a = []))) := ne_li a []
theorem ne_t0 (a : List Int) : gNeA (ti a) (.tuple []) = some (.bool (!decide (a = []))) := ne_ti a []
theorem any_eq (i : Int) (ns : List Int) : (ns.any fun n => n == i) = decide (i ∈ ns) := by
  exact Bool.eq_iff_iff.mpr (by simp)
theorem in_ti (i : Int) (ns : List Int) : gIn (.int i) (ti ns) = some (.bool (decide (i ∈ ns))) := by
  simp only [gIn, gOr, gInT, intsOf_map, any_eq, Bool.false_eq_true, if_false]
theorem notin_ti (i : Int) (ns : List Int) : gNotIn (.int i) (ti ns) = some (.bool (!decide (i ∈ ns))) := by
  simp only [gNotIn, gOr, gInT, intsOf_map, any_eq, if_true]
theorem any_eqv (a : List Int) : ∀ ls : List (List Int), ((ls.map ti).any fun z => PyData.eqv z (ti a)) = decide (a ∈ ls)
  | [] => rfl
  | l :: ls => by
    rw [List.map_cons, List.any_cons, any_eqv a ls, eqv_ti, Bool.eq_iff_iff]
    simp only [Bool.or_eq_true, decide_eq_true_eq, List.mem_cons]
    exact ⟨fun h => h.elim (fun e => .inl e.symm) .inr, fun h => h.elim (fun e => .inl e.symm) .inr⟩
theorem notin_lt (a : List Int) (ls : List (List Int)) : gNotIn (ti a) (.list (ls.map ti)) = some (.bool (!decide (a ∈ ls))) := by
  have h : gInT true (ti a) (.list (ls.map ti)) = none := rfl
  have e : gInL true (ti a) (.list (ls.map ti)) = some (.bool (!decide (a ∈ ls))) := by
    show (if SeqAt.shaped (ti a) && SeqAt.shaped (.list (ls.map ti)) then some (PyData.bool (if true = true then !(ls.map ti).any fun z => PyData.eqv z (ti a) else _)) else none) = _
    rw [sh_ti, sh_lt, any_eqv]; rfl
  simp only [gNotIn, gOr, h, e]
theorem lt_ti (a b : List Int) : gLt (ti a) (ti b) = some (.bool (HT.lexLt a b)) := by
  unfold gLt gOr
  have h : (gI (fun i j => some (PyData.bool (decide (i < j)))) (ti a) (ti b)) = none := rfl
  rw [h]
  simp only [gLtT, intsOf_map]
theorem rows_ti : ∀ ls : List (List Int), (∀ l ∈ ls, l ≠ []) → rowsOf (ls.map ti) = some ls
  | [], _ => rfl
  | l :: ls, h => by
    have := rows_ti ls fun a m => h a (List.mem_cons_of_mem _ m)
    simp [rowsOf, intsOf_map, this, h l]
theorem sort_t (ls : List (List Int)) (h : ∀ l ∈ ls, l ≠ []) : gSorted [tt ls] = some (.list ((sortK ls).map ti)) := by simp only [gSorted, rows_ti ls h]
theorem sort_l (ls : List (List Int)) (h : ∀ l ∈ ls, l ≠ []) : gSorted [.list (ls.map ti)] = some (.list ((sortK ls).map ti)) := by simp only [gSorted, rows_ti ls h]
/-! ### one behind the other -/
def adjB {α : Type} (lt : α → α → Bool) : List α → Bool
  | a :: b :: r => lt a b && adjB lt (b :: r)
  | _ => true
theorem all_range_succ (n : Nat) (q : Nat → Bool) : (List.range (n + 1)).all q = (q 0 && (List.range n).all fun i => q (i + 1)) := by
  rw [List.range_succ_eq_map, List.all_cons, List.all_map]; rfl
theorem adj_range {α : Type} (lt : α → α → Bool) (z : α) : ∀ xs : List α, ((List.range (xs.length - 1)).all fun i => lt (xs.getD i z) (xs.getD (i + 1) z)) = adjB lt xs
  | [] => rfl
  | [_] => rfl
  | a :: b :: r => by
    have ih := adj_range lt z (b :: r)
    show ((List.range (r.length + 1)).all _) = _
    rw [all_range_succ]
    show (lt a b && _) = (lt a b && adjB lt (b :: r))
    rw [← ih]; rfl
theorem adj_map {α β : Type} (lt : α → α → Bool) (lt' : β → β → Bool) (f : β → α) (h : ∀ a b, lt (f a) (f b) = lt' a b) : ∀ xs : List β, adjB lt (xs.map f) = adjB lt' xs
  | [] => rfl
  | [_] => rfl
  | a :: b :: r => by
    have := adj_map lt lt' f h (b :: r)
    simp only [List.map_cons, adjB, h] at this ⊢
    rw [this]
def ltI : PyData → PyData → Bool
  | .int i, .int j => decide (i < j)
  | _, _ => false
def isIdx (m : Int) : PyData → Bool
  | .int i => decide (0 ≤ i) && decide (i < m)
  | _ => false
def allIdx (m : Int) : PyData → Bool
  | .tuple xs => xs.all (isIdx m)
  | _ => false
def ascI : PyData → Bool
  | .tuple xs => adjB ltI xs
  | _ => false
def isLot (m : Int) : PyData → Bool
  | .tuple xs => xs.all (isIdx m) && adjB ltI xs
  | _ => false
def tupN (n : Nat) : PyData → Bool
  | .tuple xs => decide (xs.length = n)
  | _ => false
theorem isIdx_ex {m : Int} {d : PyData} (h : isIdx m d = true) : ∃ i, d = .int i ∧ 0 ≤ i ∧ i < m := by
  cases d <;> simp [isIdx] at h
  exact ⟨_, rfl, h⟩
theorem gLt_idx {m : Int} {x y : PyData} (h : isIdx m x = true) (g : isIdx m y = true) : gLt x y = some (.bool (ltI x y)) := by
  obtain ⟨i, rfl, _⟩ := isIdx_ex h
  obtain ⟨j, rfl, _⟩ := isIdx_ex g
  rfl
/-- an ascending row of ints in [0, m) -/
def IsLot (m : Int) (ns : List Int) : Prop := (∀ i ∈ ns, 0 ≤ i ∧ i < m) ∧ adjB (fun a b : Int => decide (a < b)) ns = true
theorem ints_of {m : Int} : ∀ {xs : List PyData}, xs.all (isIdx m) = true → ∃ ns : List Int, xs = ns.map .int ∧ ∀ i ∈ ns, 0 ≤ i ∧ i < m
  | [], _ => ⟨[], rfl, by simp⟩
  | x :: xs, h => by
    simp only [List.all_cons, Bool.and_eq_true] at h
    obtain ⟨i, rfl, hi⟩ := isIdx_ex h.1
    obtain ⟨ns, rfl, hn⟩ := ints_of h.2
    exact ⟨i :: ns, rfl, by simpa using ⟨hi, hn⟩⟩
theorem lot_of {m : Int} {d : PyData} (h : isLot m d = true) : ∃ ns, d = ti ns ∧ IsLot m ns := by
  cases d <;> simp only [isLot, Bool.false_eq_true] at h
  simp only [Bool.and_eq_true] at h
  obtain ⟨ns, rfl, hn⟩ := ints_of h.1
  have e : adjB ltI (ns.map .int) = adjB (fun a b : Int => decide (a < b)) ns := adj_map _ _ _ (fun _ _ => rfl) ns
  exact ⟨ns, rfl, hn, by rw [← e]; exact h.2⟩
theorem lots_of {m : Int} : ∀ {xs : List PyData}, xs.all (isLot m) = true → ∃ ls : List (List Int), xs = ls.map ti ∧ ∀ l ∈ ls, IsLot m l
  | [], _ => ⟨[], rfl, by simp⟩
  | x :: xs, h => by
    simp only [List.all_cons, Bool.and_eq_true] at h
    obtain ⟨l, rfl, hl⟩ := lot_of h.1
    obtain ⟨ls, rfl, hn⟩ := lots_of h.2
    exact ⟨l :: ls, rfl, by simpa using ⟨hl, hn⟩⟩
theorem isLot_ti {m : Int} {ns : List Int} (h : IsLot m ns) : isLot m (ti ns) = true := by
  have e : adjB ltI (ns.map .int) = adjB (fun a b : Int => decide (a < b)) ns := adj_map _ _ _ (fun _ _ => rfl) ns
  simp only [isLot, e, h.2, Bool.and_true, List.all_map, List.all_eq_true]
  intro i hi
  have := h.1 i hi
  simp [isIdx]; omega
end Dv

/-! Dw: lots: sorted rows, maximal ones. -/
namespace Dv
open PySem
theorem adj_pw {α : Type} {lt : α → α → Bool} (tr : ∀ a b c, lt a b = true → lt b c = true → lt a c = true) : ∀ {l : List α}, adjB lt l = true → l.Pairwise fun a b => lt a b = true
  | [], _ => .nil
  | [a], _ => by simp
  | a :: b :: r, h => by
    simp only [adjB, Bool.and_eq_true] at h
    have ih := adj_pw tr h.2
    refine .cons (fun c hc => ?_) ih
    rcases List.mem_cons.mp hc with rfl | hc
    · exact h.1
    · exact tr a b c h.1 ((List.pairwise_cons.mp ih).1 c hc)
theorem pw_adj {α : Type} {lt : α → α → Bool} : ∀ {l : List α}, (l.Pairwise fun a b => lt a b = true) → adjB lt l = true
  | [], _ => rfl
  | [a], _ => rfl
  | a :: b :: r, h => by
    simp only [adjB, Bool.and_eq_true]
    have h := List.pairwise_cons.mp h
    exact ⟨h.1 b List.mem_cons_self, pw_adj h.2⟩
theorem lot_pw {m : Int} {l : List Int} (h : IsLot m l) : l.Pairwise (· < ·) := by
  have := adj_pw (lt := fun a b : Int => decide (a < b)) (fun a b c h g => by simp at *; omega) h.2
  exact this.imp fun h => by simpa using h
theorem lotPw {m : Int} {l : List Int} (h1 : ∀ i ∈ l, 0 ≤ i ∧ i < m) (h : l.Pairwise (· < ·)) : IsLot m l := ⟨h1, pw_adj (h.imp fun h => by simpa using h)⟩
theorem lex_trans (a b c : List Int) (h : HT.lexLt a b = true) (g : HT.lexLt b c = true) : HT.lexLt a c = true := by
  cases e : HT.lexLt a c with
  | true => rfl
  | false =>
    have h1 := lexLt_asym h
    have := lexLt_tr (a := b) (b := a) (c := c)
    cases e2 : HT.lexLt b c with
    | false => rw [e2] at g; cases g
    | true =>
      -- c ≤ a, a ≤ b
      have q := lexLt_tr (a := c) (b := a) (c := b)
      rw [q e h1] at e2
      cases e2
/-- of two ascending rows the one within the other is a part of it -/
theorem sub_of_subset : ∀ {a b : List Int}, a.Pairwise (· < ·) → b.Pairwise (· < ·) → (∀ x ∈ a, x ∈ b) → a.Sublist b
  | [], b, _, _, _ => List.nil_sublist b
  | x :: a, [], _, _, h => by have := h x List.mem_cons_self; simp at this
  | x :: a, y :: b, ha, hb, h => by
    have ha' := List.pairwise_cons.mp ha
    have hb' := List.pairwise_cons.mp hb
    rcases List.mem_cons.mp (h x List.mem_cons_self) with rfl | hx
    · refine List.Sublist.cons_cons _ (sub_of_subset ha'.2 hb'.2 fun z hz => ?_)
      rcases List.mem_cons.mp (h z (List.mem_cons_of_mem _ hz)) with e | e
      · have := ha'.1 z hz; omega
      · exact e
    · refine List.Sublist.cons _ (sub_of_subset ha hb'.2 fun z hz => ?_)
      rcases List.mem_cons.mp (h z hz) with e | e
      · have h1 := hb'.1 x hx
        rcases List.mem_cons.mp hz with e2 | e2
        · omega
        · have := ha'.1 z e2; omega
      · exact e
def within (a b : List Int) : Bool := a.all fun x => decide (x ∈ b)
def wider (ls : List (List Int)) (l : List Int) : List (List Int) := ls.filter fun e => decide (l.length < e.length) && decide ((l.filter fun x => !decide (x ∈ e)) = [])
/-- the law's own: the ones without a wider one, sorted, each once -/
def maxi (ls : List (List Int)) : List (List Int) := (sortK ls).foldl (fun found l => if decide (wider ls l = []) && !decide (l ∈ found) then found ++ [l] else found) []
def noneIn (ls : List (List Int)) : Bool := ls.all fun a => ls.all fun b => decide (a = b) || !within a b
theorem within_iff {a b : List Int} : within a b = true ↔ ∀ x ∈ a, x ∈ b := by simp [within]
theorem filt_nil {l e : List Int} : (l.filter fun x => !decide (x ∈ e)) = [] ↔ ∀ x ∈ l, x ∈ e := by
  rw [List.filter_eq_nil_iff]; simp
theorem wider_nil {ls : List (List Int)} {l : List Int} : wider ls l = [] ↔ ∀ e ∈ ls, l.length < e.length → ¬ ∀ x ∈ l, x ∈ e := by
  unfold wider
  rw [List.filter_eq_nil_iff]
  constructor
  · intro h e he hl hx
    have := h e he
    simp only [Bool.and_eq_true, decide_eq_true_eq, not_and] at this
    exact this hl (filt_nil.mpr hx)
  · intro h e he
    simp only [Bool.and_eq_true, decide_eq_true_eq, not_and]
    intro hl hx
    exact h e he hl (filt_nil.mp hx)
theorem noneIn_iff {ls : List (List Int)} (hp : ∀ l ∈ ls, l.Pairwise (· < ·)) : noneIn ls = true ↔ ∀ l ∈ ls, wider ls l = [] := by
  unfold noneIn
  simp only [List.all_eq_true, Bool.or_eq_true, decide_eq_true_eq, Bool.not_eq_true']
  constructor
  · intro h l hl
    refine wider_nil.mpr fun e he hlen hx => ?_
    rcases h l hl e he with rfl | h1
    · omega
    · rw [within_iff.mpr hx] at h1; cases h1
  · intro h a ha b hb
    by_cases hab : a = b
    · exact .inl hab
    · refine .inr ?_
      cases hw : within a b with
      | false => rfl
      | true =>
        have hx := within_iff.mp hw
        have s := sub_of_subset (hp a ha) (hp b hb) hx
        have h1 := s.length_le
        by_cases hl : a.length < b.length
        · exact absurd hx (wider_nil.mp (h a ha) b hb hl)
        · exact absurd (s.eq_of_length (by omega)) hab
theorem foldl_filter {ok : List Int → Bool} : ∀ (ls acc : List (List Int)), ls.Nodup → (∀ l ∈ ls, l ∉ acc) → ls.foldl (fun found l => if ok l && !decide (l ∈ found) then found ++ [l] else found) acc = acc ++ ls.filter ok
  | [], acc, _, _ => by simp
  | l :: ls, acc, hn, ha => by
    have hn' := List.nodup_cons.mp hn
    rw [List.foldl_cons]
    have h1 : decide (l ∈ acc) = false := by simpa using ha l List.mem_cons_self
    rw [h1]
    cases hk : ok l with
    | true =>
      simp only [Bool.not_false, Bool.and_self, if_true]
      rw [foldl_filter ls (acc ++ [l]) hn'.2 fun z hz hm => by
        rcases List.mem_append.mp hm with h | h
        · exact ha z (List.mem_cons_of_mem _ hz) h
        · have := List.mem_singleton.mp h; subst this; exact hn'.1 hz]
      simp [hk]
    | false =>
      simp only [Bool.false_and, Bool.false_eq_true, if_false]
      rw [foldl_filter ls acc hn'.2 fun z hz => ha z (List.mem_cons_of_mem _ hz)]
      simp [hk]
theorem lex_nodup {ls : List (List Int)} (h : ls.Pairwise fun a b => HT.lexLt a b = true) : ls.Nodup := h.imp fun {a b} h e => by
  subst e; rw [lexLt_irrefl] at h; cases h
theorem sortK_id {ls : List (List Int)} (h : ls.Pairwise fun a b => HT.lexLt a b = true) : sortK ls = ls := (sortK_uniq (List.Perm.refl _) (h.imp fun h => lexLt_asym h)).symm
theorem maxi_id {ls : List (List Int)} (h : ls.Pairwise fun a b => HT.lexLt a b = true) : maxi ls = ls.filter fun l => decide (wider ls l = []) := by
  unfold maxi
  rw [sortK_id h, foldl_filter (ok := fun l => decide (wider ls l = [])) ls [] (lex_nodup h) (fun _ _ => by simp), List.nil_append]
/-- maximal rows are what they are exactly if none is within another one -/
theorem maxi_eq {ls : List (List Int)} (h : ls.Pairwise fun a b => HT.lexLt a b = true) (hp : ∀ l ∈ ls, l.Pairwise (· < ·)) : decide (maxi ls = ls) = noneIn ls := by
  rw [maxi_id h]
  apply Bool.eq_iff_iff.mpr
  rw [decide_eq_true_eq, noneIn_iff hp, List.filter_eq_self]
  simp
/-- a scenario's contexts -/
structure IsCx (m : Nat) (ls : List (List Int)) : Prop where
  lot : ∀ l ∈ ls, IsLot m l
  ne : ∀ l ∈ ls, l ≠ []
  srt : ls.Pairwise fun a b => HT.lexLt a b = true
  cov : ∀ i : Nat, i < m → ∃ l ∈ ls, (i : Int) ∈ l
  non : noneIn ls = true
def ctxB (m : Nat) (ls : List (List Int)) : Bool := adjB HT.lexLt ls && ((List.range m).all (fun i => ls.any fun l => decide ((i : Int) ∈ l)) && noneIn ls)
theorem ctxB_of {m : Nat} {ls : List (List Int)} (h : IsCx m ls) : ctxB m ls = true := by
  unfold ctxB
  rw [pw_adj h.srt, h.non, Bool.true_and, Bool.and_true, List.all_eq_true]
  intro i hi
  obtain ⟨l, hl, hm⟩ := h.cov i (List.mem_range.mp hi)
  exact List.any_eq_true.mpr ⟨l, hl, by simpa using hm⟩
theorem maxi_cov {n : Nat} {ls : List (List Int)} (hn : ∀ l ∈ ls, l.length ≤ n) : ∀ l ∈ ls, ∃ e ∈ ls, wider ls e = [] ∧ ∀ x ∈ l, x ∈ e := by
  suffices h : ∀ k : Nat, ∀ l ∈ ls, n - l.length ≤ k → ∃ e ∈ ls, wider ls e = [] ∧ ∀ x ∈ l, x ∈ e from fun l hl => h _ l hl (Nat.le_refl _)
  intro k
  induction k with
  | zero =>
    intro l hl hk
    refine ⟨l, hl, wider_nil.mpr fun e he hlen _ => ?_, fun _ h => h⟩
    have := hn e he; omega
  | succ k ih =>
    intro l hl hk
    by_cases hw : wider ls l = []
    · exact ⟨l, hl, hw, fun _ h => h⟩
    · obtain ⟨e, he⟩ := List.exists_mem_of_ne_nil _ hw
      unfold wider at he
      simp only [List.mem_filter, Bool.and_eq_true, decide_eq_true_eq] at he
      obtain ⟨h1, h2, h3⟩ := he
      obtain ⟨e', h4, h5, h6⟩ := ih e h1 (by have := hn e h1; omega)
      exact ⟨e', h4, h5, fun x hx => h6 x (filt_nil.mp h3 x hx)⟩
theorem foldl_srt {ok : List Int → Bool} : ∀ (ls acc : List (List Int)), (ls.Pairwise fun a b => HT.lexLt b a = false) → (acc.Pairwise fun a b => HT.lexLt a b = true) → (∀ a ∈ acc, ∀ b ∈ ls, HT.lexLt b a = false) →
    (ls.foldl (fun found l => if ok l && !decide (l ∈ found) then found ++ [l] else found) acc).Pairwise (fun a b => HT.lexLt a b = true) ∧ ∀ x, x ∈ ls.foldl (fun found l => if ok l && !decide (l ∈ found) then found ++ [l] else found) acc ↔ x ∈ acc ∨ (x ∈ ls ∧ ok x = true)
  | [], acc, _, ha, _ => ⟨ha, fun x => by simp⟩
  | l :: ls, acc, hl, ha, hb => by
    have hl' := List.pairwise_cons.mp hl
    rw [List.foldl_cons]
    by_cases hc : (ok l && !decide (l ∈ acc)) = true
    · rw [if_pos hc]
      simp only [Bool.and_eq_true, Bool.not_eq_true', decide_eq_false_iff_not] at hc
      have h2 : (acc ++ [l]).Pairwise fun a b => HT.lexLt a b = true := by
        refine List.pairwise_append.mpr ⟨ha, by simp, fun a h1 b h2 => ?_⟩
        have := List.mem_singleton.mp h2; subst this
        cases e : HT.lexLt a b with
        | true => rfl
        | false => exact absurd (lexLt_eq e (hb a h1 b List.mem_cons_self)) fun z => hc.2 (z ▸ h1)
      obtain ⟨r1, r2⟩ := foldl_srt (ok := ok) ls (acc ++ [l]) hl'.2 h2 fun a h1 b h8 => by
        rcases List.mem_append.mp h1 with h | h
        · exact hb a h b (List.mem_cons_of_mem _ h8)
        · have := List.mem_singleton.mp h; subst this; exact hl'.1 b h8
      refine ⟨r1, fun x => ?_⟩
      rw [r2]
      simp only [List.mem_append, List.mem_cons, List.not_mem_nil, or_false]
      constructor
      · rintro ((h | rfl) | h)
        · exact .inl h
        · exact .inr ⟨.inl rfl, hc.1⟩
        · exact .inr ⟨.inr h.1, h.2⟩
      · rintro (h | ⟨rfl | h, g⟩)
        · exact .inl (.inl h)
        · exact .inl (.inr rfl)
        · exact .inr ⟨h, g⟩
    · rw [if_neg hc]
      obtain ⟨r1, r2⟩ := foldl_srt (ok := ok) ls acc hl'.2 ha fun a h1 b h2 => hb a h1 b (List.mem_cons_of_mem _ h2)
      refine ⟨r1, fun x => ?_⟩
      rw [r2]
      simp only [List.mem_cons]
      constructor
      · rintro (h | h)
        · exact .inl h
        · exact .inr ⟨.inr h.1, h.2⟩
      · rintro (h | ⟨rfl | h, g⟩)
        · exact .inl h
        · by_cases hm : x ∈ acc
          · exact .inl hm
          · exact absurd (by simp [g, hm]) hc
        · exact .inr ⟨h, g⟩
theorem maxi_mem {ls : List (List Int)} {x : List Int} : x ∈ maxi ls ↔ x ∈ ls ∧ wider ls x = [] := by
  unfold maxi
  rw [(foldl_srt (ok := fun l => decide (wider ls l = [])) (sortK ls) [] (sortK_srt ls) .nil (by simp)).2 x]
  simp [(sortK_perm ls).mem_iff]
theorem maxi_srt (ls : List (List Int)) : (maxi ls).Pairwise fun a b => HT.lexLt a b = true :=
  (foldl_srt (ok := fun l => decide (wider ls l = [])) (sortK ls) [] (sortK_srt ls) .nil (by simp)).1
/-- maximal lots that cover all are contexts -/
theorem maxi_cx {m : Nat} {ls : List (List Int)} (h1 : ∀ l ∈ ls, IsLot m l) (h2 : ∀ l ∈ ls, l ≠ []) (h3 : ∀ i : Nat, i < m → ∃ l ∈ ls, (i : Int) ∈ l) (h4 : ∀ l ∈ ls, l.length ≤ 100000) : IsCx m (maxi ls) where
  lot := fun l hl => h1 l (maxi_mem.mp hl).1
  ne := fun l hl => h2 l (maxi_mem.mp hl).1
  srt := maxi_srt ls
  cov := fun i hi => by
    obtain ⟨l, hl, hm⟩ := h3 i hi
    obtain ⟨e, he, hw, hx⟩ := maxi_cov h4 l hl
    exact ⟨e, maxi_mem.mpr ⟨he, hw⟩, hx _ hm⟩
  non := (noneIn_iff fun l hl => lot_pw (h1 l (maxi_mem.mp hl).1)).mpr fun l hl => wider_nil.mpr fun e he => wider_nil.mp (maxi_mem.mp hl).2 e (maxi_mem.mp he).1
end Dv

/-! Dw: what is shown; draws. -/
namespace Dv
open PySem
/-- shown at all -/
def Shw (d : PyData) : Prop := d.showable = true ∧ d.canLay0 = true ∧ d.depth ≤ 60 ∧ d.shown.length ≤ sizeLine
theorem repr_list {ds : List PyData} (h : Shw (.list ds)) : gRepr [.list ds] = some (.str (PyData.shown (.list ds))) := by
  have : ((PyData.list ds).showable && (PyData.list ds).canLay0 && decide ((PyData.list ds).depth ≤ 60) && decide ((PyData.list ds).shown.length ≤ sizeLine)) = true := by
    rw [h.1, h.2.1, decide_eq_true h.2.2.1, decide_eq_true h.2.2.2]; rfl
  show (if ((PyData.list ds).showable && (PyData.list ds).canLay0 && decide ((PyData.list ds).depth ≤ 60) && decide ((PyData.list ds).shown.length ≤ sizeLine)) = true then some (PyData.str (PyData.shown (.list ds))) else none) = _
  rw [if_pos this]
theorem shw_of {d : PyData} (h1 : d.showable = true) (h2 : d.canLay0 = true) (h3 : d.depth ≤ 60) (h4 : d.intsShort 13 = true) (h5 : d.weight ≤ 2 ^ 20) : Shw d :=
  ⟨h1, h2, h3, PyData.shown_fits (B := 13) (by decide) (by decide) (PyData.leavesShort_of_canLay0 13 d h2 h4) h5⟩
theorem shw_bools (a b : Bool) : Shw (.list [.bool a, .bool b]) := shw_of rfl rfl (by simp [PyData.depth, PyData.depthAll]) rfl (by simp [PyData.weight, PyData.weightAll])
/-- small rows -/
def Sm (l : List Int) : Prop := l.length ≤ 6 ∧ ∀ i ∈ l, 0 ≤ i ∧ i ≤ 7
theorem sm_int {i : Int} (h : 0 ≤ i ∧ i ≤ 7) : (PyData.int i).showable = true ∧ (PyData.int i).intsShort 13 = true ∧ (PyData.int i).weight ≤ 3 := by
  obtain ⟨n, rfl⟩ := Int.eq_ofNat_of_zero_le h.1
  have hn : n ≤ 7 := by omega
  have : ∀ n : Nat, n ≤ 7 → (PyData.int n).showable = true ∧ (PyData.int n).intsShort 13 = true ∧ (PyData.int n).weight ≤ 3 := by decide +kernel
  exact this n hn
theorem sm_ints : ∀ {l : List Int}, (∀ i ∈ l, 0 ≤ i ∧ i ≤ 7) → PyData.showableAll (l.map .int) = true ∧ PyData.intsShortAll 13 (l.map .int) = true ∧ PyData.weightAll (l.map .int) ≤ 4 * l.length
  | [], _ => ⟨rfl, rfl, by simp [PyData.weightAll]⟩
  | i :: l, h => by
    obtain ⟨a, b, c⟩ := sm_int (h i List.mem_cons_self)
    obtain ⟨a', b', c'⟩ := sm_ints fun j m => h j (List.mem_cons_of_mem _ m)
    refine ⟨?_, ?_, ?_⟩
    · simp only [List.map_cons, PyData.showableAll, a, a']; rfl
    · simp only [List.map_cons, PyData.intsShortAll, b, b']; rfl
    · simp only [List.map_cons, PyData.weightAll, List.length_cons]; omega
theorem sm_rows : ∀ {L : List (List Int)}, (∀ l ∈ L, Sm l) → PyData.showableAll (L.map ti) = true ∧ PyData.intsShortAll 13 (L.map ti) = true ∧ PyData.weightAll (L.map ti) ≤ 25 * L.length
  | [], _ => ⟨rfl, rfl, by simp [PyData.weightAll]⟩
  | l :: L, h => by
    have hl := h l List.mem_cons_self
    obtain ⟨a, b, c⟩ := sm_ints hl.2
    have := hl.1
    obtain ⟨a', b', c'⟩ := sm_rows fun j m => h j (List.mem_cons_of_mem _ m)
    refine ⟨?_, ?_, ?_⟩
    · simp only [List.map_cons, PyData.showableAll, PyData.showable, a, a']; rfl
    · simp only [List.map_cons, PyData.intsShortAll, PyData.intsShort, b, b']; rfl
    · simp only [List.map_cons, PyData.weightAll, PyData.weight, List.length_cons]; omega
theorem shw_two {L : List (List Int)} (h : ∀ l ∈ L, Sm l) (hl : L.length ≤ 20000) : Shw (.list [tt L, tt L]) := by
  obtain ⟨a, b, c⟩ := sm_rows h
  have d := dep_tis L
  have e : (2 : Nat) ^ 20 = 1048576 := by decide
  refine shw_of ?_ ?_ ?_ ?_ ?_
  · simp only [PyData.showable, PyData.showableAll, a]; rfl
  · simp only [PyData.canLay0, PyData.canLayAll0, lay_tis]; rfl
  · simp only [PyData.depth, PyData.depthAll]; omega
  · simp only [PyData.intsShort, PyData.intsShortAll, b]; rfl
  · simp only [PyData.weight, PyData.weightAll]; omega
theorem neStr_self (x : Str) : gNeA (.str x) (.str x) = some (.bool false) := by rw [neStr]; simp
/-! ### sections -/
def secs : List Int → List (List Int) → List (List Int)
  | [], found => found
  | z :: r, found => secs r (found.flatMap fun s => (List.range z.toNat).map fun (o : Nat) => s ++ [(o : Int)])
theorem tup_snoc (s : List Int) (o : Int) (h : s.length ≤ 50000) : gAdd (ti s) (.tuple [.int o]) = some (ti (s ++ [o])) := by
  rw [oCatT]
  · simp
  · exact k5 (by simp; omega)
theorem flat_len2 {α β : Type} (f : α → List β) (k : Nat) : ∀ ls : List α, (∀ a ∈ ls, (f a).length ≤ k) → (ls.flatMap f).length ≤ ls.length * k
  | [], _ => by simp
  | a :: ls, h => by
    have ih := flat_len2 f k ls fun b hb => h b (List.mem_cons_of_mem _ hb)
    have := h a List.mem_cons_self
    rw [List.flatMap_cons, List.length_append, List.length_cons, Nat.succ_mul]
    omega
/-- rows of k outcomes, below 4 each -/
def Rw4 (k : Nat) (L : List (List Int)) : Prop := L.length ≤ 4 ^ k ∧ ∀ l ∈ L, l.length = k ∧ ∀ i ∈ l, 0 ≤ i ∧ i ≤ 3
theorem rw4_step {k : Nat} {L : List (List Int)} (h : Rw4 k L) {z : Int} (hz : z ≤ 4) : Rw4 (k + 1) (L.flatMap fun s => (List.range z.toNat).map fun (o : Nat) => s ++ [(o : Int)]) := by
  constructor
  · refine Nat.le_trans (flat_len2 _ 4 L fun a _ => by rw [List.length_map, List.length_range]; omega) ?_
    rw [Nat.pow_succ]
    exact Nat.mul_le_mul_right 4 h.1
  · intro l hl
    obtain ⟨s, hs, hl⟩ := List.mem_flatMap.mp hl
    obtain ⟨o, ho, rfl⟩ := List.mem_map.mp hl
    have ho := List.mem_range.mp ho
    obtain ⟨h1, h2⟩ := h.2 s hs
    refine ⟨by simp [h1], fun i hi => ?_⟩
    rcases List.mem_append.mp hi with h3 | h3
    · exact h2 i h3
    · have := List.mem_singleton.mp h3; subst this; omega
theorem rw4_secs : ∀ (zs : List Int) {k : Nat} {L : List (List Int)}, (∀ z ∈ zs, z ≤ 4) → Rw4 k L → Rw4 (k + zs.length) (secs zs L)
  | [], k, L, _, h => h
  | z :: zs, k, L, hz, h => by
    have := rw4_secs zs (fun y m => hz y (List.mem_cons_of_mem _ m)) (rw4_step h (hz z List.mem_cons_self))
    rw [List.length_cons, show k + (zs.length + 1) = k + 1 + zs.length by omega]
    exact this
theorem rw4_nil : Rw4 0 [[]] := ⟨by simp, fun l hl => by simp at hl; subst hl; simp⟩
theorem pow4 {k : Nat} (h : k ≤ 6) : 4 ^ k ≤ 4096 := by
  have : ∀ k : Nat, k ≤ 6 → 4 ^ k ≤ 4096 := by decide
  exact this k h
theorem rw4_sm {k : Nat} {L : List (List Int)} (hk : k ≤ 6) (h : Rw4 k L) : (∀ l ∈ L, Sm l) ∧ L.length ≤ 4096 :=
  ⟨fun l hl => ⟨by rw [(h.2 l hl).1]; exact hk, fun i hi => by have := (h.2 l hl).2 i hi; omega⟩, Nat.le_trans h.1 (pow4 hk)⟩
end Dv

/-! Dw: values of any kind, bent ones. -/
namespace Dv
open PySem
mutual
def gdB (n : Nat) : PyData → Bool
  | .none => true
  | .bool _ => true
  | .int _ => true
  | .str _ => true
  | .dict [] => true
  | .dict _ => false
  | .list xs => decide (xs.length ≤ n) && gdBs n xs
  | .tuple xs => decide (xs.length ≤ n) && gdBs n xs
def gdBs (n : Nat) : List PyData → Bool
  | [] => true
  | x :: xs => gdB n x && gdBs n xs
end
mutual
theorem gdB_ok {n : Nat} : ∀ {d : PyData}, gdB n d = true → Gd n d
  | .none, _ => .non
  | .bool b, _ => .bl b
  | .int i, _ => .int i
  | .str x, _ => .str x
  | .dict [], _ => .dic
  | .dict (_ :: _), h => by simp [gdB] at h
  | .list xs, h => by
    simp only [gdB, Bool.and_eq_true, decide_eq_true_eq] at h
    exact .lst h.1 (gdBs_ok h.2)
  | .tuple xs, h => by
    simp only [gdB, Bool.and_eq_true, decide_eq_true_eq] at h
    exact .tup h.1 (gdBs_ok h.2)
theorem gdBs_ok {n : Nat} : ∀ {xs : List PyData}, gdBs n xs = true → ∀ d ∈ xs, Gd n d
  | [], _ => by simp
  | x :: xs, h => by
    simp only [gdBs, Bool.and_eq_true] at h
    intro d hd
    have h1 := gdB_ok h.1
    have h2 := gdBs_ok h.2
    rcases List.mem_cons.mp hd with e | hd
    · rw [e]; exact h1
    · exact h2 d hd
end
theorem shaped_all : ∀ {xs : List PyData}, PyData.canLayAll0 xs = true → ∀ x ∈ xs, x.canLay0 = true ∧ x.depth ≤ PyData.depthAll xs
  | [], _ => by simp
  | y :: ys, h => by
    simp only [PyData.canLayAll0, Bool.and_eq_true] at h
    intro x hx
    rcases List.mem_cons.mp hx with rfl | hx
    · exact ⟨h.1, by simp only [PyData.depthAll]; omega⟩
    · have := shaped_all h.2 x hx
      exact ⟨this.1, by simp only [PyData.depthAll]; omega⟩
theorem shaped_mem {xs : List PyData} (h : SeqAt.shaped (.tuple xs) = true) : ∀ x ∈ xs, SeqAt.shaped x = true := by
  intro x hx
  have h' : (PyData.canLay0 (.tuple xs) && decide (PyData.depth (.tuple xs) ≤ 64)) = true := h
  show (PyData.canLay0 x && decide (PyData.depth x ≤ 64)) = true
  simp only [PyData.canLay0, PyData.depth, Bool.and_eq_true, decide_eq_true_eq] at h'
  obtain ⟨h1, h2⟩ := h'
  have h2 := of_decide_eq_true h2
  obtain ⟨h3, h4⟩ := shaped_all h1 x hx
  rw [h3, decide_eq_true (show x.depth ≤ 64 by omega)]; rfl
theorem eq_unit {xs : List PyData} (h : SeqAt.shaped (.tuple xs) = true) : gEqA (.tuple xs) (.tuple []) = some (.bool xs.isEmpty) := by
  show gEq (.tuple xs) (.tuple []) = _
  unfold gEq
  rw [h, show SeqAt.shaped (.tuple []) = true from rfl]
  cases xs <;> rfl
theorem gIx_nat {xs : List PyData} {k : Nat} (h : k < xs.length) : ∃ d ∈ xs, gIx (.tuple xs) (.int (k : Int)) = some d :=
  ⟨xs[k], List.getElem_mem h, oIxT xs k _ (List.getElem?_eq_getElem h)⟩
theorem cut_mem {xs : List PyData} {lo hi : Option Int} {x : PyData} (h : x ∈ cutA xs lo hi) : x ∈ xs := List.mem_of_mem_drop (List.mem_of_mem_take h)
theorem cut_len (xs : List PyData) (lo hi : Option Int) : (cutA xs lo hi).length ≤ xs.length := by
  unfold cutA
  rw [List.length_take, List.length_drop]; omega
theorem sl_tup (xs : List PyData) (lo hi : Option Int) : gSl (.tuple xs) lo hi = some (.tuple (cutA xs lo hi)) := nr rfl
theorem rev_tup (xs : List PyData) : gRev (.tuple xs) = some (.tuple xs.reverse) := nr rfl
theorem rev_list (xs : List PyData) : gRev (.list xs) = some (.list xs.reverse) := nr rfl
theorem gd_cat {n m : Nat} {a b : List PyData} (ha : Gd n (.tuple a)) (hb : Gd n (.tuple b)) (h : a.length + b.length ≤ m) (hm : n ≤ m) (hm2 : m ≤ 100000) : ∃ d, gAdd (.tuple a) (.tuple b) = some (.tuple d) ∧ d = a ++ b ∧ Gd m (.tuple d) := by
  refine ⟨a ++ b, oCatT a b (k5 (by omega)), rfl, .tup (by rw [List.length_append]; omega) fun d hd => ?_⟩
  rcases List.mem_append.mp hd with h | h
  · exact (ha.mem d h).up hm
  · exact (hb.mem d h).up hm
theorem gd_cut {n : Nat} {xs : List PyData} (h : Gd n (.tuple xs)) (lo hi : Option Int) : Gd n (.tuple (cutA xs lo hi)) :=
  .tup (Nat.le_trans (cut_len xs lo hi) h.len) fun d hd => h.mem d (cut_mem hd)
/-- cut at a place: what is ahead of it, what is behind -/
theorem cut_to {xs : List PyData} {k : Nat} (h : k ≤ xs.length) : (cutA xs none (some (k : Int))).length = k := by
  have e : HT.sIx xs.length xs.length (some (k : Int)) = k := by
    rw [HT.sIx_nat]; omega
  have e0 : HT.sIx xs.length 0 none = 0 := rfl
  unfold cutA
  rw [e, e0, List.length_take, List.length_drop]; omega
theorem cut_from {xs : List PyData} {k : Nat} (h : k ≤ xs.length) : (cutA xs (some (k : Int)) none).length = xs.length - k := by
  have e : HT.sIx xs.length 0 (some (k : Int)) = k := by
    rw [HT.sIx_nat]; omega
  have e0 : HT.sIx xs.length xs.length none = xs.length := rfl
  unfold cutA
  rw [e, e0, List.length_take, List.length_drop]; omega
theorem loopW_wpn {σ τ α : Type} {f : σ → α → Option (Fw σ τ)} (I : Nat → σ → Prop) (Z : Fw σ τ → Prop) (N : Nat) (hz : ∀ j s, j ≤ N → I j s → Z (.nx s)) : ∀ (xs : List α) (j : Nat) (s : σ), j + xs.length ≤ N → I j s → (∀ j s a, j < N → a ∈ xs → I j s → WP (f s a) fun o => match o with | .nx s => I (j + 1) s | o => Z o) → WP (loopW f xs s) Z
  | [], j, s, hN, h, _ => ⟨_, rfl, hz j s (by simpa using hN) h⟩
  | x :: xs, j, s, hN, h, hf => by
    rw [List.length_cons] at hN
    obtain ⟨o, e, h'⟩ := hf j s x (by omega) List.mem_cons_self h
    unfold loopW
    rw [e, bsome]
    cases o with
    | nx s' => exact loopW_wpn I Z N hz xs (j + 1) s' (by omega) h' fun j s a hj m => hf j s a hj (List.mem_cons_of_mem _ m)
    | bk s' => exact ⟨_, rfl, h'⟩
    | rt r => exact ⟨_, rfl, h'⟩
theorem goW_wp {σ τ β : Type} {e : τ → β} {k : σ → Option β} {o : Fw σ τ} {P : β → Prop} (I : σ → Prop) (R : τ → Prop) (ho : match o with
    | .nx s => I s
    | .bk s => I s
    | .rt r => R r) (hk : ∀ s, I s → WP (k s) P) (hr : ∀ r, R r → P (e r)) : WP (goW e k o) P := by
  cases o with
  | nx s => exact hk s ho
  | bk s => exact hk s ho
  | rt r => exact ⟨_, rfl, hr r ho⟩
theorem loopM_wpn {σ α : Type} {f : σ → α → Option σ} (I : Nat → σ → Prop) (N : Nat) : ∀ (xs : List α) (j : Nat) (s : σ), j + xs.length ≤ N → I j s → (∀ j s a, j < N → a ∈ xs → I j s → WP (f s a) (I (j + 1))) → WP (loopM f xs s) (I (j + xs.length))
  | [], j, s, hN, h, _ => ⟨_, rfl, h⟩
  | x :: xs, j, s, hN, h, hf => by
    rw [List.length_cons] at hN
    refine (hf j s x (by omega) List.mem_cons_self h).bind fun s' h' => ?_
    have := loopM_wpn I N xs (j + 1) s' (by omega) h' fun j s a hj m => hf j s a hj (List.mem_cons_of_mem _ m)
    rw [List.length_cons, show j + (xs.length + 1) = j + 1 + xs.length by omega]
    exact this
theorem foldl_len {c : List (List Int) → List Int → Bool} : ∀ (ls acc : List (List Int)), (ls.foldl (fun found l => if c found l then found ++ [l] else found) acc).length ≤ acc.length + ls.length
  | [], acc => by simp
  | l :: ls, acc => by
    rw [List.foldl_cons]
    have := foldl_len (c := c) ls (if c acc l then acc ++ [l] else acc)
    have h2 : (if c acc l then acc ++ [l] else acc).length ≤ acc.length + 1 := by split <;> simp
    rw [List.length_cons]; omega
theorem maxi_len (ls : List (List Int)) : (maxi ls).length ≤ ls.length := by
  have := foldl_len (c := fun found l => decide (wider ls l = []) && !decide (l ∈ found)) (sortK ls) []
  rw [(sortK_perm ls).length_eq] at this
  simpa [maxi] using this
/-- a place of a path: a tuple and an index of it -/
def PathOk (n : Nat) (d : PyData) : Prop := ∃ xs, ∃ k : Nat, d = .tuple [.tuple xs, .int k] ∧ Gd n (.tuple xs) ∧ k < xs.length
theorem un2s_path {n : Nat} : ∀ {l : List PyData}, (∀ q ∈ l, PathOk n q) → ∃ ps, un2s l = some ps ∧ ∀ p ∈ ps, ∃ xs, ∃ k : Nat, p = (.tuple xs, .int k) ∧ Gd n (.tuple xs) ∧ k < xs.length
  | [], _ => ⟨[], rfl, by simp⟩
  | q :: l, h => by
    obtain ⟨xs, k, rfl, h1, h2⟩ := h q List.mem_cons_self
    obtain ⟨ps, e, h3⟩ := un2s_path fun q m => h q (List.mem_cons_of_mem _ m)
    refine ⟨(.tuple xs, .int k) :: ps, by simp [un2s, un2, e], fun p hp => ?_⟩
    rcases List.mem_cons.mp hp with rfl | hp
    · exact ⟨xs, k, rfl, h1, h2⟩
    · exact h3 p hp
end Dv

/-! Dw: zip, enumerate. -/
namespace Dv
open PySem
def zipO (x y : PyData) : Option (List PyData) := match x, y with
  | .list a, .list b => some (zipD a b)
  | .tuple a, .tuple b => some (zipD a b)
  | _, _ => none
def enumO (x : PyData) : Option (List PyData) := match x with
  | .list a => some (enumD 0 a)
  | _ => none
section
variable {ρ ρ1 ρ2 : REnv} {fa fb : D1} {a b : Option PyData}
theorem ev_zip (ha : Ev fa ρ ρ1 a) (hb : Ev fb ρ1 ρ2 b) : Ev (fZip (fCons fa (fCons fb fNil))) ρ ρ2 (a.bind fun x => b.bind fun y => zipO x y) := fun z h => by
  obtain ⟨x, h1, h2⟩ := obind h
  obtain ⟨y, h3, h4⟩ := obind h2
  unfold zipO at h4
  split at h4 <;> cases h4 <;> simp only [fZip, two_ (ha _ h1) (hb _ h3)]
theorem ev_enum (ha : Ev fa ρ ρ1 a) : Ev (fEnum (fCons fa fNil)) ρ ρ1 (a.bind fun x => enumO x) := fun z h => by
  obtain ⟨x, h1, h2⟩ := obind h
  unfold enumO at h2
  split at h2 <;> cases h2
  simp only [fEnum, one_ (ha _ h1)]
end
theorem nZipT (a b : List PyData) : zipO (.tuple a) (.tuple b) = some (zipD a b) := nr rfl
theorem nZipL (a b : List PyData) : zipO (.list a) (.list b) = some (zipD a b) := nr rfl
theorem nEnum (a : List PyData) : enumO (.list a) = some (enumD 0 a) := nr rfl
theorem un2s_zip : ∀ a b : List PyData, un2s (zipD a b) = some (a.zip b)
  | [], b => by simp [zipD, un2s]
  | x :: a, [] => by simp [zipD, un2s]
  | x :: a, y :: b => by simp [zipD, un2s, un2, un2s_zip a b]
theorem nGcd (a b : Int) : gGcd [.int a, .int b] = some (.int ((Nat.gcd a.natAbs b.natAbs : Nat) : Int)) := nr rfl
end Dv

/-! Dw: while. -/
namespace Dv
open PySem
section
variable {σ τ : Type} (t : σ → Option Bool) (f : σ → Option (Fw σ τ))
def loopNW : Nat → σ → Option (Fw σ τ)
  | 0, _ => none
  | n + 1, s => (t s).bind fun b => if b then (f s).bind fun o => match o with
    | .nx s' => loopNW n s'
    | o => some o
    else some (.nx s)
open Classical in
noncomputable def whileW (s : σ) : Option (Fw σ τ) := if h : ∃ o, ∃ n, loopNW t f n s = some o then some (choose h) else none
theorem loopNW_up : ∀ (n : Nat) (s : σ) {x : Fw σ τ}, loopNW t f n s = some x → loopNW t f (n + 1) s = some x
  | 0, s, x, h => by cases h
  | n + 1, s, x, h => by
    unfold loopNW at h ⊢
    obtain ⟨b, h1, h2⟩ := obind h
    rw [h1, bsome]
    cases b with
    | false => exact h2
    | true =>
      rw [if_pos rfl] at h2 ⊢
      obtain ⟨o, h3, h4⟩ := obind h2
      rw [h3, bsome]
      cases o with
      | nx s' => exact loopNW_up n s' h4
      | bk s' => exact h4
      | rt r => exact h4
theorem loopNW_le {n m : Nat} {s : σ} {x : Fw σ τ} (h : loopNW t f n s = some x) (hm : n ≤ m) : loopNW t f m s = some x := by
  obtain ⟨k, rfl⟩ := Nat.exists_eq_add_of_le hm
  clear hm
  induction k with
  | zero => exact h
  | succ k ih => exact loopNW_up t f (n + k) s ih
theorem whileW_of {n : Nat} {s : σ} {x : Fw σ τ} (h : loopNW t f n s = some x) : whileW t f s = some x := by
  have hx : ∃ o, ∃ n, loopNW t f n s = some o := ⟨x, n, h⟩
  unfold whileW
  rw [dif_pos hx]
  obtain ⟨m, hm⟩ := Classical.choose_spec hx
  have h1 := loopNW_le t f h (Nat.le_max_left n m)
  have h2 := loopNW_le t f hm (Nat.le_max_right n m)
  rw [h1] at h2
  exact h2.symm
theorem of_whileW {s : σ} {x : Fw σ τ} (h : whileW t f s = some x) : ∃ n, loopNW t f n s = some x := by
  unfold whileW at h
  split at h
  · rename_i hx
    cases h
    exact Classical.choose_spec hx
  · cases h
/-- by a measure -/
theorem whileW_wp (I : σ → Prop) (Z : Fw σ τ → Prop) (μ : σ → Nat) (hz : ∀ s, I s → t s = some false → Z (.nx s)) (hf : ∀ s, I s → t s = some true → WP (f s) fun o => match o with
    | .nx s' => I s' ∧ μ s' < μ s
    | o => Z o) (ht : ∀ s, I s → ∃ b, t s = some b) (s : σ) (hs : I s) : WP (whileW t f s) Z := by
  suffices h : ∀ (n : Nat) (s : σ), I s → μ s < n → ∃ o, loopNW t f n s = some o ∧ Z o by
    obtain ⟨o, e, z⟩ := h (μ s + 1) s hs (Nat.lt_succ_self _)
    exact ⟨o, whileW_of t f e, z⟩
  intro n
  induction n with
  | zero => intro s _ h; cases h
  | succ n ih =>
    intro s hs hn
    unfold loopNW
    obtain ⟨b, hb⟩ := ht s hs
    rw [hb, bsome]
    cases b with
    | false => exact ⟨_, rfl, hz s hs hb⟩
    | true =>
      rw [if_pos rfl]
      obtain ⟨o, e, h⟩ := hf s hs hb
      rw [e, bsome]
      cases o with
      | nx s' => exact ih s' h.1 (by have := h.2; omega)
      | bk s' => exact ⟨_, rfl, h⟩
      | rt r => exact ⟨_, rfl, h⟩
end
section
variable {α β σ κ τ : Type} {ρ : REnv} {ft : B1} {fb g : S1} {P : β → Fl → REnv → Prop}
theorem loopN_sim {C : σ → κ → REnv} {R : τ → Fl → REnv → Prop} {t : σ → Option Bool} {body : σ → Option (Fw σ τ)} (ht : ∀ s j, Ev ft (C s j) (C s j) (t s)) (hs : ∀ s j, Sim fb (C s j) (body s) (Tn C R)) :
    ∀ (n : Nat) (s : σ) (j : κ) (o : Fw σ τ), loopNW t body n s = some o → ∃ fl r, loopN ft fb n (C s j) = some (fl, r) ∧ match o with
      | .nx s' => fl = .nx ∧ ∃ j', r = C s' j'
      | .bk s' => fl = .nx ∧ ∃ j', r = C s' j'
      | .rt t => (∃ x, fl = .rt x) ∧ R t fl r
  | 0, s, j, o, e => by cases e
  | n + 1, s, j, o, e => by
    unfold loopNW at e
    obtain ⟨b, e1, e2⟩ := obind e
    unfold loopN
    rw [ht s j b e1]
    cases b with
    | false =>
      cases e2
      exact ⟨_, _, rfl, rfl, j, rfl⟩
    | true =>
      rw [if_pos rfl] at e2
      obtain ⟨o1, e3, e4⟩ := obind e2
      obtain ⟨fl, r, q1, q2⟩ := hs s j o1 e3
      cases o1 with
      | nx s1 =>
        obtain ⟨q2, j1, rfl⟩ := q2
        obtain ⟨fl', r', q, q3⟩ := loopN_sim ht hs n s1 j1 o e4
        refine ⟨fl', r', ?_, q3⟩
        rcases q2 with rfl | rfl <;> simp only [q1, q]
      | bk s1 =>
        cases e4
        obtain ⟨rfl, j1, rfl⟩ := q2
        exact ⟨.nx, _, by simp only [q1], rfl, j1, rfl⟩
      | rt t =>
        cases e4
        obtain ⟨⟨x, rfl⟩, q3⟩ := q2
        exact ⟨_, _, by simp only [q1], ⟨x, rfl⟩, q3⟩
theorem sim_while {C : σ → κ → REnv} {R : τ → Fl → REnv → Prop} (em : τ → β) {t : σ → Option Bool} {body : σ → Option (Fw σ τ)} {c : σ → Option β} (s0 : σ) (j0 : κ) (h0 : ρ = C s0 j0)
    (ht : ∀ s j, Ev ft (C s j) (C s j) (t s)) (hs : ∀ s j, Sim fb (C s j) (body s) (Tn C R)) (hk : ∀ s j, Sim g (C s j) (c s) P) (hr : ∀ t x r, R t (.rt x) r → P (em t) (.rt x) r) :
    Sim (sSeq (sWhile ft fb) g) ρ ((whileW t body s0).bind fun o => goW em c o) P := fun a e => by
  obtain ⟨o, e1, e2⟩ := obind e
  obtain ⟨n, e1⟩ := of_whileW _ _ e1
  subst h0
  obtain ⟨fl, r, q, q2⟩ := loopN_sim ht hs n s0 j0 o e1
  have hf := sWhile_of q
  cases o with
  | nx s =>
    obtain ⟨rfl, j', rfl⟩ := q2
    obtain ⟨fl, r, q3, q4⟩ := hk s j' a e2
    exact ⟨fl, r, by rw [seqN hf]; exact q3, q4⟩
  | bk s =>
    obtain ⟨rfl, j', rfl⟩ := q2
    obtain ⟨fl, r, q3, q4⟩ := hk s j' a e2
    exact ⟨fl, r, by rw [seqN hf]; exact q3, q4⟩
  | rt t =>
    obtain ⟨⟨x, rfl⟩, q3⟩ := q2
    cases e2
    exact ⟨_, _, seqR hf, hr t x r q3⟩
end
end Dv

/-! Dw: starred displays, a, b = e, [..]. -/
namespace Dv
open PySem
def starO (x : PyData) : Option (List PyData) := match x with
  | .list a => some a
  | .tuple a => some a
  | _ => none
section
variable {α S : Type} {ρ ρ1 ρ2 : REnv} {fa fb : D1} {a b : Option PyData} {la : A1} {l : Option (List PyData)} {g : S1} {P : α → Fl → REnv → Prop} {E : S → REnv} {mo : Option (PyData × S)}
theorem ev_star (ha : Ev fa ρ ρ1 a) (hl : Ev la ρ1 ρ2 l) : Ev (fStar fa la) ρ ρ2 (a.bind fun x => (starO x).bind fun xs => l.bind fun ys => some (xs ++ ys)) := fun z h => by
  obtain ⟨x, h1, h2⟩ := obind h
  obtain ⟨xs, h3, h4⟩ := obind h2
  obtain ⟨ys, h5, h6⟩ := obind h4
  cases h6
  unfold starO at h3
  split at h3 <;> cases h3 <;> simp only [fStar, ha _ h1, hl _ h5]
theorem sim_parG {i j : Nat} {c : PyData → List PyData → Option α} {oa : Option PyData} (ha : Ev fa ρ ρ1 oa) (hb : Ev la ρ1 ρ2 l) (h : ∀ a b, Sim g ((ρ2.set i (some (.pl a))).set j (some (.ow b))) (c a b) P) : Sim (sSeq (sParG i j fa la) g) ρ (oa.bind fun a => l.bind fun b => c a b) P := fun a e => by
  obtain ⟨x, e1, e2⟩ := obind e
  obtain ⟨y, e3, e4⟩ := obind e2
  obtain ⟨fl, r, h1, h2⟩ := h x y a e4
  exact ⟨fl, r, by rw [seqN (show sParG i j fa la ρ = some (.nx, (ρ2.set i (some (.pl x))).set j (some (.ow y))) by simp only [sParG, ha _ e1, hb _ e3])]; exact h1, h2⟩
theorem sim_parGS {i j : Nat} {c : PyData → List PyData → S → Option α} {l : S → Option (List PyData)} (ha : EvS fa ρ mo E) (hb : ∀ w, Ev la (E w) (E w) (l w)) (h : ∀ a b w, Sim g (((E w).set i (some (.pl a))).set j (some (.ow b))) (c a b w) P) : Sim (sSeq (sParG i j fa la) g) ρ (mo.bind fun p => (l p.2).bind fun b => c p.1 b p.2) P := fun a e => by
  obtain ⟨⟨x, w⟩, e1, e2⟩ := obind e
  obtain ⟨y, e3, e4⟩ := obind e2
  obtain ⟨fl, r, h1, h2⟩ := h x y w a e4
  exact ⟨fl, r, by rw [seqN (show sParG i j fa la ρ = some (.nx, ((E w).set i (some (.pl x))).set j (some (.ow y))) by simp only [sParG, ha _ _ e1, hb _ _ e3])]; exact h1, h2⟩
end
theorem nStarT (a : List PyData) : starO (.tuple a) = some a := nr rfl
theorem nStarL (a : List PyData) : starO (.list a) = some a := nr rfl
end Dv

/-! Dw: a, b, c = .., targets ((a, b), c). -/
namespace Dv
open PySem
def un21 (d : PyData) : Option ((PyData × PyData) × PyData) := match d with
  | .tuple [.tuple [a, b], c] => some ((a, b), c)
  | _ => none
def un21s : List PyData → Option (List ((PyData × PyData) × PyData))
  | [] => some []
  | d :: ds => (un21 d).bind fun p => (un21s ds).bind fun ps => some (p :: ps)
abbrev tup21 (p : (PyData × PyData) × PyData) : PyData := .tuple [.tuple [p.1.1, p.1.2], p.2]
theorem un21_some {d : PyData} {p : (PyData × PyData) × PyData} (h : un21 d = some p) : d = tup21 p := by
  unfold un21 at h; split at h <;> cases h; rfl
theorem un21s_some : ∀ {ds : List PyData} {ps : List ((PyData × PyData) × PyData)}, un21s ds = some ps → ds = ps.map tup21
  | [], ps, h => by cases h; rfl
  | d :: ds, ps, h => by
    simp only [un21s, Option.bind_eq_some_iff] at h
    obtain ⟨p, h1, qs, h2, h3⟩ := h
    cases h3
    rw [List.map_cons, ← un21s_some h2, ← un21_some h1]
theorem un21s_map {α : Type} (f g h : α → PyData) : ∀ l : List α, un21s (l.map fun a => .tuple [.tuple [f a, g a], h a]) = some (l.map fun a => ((f a, g a), h a))
  | [] => rfl
  | a :: l => by simp [un21s, un21, un21s_map f g h l]
section
variable {α S : Type} {ρ ρ1 ρ2 ρ3 : REnv} {fa fb fe : D1} {a b o : Option PyData} {la lb fi : A1} {l m : Option (List PyData)} {g : S1} {P : α → Fl → REnv → Prop} {E : S → REnv} {mo : Option (PyData × S)}
theorem ev_lcm21 {v w u : Nat} {vs : List Nat} {e : (PyData × PyData) × PyData → Option PyData} (hi : Ev fi ρ ρ1 l)
    (he : ∀ p : (PyData × PyData) × PyData, Ev fe ((((wipeR ρ1 vs).set v (some (.pl p.1.1))).set w (some (.pl p.1.2))).set u (some (.pl p.2))) ((((wipeR ρ1 vs).set v (some (.pl p.1.1))).set w (some (.pl p.1.2))).set u (some (.pl p.2))) (e p))
    (hw : ∀ a b c : PyData, wipeR ((((wipeR ρ1 vs).set v (some (.pl a))).set w (some (.pl b))).set u (some (.pl c))) vs = wipeR ρ1 vs := by intro _ _ _; rfl) (hr : restR ρ1 (wipeR ρ1 vs) vs = ρ1 := by first | rfl | (simp only [restR_cons, restR_nil, List.getElem?_cons_succ, List.getElem?_cons_zero, rsl_junk, rsl_pl, rsl_none]; rfl) | (simp only [restR_cons, restR_nil, wipeR, List.set_cons_succ, List.set_cons_zero, List.getElem?_cons_succ, List.getElem?_cons_zero, rsl_junk, rsl_pl, rsl_none])) :
    Ev (fLc fi (hTup 2 (hCons (hTup 2 (hCons (hName v) (hCons (hName w) hNil))) (hCons (hName u) hNil))) fYes fe vs) ρ ρ1 (l.bind fun ds => (un21s ds).bind fun ps => lmO e ps) := fun z q =>
  lc_gen (t := fun _ => some true) (e := e) (ft := fYes) (fe := fe) (h := hTup 2 (hCons (hTup 2 (hCons (hName v) (hCons (hName w) hNil))) (hCons (hName u) hNil))) tup21 (fun p => (((wipeR ρ1 vs).set v (some (.pl p.1.1))).set w (some (.pl p.1.2))).set u (some (.pl p.2))) hi un21s (fun ds xs h => un21s_some h) (fun _ => rfl) (fun p => hw p.1.1 p.1.2 p.2) hr (fun _ => ev_yes) he z (by simpa only [lcO, lmO, lcm_lcf] using q)
theorem sim_par3S {i j k : Nat} {c : PyData → List PyData → List PyData → S → Option α} {l m : S → Option (List PyData)} (ha : EvS fa ρ mo E) (hb : ∀ w, Ev la (E w) (E w) (l w)) (hc : ∀ w, Ev lb (E w) (E w) (m w)) (h : ∀ a b d w, Sim g ((((E w).set i (some (.pl a))).set j (some (.ow b))).set k (some (.ow d))) (c a b d w) P) : Sim (sSeq (sPar3 i j k fa la lb) g) ρ (mo.bind fun p => (l p.2).bind fun b => (m p.2).bind fun d => c p.1 b d p.2) P := fun a e => by
  obtain ⟨⟨x, w⟩, e1, e2⟩ := obind e
  obtain ⟨y, e3, e4⟩ := obind e2
  obtain ⟨z, e5, e6⟩ := obind e4
  obtain ⟨fl, r, h1, h2⟩ := h x y z w a e6
  exact ⟨fl, r, by rw [seqN (show sPar3 i j k fa la lb ρ = some (.nx, (((E w).set i (some (.pl x))).set j (some (.ow y))).set k (some (.ow z))) by simp only [sPar3, ha _ _ e1, hb _ _ e3, hc _ _ e5])]; exact h1, h2⟩
theorem sim_asg3S {i j k : Nat} {c : PyData → PyData → PyData → S → Option α} (he : EvS fe ρ mo E) (h : ∀ a b d w, Sim g ((((E w).set i (some (.pl a))).set j (some (.pl b))).set k (some (.pl d))) (c a b d w) P) : Sim (sSeq (sAsg fe (hTup 3 (hCons (hName i) (hCons (hName j) (hCons (hName k) hNil))))) g) ρ (mo.bind fun p => (un3 p.1).bind fun t => c t.1 t.2.1 t.2.2 p.2) P := fun a e => by
  obtain ⟨⟨d, w⟩, e1, e2⟩ := obind e
  obtain ⟨⟨x, y, z⟩, e3, e4⟩ := obind e2
  obtain ⟨fl, r, h1, h2⟩ := h x y z w a e4
  have hd := un3_some e3
  subst hd
  exact ⟨fl, r, by rw [seqN (asgT (he _ _ e1) rfl)]; exact h1, h2⟩
theorem sim_asg2S {i j : Nat} {c : PyData → PyData → S → Option α} (he : EvS fe ρ mo E) (h : ∀ a b w, Sim g (((E w).set i (some (.pl a))).set j (some (.pl b))) (c a b w) P) : Sim (sSeq (sAsg fe (hTup 2 (hCons (hName i) (hCons (hName j) hNil)))) g) ρ (mo.bind fun p => (un2 p.1).bind fun t => c t.1 t.2 p.2) P := fun a e => by
  obtain ⟨⟨d, w⟩, e1, e2⟩ := obind e
  obtain ⟨⟨x, y⟩, e3, e4⟩ := obind e2
  obtain ⟨fl, r, h1, h2⟩ := h x y w a e4
  have hd := un2_some e3
  subst hd
  exact ⟨fl, r, by rw [seqN (asgT (he _ _ e1) rfl)]; exact h1, h2⟩
end
end Dv

/-! Dw: lent lists. -/
namespace Dv
open PySem
def borO (d : PyData) : Option PyData := if noL d then some d else none
theorem ev_bor {ρ ρ0 ρ1 : REnv} {f : D1} {a : Option PyData} (h0 : openR ρ = ρ0) (h : Ev f ρ0 ρ1 a) : Ev (fBor f) ρ ρ (a.bind fun d => borO d) := fun z e => by
  obtain ⟨x, e1, e2⟩ := obind e
  unfold borO at e2
  split at e2 <;> cases e2
  rename_i hn
  simp only [fBor, h0, h _ e1, hn, if_true]
theorem nBor {d : PyData} (h : noL d = true) : borO d = some d := by unfold borO; rw [if_pos h]
end Dv

/-! Dw: a = b = e; wide products. -/
namespace Dv
open PySem
section
variable {α : Type} {fe : D1} {g : S1} {ρ ρ1 : REnv} {o : Option PyData} {P : α → Fl → REnv → Prop}
theorem sim_asg2T {i j : Nat} {c : PyData → Option α} (he : Ev fe ρ ρ1 o) (h : ∀ d, Sim g ((ρ1.set i (some (.pl d))).set j (some (.pl d))) (c d) P) : Sim (sSeq (sAsg2T fe i j) g) ρ (o.bind fun d => c d) P := fun a e => by
  obtain ⟨d, e1, e2⟩ := obind e
  obtain ⟨fl, r, h1, h2⟩ := h d a e2
  have : sAsg2T fe i j ρ = some (.nx, (ρ1.set i (some (.pl d))).set j (some (.pl d))) := by
    unfold sAsg2T
    rw [he d e1]
  exact ⟨fl, r, by rw [seqN this]; exact h1, h2⟩
theorem sim_frz {m : Option α} {f : S1} {i : Nat} {ds : List PyData} (h : Sim (sSeq f g) (ρ.set i (some (.pl (.list ds)))) m P) (h0 : ρ[i]? = some (some (.ow ds)) := by rfl) : Sim (sSeq (sFrz i f) g) ρ m P := fun a e => by
  obtain ⟨fl, r, h1, h2⟩ := h a e
  refine ⟨fl, r, ?_, h2⟩
  have : sFrz i f ρ = f (ρ.set i (some (.pl (.list ds)))) := by
    unfold sFrz
    rw [h0]
  unfold sSeq at h1 ⊢
  rw [this]
  exact h1
end
end Dv

/-! Dw: xs[i] op= e. -/
namespace Dv
open PySem
/-- the old item of a list by an index -/
def atO (xs : List PyData) (j : PyData) : Option PyData := match j with
  | .int k => L2.atI xs k
  | _ => none
section
variable {α : Type} {fe : D1} {g : S1} {ρ : REnv} {o : Option PyData} {P : α → Fl → REnv → Prop}
theorem sim_augSub {i : Nat} {x : PV} {xs : List PyData} {gop : G2} {fi : D1} {oi : Option PyData} {c : List PyData → Option α} (hi : Ev fi ρ ρ oi) (he : Ev fe ρ ρ o) (h : ∀ d, Sim g (ρ.set i (some (x.put d))) (c d) P) (h0 : ρ[i]? = some (some x) := by rfl) (h00 : x.lst? = some xs := by rfl) :
    Sim (sSeq (sAugS gop i fi fe) g) ρ (oi.bind fun j => (atO xs j).bind fun u => o.bind fun y => (gop u y).bind fun z => (setO xs j z).bind fun d => c d) P := fun a e => by
  obtain ⟨j, e1, e2⟩ := obind e
  obtain ⟨u, e3, e4⟩ := obind e2
  obtain ⟨y, e5, e6⟩ := obind e4
  obtain ⟨z, e7, e8⟩ := obind e6
  obtain ⟨d, e9, e10⟩ := obind e8
  obtain ⟨fl, r, h1, h2⟩ := h _ a e10
  have hh : ownAt ρ i = some xs := by simp only [ownAt, h0, h00]
  unfold atO at e3
  split at e3
  · rename_i k
    unfold setO at e9
    simp only at e9
    split at e9
    · rename_i n hn
      cases e9
      refine ⟨fl, r, ?_, h2⟩
      rw [seqN (show sAugS gop i fi fe ρ = some (.nx, ρ.set i (some (x.put (xs.set n z)))) by simp only [sAugS, hh, hi _ e1, h0, h00, e3, he _ e5, hn, e7])]
      exact h1
    · cases e9
  · cases e3
end
end Dv

/-! Dw: four names at once. -/
namespace Dv
open PySem
def un4 (d : PyData) : Option (PyData × PyData × PyData × PyData) := match d with
  | .tuple [a, b, c, e] => some (a, b, c, e)
  | _ => none
abbrev tup4 (p : PyData × PyData × PyData × PyData) : PyData := .tuple [p.1, p.2.1, p.2.2.1, p.2.2.2]
theorem un4_some {d : PyData} {p : PyData × PyData × PyData × PyData} (h : un4 d = some p) : d = tup4 p := by
  unfold un4 at h; split at h <;> cases h; rfl
theorem nUn4 (a b c d : PyData) : un4 (.tuple [a, b, c, d]) = some (a, b, c, d) := nr rfl
section
variable {α S : Type} {ρ ρ1 ρ2 ρ3 : REnv} {g : S1} {P : α → Fl → REnv → Prop} {fe : D1} {o : Option PyData} {mo : Option (PyData × S)} {E : S → REnv}
theorem sim_asg4 {i j k l : Nat} {c : PyData → PyData → PyData → PyData → Option α} (he : Ev fe ρ ρ1 o) (h : ∀ a b d e, Sim g ((((ρ1.set i (some (.pl a))).set j (some (.pl b))).set k (some (.pl d))).set l (some (.pl e))) (c a b d e) P) : Sim (sSeq (sAsg fe (hTup 4 (hCons (hName i) (hCons (hName j) (hCons (hName k) (hCons (hName l) hNil)))))) g) ρ (o.bind fun d => (un4 d).bind fun p => c p.1 p.2.1 p.2.2.1 p.2.2.2) P := fun a e => by
  obtain ⟨d, e1, e2⟩ := obind e
  obtain ⟨⟨x, y, z, w⟩, e3, e4⟩ := obind e2
  obtain ⟨fl, r, h1, h2⟩ := h x y z w a e4
  have hd := un4_some e3
  subst hd
  exact ⟨fl, r, by rw [seqN (asgT (he _ e1) rfl)]; exact h1, h2⟩
theorem sim_asg4S {i j k l : Nat} {c : PyData → PyData → PyData → PyData → S → Option α} (he : EvS fe ρ mo E) (h : ∀ a b d e w, Sim g (((((E w).set i (some (.pl a))).set j (some (.pl b))).set k (some (.pl d))).set l (some (.pl e))) (c a b d e w) P) : Sim (sSeq (sAsg fe (hTup 4 (hCons (hName i) (hCons (hName j) (hCons (hName k) (hCons (hName l) hNil)))))) g) ρ (mo.bind fun p => (un4 p.1).bind fun t => c t.1 t.2.1 t.2.2.1 t.2.2.2 p.2) P := fun a e => by
  obtain ⟨⟨d, w0⟩, e1, e2⟩ := obind e
  obtain ⟨⟨x, y, z, w⟩, e3, e4⟩ := obind e2
  obtain ⟨fl, r, h1, h2⟩ := h x y z w w0 a e4
  have hd := un4_some e3
  replace hd : d = tup4 (x, y, z, w) := hd
  subst hd
  exact ⟨fl, r, by rw [seqN (asgT (he _ _ e1) rfl)]; exact h1, h2⟩
end
end Dv

/-! Dx: fractions. -/
namespace Dv
/-! ### k / M in lowest terms -/
def frN (M k : Nat) : Nat := k / Nat.gcd k M
def frD (M k : Nat) : Nat := M / Nat.gcd k M
theorem fr_pos {M k : Nat} (h : 0 < M) : 0 < frD M k := Nat.div_pos (Nat.gcd_le_right _ h) (Nat.gcd_pos_of_pos_right _ h)
theorem fr_dvd (M k : Nat) : frD M k ∣ M := Nat.div_dvd_of_dvd (Nat.gcd_dvd_right _ _)
theorem fr_le {M k : Nat} (h : 0 < M) : frD M k ≤ M := Nat.le_of_dvd h (fr_dvd M k)
theorem fr_mul {M k : Nat} : frN M k * M = k * frD M k := by
  unfold frN frD
  rw [← Nat.mul_div_assoc _ (Nat.gcd_dvd_right k M), Nat.mul_comm, ← Nat.mul_div_assoc _ (Nat.gcd_dvd_left k M), Nat.mul_comm]
theorem fr_cop {M k : Nat} (h : 0 < M) : Nat.gcd (frN M k) (frD M k) = 1 := Nat.coprime_div_gcd_div_gcd (Nat.gcd_pos_of_pos_right _ h)
/-- lowest terms are one -/
theorem low_uniq {a b c d : Nat} (h1 : Nat.gcd a b = 1) (h2 : Nat.gcd c d = 1) (hb : 0 < b) (hd : 0 < d) (e : a * d = c * b) : a = c ∧ b = d := by
  have d1 : b ∣ d := by
    have : b ∣ a * d := ⟨c, by rw [e, Nat.mul_comm]⟩
    exact Nat.Coprime.dvd_of_dvd_mul_left (show Nat.Coprime b a by rw [Nat.Coprime, Nat.gcd_comm]; exact h1) this
  have d2 : d ∣ b := by
    have : d ∣ c * b := ⟨a, by rw [← e, Nat.mul_comm]⟩
    exact Nat.Coprime.dvd_of_dvd_mul_left (show Nat.Coprime d c by rw [Nat.Coprime, Nat.gcd_comm]; exact h2) this
  have : b = d := Nat.dvd_antisymm d1 d2
  subst this
  exact ⟨Nat.eq_of_mul_eq_mul_right hb e, rfl⟩
theorem fr_of {u v M k : Nat} (hv : 0 < v) (hM : 0 < M) (e : u * M = k * v) : frN v u = frN M k ∧ frD v u = frD M k := by
  refine low_uniq (fr_cop hv) (fr_cop hM) (fr_pos hv) (fr_pos hM) ?_
  have h1 := fr_mul (M := v) (k := u)
  have h2 := fr_mul (M := M) (k := k)
  have e3 : frN v u * frD M k * (v * M) = frN M k * frD v u * (v * M) := by
    calc frN v u * frD M k * (v * M) = (frN v u * v) * (frD M k * M) := by ac_rfl
      _ = u * M * (frD v u * frD M k) := by rw [h1]; ac_rfl
      _ = k * frD M k * (frD v u * v) := by rw [e]; ac_rfl
      _ = (frN M k * M) * (frD v u * v) := by rw [h2]
      _ = frN M k * frD v u * (v * M) := by ac_rfl
  exact Nat.eq_of_mul_eq_mul_right (Nat.mul_pos hv hM) e3
/-- of numbers over M: the least number below all -/
def comO (M : Nat) (ks : List Nat) (b : Nat) : Nat := ks.foldl (fun b k => Nat.lcm b (frD M k)) b
theorem comO_dvd {M : Nat} : ∀ {ks : List Nat} {b : Nat}, b ∣ M → comO M ks b ∣ M
  | [], b, h => h
  | k :: ks, b, h => comO_dvd (ks := ks) (Nat.lcm_dvd h (fr_dvd M k))
theorem dvd_comO {M : Nat} : ∀ {ks : List Nat} {b : Nat}, b ∣ comO M ks b
  | [], b => Nat.dvd_refl b
  | k :: ks, b => Nat.dvd_trans (Nat.dvd_lcm_left b (frD M k)) (dvd_comO (ks := ks))
theorem mem_comO {M : Nat} : ∀ {ks : List Nat} {b : Nat} {k : Nat}, k ∈ ks → frD M k ∣ comO M ks b
  | k' :: ks, b, k, h => by
    rcases List.mem_cons.mp h with rfl | h
    · exact Nat.dvd_trans (Nat.dvd_lcm_right b (frD M k)) (dvd_comO (ks := ks))
    · exact mem_comO (ks := ks) h
abbrev com (M : Nat) (ks : List Nat) : Nat := comO M ks 1
theorem com_dvd {M : Nat} {ks : List Nat} : com M ks ∣ M := comO_dvd (Nat.one_dvd M)
theorem com_pos {M : Nat} {ks : List Nat} (h : 0 < M) : 0 < com M ks := Nat.pos_of_dvd_of_pos com_dvd h
theorem com_le {M : Nat} {ks : List Nat} (h : 0 < M) : com M ks ≤ M := Nat.le_of_dvd h com_dvd
/-- what a number comes to over L -/
def wt (M L k : Nat) : Nat := frN M k * (L / frD M k)
theorem wt_mul {M L k : Nat} (hM : 0 < M) (h : frD M k ∣ L) : wt M L k * M = k * L := by
  obtain ⟨c, rfl⟩ := h
  unfold wt
  rw [Nat.mul_div_cancel_left _ (fr_pos hM)]
  calc frN M k * c * M = (frN M k * M) * c := by ac_rfl
    _ = k * (frD M k * c) := by rw [fr_mul]; ac_rfl
theorem wts_sum {M L : Nat} (hM : 0 < M) : ∀ {ks : List Nat}, (∀ k ∈ ks, frD M k ∣ L) → (ks.map (wt M L)).sum * M = ks.sum * L
  | [], _ => by simp
  | k :: ks, h => by
    rw [List.map_cons, List.sum_cons, List.sum_cons, Nat.add_mul, Nat.add_mul, wt_mul hM (h k List.mem_cons_self), wts_sum hM fun k m => h k (List.mem_cons_of_mem _ m)]
theorem wts_all {M : Nat} (hM : 0 < M) {ks : List Nat} (h : ks.sum = M) : (ks.map (wt M (com M ks))).sum = com M ks := by
  have := wts_sum (L := com M ks) hM (ks := ks) fun k m => mem_comO m
  rw [h, Nat.mul_comm M] at this
  exact Nat.eq_of_mul_eq_mul_right hM this
/-- where n falls -/
def fall : List Nat → Nat → Nat
  | [], _ => 0
  | w :: ws, n => if n < w then 0 else fall ws (n - w) + 1
theorem fall_lt : ∀ {ws : List Nat} {n : Nat}, n < ws.sum → fall ws n < ws.length
  | [], n, h => by simp at h
  | w :: ws, n, h => by
    rw [List.sum_cons] at h
    unfold fall
    split
    · simp
    · have := fall_lt (ws := ws) (n := n - w) (by omega)
      rw [List.length_cons]; omega
theorem cyc_count (p : Nat → Bool) {L : Nat} (hL : 0 < L) : ∀ s : Nat, (List.range L).countP (fun k => p ((s + k) % L)) = (List.range L).countP p
  | 0 => by
    refine List.countP_congr fun k hk => ?_
    rw [Nat.zero_add, Nat.mod_eq_of_lt (List.mem_range.mp hk)]
  | s + 1 => by
    have ih := cyc_count p hL s
    rw [← ih]
    have e : (List.range (L + 1)).countP (fun k => p ((s + k) % L)) = (List.range (L + 1)).countP (fun k => p ((s + k) % L)) := rfl
    conv at e => lhs; rw [List.range_succ_eq_map, List.countP_cons, List.countP_map]
    conv at e => rhs; rw [List.range_succ, List.countP_append, List.countP_singleton]
    rw [Nat.add_zero, Nat.add_mod_right] at e
    have e2 : List.countP ((fun k => p ((s + k) % L)) ∘ Nat.succ) (List.range L) = List.countP (fun k => p ((s + 1 + k) % L)) (List.range L) := by
      refine List.countP_congr fun k _ => ?_
      show p ((s + (k + 1)) % L) = true ↔ _
      rw [show s + (k + 1) = s + 1 + k by omega]
    rw [e2] at e
    omega
theorem fall_count : ∀ (ws : List Nat) (j : Nat), (List.range ws.sum).countP (fun n => fall ws n == j) = (ws[j]?).getD 0
  | [], j => by simp
  | w :: ws, j => by
    rw [List.sum_cons, List.range_add, List.countP_append, List.countP_map]
    have e1 : (List.range w).countP (fun n => fall (w :: ws) n == j) = if j = 0 then w else 0 := by
      by_cases h : j = 0
      · subst h
        rw [if_pos rfl, List.countP_eq_length.mpr, List.length_range]
        intro n hn
        unfold fall
        rw [if_pos (List.mem_range.mp hn)]; rfl
      · rw [if_neg h, List.countP_eq_zero]
        intro n hn
        unfold fall
        rw [if_pos (List.mem_range.mp hn)]
        simp; omega
    have e2 : (List.range ws.sum).countP ((fun n => fall (w :: ws) n == j) ∘ fun n => w + n) = if j = 0 then 0 else (ws[j - 1]?).getD 0 := by
      by_cases h : j = 0
      · subst h
        rw [if_pos rfl, List.countP_eq_zero]
        intro n _
        show ¬ (fall (w :: ws) (w + n) == 0) = true
        unfold fall
        rw [if_neg (by omega)]; simp
      · rw [if_neg h, ← fall_count ws (j - 1)]
        refine List.countP_congr fun n _ => ?_
        show ((if w + n < w then 0 else fall ws (w + n - w) + 1) == j) = true ↔ (fall ws n == j - 1) = true
        rw [if_neg (by omega), Nat.add_sub_cancel_left, beq_iff_eq, beq_iff_eq]
        omega
    rw [e1, e2]
    cases j with
    | zero => simp
    | succ j => simp
theorem count_map_range (f : Nat → Nat) (L j : Nat) : (((List.range L).map fun k => ((f k : Nat) : Int)).count (j : Int)) = (List.range L).countP (fun k => f k == j) := by
  rw [List.count_eq_countP, List.countP_map]
  refine List.countP_congr fun k _ => ?_
  show (((f k : Nat) : Int) == (j : Int)) = true ↔ (f k == j) = true
  rw [beq_iff_eq, beq_iff_eq]
  omega
/-! ### as values -/
open PySem
/-- k / M in lowest terms, as a value -/
def Fr (M k : Nat) : PyData := .tuple [.int ((frN M k : Nat) : Int), .int ((frD M k : Nat) : Int)]
theorem Fr_of {u v M k : Nat} (hv : 0 < v) (hM : 0 < M) (e : u * M = k * v) : Fr v u = Fr M k := by
  obtain ⟨h1, h2⟩ := fr_of hv hM e
  unfold Fr
  rw [h1, h2]
theorem Fr_up {M c k : Nat} (hM : 0 < M) (hc : 0 < c) : Fr M k = Fr (M * c) (k * c) := Fr_of hM (Nat.mul_pos hM hc) (by ac_rfl)
theorem gMod_nat {x y : Nat} (h : 0 < y) : gMod (.int (x : Int)) (.int (y : Int)) = some (.int ((x % y : Nat) : Int)) := by
  rw [oMod _ _ (by omega)]; rfl
theorem gDiv_nat {x y : Nat} (h : 0 < y) (h2 : y < 1073741824) : gDiv (.int (x : Int)) (.int (y : Int)) = some (.int ((x / y : Nat) : Int)) := by
  show (if decide (0 < (y : Int) ∧ (y : Int).natAbs.log2 < 9000) then some (PyData.int ((x : Int) / (y : Int))) else none) = _
  rw [if_pos]; rfl
  refine decide_eq_true ⟨by omega, ?_⟩
  rw [Int.natAbs_natCast]
  have : y.log2 < 30 := (Nat.log2_lt (by omega)).mpr (by omega)
  omega
theorem gMul_nat {x y : Nat} (h : y < 1073741824) : gMul (.int (x : Int)) (.int (y : Int)) = some (.int ((x * y : Nat) : Int)) := by
  rw [oMulR _ _ (by simp [small64]; omega)]; rfl
theorem gAdd_nat (x y : Nat) : gAdd (.int (x : Int)) (.int (y : Int)) = some (.int ((x + y : Nat) : Int)) := nr rfl
theorem gSub_nat {x y : Nat} (h : y ≤ x) : gSub (.int (x : Int)) (.int (y : Int)) = some (.int ((x - y : Nat) : Int)) := by
  rw [nSub]; congr 2; omega
theorem gGcd_nat (x y : Nat) : gGcd [.int (x : Int), .int (y : Int)] = some (.int ((Nat.gcd x y : Nat) : Int)) := nr rfl
theorem gLcm_nat {x y : Nat} (hx : x < 1073741824) (hy : y < 1073741824) : gLcm [.int (x : Int), .int (y : Int)] = some (.int ((Nat.lcm x y : Nat) : Int)) := by
  have l : ∀ {n : Nat}, n < 1073741824 → n.log2 < 13000 := fun {n} h => by
    by_cases h0 : n = 0
    · subst h0; rw [Nat.log2_zero]; omega
    · have : n.log2 < 30 := (Nat.log2_lt h0).mpr (by omega)
      omega
  show (if decide ((x : Int).natAbs.log2 < 13000) && decide ((y : Int).natAbs.log2 < 13000) then some (PyData.int ((Nat.lcm (x : Int).natAbs (y : Int).natAbs : Nat) : Int)) else none) = _
  rw [Int.natAbs_natCast, Int.natAbs_natCast, if_pos]
  rw [decide_eq_true (l hx), decide_eq_true (l hy)]; rfl
theorem Fr0 (M k : Nat) : gIx (Fr M k) (.int 0) = some (.int ((frN M k : Nat) : Int)) := nr rfl
theorem Fr1 (M k : Nat) : gIx (Fr M k) (.int 1) = some (.int ((frD M k : Nat) : Int)) := nr rfl
theorem WP.val {α : Type} {o : Option α} {x : α} (h : WP o fun y => y = x) : o = some x := by obtain ⟨y, e, rfl⟩ := h; exact e
theorem euclid (a b : Nat) : whileW (τ := Empty) (fun (s : PyData × PyData) => (gGt s.2 (PyData.int 0)).bind fun x => tBd x) (fun (s : PyData × PyData) => ((gInt [s.1]).bind fun x => gMod x s.2).bind fun x => some (Fw.nx (s.2, x))) (.int (a : Int), .int (b : Int)) = some (.nx (.int ((Nat.gcd a b : Nat) : Int), .int 0)) := by
  refine WP.val (whileW_wp _ _ (fun s => ∃ x y : Nat, s = (PyData.int (x : Int), PyData.int (y : Int)) ∧ Nat.gcd x y = Nat.gcd a b) (fun o => o = .nx (.int ((Nat.gcd a b : Nat) : Int), .int 0)) (fun s => match s.2 with | .int i => i.toNat | _ => 0) ?_ ?_ ?_ _ ⟨a, b, rfl, rfl⟩)
  · rintro s ⟨x, y, rfl, e⟩ h
    simp only [nGt, bsome, tBd_b, Option.some.injEq, decide_eq_false_iff_not] at h
    have : y = 0 := by omega
    subst this
    rw [← e, Nat.gcd_zero_right]; rfl
  · rintro s ⟨x, y, rfl, e⟩ h
    simp only [nGt, bsome, tBd_b, Option.some.injEq, decide_eq_true_eq] at h
    have hy : 0 < y := by omega
    simp only [nInt, bsome, gMod_nat hy]
    refine WP.ret ⟨⟨y, x % y, rfl, ?_⟩, ?_⟩
    · rw [← e, Nat.gcd_comm y, ← Nat.gcd_rec, Nat.gcd_comm]
    · have := Nat.mod_lt x hy
      show ((x % y : Nat) : Int).toNat < ((y : Nat) : Int).toNat
      omega
  · rintro s ⟨x, y, rfl, e⟩
    refine ⟨decide (0 < (y : Int)), ?_⟩
    simp only [nGt, bsome, tBd_b]
/-! ### short ints, shown -/
theorem log2_lt_of {n k : Nat} (h : n < 2 ^ k) (hk : 0 < k) : n.log2 < k := by
  by_cases h0 : n = 0
  · subst h0; rw [Nat.log2_zero]; exact hk
  · exact (Nat.log2_lt h0).mpr h
theorem sx_int {i : Int} (h : i.natAbs < 10 ^ 12) : (PyData.int i).showable = true ∧ (PyData.int i).intsShort 13 = true := by
  refine ⟨?_, decide_eq_true (PyData.shown_int_le h)⟩
  show decide (i.natAbs.log2 < 1920) = true
  refine decide_eq_true ?_
  have : i.natAbs.log2 < 40 := log2_lt_of (Nat.lt_trans h (by decide)) (by decide)
  omega
theorem sx_ints : ∀ {l : List Int}, (∀ i ∈ l, i.natAbs < 10 ^ 12) → PyData.showableAll (l.map .int) = true ∧ PyData.intsShortAll 13 (l.map .int) = true ∧ PyData.weightAll (l.map .int) ≤ 42 * l.length
  | [], _ => ⟨rfl, rfl, by simp [PyData.weightAll]⟩
  | i :: l, h => by
    obtain ⟨a, b⟩ := sx_int (h i List.mem_cons_self)
    have lg : i.natAbs.log2 < 40 := log2_lt_of (Nat.lt_trans (h i List.mem_cons_self) (by decide)) (by decide)
    obtain ⟨a', b', c'⟩ := sx_ints fun j m => h j (List.mem_cons_of_mem _ m)
    refine ⟨?_, ?_, ?_⟩
    · simp only [List.map_cons, PyData.showableAll, a, a']; rfl
    · simp only [List.map_cons, PyData.intsShortAll, b, b']; rfl
    · simp only [List.map_cons, PyData.weightAll, PyData.weight, List.length_cons]
      split <;> omega
theorem shw_ints {l : List Int} (h : ∀ i ∈ l, i.natAbs < 10 ^ 12) (hl : l.length ≤ 10000) : Shw (.list (l.map .int)) := by
  obtain ⟨a, b, c⟩ := sx_ints h
  have d := dep_ints l
  have e : (2 : Nat) ^ 20 = 1048576 := by decide
  refine shw_of ?_ ?_ ?_ ?_ ?_
  · simp only [PyData.showable, a]
  · simp only [PyData.canLay0, lay_ints]
  · simp only [PyData.depth]; omega
  · simp only [PyData.intsShort, b]
  · simp only [PyData.weight]; omega
end Dv

/-! Dx: small data are shown. -/
namespace Dv
open PySem
mutual
def smD : PyData → Bool
  | .none => true
  | .bool _ => true
  | .int i => decide (i.natAbs < 10 ^ 12)
  | .tuple xs => smDs xs
  | .list xs => smDs xs
  | _ => false
def smDs : List PyData → Bool
  | [] => true
  | x :: xs => smD x && smDs xs
end
mutual
def cntD : PyData → Nat
  | .tuple xs => cntDs xs
  | .list xs => cntDs xs
  | _ => 41
def cntDs : List PyData → Nat
  | [] => 0
  | x :: xs => cntD x + 1 + cntDs xs
end
mutual
theorem smD_ok : ∀ (d : PyData), smD d = true → d.showable = true ∧ d.canLay0 = true ∧ d.intsShort 13 = true ∧ d.weight ≤ cntD d
  | .none, _ => ⟨rfl, rfl, rfl, by simp [PyData.weight, cntD]⟩
  | .bool b, _ => ⟨rfl, rfl, rfl, by simp [PyData.weight, cntD]⟩
  | .int i, h => by
    have h : i.natAbs < 10 ^ 12 := of_decide_eq_true h
    obtain ⟨a, b⟩ := sx_int h
    have lg : i.natAbs.log2 < 40 := log2_lt_of (Nat.lt_trans h (by decide)) (by decide)
    refine ⟨a, rfl, b, ?_⟩
    simp only [PyData.weight, cntD]
    split <;> omega
  | .tuple xs, h => by
    obtain ⟨a, b, c, e⟩ := smDs_ok xs (by simpa [smD] using h)
    exact ⟨by simpa [PyData.showable] using a, by simpa [PyData.canLay0] using b, by simpa [PyData.intsShort] using c, by simpa [PyData.weight, cntD] using e⟩
  | .list xs, h => by
    obtain ⟨a, b, c, e⟩ := smDs_ok xs (by simpa [smD] using h)
    exact ⟨by simpa [PyData.showable] using a, by simpa [PyData.canLay0] using b, by simpa [PyData.intsShort] using c, by simpa [PyData.weight, cntD] using e⟩
  | .str _, h => by simp [smD] at h
  | .dict _, h => by simp [smD] at h
theorem smDs_ok : ∀ (xs : List PyData), smDs xs = true → PyData.showableAll xs = true ∧ PyData.canLayAll0 xs = true ∧ PyData.intsShortAll 13 xs = true ∧ PyData.weightAll xs ≤ cntDs xs
  | [], _ => ⟨rfl, rfl, rfl, Nat.le_refl _⟩
  | x :: xs, h => by
    have h : smD x = true ∧ smDs xs = true := by simpa [smDs] using h
    obtain ⟨a, b, c, e⟩ := smD_ok x h.1
    obtain ⟨a', b', c', e'⟩ := smDs_ok xs h.2
    refine ⟨by simp [PyData.showableAll, a, a'], by simp [PyData.canLayAll0, b, b'], by simp [PyData.intsShortAll, c, c'], ?_⟩
    simp only [PyData.weightAll, cntDs]
    omega
end
/-- small, flat, few -/
structure Sd (k n : Nat) (d : PyData) : Prop where
  sm : smD d = true
  dp : d.depth ≤ k
  ct : cntD d ≤ n
theorem Sd.shw {k n : Nat} {d : PyData} (h : Sd k n d) (hk : k ≤ 60) (hn : n ≤ 1000000) : Shw d := by
  obtain ⟨a, b, c, e⟩ := smD_ok d h.sm
  have q : (2 : Nat) ^ 20 = 1048576 := by decide
  exact shw_of a b (Nat.le_trans h.dp hk) c (by have := h.ct; omega)
theorem sd_int {i : Int} (h : i.natAbs < 10 ^ 12) : Sd 0 41 (.int i) := ⟨decide_eq_true h, by simp [PyData.depth], by simp [cntD]⟩
theorem sds_map {α : Type} {f : α → PyData} {k n : Nat} : ∀ {l : List α}, (∀ a ∈ l, Sd k n (f a)) → smDs (l.map f) = true ∧ PyData.depthAll (l.map f) ≤ k ∧ cntDs (l.map f) ≤ l.length * (n + 1)
  | [], _ => ⟨rfl, by simp [PyData.depthAll], by simp [cntDs]⟩
  | a :: l, h => by
    obtain ⟨x, y, z⟩ := sds_map (l := l) fun b m => h b (List.mem_cons_of_mem _ m)
    have := h a List.mem_cons_self
    refine ⟨by simp [smDs, this.sm, x], ?_, ?_⟩
    · have := this.dp
      simp only [List.map_cons, PyData.depthAll]; omega
    · have := this.ct
      simp only [List.map_cons, cntDs, List.length_cons, Nat.succ_mul]; omega
theorem sd_tup {α : Type} {f : α → PyData} {k n : Nat} {l : List α} (h : ∀ a ∈ l, Sd k n (f a)) : Sd (k + 1) (l.length * (n + 1)) (.tuple (l.map f)) := by
  obtain ⟨x, y, z⟩ := sds_map h
  exact ⟨by simpa [smD] using x, by simp only [PyData.depth]; omega, by simpa [cntD] using z⟩
theorem sd_lst {α : Type} {f : α → PyData} {k n : Nat} {l : List α} (h : ∀ a ∈ l, Sd k n (f a)) : Sd (k + 1) (l.length * (n + 1)) (.list (l.map f)) := by
  obtain ⟨x, y, z⟩ := sds_map h
  exact ⟨by simpa [smD] using x, by simp only [PyData.depth]; omega, by simpa [cntD] using z⟩
theorem Sd.up {k n k' n' : Nat} {d : PyData} (h : Sd k n d) (hk : k ≤ k') (hn : n ≤ n') : Sd k' n' d := ⟨h.sm, Nat.le_trans h.dp hk, Nat.le_trans h.ct hn⟩
theorem sd_pair {k n : Nat} {a b : PyData} (ha : Sd k n a) (hb : Sd k n b) : Sd (k + 1) (2 * (n + 1)) (.tuple [a, b]) := by
  have := sd_tup (f := id) (l := [a, b]) (k := k) (n := n) (by simpa using ⟨ha, hb⟩)
  simpa using this
theorem sd_two {k n : Nat} {a : PyData} (ha : Sd k n a) : Sd (k + 1) (2 * (n + 1)) (.list [a, a]) := by
  have := sd_lst (f := id) (l := [a, a]) (k := k) (n := n) (by simpa using ha)
  simpa using this
theorem sd_ti {l : List Int} (h : ∀ i ∈ l, i.natAbs < 10 ^ 12) : Sd 1 (l.length * 42) (ti l) := sd_tup fun i m => sd_int (h i m)
theorem repr_tup {ds : List PyData} (h : Shw (.tuple ds)) : gRepr [.tuple ds] = some (.str (PyData.shown (.tuple ds))) := by
  have : ((PyData.tuple ds).showable && (PyData.tuple ds).canLay0 && decide ((PyData.tuple ds).depth ≤ 60) && decide ((PyData.tuple ds).shown.length ≤ sizeLine)) = true := by
    rw [h.1, h.2.1, decide_eq_true h.2.2.1, decide_eq_true h.2.2.2]; rfl
  show (if ((PyData.tuple ds).showable && (PyData.tuple ds).canLay0 && decide ((PyData.tuple ds).depth ≤ 60) && decide ((PyData.tuple ds).shown.length ≤ sizeLine)) = true then some (PyData.str (PyData.shown (.tuple ds))) else none) = _
  rw [if_pos this]
theorem eqStr_self (x : Str) : gEqA (.str x) (.str x) = some (.bool true) := by rw [eqStr]; simp
end Dv

/-! Dx: great numbers. -/
namespace Dv
open PySem
theorem gMul_ii (i j : Int) : gMul (.int i) (.int j) = if (small64 i || small64 j) = true then some (.int (i * j)) else none := by
  unfold gMul gOr gMulI gI
  dsimp only
  cases (small64 i || small64 j)
  · rfl
  · rfl
theorem gMulW_ii (i j : Int) (h : i.natAbs.log2 + j.natAbs.log2 < 1000000) : gMulW (.int i) (.int j) = some (.int (i * j)) := by
  unfold gMulW gI
  dsimp only
  rw [decide_eq_true h, if_pos rfl]
theorem gMulA_ii (i j : Int) (h : i.natAbs.log2 + j.natAbs.log2 < 1000000) : gMulA (.int i) (.int j) = some (.int (i * j)) := by
  unfold gMulA gOr
  rw [gMul_ii, gMulW_ii i j h]
  cases (small64 i || small64 j)
  · rfl
  · rfl
/-- a great number -/
def BB : Nat := 2 ^ 400
theorem log_BB {x : Nat} (h : x < BB) : x.log2 < 400 := log2_lt_of h (by omega)
theorem BB_le {k : Nat} (h : k ≤ 400) : 2 ^ k ≤ BB := Nat.pow_le_pow_right (by omega) h
theorem gMulA_nat {x y : Nat} (hx : x < BB) (hy : y < BB) : gMulA (.int (x : Int)) (.int (y : Int)) = some (.int ((x * y : Nat) : Int)) := by
  have l1 := log_BB hx
  have l2 := log_BB hy
  rw [gMulA_ii, Int.natCast_mul]
  rw [Int.natAbs_natCast, Int.natAbs_natCast]
  omega
theorem gDivB {x g : Nat} (h : 0 < g) (hg : g < BB) : gDiv (.int (x : Int)) (.int (g : Int)) = some (.int ((x / g : Nat) : Int)) := by
  have l := log_BB hg
  unfold gDiv gI
  dsimp only
  rw [decide_eq_true (show 0 < (g : Int) ∧ (g : Int).natAbs.log2 < 9000 from ⟨by omega, by rw [Int.natAbs_natCast]; omega⟩), if_pos rfl, Int.natCast_ediv]
/-- a pair of great numbers is shown -/
theorem big_int {x : Nat} (h : x < BB) : x.log2 < 1920 ∧ (PyData.int (x : Int)).shown.length ≤ 130 := by
  refine ⟨?_, ?_⟩
  · have := log_BB h
    omega
  · have q : BB ≤ 10 ^ 130 := by
      show 2 ^ 400 ≤ 10 ^ 130
      calc 2 ^ 400 ≤ 2 ^ (4 * 100) := Nat.le_refl _
        _ = (2 ^ 4) ^ 100 := Nat.pow_mul 2 4 100
        _ ≤ 10 ^ 130 := by decide +kernel
    exact PyProof.Rows.toString_length_le (by omega) (by omega) (by exact_mod_cast Nat.lt_of_lt_of_le h q)
theorem fr_shown {x y : Nat} (hx : x < BB) (hy : y < BB) : Shw (.tuple [.int (x : Int), .int (y : Int)]) ∧ Shw (.list [.tuple [.int (x : Int), .int (y : Int)], .tuple [.int (x : Int), .int (y : Int)]]) := by
  obtain ⟨a1, a2⟩ := big_int hx
  obtain ⟨b1, b2⟩ := big_int hy
  have sz : sizeLine = 16777216 := by decide
  refine ⟨⟨?_, rfl, by simp [PyData.depth, PyData.depthAll], ?_⟩, ⟨?_, rfl, by simp [PyData.depth, PyData.depthAll], ?_⟩⟩
  · simp [PyData.showable, PyData.showableAll, a1, b1]
  · refine Nat.le_trans (PyData.shown_le_bulk 130 (by omega) _ (PyData.leavesShort_of_canLay0 130 _ rfl ?_)) ?_
    · simp [PyData.intsShort, PyData.intsShortAll, a2, b2]
    · rw [sz]; simp [PyData.bulk, PyData.bulkAll]
  · simp [PyData.showable, PyData.showableAll, a1, b1]
  · refine Nat.le_trans (PyData.shown_le_bulk 130 (by omega) _ (PyData.leavesShort_of_canLay0 130 _ rfl ?_)) ?_
    · simp [PyData.intsShort, PyData.intsShortAll, a2, b2]
    · rw [sz]; simp [PyData.bulk, PyData.bulkAll]
end Dv

/-! Dx: great numbers by their bits; ways to choose. -/
namespace Dv
open PySem
/-! bits -/
theorem lg_le {x y : Nat} (h : x ≤ y) : x.log2 ≤ y.log2 := by
  by_cases hx : x = 0
  · rw [hx, Nat.log2_zero]; exact Nat.zero_le _
  · exact (Nat.le_log2 (by omega)).mpr (Nat.le_trans (Nat.log2_self_le hx) h)
theorem lt_lg (x : Nat) : x < 2 ^ (x.log2 + 1) := Nat.lt_log2_self
theorem lg_lt {x n : Nat} (h : x < 2 ^ (n + 1)) : x.log2 ≤ n := by
  have := log2_lt_of h (by omega); omega
theorem lg_mul (x y : Nat) : (x * y).log2 ≤ x.log2 + y.log2 + 1 := by
  apply lg_lt
  have e : x.log2 + y.log2 + 1 + 1 = (x.log2 + 1) + (y.log2 + 1) := by omega
  rw [e, Nat.pow_add]
  exact Nat.mul_lt_mul'' (lt_lg x) (lt_lg y)
theorem lg_add (x y : Nat) : (x + y).log2 ≤ x.log2 + y.log2 + 1 := by
  apply lg_lt
  have h1 := lt_lg x
  have h2 := lt_lg y
  have h3 : 2 ^ (x.log2 + 1) ≤ 2 ^ (x.log2 + y.log2 + 1) := Nat.pow_le_pow_right (by omega) (by omega)
  have h4 : 2 ^ (y.log2 + 1) ≤ 2 ^ (x.log2 + y.log2 + 1) := Nat.pow_le_pow_right (by omega) (by omega)
  rw [Nat.pow_succ]
  omega
theorem lg_pow (x n : Nat) : (x ^ n).log2 ≤ n * (x.log2 + 1) := by
  by_cases hn : n = 0
  · subst hn; rw [Nat.pow_zero, Nat.zero_mul]; exact Nat.le_of_eq (by decide)
  · refine Nat.le_of_lt_succ (log2_lt_of (Nat.lt_of_lt_of_le (Nat.pow_lt_pow_left (lt_lg x) hn) ?_) (by omega))
    rw [← Nat.pow_mul]
    exact Nat.pow_le_pow_right (by omega) (by rw [Nat.mul_comm]; omega)
theorem gMulL {x y : Nat} (h : x.log2 + y.log2 < 1000000) : gMulA (.int (x : Int)) (.int (y : Int)) = some (.int ((x * y : Nat) : Int)) := by
  rw [gMulA_ii, Int.natCast_mul]
  rw [Int.natAbs_natCast, Int.natAbs_natCast]
  exact h
theorem gDivL {x g : Nat} (h : 0 < g) (hg : g.log2 < 9000) : gDiv (.int (x : Int)) (.int (g : Int)) = some (.int ((x / g : Nat) : Int)) := by
  unfold gDiv gI
  dsimp only
  rw [decide_eq_true (show 0 < (g : Int) ∧ (g : Int).natAbs.log2 < 9000 from ⟨by omega, by rw [Int.natAbs_natCast]; exact hg⟩), if_pos rfl, Int.natCast_ediv]
/-! shown -/
theorem len_big {x : Nat} (h : x.log2 < 1900) : (PyData.int (x : Int)).shown.length ≤ 600 := by
  have q : (2 : Nat) ^ 1900 ≤ 10 ^ 600 := by
    calc 2 ^ 1900 ≤ 2 ^ (4 * 475) := Nat.le_refl _
      _ = (2 ^ 4) ^ 475 := Nat.pow_mul 2 4 475
      _ ≤ 10 ^ 600 := by decide +kernel
  have hx : x < 10 ^ 600 := Nat.lt_of_lt_of_le (Nat.lt_of_lt_of_le (lt_lg x) (Nat.pow_le_pow_right (by omega) (by omega : x.log2 + 1 ≤ 1900))) q
  exact PyProof.Rows.toString_length_le (by omega) (by omega) (by exact_mod_cast hx)
theorem fr_shownL {x y : Nat} (hx : x.log2 < 1900) (hy : y.log2 < 1900) : Shw (.tuple [.int (x : Int), .int (y : Int)]) ∧ Shw (.list [.tuple [.int (x : Int), .int (y : Int)], .tuple [.int (x : Int), .int (y : Int)]]) := by
  have a1 : x.log2 < 1920 := by omega
  have b1 : y.log2 < 1920 := by omega
  have a2 := len_big hx
  have b2 := len_big hy
  have sz : sizeLine = 16777216 := by decide
  refine ⟨⟨?_, rfl, by simp [PyData.depth, PyData.depthAll], ?_⟩, ⟨?_, rfl, by simp [PyData.depth, PyData.depthAll], ?_⟩⟩
  · simp [PyData.showable, PyData.showableAll, a1, b1]
  · refine Nat.le_trans (PyData.shown_le_bulk 600 (by omega) _ (PyData.leavesShort_of_canLay0 600 _ rfl ?_)) ?_
    · simp [PyData.intsShort, PyData.intsShortAll, a2, b2]
    · rw [sz]; simp [PyData.bulk, PyData.bulkAll]
  · simp [PyData.showable, PyData.showableAll, a1, b1]
  · refine Nat.le_trans (PyData.shown_le_bulk 600 (by omega) _ (PyData.leavesShort_of_canLay0 600 _ rfl ?_)) ?_
    · simp [PyData.intsShort, PyData.intsShortAll, a2, b2]
    · rw [sz]; simp [PyData.bulk, PyData.bulkAll]
/-! ways to choose -/
def Ch : Nat → Nat → Nat
  | _, 0 => 1
  | 0, _ + 1 => 0
  | n + 1, k + 1 => Ch n k + Ch n (k + 1)
theorem Ch_zero (n : Nat) : Ch n 0 = 1 := by cases n <;> rfl
theorem Ch_gt : ∀ {n k : Nat}, n < k → Ch n k = 0
  | 0, 0, h => by omega
  | 0, _ + 1, _ => rfl
  | n + 1, 0, h => by omega
  | n + 1, k + 1, h => by rw [Ch, Ch_gt (by omega), Ch_gt (by omega)]
theorem Ch_le : ∀ n k : Nat, Ch n k ≤ 2 ^ n
  | 0, 0 => Nat.le_refl _
  | 0, _ + 1 => Nat.zero_le _
  | n + 1, 0 => by rw [Ch_zero]; exact Nat.pos_of_ne_zero (by simp)
  | n + 1, k + 1 => by rw [Ch, Nat.pow_succ]; have := Ch_le n k; have := Ch_le n (k + 1); omega
/-- n (n-1) .. by k factors -/
def fpN : Nat → Nat → Nat
  | _, 0 => 1
  | n, k + 1 => fpN n k * (n - k)
theorem fpN_succ : ∀ (k n : Nat), fpN (n + 1) (k + 1) = (n + 1) * fpN n k
  | 0, n => by simp [fpN]
  | k + 1, n => by
    rw [fpN, fpN_succ k n, fpN, Nat.mul_assoc]
    congr 2
    omega
theorem fpN_split : ∀ (n k : Nat), k ≤ n → fpN (n + 1) (k + 1) = fpN n (k + 1) + (k + 1) * fpN n k
  | n, k, h => by
    rw [fpN_succ, fpN]
    have : n + 1 = (n - k) + (k + 1) := by omega
    rw [Nat.mul_comm (fpN n k), ← Nat.add_mul, ← this]
theorem fpN_self_succ (k : Nat) : fpN (k + 1) (k + 1) = (k + 1) * fpN k k := fpN_succ k k
theorem fpN_gt {n : Nat} : fpN n (n + 1) = 0 := by rw [fpN, Nat.sub_self, Nat.mul_zero]
theorem Ch_fp : ∀ (n k : Nat), k ≤ n → Ch n k * fpN k k = fpN n k
  | n, 0, _ => by rw [Ch_zero]; rfl
  | n + 1, k + 1, h => by
    rw [Ch, fpN_split n k (by omega), Nat.add_mul]
    have i1 := Ch_fp n k (by omega)
    have e1 : Ch n k * fpN (k + 1) (k + 1) = (k + 1) * fpN n k := by rw [fpN_self_succ, Nat.mul_left_comm, i1]
    have e2 : Ch n (k + 1) * fpN (k + 1) (k + 1) = fpN n (k + 1) := by
      by_cases hk : k + 1 ≤ n
      · exact Ch_fp n (k + 1) hk
      · have : k = n := by omega
        subst this
        rw [fpN_gt, Ch_gt (by omega), Nat.zero_mul]
    rw [e1, e2]
    exact Nat.add_comm _ _
theorem fpN_pos : ∀ {n k : Nat}, k ≤ n → 0 < fpN n k
  | n, 0, _ => Nat.one_pos
  | n, k + 1, h => by rw [fpN]; exact Nat.mul_pos (fpN_pos (by omega)) (by omega)
theorem Ch_symm : ∀ (n k : Nat), k ≤ n → Ch n k = Ch n (n - k)
  | 0, 0, _ => rfl
  | n + 1, 0, _ => by
    have : ∀ m, Ch m m = 1 := fun m => by
      induction m with
      | zero => rfl
      | succ m ih => rw [Ch, ih, Ch_gt (by omega)]
    rw [Ch_zero, Nat.sub_zero, this]
  | n + 1, k + 1, h => by
    by_cases hk : k = n
    · subst hk
      rw [Nat.sub_self, Ch_zero]
      have : ∀ m, Ch m m = 1 := fun m => by
        induction m with
        | zero => rfl
        | succ m ih => rw [Ch, ih, Ch_gt (by omega)]
      exact this _
    · have e : n + 1 - (k + 1) = (n - k - 1) + 1 := by omega
      rw [e, Ch, Ch, Ch_symm n k (by omega), Ch_symm n (k + 1) (by omega), show n - (k + 1) = n - k - 1 by omega, show n - k = n - k - 1 + 1 by omega]
      exact Nat.add_comm _ _
theorem fp_nat (n : Nat) : ∀ k : Nat, k ≤ n → Builtin.Math.fallingProduct (n : Int) k = ((fpN n k : Nat) : Int)
  | 0, _ => PySem.W.mc_fp_zero _
  | k + 1, h => by
    rw [PySem.W.mc_fp_succ, fp_nat n k (by omega), fpN, Int.natCast_mul, Int.natCast_sub (by omega)]
theorem comb_Ch {n k : Nat} (h : k ≤ n) : PySem.W.mcComb (n : Int) (k : Int) = ((Ch n k : Nat) : Int) := by
  have key : ∀ m : Nat, m ≤ n → min (k : Int) ((n : Int) - k) = (m : Int) → Ch n m = Ch n k → PySem.W.mcComb (n : Int) (k : Int) = ((Ch n k : Nat) : Int) := fun m hm e e2 => by
    rw [PySem.W.mcComb_at (by omega) (by omega) e, Int.toNat_natCast, fp_nat n m hm, fp_nat m m (Nat.le_refl _), ← Ch_fp n m hm, ← Int.natCast_ediv, Nat.mul_div_cancel _ (fpN_pos (Nat.le_refl _)), e2]
  by_cases hk : 2 * k ≤ n
  · exact key k h (by omega) rfl
  · exact key (n - k) (by omega) (by omega) (Ch_symm n k h).symm
theorem gComb_nat {n k : Nat} (h : k ≤ n) (hn : n ≤ 9000) : gComb [.int (n : Int), .int (k : Int)] = some (.int ((Ch n k : Nat) : Int)) := by
  unfold gComb
  dsimp only
  rw [decide_eq_true (show (0 : Int) ≤ n ∧ (0 : Int) ≤ k ∧ (n : Int) ≤ 9000 by omega), if_pos rfl, comb_Ch h]
/-! sums over a range -/
def sg : Nat → (Nat → Nat) → Nat
  | 0, _ => 0
  | n + 1, f => sg n f + f n
theorem sg_sum (f : Nat → Nat) : ∀ n, ((List.range n).map f).sum = sg n f
  | 0 => rfl
  | n + 1 => by rw [List.range_succ, List.map_append, List.sum_append, sg_sum f n]; simp [sg]
theorem sg_shift (f : Nat → Nat) : ∀ n, sg (n + 1) f = f 0 + sg n (fun i => f (i + 1))
  | 0 => by simp [sg]
  | n + 1 => by rw [sg, sg_shift f n, sg, Nat.add_assoc]
theorem sg_add (f g : Nat → Nat) : ∀ n, sg n (fun i => f i + g i) = sg n f + sg n g
  | 0 => rfl
  | n + 1 => by simp only [sg, sg_add f g n]; omega
theorem sg_mul (c : Nat) (f : Nat → Nat) : ∀ n, sg n (fun i => c * f i) = c * sg n f
  | 0 => rfl
  | n + 1 => by simp only [sg, sg_mul c f n, Nat.mul_add]
theorem sg_congr {f g : Nat → Nat} : ∀ {n : Nat}, (∀ i, i < n → f i = g i) → sg n f = sg n g
  | 0, _ => rfl
  | n + 1, h => by simp only [sg]; rw [sg_congr fun i hi => h i (by omega), h n (by omega)]
theorem sg_zero : ∀ n, sg n (fun _ => 0) = 0
  | 0 => rfl
  | n + 1 => by simp only [sg, sg_zero n]
/-! rounds won -/
def Bn (up lo n k : Nat) : Nat := Ch n k * up ^ k * lo ^ (n - k)
theorem Bn_0 (up lo n : Nat) : Bn up lo (n + 1) 0 = lo * Bn up lo n 0 := by
  unfold Bn
  rw [Ch_zero, Ch_zero, Nat.sub_zero, Nat.sub_zero, Nat.pow_succ]
  ac_rfl
theorem Bn_gt {up lo n k : Nat} (h : n < k) : Bn up lo n k = 0 := by unfold Bn; rw [Ch_gt h]; simp
theorem Bn_s (up lo n k : Nat) : Bn up lo (n + 1) (k + 1) = lo * Bn up lo n (k + 1) + up * Bn up lo n k := by
  unfold Bn
  rw [Ch, Nat.add_mul, Nat.add_mul, Nat.add_comm]
  congr 1
  · by_cases h : k + 1 ≤ n
    · rw [show n + 1 - (k + 1) = (n - (k + 1)) + 1 by omega, Nat.pow_succ lo]
      ac_rfl
    · rw [Ch_gt (by omega)]; simp
  · rw [show n + 1 - (k + 1) = n - k by omega, Nat.pow_succ]
    ac_rfl
/-- by all numbers of wins -/
def Gw (up lo n : Nat) (φ : Nat → Nat) : Nat := sg (n + 1) fun k => Bn up lo n k * φ k
theorem Gw_0 (up lo : Nat) (φ : Nat → Nat) : Gw up lo 0 φ = φ 0 := by simp [Gw, sg, Bn, Ch]
theorem Gw_s (up lo n : Nat) (φ : Nat → Nat) : Gw up lo (n + 1) φ = up * Gw up lo n (fun k => φ (k + 1)) + lo * Gw up lo n φ := by
  unfold Gw
  rw [sg_shift, Bn_0]
  have h1 : sg (n + 1) (fun k => Bn up lo (n + 1) (k + 1) * φ (k + 1)) = lo * sg (n + 1) (fun k => Bn up lo n (k + 1) * φ (k + 1)) + up * sg (n + 1) (fun k => Bn up lo n k * φ (k + 1)) := by
    rw [← sg_mul, ← sg_mul, ← sg_add]
    exact sg_congr fun i _ => by rw [Bn_s, Nat.add_mul, Nat.mul_assoc, Nat.mul_assoc]
  have h2 : sg (n + 1 + 1) (fun k => Bn up lo n k * φ k) = sg (n + 1) (fun k => Bn up lo n k * φ k) := by
    rw [sg, Bn_gt (by omega), Nat.zero_mul, Nat.add_zero]
  rw [h1, ← h2, sg_shift _ (n + 1), Nat.mul_add, Nat.mul_assoc, ← Nat.add_assoc, Nat.add_comm]
/-- rows of wins: a weight, a number of wins -/
def rws (up lo : Nat) : Nat → List (Nat × Nat)
  | 0 => [(1, 0)]
  | n + 1 => (rws up lo n).map (fun p => (p.1 * up, p.2 + 1)) ++ (rws up lo n).map (fun p => (p.1 * lo, p.2))
theorem rws_sum (up lo : Nat) : ∀ (n : Nat) (φ : Nat → Nat), ((rws up lo n).map fun p => p.1 * φ p.2).sum = Gw up lo n φ
  | 0, φ => by rw [Gw_0]; simp [rws]
  | n + 1, φ => by
    rw [Gw_s, ← rws_sum up lo n, ← rws_sum up lo n, rws, List.map_append, List.sum_append, List.map_map, List.map_map]
    have lin : ∀ (c : Nat) (f : Nat × Nat → Nat) (l : List (Nat × Nat)), (l.map fun p => c * f p).sum = c * (l.map f).sum := fun c f l => by
      induction l with
      | nil => rfl
      | cons a l ih => simp only [List.map_cons, List.sum_cons, ih, Nat.mul_add]
    rw [← lin, ← lin]
    congr 2
    · exact List.map_congr_left fun p _ => by simp only [Function.comp]; ac_rfl
    · exact List.map_congr_left fun p _ => by simp only [Function.comp]; ac_rfl
theorem rws_len (up lo : Nat) : ∀ n, (rws up lo n).length = 2 ^ n
  | 0 => rfl
  | n + 1 => by rw [rws, List.length_append, List.length_map, List.length_map, rws_len up lo n, Nat.pow_succ]; omega
/-- so many wins at least -/
def ge01 (w k : Nat) : Nat := if w ≤ k then 1 else 0
def tl (up lo n w : Nat) : Nat := Gw up lo n (ge01 w)
theorem filt_sum (w : Nat) : ∀ l : List (Nat × Nat), ((l.filter fun p => decide (w ≤ p.2)).map (·.1)).sum = (l.map fun p => p.1 * ge01 w p.2).sum
  | [] => rfl
  | p :: l => by
    rw [List.filter_cons, List.map_cons, List.sum_cons, ← filt_sum w l]
    by_cases h : w ≤ p.2
    · rw [if_pos (decide_eq_true h), List.map_cons, List.sum_cons, ge01, if_pos h, Nat.mul_one]
    · rw [if_neg (by simpa using h), ge01, if_neg h, Nat.mul_zero, Nat.zero_add]
theorem rws_tl (up lo n w : Nat) : (((rws up lo n).filter fun p => decide (w ≤ p.2)).map (·.1)).sum = tl up lo n w := by rw [filt_sum, rws_sum]; rfl
theorem tl_le (up lo n w : Nat) : tl up lo n w ≤ (up + lo) ^ n := by
  have key : ∀ n (φ : Nat → Nat), (∀ k, φ k ≤ 1) → Gw up lo n φ ≤ (up + lo) ^ n := by
    intro n
    induction n with
    | zero => intro φ h; rw [Gw_0]; exact h 0
    | succ n ih =>
      intro φ h
      rw [Gw_s, Nat.pow_succ, Nat.mul_comm _ (up + lo), Nat.add_mul]
      exact Nat.add_le_add (Nat.mul_le_mul_left _ (ih _ fun k => h _)) (Nat.mul_le_mul_left _ (ih _ h))
  exact key n _ fun k => by unfold ge01; split <;> omega
theorem tl_0 (up lo n : Nat) : tl up lo n 0 = (up + lo) ^ n := by
  have key : ∀ n, Gw up lo n (fun _ => 1) = (up + lo) ^ n := by
    intro n
    induction n with
    | zero => rw [Gw_0]; rfl
    | succ n ih => rw [Gw_s, ih, Nat.pow_succ, ← Nat.add_mul, Nat.mul_comm]
  rw [← key n]
  have e : ge01 0 = fun _ => 1 := funext fun k => if_pos (Nat.zero_le k)
  rw [tl, e]
/-- from w wins on -/
theorem tl_from (up lo n w : Nat) : sg (n + 1 - w) (fun i => Bn up lo n (w + i)) = tl up lo n w := by
  unfold tl Gw
  have key : ∀ m, sg m (fun k => Bn up lo n k * ge01 w k) = sg (m - w) (fun i => Bn up lo n (w + i)) := by
    intro m
    induction m with
    | zero => simp [sg]
    | succ m ih =>
      rw [sg, ih]
      by_cases h : w ≤ m
      · rw [show m + 1 - w = (m - w) + 1 by omega, sg, ge01, if_pos h, Nat.mul_one, show w + (m - w) = m by omega]
      · rw [ge01, if_neg h, Nat.mul_zero, Nat.add_zero, show m + 1 - w = 0 by omega, show m - w = 0 by omega]
  exact (key (n + 1)).symm
theorem drop_sum (f : Nat → Nat) (m w : Nat) : (((List.range m).map f).drop w).sum = sg (m - w) (fun i => f (w + i)) := by
  rw [← sg_sum, ← List.map_drop]
  congr 1
  rw [List.range_eq_range', List.drop_range', List.range'_eq_map_range, List.map_map]
  simp [Function.comp_def]
end Dv

/-! Dx: lists by place. -/
namespace Dv
open PySem
theorem gAdd1 (n : Nat) : gAdd (.int (n : Int)) (.int 1) = some (.int ((n + 1 : Nat) : Int)) := nr rfl
theorem neg1 : gNeg (.int 1) = some (.int (-1)) := nr rfl
/-- f 0, .. of m places -/
def rl (m : Nat) (f : Nat → Nat) : List PyData := (List.range m).map fun i => .int ((f i : Nat) : Int)
theorem rl_len (m : Nat) (f : Nat → Nat) : (rl m f).length = m := by simp [rl]
theorem rl_congr {m : Nat} {f g : Nat → Nat} (h : ∀ i, i < m → f i = g i) : rl m f = rl m g := by
  unfold rl
  exact List.map_congr_left fun i hi => by rw [h i (List.mem_range.mp hi)]
theorem rl_get {m k : Nat} {f : Nat → Nat} (h : k < m) : (rl m f)[k]? = some (.int ((f k : Nat) : Int)) := by
  simp [rl, h]
theorem ixN_nat {n k : Nat} (h : k < n) : L2.ixN n (k : Int) = some k := by
  unfold L2.ixN
  rw [if_pos (by omega), if_pos (by omega), Int.toNat_natCast]
theorem atI_nat {α : Type} {xs : List α} {k : Nat} {d : α} (h : xs[k]? = some d) : L2.atI xs (k : Int) = some d := by
  have hk : k < xs.length := (List.getElem?_eq_some_iff.mp h).1
  unfold L2.atI
  rw [ixN_nat hk, Option.bind_some, h]
theorem ixl_nat {xs : List PyData} {k : Nat} {d : PyData} (h : xs[k]? = some d) : gIx (.list xs) (.int (k : Int)) = some d := atI_nat h
theorem ixt_nat {xs : List PyData} {k : Nat} {d : PyData} (h : xs[k]? = some d) : gIx (.tuple xs) (.int (k : Int)) = some d := atI_nat h
theorem ixl_last {xs : List PyData} {d : PyData} : gIx (.list (xs ++ [d])) (.int (-1)) = some d := by
  show L2.atI (xs ++ [d]) (-1) = _
  unfold L2.atI L2.ixN
  rw [if_neg (by omega), if_pos (by rw [List.length_append, List.length_singleton]; omega)]
  rw [Option.bind_some, List.length_append, List.length_singleton, show ((-1 : Int) + ((xs.length + 1 : Nat) : Int)).toNat = xs.length by omega]
  simp
theorem set_nat {xs : List PyData} {k : Nat} (h : k < xs.length) (d : PyData) : setO xs (.int (k : Int)) d = some (xs.set k d) := by
  unfold setO
  dsimp only
  rw [ixN_nat h]
theorem ix_rl {m k : Nat} {f : Nat → Nat} (h : k < m) : gIx (.list (rl m f)) (.int (k : Int)) = some (.int ((f k : Nat) : Int)) := ixl_nat (rl_get h)
theorem set_rl {m k : Nat} {f : Nat → Nat} (h : k < m) (v : Nat) : setO (rl m f) (.int (k : Int)) (.int (v : Int)) = some (rl m fun i => if i = k then v else f i) := by
  rw [set_nat (by rw [rl_len]; exact h)]
  congr 1
  apply List.ext_getElem?
  intro i
  by_cases hi : i < m
  · rw [rl_get hi]
    by_cases e : k = i
    · subst e
      rw [List.getElem?_set_self (by rw [rl_len]; exact h), if_pos rfl]
    · rw [List.getElem?_set_ne e, rl_get hi, if_neg fun z => e z.symm]
  · rw [List.getElem?_eq_none (by rw [List.length_set, rl_len]; omega), List.getElem?_eq_none (by rw [rl_len]; omega)]
theorem rl_succ (m : Nat) (f : Nat → Nat) : rl (m + 1) f = rl m f ++ [.int ((f m : Nat) : Int)] := by
  unfold rl
  rw [List.range_succ, List.map_append]; rfl
theorem last_rl {m : Nat} {f : Nat → Nat} : gIx (.list (rl (m + 1) f)) (.int (-1)) = some (.int ((f m : Nat) : Int)) := by
  rw [rl_succ]; exact ixl_last
theorem app_rl {m : Nat} {f : Nat → Nat} (hm : m < 100000) {v : Nat} (h : v = f m) : appO (rl m f) (.int (v : Int)) = some (rl (m + 1) f) := by
  rw [appO_ok (by rw [rl_len]; exact hm), rl_succ, h]
theorem rep_rl {m : Nat} (hm : m ≤ 100000) : gRepL (.list [.int 0]) (.int (m : Int)) = some (rl m fun _ => 0) := by
  show (if (0 : Int) ≤ m ∧ (m : Int) ≤ 100000 ∧ ([PyData.int 0] : List PyData).length * (m : Int).toNat ≤ sizeLine then some (List.replicate (m : Int).toNat [PyData.int 0]).flatten else none) = _
  rw [if_pos ⟨by omega, by omega, by simp; exact k5 (by omega)⟩]
  congr 1
  rw [Int.toNat_natCast]
  clear hm
  induction m with
  | zero => rfl
  | succ n ih => rw [List.replicate_succ', List.flatten_append, ih, rl_succ]; rfl
theorem len_rl (m : Nat) (f : Nat → Nat) : gLen [.list (rl m f)] = some (.int (m : Int)) := by rw [nLenL, rl_len]
theorem ints_rl (m : Nat) (f : Nat → Nat) : intsOf (rl m f) = some ((List.range m).map fun i => ((f i : Nat) : Int)) := by
  unfold rl
  generalize List.range m = l
  induction l with
  | nil => rfl
  | cons a l ih => simp [intsOf, ih]
theorem sumc (l : List Nat) (f : Nat → Nat) : (l.map fun i => ((f i : Nat) : Int)).sum = (((l.map f).sum : Nat) : Int) := by
  induction l with
  | nil => rfl
  | cons a l ih => simp [ih]
theorem sum_rl (m : Nat) (f : Nat → Nat) : gSumA [.list (rl m f)] = some (.int ((sg m f : Nat) : Int)) := by
  show (match intsOf (rl m f) with | some ns => some (PyData.int ns.sum) | none => none) = _
  rw [ints_rl]
  dsimp only
  rw [sumc, sg_sum]
theorem cutfrom {α : Type} (xs : List α) (w : Nat) : cutA xs (some (w : Int)) none = xs.drop w := by
  unfold cutA
  have h1 : HT.sIx xs.length 0 (some (w : Int)) = min w xs.length := by
    simp only [HT.sIx]
    repeat (first | split | omega)
  have h2 : HT.sIx xs.length xs.length none = xs.length := rfl
  rw [h1, h2]
  by_cases h : w ≤ xs.length
  · rw [Nat.min_eq_left h]
    exact List.take_of_length_le (by rw [List.length_drop]; omega)
  · rw [Nat.min_eq_right (by omega), List.drop_of_length_le (by omega), List.drop_of_length_le (by omega)]; simp
theorem drop_rl (m w : Nat) (f : Nat → Nat) : (rl m f).drop w = rl (m - w) fun i => f (w + i) := by
  unfold rl
  rw [← List.map_drop, List.range_eq_range', List.drop_range', List.range'_eq_map_range, List.map_map]
  simp [Function.comp_def, List.range_eq_range']
theorem cut_rl (m w : Nat) (f : Nat → Nat) : gSl (.list (rl m f)) (some (w : Int)) none = some (.list (rl (m - w) fun i => f (w + i))) := by
  show some (PyData.list (cutA (rl m f) (some (w : Int)) none)) = _
  rw [cutfrom, drop_rl]
theorem loopM_from {σ : Type} {f : σ → PyData → Option σ} (g : Nat → σ) : ∀ (m j : Nat), (∀ i, j ≤ i → i < j + m → f (g i) (.int (i : Int)) = some (g (i + 1))) → loopM f ((List.range' j m).map fun (i : Nat) => .int (i : Int)) (g j) = some (g (j + m))
  | 0, j, _ => rfl
  | m + 1, j, h => by
    rw [List.range'_succ, List.map_cons, loopM, h j (Nat.le_refl _) (by omega), Option.bind_some, loopM_from g m (j + 1) fun i h1 h2 => h i (by omega) (by omega), show j + 1 + m = j + (m + 1) by omega]
/-- the state behind i turns is g i -/
theorem loopM_nat {σ : Type} {f : σ → PyData → Option σ} (g : Nat → σ) {n : Nat} {s : σ} (hs : s = g 0) (h : ∀ i, i < n → f (g i) (.int (i : Int)) = some (g (i + 1))) : loopM f ((List.range n).map fun (i : Nat) => .int (i : Int)) s = some (g n) := by
  subst hs
  have := loopM_from (f := f) g n 0 fun i _ h2 => h i (by omega)
  rw [List.range_eq_range', this, Nat.zero_add]
theorem rng2_nat {a b : Nat} (ha : a ≤ 100000) (hb : b ≤ 100000) : rng2O (.int (a : Int)) (.int (b : Int)) = some ((List.range (b - a)).map fun (i : Nat) => .int (((a + i : Nat) : Int))) := by
  unfold rng2O
  dsimp only
  rw [okR_nat ha, okR_nat hb]
  simp only [Bool.and_self, if_true, rangeD]
  rw [show ((b : Int) - (a : Int)).toNat = b - a by omega]
  rfl
end Dv

section
set_option maxHeartbeats 4000000
namespace Lk65
open PySem PySem.Spec PyProof.Rows L2 Dv
def topS (i : Nat) : Stmt := PySem.Challenge.pw_belltables_k65_tails_by_rows_of_wins.main.body.getD i (.Pass ⟨0, 0, 0, 0⟩)
/-- what is built in is as it was -/
structure Bts (K : PySem.W.Frag) (mg : Str → Option Value) : Prop where
  abs : mg "abs" = none
  bool : mg "bool" = none
  divmod : mg "divmod" = none
  int : mg "int" = none
  isinstance : mg "isinstance" = none
  len : mg "len" = none
  max : mg "max" = none
  min : mg "min" = none
  range : mg "range" = none
  repr : mg "repr" = none
  sum : mg "sum" = none
  tuple : mg "tuple" = none
  comb : mg "comb" = some (.builtin "math.comb")
  gcd : mg "gcd" = some (.builtin "math.gcd")
  MOST_COUNT : ∃ t, mg "MOST_COUNT" = some (.int 100 t)
  ONE : ∃ a, mg "ONE" = some (.ref a) ∧ ∀ H, Rp K H (.ref a) (.tuple [.int 1, .int 1])
section
variable {P : Program} {w : World} {K : PySem.W.Frag} {mg : Str → Option Value} {base : Heap}
/-! ### is_whole -/
abbrev s_is_whole : Stmt := topS 7
theorem sc_is_whole : FnScope ["value"] ["value"] (defScope s_is_whole) := ⟨rfl, rfl, rfl, by decide +kernel, rfl, by decide +kernel, by decide +kernel⟩
noncomputable def bd_is_whole : S1 := (sRet (fAndV (fIsi "int" (fVar 0)) (fNotV (fIsi "bool" (fVar 0)))))
noncomputable def fn_is_whole : Fn := fnOf 1 bd_is_whole
def kb_is_whole (fd : FuncData) : Prop := True
theorem has_is_whole (bt : Bts K mg) {f : Addr} {fd : FuncData} (F : L2.Fun K "is_whole" "is_whole" s_is_whole f fd) (gf : mg "is_whole" = some (.ref f))  :
    Has P w K mg base 1 "is_whole" ["value"] 1 fn_is_whole kb_is_whole := by
  have kb : kb_is_whole fd := trivial
  have sc := sc_is_whole
  refine ⟨f, fd, FnG.byBody F sc rfl rfl (by decide) ?_, gf, F.kp, F.binds (ps := ["value"]) fun _ _ _ _ _ _ us hl => match us, hl with | [_], _ => rfl, kb⟩
  intro cdv A out s H c hr
  have cl : Cl0 (A.deeper (envOfC "is_whole" (defScope s_is_whole) s.heap.objs.size f cdv)) := c
  exact ⟨_, (ss_one (s_ret (e_and (e_isi "int" (by rfl) bt.isinstance (by rfl) bt.int boot_int (e_var 0)) (e_one (e_not (e_isi "bool" (by rfl) bt.isinstance (by rfl) bt.bool boot_bool (e_var 0)))))))⟩
/-! ### lowest -/
abbrev s_lowest : Stmt := topS 11
theorem sc_lowest : FnScope ["top", "bottom", "common"] ["top", "bottom"] (defScope s_lowest) := ⟨rfl, rfl, rfl, by decide +kernel, rfl, by decide +kernel, by decide +kernel⟩
noncomputable def bd_lowest : S1 := (sSeq (sAsg (fCB gGcd (fCons (fVar 0) (fCons (fVar 1) fNil))) (hName 2))
    (sRet (fTup (fCons (f2 gDiv (fVar 0) (fVar 2)) (fCons (f2 gDiv (fVar 1) (fVar 2)) fNil)))))
noncomputable def fn_lowest : Fn := fnOf 3 bd_lowest
def kb_lowest (fd : FuncData) : Prop := True
theorem has_lowest (bt : Bts K mg) {f : Addr} {fd : FuncData} (F : L2.Fun K "lowest" "lowest" s_lowest f fd) (gf : mg "lowest" = some (.ref f))  :
    Has P w K mg base 1 "lowest" ["top", "bottom"] 2 fn_lowest kb_lowest := by
  have kb : kb_lowest fd := trivial
  have sc := sc_lowest
  refine ⟨f, fd, FnG.byBody F sc rfl rfl (by decide) ?_, gf, F.kp, F.binds (ps := ["top", "bottom"]) fun _ _ _ _ _ _ us hl => match us, hl with | [_, _], _ => rfl, kb⟩
  intro cdv A out s H c hr
  have cl : Cl0 (A.deeper (envOfC "lowest" (defScope s_lowest) s.heap.objs.size f cdv)) := c
  exact ⟨_, (ss_cons (s_set 2 (show List.Nodup _ from sc.nd) (e_cbf s_gcd cr_gcd (by rfl) bt.gcd (a_cons (e_var 0) (a_cons (e_var 1) a_nil))))
      (ss_one (s_ret (e_tup (a_cons (e_op s_div op_fdivW (e_var 0) (e_var 2)) (a_cons (e_op s_div op_fdivW (e_var 1) (e_var 2)) a_nil))))))⟩
/-! ### powers_of -/
abbrev s_powers_of : Stmt := topS 19
theorem sc_powers_of : FnScope ["number", "most", "found", "_"] ["number", "most"] (defScope s_powers_of) := ⟨rfl, rfl, rfl, by decide +kernel, rfl, by decide +kernel, by decide +kernel⟩
noncomputable def bd_powers_of : S1 := (sSeq (sOwn (fLst (fCons (fC (.int 1)) fNil)) 2)
    (sSeq (sFor (fRng1 (fCons (fVar 1) fNil)) (hName 3) (sApp 2 (f2 gMulA (fOL gIx 2 (f1 gNeg (fC (.int 1)))) (fVar 0))))
    (sRet (fVar 2))))
noncomputable def fn_powers_of : Fn := fnOf 4 bd_powers_of
def kb_powers_of (fd : FuncData) : Prop := True
theorem has_powers_of (bt : Bts K mg) {f : Addr} {fd : FuncData} (F : L2.Fun K "powers_of" "powers_of" s_powers_of f fd) (gf : mg "powers_of" = some (.ref f))  :
    Has P w K mg base 1 "powers_of" ["number", "most"] 2 fn_powers_of kb_powers_of := by
  have kb : kb_powers_of fd := trivial
  have sc := sc_powers_of
  refine ⟨f, fd, FnG.byBody F sc rfl rfl (by decide) ?_, gf, F.kp, F.binds (ps := ["number", "most"]) fun _ _ _ _ _ _ us hl => match us, hl with | [_, _], _ => rfl, kb⟩
  intro cdv A out s H c hr
  have cl : Cl0 (A.deeper (envOfC "powers_of" (defScope s_powers_of) s.heap.objs.size f cdv)) := c
  exact ⟨_, (ss_cons (s_own 2 (show List.Nodup _ from sc.nd) (F_lst (a_cons e_int a_nil)))
      (ss_cons (s_for PassesOwn.never rfl (i_rng1 (by rfl) bt.range (a_cons (e_var 1) a_nil)) (g_name 3 (show List.Nodup _ from sc.nd)) (ss_one (s_app (pv 2) (e_op s_mulA o_mulA (e_ixL (pv 2) (e_neg e_int) (fun _ _ => rfl)) (e_var 0)))))
      (ss_one (s_ret (e_var 2)))))⟩
/-! ### _law_well -/
abbrev s__law_well : Stmt := topS 24
theorem sc__law_well : FnScope ["script", "lap", "stirred", "cell", "own"] ["script", "lap"] (defScope s__law_well) := ⟨rfl, rfl, rfl, by decide +kernel, rfl, by decide +kernel, by decide +kernel⟩
noncomputable def bd__law_well : S1 := (sSeq (sAsg (f2 gAdd (fC (.int 112356)) (f2 gMul (fC (.int 7013)) (fVar 1))) (hName 2))
    (sSeq (sFor (fItems (fSl (fVar 0) fNo (fPart (fC (.int 12))))) (hName 3) (sAsg (f2 gMod (fCB gInt (fCons (f2 gAdd (f2 gAdd (f2 gMul (fVar 2) (fC (.int 45281))) (f2 gMod (fCB gInt (fCons (fVar 3) fNil)) (fC (.int 2147483549)))) (fC (.int 19))) fNil)) (fC (.int 2147483563))) (hName 2)))
    (sSeq (sAsg (fIf (fT (f2 gLt (fVar 1) (fCB gLen (fCons (fVar 0) fNil)))) (fCB gInt (fCons (f2 gIx (fVar 0) (fVar 1)) fNil)) (fC (.int 0))) (hName 4))
    (sSeq (sAsg (f2 gMod (fCB gInt (fCons (f2 gAdd (f2 gAdd (f2 gMul (fVar 2) (fC (.int 41))) (f2 gMul (f2 gMod (fCB gInt (fCons (fVar 4) fNil)) (fC (.int 2147483549))) (fC (.int 15031)))) (fC (.int 5))) fNil)) (fC (.int 2147483563))) (hName 2))
    (sRetF (fLst (fCons (fIf (fOrT (fT (f2 gLt (fVar 4) (fC (.int 0)))) (fT (f2 gGe (fVar 4) (f2 gPow (fC (.int 10)) (fC (.int 15)))))) (fCB gAbs (fCons (fVar 4) fNil)) (fC (.int 0))) (fCons (fVar 2) (fCons (fC (.int 0)) fNil)))))))))
noncomputable def fn__law_well : Fn := fnOf 5 bd__law_well
def kb__law_well (fd : FuncData) : Prop := True
theorem has__law_well (bt : Bts K mg) {f : Addr} {fd : FuncData} (F : L2.Fun K "_law_well" "_law_well" s__law_well f fd) (gf : mg "_law_well" = some (.ref f))  :
    Has P w K mg base 1 "_law_well" ["script", "lap"] 2 fn__law_well kb__law_well := by
  have kb : kb__law_well fd := trivial
  have sc := sc__law_well
  refine ⟨f, fd, FnG.byBody F sc rfl rfl (by decide) ?_, gf, F.kp, F.binds (ps := ["script", "lap"]) fun _ _ _ _ _ _ us hl => match us, hl with | [_, _], _ => rfl, kb⟩
  intro cdv A out s H c hr
  have cl : Cl0 (A.deeper (envOfC "_law_well" (defScope s__law_well) s.heap.objs.size f cdv)) := c
  exact ⟨_, (ss_cons (s_set 2 (show List.Nodup _ from sc.nd) (e_op s_add o_add e_int (e_op s_mul o_mul e_int (e_var 1))))
      (ss_cons (s_for PassesOwn.never rfl (i_seq (e_sl (e_var 0) o_no (o_part e_int))) (g_name 3 (show List.Nodup _ from sc.nd)) (ss_one (s_set 2 (show List.Nodup _ from sc.nd) (e_op s_mod op_mod (e_ct s_int call_int1 (by rfl) bt.int boot_int (a_cons (e_op s_add o_add (e_op s_add o_add (e_op s_mul o_mul (e_var 2) e_int) (e_op s_mod op_mod (e_ct s_int call_int1 (by rfl) bt.int boot_int (a_cons (e_var 3) a_nil)) e_int)) e_int) a_nil)) e_int))))
      (ss_cons (s_set 4 (show List.Nodup _ from sc.nd) (e_if (t_cmp s_lt (o_lt hr.units0) (e_var 1) (e_cb s_len c_len (by rfl) bt.len boot_len (a_cons (e_var 0) a_nil)) (nomark _)) (e_ct s_int call_int1 (by rfl) bt.int boot_int (a_cons (e_ix (e_var 0) (e_var 1) (fun _ _ => rfl)) a_nil)) e_int))
      (ss_cons (s_set 2 (show List.Nodup _ from sc.nd) (e_op s_mod op_mod (e_ct s_int call_int1 (by rfl) bt.int boot_int (a_cons (e_op s_add o_add (e_op s_add o_add (e_op s_mul o_mul (e_var 2) e_int) (e_op s_mul o_mul (e_op s_mod op_mod (e_ct s_int call_int1 (by rfl) bt.int boot_int (a_cons (e_var 4) a_nil)) e_int) e_int)) e_int) a_nil)) e_int))
      (ss_one (s_retF (F_lst (a_cons (e_if (t_w (w_or (t_cmp s_lt (o_lt hr.units0) (e_var 4) e_int (nomark _)) (w_or1 (t_cmp s_ge op_ge (e_var 4) (e_op s_pow op_pow e_int e_int) (nomark _))))) (e_cb s_abs call_abs (by rfl) bt.abs boot_abs (a_cons (e_var 4) a_nil)) e_int) (a_cons (e_var 2) (a_cons e_int a_nil))))))))))⟩
/-! ### _law_draw -/
abbrev s__law_draw : Stmt := topS 25
theorem sc__law_draw : FnScope ["well", "limit", "digit", "stir"] ["well", "limit"] (defScope s__law_draw) := ⟨rfl, rfl, rfl, by decide +kernel, rfl, by decide +kernel, by decide +kernel⟩
noncomputable def bd__law_draw : S1 := (sSeq (sIf (fT (f2 gGt (fOL gIx 0 (fC (.int 0))) (fC (.int 0)))) (sSeq (sAsg (fCB gDivmod (fCons (fOL gIx 0 (fC (.int 0))) (fCons (fVar 1) fNil))) (hTup 2 (hCons (hSub 0 (fC (.int 0))) (hCons (hName 2) hNil))))
    (sRet (fVar 2))) sNext)
    (sSeq (sAsg (f2 gAdd (fOL gIx 0 (fC (.int 2))) (fC (.int 1))) (hSub 0 (fC (.int 2))))
    (sSeq (sAsg (f2 gMod (fCB gInt (fCons (f2 gAdd (f2 gAdd (f2 gMul (fOL gIx 0 (fC (.int 1))) (fC (.int 40037))) (f2 gMul (fC (.int 13001)) (fOL gIx 0 (fC (.int 2))))) (fC (.int 7))) fNil)) (fC (.int 2147483563))) (hName 3))
    (sSeq (sAsg (f2 gMod (fCB gInt (fCons (f2 gAdd (f2 gMul (fVar 3) (f2 gAdd (f2 gMod (fCB gInt (fCons (fVar 3) fNil)) (fC (.int 5009))) (fC (.int 20023)))) (fOL gIx 0 (fC (.int 2)))) fNil)) (fC (.int 2147483563))) (hSub 0 (fC (.int 1))))
    (sRet (f2 gMod (fCB gInt (fCons (f2 gDiv (fOL gIx 0 (fC (.int 1))) (fC (.int 1013))) fNil)) (fVar 1)))))))
noncomputable def fn__law_draw : Fn := fnOf 4 bd__law_draw
def kb__law_draw (fd : FuncData) : Prop := True
theorem has__law_draw (bt : Bts K mg) {f : Addr} {fd : FuncData} (F : L2.Fun K "_law_draw" "_law_draw" s__law_draw f fd) (gf : mg "_law_draw" = some (.ref f))  :
    Has P w K mg base 1 "_law_draw" ["well", "limit"] 2 fn__law_draw kb__law_draw := by
  have kb : kb__law_draw fd := trivial
  have sc := sc__law_draw
  refine ⟨f, fd, FnG.byBody F sc rfl rfl (by decide) ?_, gf, F.kp, F.binds (ps := ["well", "limit"]) fun _ _ _ _ _ _ us hl => match us, hl with | [_, _], _ => rfl, kb⟩
  intro cdv A out s H c hr
  have cl : Cl0 (A.deeper (envOfC "_law_draw" (defScope s__law_draw) s.heap.objs.size f cdv)) := c
  exact ⟨_, (ss_cons (s_if (t_cmp s_gt op_gt (e_ixL (pv 0) e_int (fun _ _ => rfl)) e_int (nomark _)) (ss_cons (s_asg (e_cb s_divmod call_divmod (by rfl) bt.divmod boot_divmod (a_cons (e_ixL (pv 0) e_int (fun _ _ => rfl)) (a_cons (e_var 1) a_nil))) (g_tup rfl (gs_cons (g_sub (i := 0) e_int (fun hb => pg_sub (pv 0) hb set_list)) (gs_cons (g_name 2 (show List.Nodup _ from sc.nd)) gs_nil))))
      (ss_one (s_ret (e_var 2)))) ss_nil)
      (ss_cons (s_asg (e_op s_add o_add (e_ixL (pv 0) e_int (fun _ _ => rfl)) e_int) (g_sub (i := 0) e_int (fun hb => pg_sub (pv 0) hb set_list)))
      (ss_cons (s_set 3 (show List.Nodup _ from sc.nd) (e_op s_mod op_mod (e_ct s_int call_int1 (by rfl) bt.int boot_int (a_cons (e_op s_add o_add (e_op s_add o_add (e_op s_mul o_mul (e_ixL (pv 0) e_int (fun _ _ => rfl)) e_int) (e_op s_mul o_mul e_int (e_ixL (pv 0) e_int (fun _ _ => rfl)))) e_int) a_nil)) e_int))
      (ss_cons (s_asg (e_op s_mod op_mod (e_ct s_int call_int1 (by rfl) bt.int boot_int (a_cons (e_op s_add o_add (e_op s_mul o_mul (e_var 3) (e_op s_add o_add (e_op s_mod op_mod (e_ct s_int call_int1 (by rfl) bt.int boot_int (a_cons (e_var 3) a_nil)) e_int) e_int)) (e_ixL (pv 0) e_int (fun _ _ => rfl))) a_nil)) e_int) (g_sub (i := 0) e_int (fun hb => pg_sub (pv 0) hb set_list)))
      (ss_one (s_ret (e_op s_mod op_mod (e_ct s_int call_int1 (by rfl) bt.int boot_int (a_cons (e_op s_div op_fdivW (e_ixL (pv 0) e_int (fun _ _ => rfl)) e_int) a_nil)) (e_var 1))))))))⟩
/-! ### _law_frac -/
abbrev s__law_frac : Stmt := topS 27
theorem sc__law_frac : FnScope ["up", "down", "one", "two"] ["up", "down"] (defScope s__law_frac) := ⟨rfl, rfl, rfl, by decide +kernel, rfl, by decide +kernel, by decide +kernel⟩
noncomputable def bd__law_frac : S1 := (sSeq (sPar 2 3 (fCons (fCB gAbs (fCons (fVar 0) fNil)) (fCons (fVar 1) fNil)))
    (sSeq (sWhile (fT (f2 gGt (fVar 3) (fC (.int 0)))) (sPar 2 3 (fCons (fVar 3) (fCons (f2 gMod (fCB gInt (fCons (fVar 2) fNil)) (fVar 3)) fNil))))
    (sRet (fTup (fCons (f2 gDiv (fVar 0) (fVar 2)) (fCons (f2 gDiv (fVar 1) (fVar 2)) fNil))))))
noncomputable def fn__law_frac : Fn := fnOf 4 bd__law_frac
def kb__law_frac (fd : FuncData) : Prop := True
theorem has__law_frac (bt : Bts K mg) {f : Addr} {fd : FuncData} (F : L2.Fun K "_law_frac" "_law_frac" s__law_frac f fd) (gf : mg "_law_frac" = some (.ref f))  :
    Has P w K mg base 1 "_law_frac" ["up", "down"] 2 fn__law_frac kb__law_frac := by
  have kb : kb__law_frac fd := trivial
  have sc := sc__law_frac
  refine ⟨f, fd, FnG.byBody F sc rfl rfl (by decide) ?_, gf, F.kp, F.binds (ps := ["up", "down"]) fun _ _ _ _ _ _ us hl => match us, hl with | [_, _], _ => rfl, kb⟩
  intro cdv A out s H c hr
  have cl : Cl0 (A.deeper (envOfC "_law_frac" (defScope s__law_frac) s.heap.objs.size f cdv)) := c
  exact ⟨_, (ss_cons (s_par 2 3 rfl (show List.Nodup _ from sc.nd) (a_cons (e_cb s_abs call_abs (by rfl) bt.abs boot_abs (a_cons (e_var 0) a_nil)) (a_cons (e_var 1) a_nil)))
      (ss_cons (s_while PassesOwn.never (t_cmp s_gt op_gt (e_var 3) e_int (nomark _)) (ss_one (s_par 2 3 rfl (show List.Nodup _ from sc.nd) (a_cons (e_var 3) (a_cons (e_op s_mod op_mod (e_ct s_int call_int1 (by rfl) bt.int boot_int (a_cons (e_var 2) a_nil)) (e_var 3)) a_nil)))))
      (ss_one (s_ret (e_tup (a_cons (e_op s_div op_fdivW (e_var 0) (e_var 2)) (a_cons (e_op s_div op_fdivW (e_var 1) (e_var 2)) a_nil)))))))⟩
/-! ### is_fraction -/
abbrev s_is_fraction : Stmt := topS 8
theorem sc_is_fraction : FnScope ["value", "top", "bottom"] ["value"] (defScope s_is_fraction) := ⟨rfl, rfl, rfl, by decide +kernel, rfl, by decide +kernel, by decide +kernel⟩
noncomputable def bd_is_fraction : S1 := (sSeq (sIf (fOrT (fNotT (fT (fIsi "tuple" (fVar 0)))) (fT (f2 gNeA (fCB gLen (fCons (fVar 0) fNil)) (fC (.int 2))))) (sRet (fC (.bool false))) sNext)
    (sSeq (sAsg (fVar 0) (hTup 2 (hCons (hName 1) (hCons (hName 2) hNil))))
    (sRet (fAndV (fCallE fn_is_whole (aCons (fVar 1) aNil)) (fAndV (fCallE fn_is_whole (aCons (fVar 2) aNil)) (fAndV (f2 gGt (fVar 2) (fC (.int 0))) (f2 gEqA (fCB gGcd (fCons (fVar 1) (fCons (fVar 2) fNil))) (fC (.int 1)))))))))
noncomputable def fn_is_fraction : Fn := fnOf 3 bd_is_fraction
def kb_is_fraction (fd : FuncData) : Prop := True
theorem has_is_fraction (bt : Bts K mg) {f : Addr} {fd : FuncData} (F : L2.Fun K "is_fraction" "is_fraction" s_is_fraction f fd) (gf : mg "is_fraction" = some (.ref f)) (h_is_whole : Has P w K mg base 1 "is_whole" ["value"] 1 fn_is_whole kb_is_whole) :
    Has P w K mg base 2 "is_fraction" ["value"] 1 fn_is_fraction kb_is_fraction := by
  obtain ⟨f_is_whole, fd_is_whole, G_is_whole, g_is_whole, kp_is_whole, b_is_whole, kb_is_whole⟩ := h_is_whole.ex
  have kb : kb_is_fraction fd := trivial
  have sc := sc_is_fraction
  refine ⟨f, fd, FnG.byBody F sc rfl rfl (by decide) ?_, gf, F.kp, F.binds (ps := ["value"]) fun _ _ _ _ _ _ us hl => match us, hl with | [_], _ => rfl, kb⟩
  intro cdv A out s H c hr
  have cl : Cl0 (A.deeper (envOfC "is_fraction" (defScope s_is_fraction) s.heap.objs.size f cdv)) := c
  exact ⟨_, (ss_cons (s_if (t_w (w_or (t_not (t_val (e_isi "tuple" (by rfl) bt.isinstance (by rfl) bt.tuple boot_tuple (e_var 0)))) (w_or1 (t_cmp s_neA (o_neA hr.units) (e_cb s_len c_len (by rfl) bt.len boot_len (a_cons (e_var 0) a_nil)) e_int (nomark _))))) (ss_one (s_ret e_bl)) ss_nil)
      (ss_cons (s_asg (e_var 0) (g_tup rfl (gs_cons (g_name 1 (show List.Nodup _ from sc.nd)) (gs_cons (g_name 2 (show List.Nodup _ from sc.nd)) gs_nil))))
      (ss_one (s_ret (e_and (e_call G_is_whole cl (hr.mono (by decide)) (by rfl) g_is_whole kp_is_whole b_is_whole (c_cons (e_var 1) c_nil)) (e_and (e_call G_is_whole cl (hr.mono (by decide)) (by rfl) g_is_whole kp_is_whole b_is_whole (c_cons (e_var 2) c_nil)) (e_and (e_cmp s_gt op_gt (e_var 2) e_int (nomark _)) (e_one (e_cmp s_eqA (o_eqA hr.units) (e_cbf s_gcd cr_gcd (by rfl) bt.gcd (a_cons (e_var 1) (a_cons (e_var 2) a_nil))) e_int (nomark _))))))))))⟩
/-! ### is_index -/
abbrev s_is_index : Stmt := topS 13
theorem sc_is_index : FnScope ["value", "many"] ["value", "many"] (defScope s_is_index) := ⟨rfl, rfl, rfl, by decide +kernel, rfl, by decide +kernel, by decide +kernel⟩
noncomputable def bd_is_index : S1 := (sRet (fAndV (fCallE fn_is_whole (aCons (fVar 0) aNil)) (fChain gLe gLt (fC (.int 0)) (fVar 0) (fVar 1))))
noncomputable def fn_is_index : Fn := fnOf 2 bd_is_index
def kb_is_index (fd : FuncData) : Prop := True
theorem has_is_index (bt : Bts K mg) {f : Addr} {fd : FuncData} (F : L2.Fun K "is_index" "is_index" s_is_index f fd) (gf : mg "is_index" = some (.ref f)) (h_is_whole : Has P w K mg base 1 "is_whole" ["value"] 1 fn_is_whole kb_is_whole) :
    Has P w K mg base 2 "is_index" ["value", "many"] 2 fn_is_index kb_is_index := by
  obtain ⟨f_is_whole, fd_is_whole, G_is_whole, g_is_whole, kp_is_whole, b_is_whole, kb_is_whole⟩ := h_is_whole.ex
  have kb : kb_is_index fd := trivial
  have sc := sc_is_index
  refine ⟨f, fd, FnG.byBody F sc rfl rfl (by decide) ?_, gf, F.kp, F.binds (ps := ["value", "many"]) fun _ _ _ _ _ _ us hl => match us, hl with | [_, _], _ => rfl, kb⟩
  intro cdv A out s H c hr
  have cl : Cl0 (A.deeper (envOfC "is_index" (defScope s_is_index) s.heap.objs.size f cdv)) := c
  exact ⟨_, (ss_one (s_ret (e_and (e_call G_is_whole cl (hr.mono (by decide)) (by rfl) g_is_whole kp_is_whole b_is_whole (c_cons (e_var 0) c_nil)) (e_one (e_chain s_le op_le s_lt (o_lt hr.units0) e_int (e_var 0) (e_var 1))))))⟩
/-! ### tail_of -/
abbrev s_tail_of : Stmt := topS 20
theorem sc_tail_of : FnScope ["number", "wins", "share", "top", "bottom", "won", "lost", "ways", "many"] ["number", "wins", "share"] (defScope s_tail_of) := ⟨rfl, rfl, rfl, by decide +kernel, rfl, by decide +kernel, by decide +kernel⟩
noncomputable def bd_tail_of : S1 := (sSeq (sIf (fT (f2 gLe (fVar 1) (fC (.int 0)))) (sRet (fC (.tuple [.int 1, .int 1]))) sNext)
    (sSeq (sAsg (fVar 2) (hTup 2 (hCons (hName 3) (hCons (hName 4) hNil))))
    (sSeq (sAsg (fCallE fn_powers_of (aCons (fVar 3) (aCons (fVar 0) aNil))) (hName 5))
    (sSeq (sAsg (fCallE fn_powers_of (aCons (f2 gSub (fVar 4) (fVar 3)) (aCons (fVar 0) aNil))) (hName 6))
    (sSeq (sAsg (fF (fLc (fRng2 (fCons (fVar 1) (fCons (f2 gAdd (fVar 0) (fC (.int 1))) fNil))) (hName 8) fYes (f2 gMulA (f2 gMulA (fCB gComb (fCons (fVar 0) (fCons (fVar 8) fNil))) (f2 gIx (fVar 5) (fVar 8))) (f2 gIx (fVar 6) (f2 gSub (fVar 0) (fVar 8)))) [8])) (hName 7))
    (sRet (fCallE fn_lowest (aCons (fCB gSumA (fCons (fVar 7) fNil)) (aCons (f2 gIx (fCallE fn_powers_of (aCons (fVar 4) (aCons (fVar 0) aNil))) (f1 gNeg (fC (.int 1)))) aNil)))))))))
noncomputable def fn_tail_of : Fn := fnOf 9 bd_tail_of
def kb_tail_of (fd : FuncData) : Prop := True
theorem has_tail_of (bt : Bts K mg) {f : Addr} {fd : FuncData} (F : L2.Fun K "tail_of" "tail_of" s_tail_of f fd) (gf : mg "tail_of" = some (.ref f)) (h_lowest : Has P w K mg base 1 "lowest" ["top", "bottom"] 2 fn_lowest kb_lowest) (h_powers_of : Has P w K mg base 1 "powers_of" ["number", "most"] 2 fn_powers_of kb_powers_of) :
    Has P w K mg base 2 "tail_of" ["number", "wins", "share"] 3 fn_tail_of kb_tail_of := by
  obtain ⟨c_ONE, m_ONE, r_ONE⟩ := bt.ONE
  obtain ⟨f_lowest, fd_lowest, G_lowest, g_lowest, kp_lowest, b_lowest, kb_lowest⟩ := h_lowest.ex
  obtain ⟨f_powers_of, fd_powers_of, G_powers_of, g_powers_of, kp_powers_of, b_powers_of, kb_powers_of⟩ := h_powers_of.ex
  have kb : kb_tail_of fd := trivial
  have sc := sc_tail_of
  refine ⟨f, fd, FnG.byBody F sc rfl rfl (by decide) ?_, gf, F.kp, F.binds (ps := ["number", "wins", "share"]) fun _ _ _ _ _ _ us hl => match us, hl with | [_, _, _], _ => rfl, kb⟩
  intro cdv A out s H c hr
  have cl : Cl0 (A.deeper (envOfC "tail_of" (defScope s_tail_of) s.heap.objs.size f cdv)) := c
  exact ⟨_, (ss_cons (s_if (t_cmp s_le op_le (e_var 1) e_int (nomark _)) (ss_one (s_ret (e_gref r_ONE (by rfl) m_ONE))) ss_nil)
      (ss_cons (s_asg (e_var 2) (g_tup rfl (gs_cons (g_name 3 (show List.Nodup _ from sc.nd)) (gs_cons (g_name 4 (show List.Nodup _ from sc.nd)) gs_nil))))
      (ss_cons (s_set 5 (show List.Nodup _ from sc.nd) (e_call G_powers_of cl (hr.mono (by decide)) (by rfl) g_powers_of kp_powers_of b_powers_of (c_cons (e_var 3) (c_cons (e_var 0) c_nil))))
      (ss_cons (s_set 6 (show List.Nodup _ from sc.nd) (e_call G_powers_of cl (hr.mono (by decide)) (by rfl) g_powers_of kp_powers_of b_powers_of (c_cons (e_op s_sub op_sub (e_var 4) (e_var 3)) (c_cons (e_var 0) c_nil))))
      (ss_cons (s_setLc (own := [("many", 8)]) 7 rfl (show List.Nodup _ from sc.nd) (i_rng2 (by rfl) bt.range (a_cons (e_var 1) (a_cons (e_op s_add o_add (e_var 0) e_int) a_nil))) (by first | exact (show blkC ["number", "wins", "share", "top", "bottom", "won", "lost", "ways", "many"] (defScope s_tail_of) _ _ = true from by decide +kernel) | rfl) (fun _ _ _ _ _ => (g_name 8 (show List.Nodup _ from sc.nd))) (gin_name (by decide)) (fun _ _ _ _ _ => ts_nil) (fun _ _ _ _ _ => (e_op s_mulA o_mulA (e_op s_mulA o_mulA (e_cbf s_comb cr_comb (by rfl) bt.comb (a_cons (e_var 0) (a_cons (e_var 8) a_nil))) (e_ix (e_var 5) (e_var 8) (fun _ _ => rfl))) (e_ix (e_var 6) (e_op s_sub op_sub (e_var 0) (e_var 8)) (fun _ _ => rfl)))) (sw_true rfl rfl rfl (by decide +kernel)))
      (ss_one (s_ret (e_call G_lowest cl (hr.mono (by decide)) (by rfl) g_lowest kp_lowest b_lowest (c_cons (e_cb s_sumA (cr_sumA rfl) (by rfl) bt.sum boot_sum (a_cons (e_var 7) a_nil)) (c_cons (e_ix (e_call G_powers_of cl (hr.mono (by decide)) (by rfl) g_powers_of kp_powers_of b_powers_of (c_cons (e_var 4) (c_cons (e_var 0) c_nil))) (e_neg e_int) (fun _ _ => rfl)) c_nil))))))))))⟩
/-! ### _law_of -/
abbrev s__law_of : Stmt := topS 26
theorem sc__law_of : FnScope ["well", "some"] ["well", "some"] (defScope s__law_of) := ⟨rfl, rfl, rfl, by decide +kernel, rfl, by decide +kernel, by decide +kernel⟩
noncomputable def bd__law_of : S1 := (sRet (f2 gIx (fVar 1) (fCallE fn__law_draw (aBy 0 (aCons (fCB gLen (fCons (fVar 1) fNil)) aNil)))))
noncomputable def fn__law_of : Fn := fnOf 2 bd__law_of
def kb__law_of (fd : FuncData) : Prop := True
theorem has__law_of (bt : Bts K mg) {f : Addr} {fd : FuncData} (F : L2.Fun K "_law_of" "_law_of" s__law_of f fd) (gf : mg "_law_of" = some (.ref f)) (h__law_draw : Has P w K mg base 1 "_law_draw" ["well", "limit"] 2 fn__law_draw kb__law_draw) :
    Has P w K mg base 2 "_law_of" ["well", "some"] 2 fn__law_of kb__law_of := by
  obtain ⟨f__law_draw, fd__law_draw, G__law_draw, g__law_draw, kp__law_draw, b__law_draw, kb__law_draw⟩ := h__law_draw.ex
  have kb : kb__law_of fd := trivial
  have sc := sc__law_of
  refine ⟨f, fd, FnG.byBody F sc rfl rfl (by decide) ?_, gf, F.kp, F.binds (ps := ["well", "some"]) fun _ _ _ _ _ _ us hl => match us, hl with | [_, _], _ => rfl, kb⟩
  intro cdv A out s H c hr
  have cl : Cl0 (A.deeper (envOfC "_law_of" (defScope s__law_of) s.heap.objs.size f cdv)) := c
  exact ⟨_, (ss_one (s_ret (e_ix (e_var 1) (e_call G__law_draw cl (hr.mono (by decide)) (by rfl) g__law_draw kp__law_draw b__law_draw (c_by (pv 0) (c_cons (e_cb s_len c_len (by rfl) bt.len boot_len (a_cons (e_var 1) a_nil)) c_nil))) (fun _ _ => rfl))))⟩
/-! ### _law_plus -/
abbrev s__law_plus : Stmt := topS 28
theorem sc__law_plus : FnScope ["x", "y"] ["x", "y"] (defScope s__law_plus) := ⟨rfl, rfl, rfl, by decide +kernel, rfl, by decide +kernel, by decide +kernel⟩
noncomputable def bd__law_plus : S1 := (sRet (fCallE fn__law_frac (aCons (f2 gAdd (f2 gMulA (f2 gIx (fVar 0) (fC (.int 0))) (f2 gIx (fVar 1) (fC (.int 1)))) (f2 gMulA (f2 gIx (fVar 1) (fC (.int 0))) (f2 gIx (fVar 0) (fC (.int 1))))) (aCons (f2 gMulA (f2 gIx (fVar 0) (fC (.int 1))) (f2 gIx (fVar 1) (fC (.int 1)))) aNil))))
noncomputable def fn__law_plus : Fn := fnOf 2 bd__law_plus
def kb__law_plus (fd : FuncData) : Prop := True
theorem has__law_plus (bt : Bts K mg) {f : Addr} {fd : FuncData} (F : L2.Fun K "_law_plus" "_law_plus" s__law_plus f fd) (gf : mg "_law_plus" = some (.ref f)) (h__law_frac : Has P w K mg base 1 "_law_frac" ["up", "down"] 2 fn__law_frac kb__law_frac) :
    Has P w K mg base 2 "_law_plus" ["x", "y"] 2 fn__law_plus kb__law_plus := by
  obtain ⟨f__law_frac, fd__law_frac, G__law_frac, g__law_frac, kp__law_frac, b__law_frac, kb__law_frac⟩ := h__law_frac.ex
  have kb : kb__law_plus fd := trivial
  have sc := sc__law_plus
  refine ⟨f, fd, FnG.byBody F sc rfl rfl (by decide) ?_, gf, F.kp, F.binds (ps := ["x", "y"]) fun _ _ _ _ _ _ us hl => match us, hl with | [_, _], _ => rfl, kb⟩
  intro cdv A out s H c hr
  have cl : Cl0 (A.deeper (envOfC "_law_plus" (defScope s__law_plus) s.heap.objs.size f cdv)) := c
  exact ⟨_, (ss_one (s_ret (e_call G__law_frac cl (hr.mono (by decide)) (by rfl) g__law_frac kp__law_frac b__law_frac (c_cons (e_op s_add o_add (e_op s_mulA o_mulA (e_ix (e_var 0) e_int (fun _ _ => rfl)) (e_ix (e_var 1) e_int (fun _ _ => rfl))) (e_op s_mulA o_mulA (e_ix (e_var 1) e_int (fun _ _ => rfl)) (e_ix (e_var 0) e_int (fun _ _ => rfl)))) (c_cons (e_op s_mulA o_mulA (e_ix (e_var 0) e_int (fun _ _ => rfl)) (e_ix (e_var 1) e_int (fun _ _ => rfl))) c_nil)))))⟩
/-! ### _law_less -/
abbrev s__law_less : Stmt := topS 29
theorem sc__law_less : FnScope ["x", "y"] ["x", "y"] (defScope s__law_less) := ⟨rfl, rfl, rfl, by decide +kernel, rfl, by decide +kernel, by decide +kernel⟩
noncomputable def bd__law_less : S1 := (sRet (fCallE fn__law_frac (aCons (f2 gSub (f2 gMulA (f2 gIx (fVar 0) (fC (.int 0))) (f2 gIx (fVar 1) (fC (.int 1)))) (f2 gMulA (f2 gIx (fVar 1) (fC (.int 0))) (f2 gIx (fVar 0) (fC (.int 1))))) (aCons (f2 gMulA (f2 gIx (fVar 0) (fC (.int 1))) (f2 gIx (fVar 1) (fC (.int 1)))) aNil))))
noncomputable def fn__law_less : Fn := fnOf 2 bd__law_less
def kb__law_less (fd : FuncData) : Prop := True
theorem has__law_less (bt : Bts K mg) {f : Addr} {fd : FuncData} (F : L2.Fun K "_law_less" "_law_less" s__law_less f fd) (gf : mg "_law_less" = some (.ref f)) (h__law_frac : Has P w K mg base 1 "_law_frac" ["up", "down"] 2 fn__law_frac kb__law_frac) :
    Has P w K mg base 2 "_law_less" ["x", "y"] 2 fn__law_less kb__law_less := by
  obtain ⟨f__law_frac, fd__law_frac, G__law_frac, g__law_frac, kp__law_frac, b__law_frac, kb__law_frac⟩ := h__law_frac.ex
  have kb : kb__law_less fd := trivial
  have sc := sc__law_less
  refine ⟨f, fd, FnG.byBody F sc rfl rfl (by decide) ?_, gf, F.kp, F.binds (ps := ["x", "y"]) fun _ _ _ _ _ _ us hl => match us, hl with | [_, _], _ => rfl, kb⟩
  intro cdv A out s H c hr
  have cl : Cl0 (A.deeper (envOfC "_law_less" (defScope s__law_less) s.heap.objs.size f cdv)) := c
  exact ⟨_, (ss_one (s_ret (e_call G__law_frac cl (hr.mono (by decide)) (by rfl) g__law_frac kp__law_frac b__law_frac (c_cons (e_op s_sub op_sub (e_op s_mulA o_mulA (e_ix (e_var 0) e_int (fun _ _ => rfl)) (e_ix (e_var 1) e_int (fun _ _ => rfl))) (e_op s_mulA o_mulA (e_ix (e_var 1) e_int (fun _ _ => rfl)) (e_ix (e_var 0) e_int (fun _ _ => rfl)))) (c_cons (e_op s_mulA o_mulA (e_ix (e_var 0) e_int (fun _ _ => rfl)) (e_ix (e_var 1) e_int (fun _ _ => rfl))) c_nil)))))⟩
/-! ### _law_times -/
abbrev s__law_times : Stmt := topS 30
theorem sc__law_times : FnScope ["x", "y"] ["x", "y"] (defScope s__law_times) := ⟨rfl, rfl, rfl, by decide +kernel, rfl, by decide +kernel, by decide +kernel⟩
noncomputable def bd__law_times : S1 := (sRet (fCallE fn__law_frac (aCons (f2 gMulA (f2 gIx (fVar 0) (fC (.int 0))) (f2 gIx (fVar 1) (fC (.int 0)))) (aCons (f2 gMulA (f2 gIx (fVar 0) (fC (.int 1))) (f2 gIx (fVar 1) (fC (.int 1)))) aNil))))
noncomputable def fn__law_times : Fn := fnOf 2 bd__law_times
def kb__law_times (fd : FuncData) : Prop := True
theorem has__law_times (bt : Bts K mg) {f : Addr} {fd : FuncData} (F : L2.Fun K "_law_times" "_law_times" s__law_times f fd) (gf : mg "_law_times" = some (.ref f)) (h__law_frac : Has P w K mg base 1 "_law_frac" ["up", "down"] 2 fn__law_frac kb__law_frac) :
    Has P w K mg base 2 "_law_times" ["x", "y"] 2 fn__law_times kb__law_times := by
  obtain ⟨f__law_frac, fd__law_frac, G__law_frac, g__law_frac, kp__law_frac, b__law_frac, kb__law_frac⟩ := h__law_frac.ex
  have kb : kb__law_times fd := trivial
  have sc := sc__law_times
  refine ⟨f, fd, FnG.byBody F sc rfl rfl (by decide) ?_, gf, F.kp, F.binds (ps := ["x", "y"]) fun _ _ _ _ _ _ us hl => match us, hl with | [_, _], _ => rfl, kb⟩
  intro cdv A out s H c hr
  have cl : Cl0 (A.deeper (envOfC "_law_times" (defScope s__law_times) s.heap.objs.size f cdv)) := c
  exact ⟨_, (ss_one (s_ret (e_call G__law_frac cl (hr.mono (by decide)) (by rfl) g__law_frac kp__law_frac b__law_frac (c_cons (e_op s_mulA o_mulA (e_ix (e_var 0) e_int (fun _ _ => rfl)) (e_ix (e_var 1) e_int (fun _ _ => rfl))) (c_cons (e_op s_mulA o_mulA (e_ix (e_var 0) e_int (fun _ _ => rfl)) (e_ix (e_var 1) e_int (fun _ _ => rfl))) c_nil)))))⟩
/-! ### _law_tail -/
abbrev s__law_tail : Stmt := topS 32
theorem sc__law_tail : FnScope ["rounds", "wins", "share", "up", "down", "row", "whole", "lap", "grown", "k"] ["rounds", "wins", "share"] (defScope s__law_tail) := ⟨rfl, rfl, rfl, by decide +kernel, rfl, by decide +kernel, by decide +kernel⟩
noncomputable def bd__law_tail : S1 := (sSeq (sAsg (fTup (fCons (f2 gIx (fVar 2) (fC (.int 0))) (fCons (f2 gIx (fVar 2) (fC (.int 1))) (fCons (fF (fLst (fCons (fC (.int 1)) fNil))) (fCons (fC (.int 1)) fNil))))) (hTup 4 (hCons (hName 3) (hCons (hName 4) (hCons (hName 5) (hCons (hName 6) hNil))))))
    (sSeq (sFor (fRng1 (fCons (fVar 0) fNil)) (hName 7) (sSeq (sOwn (f2F gRepL (fF (fLst (fCons (fC (.int 0)) fNil))) (f2 gAdd (fCB gLen (fCons (fVar 5) fNil)) (fC (.int 1)))) 8)
    (sSeq (sFor (fRng1 (fCons (fCB gLen (fCons (fVar 5) fNil)) fNil)) (hName 9) (sSeq (sAsg (f2 gAdd (fOL gIx 8 (fVar 9)) (f2 gMulA (f2 gIx (fVar 5) (fVar 9)) (f2 gSub (fVar 4) (fVar 3)))) (hSub 8 (fVar 9)))
    (sAsg (f2 gAdd (fOL gIx 8 (f2 gAdd (fVar 9) (fC (.int 1)))) (f2 gMulA (f2 gIx (fVar 5) (fVar 9)) (fVar 3))) (hSub 8 (f2 gAdd (fVar 9) (fC (.int 1)))))))
    (sPar 5 6 (fCons (fVar 8) (fCons (f2 gMulA (fVar 6) (fVar 4)) fNil))))))
    (sRet (fCallE fn__law_frac (aCons (fCB gSumA (fCons (fSl (fVar 5) (fPart (fVar 1)) fNo) fNil)) (aCons (fVar 6) aNil))))))
noncomputable def fn__law_tail : Fn := fnOf 10 bd__law_tail
def kb__law_tail (fd : FuncData) : Prop := True
theorem has__law_tail (bt : Bts K mg) {f : Addr} {fd : FuncData} (F : L2.Fun K "_law_tail" "_law_tail" s__law_tail f fd) (gf : mg "_law_tail" = some (.ref f)) (h__law_frac : Has P w K mg base 1 "_law_frac" ["up", "down"] 2 fn__law_frac kb__law_frac) :
    Has P w K mg base 2 "_law_tail" ["rounds", "wins", "share"] 3 fn__law_tail kb__law_tail := by
  obtain ⟨f__law_frac, fd__law_frac, G__law_frac, g__law_frac, kp__law_frac, b__law_frac, kb__law_frac⟩ := h__law_frac.ex
  have kb : kb__law_tail fd := trivial
  have sc := sc__law_tail
  refine ⟨f, fd, FnG.byBody F sc rfl rfl (by decide) ?_, gf, F.kp, F.binds (ps := ["rounds", "wins", "share"]) fun _ _ _ _ _ _ us hl => match us, hl with | [_, _, _], _ => rfl, kb⟩
  intro cdv A out s H c hr
  have cl : Cl0 (A.deeper (envOfC "_law_tail" (defScope s__law_tail) s.heap.objs.size f cdv)) := c
  exact ⟨_, (ss_cons (s_asg (e_tup (a_cons (e_ix (e_var 2) e_int (fun _ _ => rfl)) (a_cons (e_ix (e_var 2) e_int (fun _ _ => rfl)) (a_cons (e_f (F_lst (a_cons e_int a_nil))) (a_cons e_int a_nil))))) (g_tup rfl (gs_cons (g_name 3 (show List.Nodup _ from sc.nd)) (gs_cons (g_name 4 (show List.Nodup _ from sc.nd)) (gs_cons (g_name 5 (show List.Nodup _ from sc.nd)) (gs_cons (g_name 6 (show List.Nodup _ from sc.nd)) gs_nil))))))
      (ss_cons (s_for PassesOwn.never rfl (i_rng1 (by rfl) bt.range (a_cons (e_var 0) a_nil)) (g_name 7 (show List.Nodup _ from sc.nd)) (ss_cons (s_own 8 (show List.Nodup _ from sc.nd) (F_op opF_rep op_rep (e_f (F_lst (a_cons e_int a_nil))) (e_op s_add o_add (e_cb s_len c_len (by rfl) bt.len boot_len (a_cons (e_var 5) a_nil)) e_int)))
      (ss_cons (s_for PassesOwn.never rfl (i_rng1 (by rfl) bt.range (a_cons (e_cb s_len c_len (by rfl) bt.len boot_len (a_cons (e_var 5) a_nil)) a_nil)) (g_name 9 (show List.Nodup _ from sc.nd)) (ss_cons (s_asg (e_op s_add o_add (e_ixL (pv 8) (e_var 9) (fun _ _ => rfl)) (e_op s_mulA o_mulA (e_ix (e_var 5) (e_var 9) (fun _ _ => rfl)) (e_op s_sub op_sub (e_var 4) (e_var 3)))) (g_sub (i := 8) (e_var 9) (fun hb => pg_sub (pv 8) hb set_list)))
      (ss_one (s_asg (e_op s_add o_add (e_ixL (pv 8) (e_op s_add o_add (e_var 9) e_int) (fun _ _ => rfl)) (e_op s_mulA o_mulA (e_ix (e_var 5) (e_var 9) (fun _ _ => rfl)) (e_var 3))) (g_sub (i := 8) (e_op s_add o_add (e_var 9) e_int) (fun hb => pg_sub (pv 8) hb set_list))))))
      (ss_one (s_par 5 6 rfl (show List.Nodup _ from sc.nd) (a_cons (e_var 8) (a_cons (e_op s_mulA o_mulA (e_var 6) (e_var 4)) a_nil)))))))
      (ss_one (s_ret (e_call G__law_frac cl (hr.mono (by decide)) (by rfl) g__law_frac kp__law_frac b__law_frac (c_cons (e_cb s_sumA (cr_sumA rfl) (by rfl) bt.sum boot_sum (a_cons (e_sl (e_var 5) (o_part (e_var 1)) o_no) a_nil)) (c_cons (e_var 6) c_nil)))))))⟩
/-! ### is_chance -/
abbrev s_is_chance : Stmt := topS 9
theorem sc_is_chance : FnScope ["value"] ["value"] (defScope s_is_chance) := ⟨rfl, rfl, rfl, by decide +kernel, rfl, by decide +kernel, by decide +kernel⟩
noncomputable def bd_is_chance : S1 := (sRet (fAndV (fCallE fn_is_fraction (aCons (fVar 0) aNil)) (f2 gGe (f2 gIx (fVar 0) (fC (.int 0))) (fC (.int 0)))))
noncomputable def fn_is_chance : Fn := fnOf 1 bd_is_chance
def kb_is_chance (fd : FuncData) : Prop := True
theorem has_is_chance (bt : Bts K mg) {f : Addr} {fd : FuncData} (F : L2.Fun K "is_chance" "is_chance" s_is_chance f fd) (gf : mg "is_chance" = some (.ref f)) (h_is_fraction : Has P w K mg base 2 "is_fraction" ["value"] 1 fn_is_fraction kb_is_fraction) :
    Has P w K mg base 3 "is_chance" ["value"] 1 fn_is_chance kb_is_chance := by
  obtain ⟨f_is_fraction, fd_is_fraction, G_is_fraction, g_is_fraction, kp_is_fraction, b_is_fraction, kb_is_fraction⟩ := h_is_fraction.ex
  have kb : kb_is_chance fd := trivial
  have sc := sc_is_chance
  refine ⟨f, fd, FnG.byBody F sc rfl rfl (by decide) ?_, gf, F.kp, F.binds (ps := ["value"]) fun _ _ _ _ _ _ us hl => match us, hl with | [_], _ => rfl, kb⟩
  intro cdv A out s H c hr
  have cl : Cl0 (A.deeper (envOfC "is_chance" (defScope s_is_chance) s.heap.objs.size f cdv)) := c
  exact ⟨_, (ss_one (s_ret (e_and (e_call G_is_fraction cl (hr.mono (by decide)) (by rfl) g_is_fraction kp_is_fraction b_is_fraction (c_cons (e_var 0) c_nil)) (e_one (e_cmp s_ge op_ge (e_ix (e_var 0) e_int (fun _ _ => rfl)) e_int (nomark _))))))⟩
/-! ### need_count -/
abbrev s_need_count : Stmt := topS 16
theorem sc_need_count : FnScope ["number"] ["number"] (defScope s_need_count) := ⟨rfl, rfl, rfl, by decide +kernel, rfl, by decide +kernel, by decide +kernel⟩
noncomputable def bd_need_count : S1 := (sIf (fNotT (fT (fCallE fn_is_index (aCons (fVar 0) (aCons (f2 gAdd (fC (.int 100)) (fC (.int 1))) aNil))))) sNever sNext)
noncomputable def fn_need_count : Fn := fnOf 1 bd_need_count
def kb_need_count (fd : FuncData) : Prop := True
theorem has_need_count (bt : Bts K mg) {f : Addr} {fd : FuncData} (F : L2.Fun K "need_count" "need_count" s_need_count f fd) (gf : mg "need_count" = some (.ref f)) (h_is_index : Has P w K mg base 2 "is_index" ["value", "many"] 2 fn_is_index kb_is_index) :
    Has P w K mg base 3 "need_count" ["number"] 1 fn_need_count kb_need_count := by
  obtain ⟨c_MOST_COUNT, m_MOST_COUNT⟩ := bt.MOST_COUNT
  obtain ⟨f_is_index, fd_is_index, G_is_index, g_is_index, kp_is_index, b_is_index, kb_is_index⟩ := h_is_index.ex
  have kb : kb_need_count fd := trivial
  have sc := sc_need_count
  refine ⟨f, fd, FnG.byBody F sc rfl rfl (by decide) ?_, gf, F.kp, F.binds (ps := ["number"]) fun _ _ _ _ _ _ us hl => match us, hl with | [_], _ => rfl, kb⟩
  intro cdv A out s H c hr
  have cl : Cl0 (A.deeper (envOfC "need_count" (defScope s_need_count) s.heap.objs.size f cdv)) := c
  exact ⟨_, (ss_one (s_if (t_not (t_val (e_call G_is_index cl (hr.mono (by decide)) (by rfl) g_is_index kp_is_index b_is_index (c_cons (e_var 0) (c_cons (e_op s_add o_add (e_gint (by rfl) m_MOST_COUNT) e_int) c_nil))))) (ss_one s_never) ss_nil))⟩
/-! ### _law_total -/
abbrev s__law_total : Stmt := topS 31
theorem sc__law_total : FnScope ["row", "found", "x"] ["row"] (defScope s__law_total) := ⟨rfl, rfl, rfl, by decide +kernel, rfl, by decide +kernel, by decide +kernel⟩
noncomputable def bd__law_total : S1 := (sSeq (sAsg (fTup (fCons (fC (.int 0)) (fCons (fC (.int 1)) fNil))) (hName 1))
    (sSeq (sFor (fItems (fVar 0)) (hName 2) (sAsg (fCallE fn__law_plus (aCons (fVar 1) (aCons (fVar 2) aNil))) (hName 1)))
    (sRet (fVar 1))))
noncomputable def fn__law_total : Fn := fnOf 3 bd__law_total
def kb__law_total (fd : FuncData) : Prop := True
theorem has__law_total (bt : Bts K mg) {f : Addr} {fd : FuncData} (F : L2.Fun K "_law_total" "_law_total" s__law_total f fd) (gf : mg "_law_total" = some (.ref f)) (h__law_plus : Has P w K mg base 2 "_law_plus" ["x", "y"] 2 fn__law_plus kb__law_plus) :
    Has P w K mg base 3 "_law_total" ["row"] 1 fn__law_total kb__law_total := by
  obtain ⟨f__law_plus, fd__law_plus, G__law_plus, g__law_plus, kp__law_plus, b__law_plus, kb__law_plus⟩ := h__law_plus.ex
  have kb : kb__law_total fd := trivial
  have sc := sc__law_total
  refine ⟨f, fd, FnG.byBody F sc rfl rfl (by decide) ?_, gf, F.kp, F.binds (ps := ["row"]) fun _ _ _ _ _ _ us hl => match us, hl with | [_], _ => rfl, kb⟩
  intro cdv A out s H c hr
  have cl : Cl0 (A.deeper (envOfC "_law_total" (defScope s__law_total) s.heap.objs.size f cdv)) := c
  exact ⟨_, (ss_cons (s_set 1 (show List.Nodup _ from sc.nd) (e_tup (a_cons e_int (a_cons e_int a_nil))))
      (ss_cons (s_for PassesOwn.never rfl (i_seq (e_var 0)) (g_name 2 (show List.Nodup _ from sc.nd)) (ss_one (s_set 1 (show List.Nodup _ from sc.nd) (e_call G__law_plus cl (hr.mono (by decide)) (by rfl) g__law_plus kp__law_plus b__law_plus (c_cons (e_var 1) (c_cons (e_var 2) c_nil))))))
      (ss_one (s_ret (e_var 1)))))⟩
/-! ### is_share -/
abbrev s_is_share : Stmt := topS 10
theorem sc_is_share : FnScope ["value"] ["value"] (defScope s_is_share) := ⟨rfl, rfl, rfl, by decide +kernel, rfl, by decide +kernel, by decide +kernel⟩
noncomputable def bd_is_share : S1 := (sRet (fAndV (fCallE fn_is_chance (aCons (fVar 0) aNil)) (f2 gLe (f2 gIx (fVar 0) (fC (.int 0))) (f2 gIx (fVar 0) (fC (.int 1))))))
noncomputable def fn_is_share : Fn := fnOf 1 bd_is_share
def kb_is_share (fd : FuncData) : Prop := True
theorem has_is_share (bt : Bts K mg) {f : Addr} {fd : FuncData} (F : L2.Fun K "is_share" "is_share" s_is_share f fd) (gf : mg "is_share" = some (.ref f)) (h_is_chance : Has P w K mg base 3 "is_chance" ["value"] 1 fn_is_chance kb_is_chance) :
    Has P w K mg base 4 "is_share" ["value"] 1 fn_is_share kb_is_share := by
  obtain ⟨f_is_chance, fd_is_chance, G_is_chance, g_is_chance, kp_is_chance, b_is_chance, kb_is_chance⟩ := h_is_chance.ex
  have kb : kb_is_share fd := trivial
  have sc := sc_is_share
  refine ⟨f, fd, FnG.byBody F sc rfl rfl (by decide) ?_, gf, F.kp, F.binds (ps := ["value"]) fun _ _ _ _ _ _ us hl => match us, hl with | [_], _ => rfl, kb⟩
  intro cdv A out s H c hr
  have cl : Cl0 (A.deeper (envOfC "is_share" (defScope s_is_share) s.heap.objs.size f cdv)) := c
  exact ⟨_, (ss_one (s_ret (e_and (e_call G_is_chance cl (hr.mono (by decide)) (by rfl) g_is_chance kp_is_chance b_is_chance (c_cons (e_var 0) c_nil)) (e_one (e_cmp s_le op_le (e_ix (e_var 0) e_int (fun _ _ => rfl)) (e_ix (e_var 0) e_int (fun _ _ => rfl)) (nomark _))))))⟩
/-! ### _law_rows_of_wins -/
abbrev s__law_rows_of_wins : Stmt := topS 33
theorem sc__law_rows_of_wins : FnScope ["rounds", "wins", "share", "rows", "other", "lap", "grown", "row"] ["rounds", "wins", "share"] (defScope s__law_rows_of_wins) := ⟨rfl, rfl, rfl, by decide +kernel, rfl, by decide +kernel, by decide +kernel⟩
noncomputable def bd__law_rows_of_wins : S1 := (sSeq (sPar 3 4 (fCons (fF (fLst (fCons (fTup (fCons (fTup (fCons (fC (.int 1)) (fCons (fC (.int 1)) fNil))) (fCons (fC (.int 0)) fNil))) fNil))) (fCons (fCallE fn__law_less (aCons (fTup (fCons (fC (.int 1)) (fCons (fC (.int 1)) fNil))) (aCons (fVar 2) aNil))) fNil)))
    (sSeq (sFor (fRng1 (fCons (fVar 0) fNil)) (hName 5) (sSeq (sAsg (fF (fLc (fItems (fVar 3)) (hName 7) fYes (fTup (fCons (fCallE fn__law_times (aCons (f2 gIx (fVar 7) (fC (.int 0))) (aCons (fVar 2) aNil))) (fCons (f2 gAdd (f2 gIx (fVar 7) (fC (.int 1))) (fC (.int 1))) fNil))) [7])) (hName 6))
    (sAsg (f2 gAdd (fVar 6) (fF (fLc (fItems (fVar 3)) (hName 7) fYes (fTup (fCons (fCallE fn__law_times (aCons (f2 gIx (fVar 7) (fC (.int 0))) (aCons (fVar 4) aNil))) (fCons (f2 gIx (fVar 7) (fC (.int 1))) fNil))) [7]))) (hName 3))))
    (sRet (fCallE fn__law_total (aCons (fF (fLc (fItems (fVar 3)) (hName 7) (fT (f2 gGe (f2 gIx (fVar 7) (fC (.int 1))) (fVar 1))) (f2 gIx (fVar 7) (fC (.int 0))) [7])) aNil)))))
noncomputable def fn__law_rows_of_wins : Fn := fnOf 8 bd__law_rows_of_wins
def kb__law_rows_of_wins (fd : FuncData) : Prop := True
theorem has__law_rows_of_wins (bt : Bts K mg) {f : Addr} {fd : FuncData} (F : L2.Fun K "_law_rows_of_wins" "_law_rows_of_wins" s__law_rows_of_wins f fd) (gf : mg "_law_rows_of_wins" = some (.ref f)) (h__law_total : Has P w K mg base 3 "_law_total" ["row"] 1 fn__law_total kb__law_total) (h__law_times : Has P w K mg base 2 "_law_times" ["x", "y"] 2 fn__law_times kb__law_times) (h__law_less : Has P w K mg base 2 "_law_less" ["x", "y"] 2 fn__law_less kb__law_less) :
    Has P w K mg base 4 "_law_rows_of_wins" ["rounds", "wins", "share"] 3 fn__law_rows_of_wins kb__law_rows_of_wins := by
  obtain ⟨f__law_total, fd__law_total, G__law_total, g__law_total, kp__law_total, b__law_total, kb__law_total⟩ := h__law_total.ex
  obtain ⟨f__law_times, fd__law_times, G__law_times, g__law_times, kp__law_times, b__law_times, kb__law_times⟩ := h__law_times.ex
  obtain ⟨f__law_less, fd__law_less, G__law_less, g__law_less, kp__law_less, b__law_less, kb__law_less⟩ := h__law_less.ex
  have kb : kb__law_rows_of_wins fd := trivial
  have sc := sc__law_rows_of_wins
  refine ⟨f, fd, FnG.byBody F sc rfl rfl (by decide) ?_, gf, F.kp, F.binds (ps := ["rounds", "wins", "share"]) fun _ _ _ _ _ _ us hl => match us, hl with | [_, _, _], _ => rfl, kb⟩
  intro cdv A out s H c hr
  have cl : Cl0 (A.deeper (envOfC "_law_rows_of_wins" (defScope s__law_rows_of_wins) s.heap.objs.size f cdv)) := c
  exact ⟨_, (ss_cons (s_parXC 3 4 rfl (show List.Nodup _ from sc.nd) (e_f (F_lst (a_cons (e_tup (a_cons (e_tup (a_cons e_int (a_cons e_int a_nil))) (a_cons e_int a_nil))) a_nil))) (e_call G__law_less cl (hr.mono (by decide)) (by rfl) g__law_less kp__law_less b__law_less (c_cons (e_tup (a_cons e_int (a_cons e_int a_nil))) (c_cons (e_var 2) c_nil))))
      (ss_cons (s_for PassesOwn.never rfl (i_rng1 (by rfl) bt.range (a_cons (e_var 0) a_nil)) (g_name 5 (show List.Nodup _ from sc.nd)) (ss_cons (s_setLc (own := [("row", 7)]) 6 rfl (show List.Nodup _ from sc.nd) (i_seq (e_var 3)) (by first | exact (show blkC ["rounds", "wins", "share", "rows", "other", "lap", "grown", "row"] (defScope s__law_rows_of_wins) _ _ = true from by decide +kernel) | rfl) (fun _ _ _ _ _ => (g_name 7 (show List.Nodup _ from sc.nd))) (gin_name (by decide)) (fun _ _ _ _ _ => ts_nil) (fun _ _ _ _ _ => (e_tup (a_cons (e_call G__law_times cl (hr.mono (by decide)) (by rfl) g__law_times kp__law_times b__law_times (c_cons (e_ix (e_var 7) e_int (fun _ _ => rfl)) (c_cons (e_var 2) c_nil))) (a_cons (e_op s_add o_add (e_ix (e_var 7) e_int (fun _ _ => rfl)) e_int) a_nil)))) (sw_true rfl rfl rfl (by decide +kernel)))
      (ss_one (s_set 3 (show List.Nodup _ from sc.nd) (e_op s_add o_add (e_var 6) (e_f (F_lc (own := [("row", 7)]) rfl (show List.Nodup _ from sc.nd) (i_seq (e_var 3)) (by first | exact (show blkC ["rounds", "wins", "share", "rows", "other", "lap", "grown", "row"] (defScope s__law_rows_of_wins) _ _ = true from by decide +kernel) | rfl) (fun _ _ _ _ _ => (g_name 7 (show List.Nodup _ from sc.nd))) (gin_name (by decide)) (fun _ _ _ _ _ => ts_nil) (fun _ _ _ _ _ => (e_tup (a_cons (e_call G__law_times cl (hr.mono (by decide)) (by rfl) g__law_times kp__law_times b__law_times (c_cons (e_ix (e_var 7) e_int (fun _ _ => rfl)) (c_cons (e_var 4) c_nil))) (a_cons (e_ix (e_var 7) e_int (fun _ _ => rfl)) a_nil)))))))))))
      (ss_one (s_ret (e_call G__law_total cl (hr.mono (by decide)) (by rfl) g__law_total kp__law_total b__law_total (c_cons (e_f (F_lc (own := [("row", 7)]) rfl (show List.Nodup _ from sc.nd) (i_seq (e_var 3)) (by first | exact (show blkC ["rounds", "wins", "share", "rows", "other", "lap", "grown", "row"] (defScope s__law_rows_of_wins) _ _ = true from by decide +kernel) | rfl) (fun _ _ _ _ _ => (g_name 7 (show List.Nodup _ from sc.nd))) (gin_name (by decide)) (fun _ _ _ _ _ => (ts_one (t_cmp s_ge op_ge (e_ix (e_var 7) e_int (fun _ _ => rfl)) (e_var 1) (nomark _)))) (fun _ _ _ _ _ => (e_ix (e_var 7) e_int (fun _ _ => rfl))))) c_nil))))))⟩
/-! ### need_share -/
abbrev s_need_share : Stmt := topS 17
theorem sc_need_share : FnScope ["share"] ["share"] (defScope s_need_share) := ⟨rfl, rfl, rfl, by decide +kernel, rfl, by decide +kernel, by decide +kernel⟩
noncomputable def bd_need_share : S1 := (sIf (fNotT (fT (fCallE fn_is_share (aCons (fVar 0) aNil)))) sNever sNext)
noncomputable def fn_need_share : Fn := fnOf 1 bd_need_share
def kb_need_share (fd : FuncData) : Prop := True
theorem has_need_share (bt : Bts K mg) {f : Addr} {fd : FuncData} (F : L2.Fun K "need_share" "need_share" s_need_share f fd) (gf : mg "need_share" = some (.ref f)) (h_is_share : Has P w K mg base 4 "is_share" ["value"] 1 fn_is_share kb_is_share) :
    Has P w K mg base 5 "need_share" ["share"] 1 fn_need_share kb_need_share := by
  obtain ⟨f_is_share, fd_is_share, G_is_share, g_is_share, kp_is_share, b_is_share, kb_is_share⟩ := h_is_share.ex
  have kb : kb_need_share fd := trivial
  have sc := sc_need_share
  refine ⟨f, fd, FnG.byBody F sc rfl rfl (by decide) ?_, gf, F.kp, F.binds (ps := ["share"]) fun _ _ _ _ _ _ us hl => match us, hl with | [_], _ => rfl, kb⟩
  intro cdv A out s H c hr
  have cl : Cl0 (A.deeper (envOfC "need_share" (defScope s_need_share) s.heap.objs.size f cdv)) := c
  exact ⟨_, (ss_one (s_if (t_not (t_val (e_call G_is_share cl (hr.mono (by decide)) (by rfl) g_is_share kp_is_share b_is_share (c_cons (e_var 0) c_nil)))) (ss_one s_never) ss_nil))⟩
/-! ### tail -/
abbrev s_tail : Stmt := topS 22
theorem sc_tail : FnScope ["number", "wins", "share"] ["number", "wins", "share"] (defScope s_tail) := ⟨rfl, rfl, rfl, by decide +kernel, rfl, by decide +kernel, by decide +kernel⟩
noncomputable def bd_tail : S1 := (sSeq (sDrop (fCallE fn_need_count (aCons (fVar 0) aNil)))
    (sSeq (sDrop (fCallE fn_need_count (aCons (fVar 1) aNil)))
    (sSeq (sDrop (fCallE fn_need_share (aCons (fVar 2) aNil)))
    (sRet (fCallE fn_tail_of (aCons (fVar 0) (aCons (fVar 1) (aCons (fVar 2) aNil))))))))
noncomputable def fn_tail : Fn := fnOf 3 bd_tail
def kb_tail (fd : FuncData) : Prop := (∀ (s : Shared) (us : List Value), us.length = ["share", "wins", "number"].length → BindsTo s fd ⟨[], (["share", "wins", "number"] : List Str).zip us⟩ ((["number", "wins", "share"] : List Str).zip (pick [2, 1, 0] us)))
theorem has_tail (bt : Bts K mg) {f : Addr} {fd : FuncData} (F : L2.Fun K "tail" "tail" s_tail f fd) (gf : mg "tail" = some (.ref f)) (h_tail_of : Has P w K mg base 2 "tail_of" ["number", "wins", "share"] 3 fn_tail_of kb_tail_of) (h_need_share : Has P w K mg base 5 "need_share" ["share"] 1 fn_need_share kb_need_share) (h_need_count : Has P w K mg base 3 "need_count" ["number"] 1 fn_need_count kb_need_count) :
    Has P w K mg base 6 "tail" ["number", "wins", "share"] 3 fn_tail kb_tail := by
  obtain ⟨f_tail_of, fd_tail_of, G_tail_of, g_tail_of, kp_tail_of, b_tail_of, kb_tail_of⟩ := h_tail_of.ex
  obtain ⟨f_need_share, fd_need_share, G_need_share, g_need_share, kp_need_share, b_need_share, kb_need_share⟩ := h_need_share.ex
  obtain ⟨f_need_count, fd_need_count, G_need_count, g_need_count, kp_need_count, b_need_count, kb_need_count⟩ := h_need_count.ex
  have kb : kb_tail fd := by
    obtain ⟨_, _, _, _, _, _, _, _, _, e, _⟩ := F.ex
    subst e
    exact fun s us hl => match us, hl with | [_, _, _], _ => .of_eq rfl
  have sc := sc_tail
  refine ⟨f, fd, FnG.byBody F sc rfl rfl (by decide) ?_, gf, F.kp, F.binds (ps := ["number", "wins", "share"]) fun _ _ _ _ _ _ us hl => match us, hl with | [_, _, _], _ => rfl, kb⟩
  intro cdv A out s H c hr
  have cl : Cl0 (A.deeper (envOfC "tail" (defScope s_tail) s.heap.objs.size f cdv)) := c
  exact ⟨_, (ss_cons (s_expr (e_call G_need_count cl (hr.mono (by decide)) (by rfl) g_need_count kp_need_count b_need_count (c_cons (e_var 0) c_nil)))
      (ss_cons (s_expr (e_call G_need_count cl (hr.mono (by decide)) (by rfl) g_need_count kp_need_count b_need_count (c_cons (e_var 1) c_nil)))
      (ss_cons (s_expr (e_call G_need_share cl (hr.mono (by decide)) (by rfl) g_need_share kp_need_share b_need_share (c_cons (e_var 2) c_nil)))
      (ss_one (s_ret (e_call G_tail_of cl (hr.mono (by decide)) (by rfl) g_tail_of kp_tail_of b_tail_of (c_cons (e_var 0) (c_cons (e_var 1) (c_cons (e_var 2) c_nil)))))))))⟩
/-! ### _law_right -/
abbrev s__law_right : Stmt := topS 34
theorem sc__law_right : FnScope ["well", "lap", "rounds", "wins", "under", "share", "due"] ["well"] (defScope s__law_right) := ⟨rfl, rfl, rfl, by decide +kernel, rfl, by decide +kernel, by decide +kernel⟩
noncomputable def bd__law_right : S1 := (sSeq (sFor (fRng1 (fCons (fC (.int 4)) fNil)) (hName 1) (sSeq (sAsg (fIf (fAndT (fT (f2 gEqA (fVar 1) (fC (.int 3)))) (fT (f2 gEqA (fCallE fn__law_draw (aBy 0 (aCons (fC (.int 9)) aNil))) (fC (.int 0))))) (fC (.int 100)) (fCallE fn__law_draw (aBy 0 (aCons (fC (.int 10)) aNil)))) (hName 2))
    (sSeq (sAsg (fIf (fT (f2 gLt (fVar 2) (fC (.int 99)))) (fCallE fn__law_draw (aBy 0 (aCons (f2 gAdd (fVar 2) (fC (.int 3))) aNil))) (fCallE fn__law_draw (aBy 0 (aCons (fC (.int 101)) aNil)))) (hName 3))
    (sSeq (sAsg (fCallE fn__law_of (aBy 0 (aCons (fTup (fCons (fC (.int 2)) (fCons (fC (.int 3)) (fCons (fC (.int 4)) (fCons (fC (.int 8)) (fCons (fC (.int 17)) (fCons (fC (.int 1000)) fNil))))))) aNil))) (hName 4))
    (sSeq (sAsg (fCallE fn__law_of (aBy 0 (aCons (fF (fLst (fCons (fCallE fn__law_frac (aCons (fCallE fn__law_draw (aBy 0 (aCons (f2 gAdd (fVar 4) (fC (.int 1))) aNil))) (aCons (fVar 4) aNil))) (fCons (fTup (fCons (fC (.int 0)) (fCons (fC (.int 1)) fNil))) (fCons (fTup (fCons (fC (.int 1)) (fCons (fC (.int 1)) fNil))) (fCons (fTup (fCons (fC (.int 3)) (fCons (fC (.int 4)) fNil))) (fCons (fTup (fCons (fC (.int 1)) (fCons (fC (.int 2)) fNil))) fNil))))))) aNil))) (hName 5))
    (sSeq (sAsg (fCallE fn__law_tail (aCons (fVar 2) (aCons (fVar 3) (aCons (fVar 5) aNil)))) (hName 6))
    (sSeq (sIf (fAndT (fT (f2 gLt (fVar 2) (fC (.int 7)))) (fT (f2 gNeA (fCallE fn__law_rows_of_wins (aCons (fVar 2) (aCons (fVar 3) (aCons (fVar 5) aNil)))) (fVar 6)))) (sRet (fC (.bool false))) sNext)
    (sIf (fT (f2 gNeA (fCB gRepr (fCons (fF (fLst (fCons (fCallE fn_tail (aCons (fVar 2) (aCons (fVar 3) (aCons (fVar 5) aNil)))) (fCons (fCallK fn_tail [2, 1, 0] 3 (fCons (fVar 5) (fCons (fVar 3) (fCons (fVar 2) fNil)))) fNil)))) fNil)) (fCB gRepr (fCons (fF (fLst (fCons (fVar 6) (fCons (fVar 6) fNil)))) fNil)))) (sRet (fC (.bool false))) sNext))))))))
    (sRet (fC (.bool true))))
noncomputable def fn__law_right : Fn := fnOf 7 bd__law_right
def kb__law_right (fd : FuncData) : Prop := True
theorem has__law_right (bt : Bts K mg) {f : Addr} {fd : FuncData} (F : L2.Fun K "_law_right" "_law_right" s__law_right f fd) (gf : mg "_law_right" = some (.ref f)) (h_tail : Has P w K mg base 6 "tail" ["number", "wins", "share"] 3 fn_tail kb_tail) (h__law_rows_of_wins : Has P w K mg base 4 "_law_rows_of_wins" ["rounds", "wins", "share"] 3 fn__law_rows_of_wins kb__law_rows_of_wins) (h__law_tail : Has P w K mg base 2 "_law_tail" ["rounds", "wins", "share"] 3 fn__law_tail kb__law_tail) (h__law_of : Has P w K mg base 2 "_law_of" ["well", "some"] 2 fn__law_of kb__law_of) (h__law_frac : Has P w K mg base 1 "_law_frac" ["up", "down"] 2 fn__law_frac kb__law_frac) (h__law_draw : Has P w K mg base 1 "_law_draw" ["well", "limit"] 2 fn__law_draw kb__law_draw) :
    Has P w K mg base 7 "_law_right" ["well"] 1 fn__law_right kb__law_right := by
  obtain ⟨f_tail, fd_tail, G_tail, g_tail, kp_tail, b_tail, kb_tail⟩ := h_tail.ex
  obtain ⟨f__law_rows_of_wins, fd__law_rows_of_wins, G__law_rows_of_wins, g__law_rows_of_wins, kp__law_rows_of_wins, b__law_rows_of_wins, kb__law_rows_of_wins⟩ := h__law_rows_of_wins.ex
  obtain ⟨f__law_tail, fd__law_tail, G__law_tail, g__law_tail, kp__law_tail, b__law_tail, kb__law_tail⟩ := h__law_tail.ex
  obtain ⟨f__law_of, fd__law_of, G__law_of, g__law_of, kp__law_of, b__law_of, kb__law_of⟩ := h__law_of.ex
  obtain ⟨f__law_frac, fd__law_frac, G__law_frac, g__law_frac, kp__law_frac, b__law_frac, kb__law_frac⟩ := h__law_frac.ex
  obtain ⟨f__law_draw, fd__law_draw, G__law_draw, g__law_draw, kp__law_draw, b__law_draw, kb__law_draw⟩ := h__law_draw.ex
  have kb : kb__law_right fd := trivial
  have sc := sc__law_right
  refine ⟨f, fd, FnG.byBody F sc rfl rfl (by decide) ?_, gf, F.kp, F.binds (ps := ["well"]) fun _ _ _ _ _ _ us hl => match us, hl with | [_], _ => rfl, kb⟩
  intro cdv A out s H c hr
  have cl : Cl0 (A.deeper (envOfC "_law_right" (defScope s__law_right) s.heap.objs.size f cdv)) := c
  exact ⟨_, (ss_cons (s_for PassesOwn.never rfl (i_rng1 (by rfl) bt.range (a_cons e_int a_nil)) (g_name 1 (show List.Nodup _ from sc.nd)) (ss_cons (s_set 2 (show List.Nodup _ from sc.nd) (e_if (t_w (w_and (t_cmp s_eqA (o_eqA hr.units) (e_var 1) e_int (nomark _)) (w_and1 (t_cmp s_eqA (o_eqA hr.units) (e_call G__law_draw cl (hr.mono (by decide)) (by rfl) g__law_draw kp__law_draw b__law_draw (c_by (pv 0) (c_cons e_int c_nil))) e_int (nomark _))))) e_int (e_call G__law_draw cl (hr.mono (by decide)) (by rfl) g__law_draw kp__law_draw b__law_draw (c_by (pv 0) (c_cons e_int c_nil)))))
      (ss_cons (s_set 3 (show List.Nodup _ from sc.nd) (e_if (t_cmp s_lt (o_lt hr.units0) (e_var 2) e_int (nomark _)) (e_call G__law_draw cl (hr.mono (by decide)) (by rfl) g__law_draw kp__law_draw b__law_draw (c_by (pv 0) (c_cons (e_op s_add o_add (e_var 2) e_int) c_nil))) (e_call G__law_draw cl (hr.mono (by decide)) (by rfl) g__law_draw kp__law_draw b__law_draw (c_by (pv 0) (c_cons e_int c_nil)))))
      (ss_cons (s_set 4 (show List.Nodup _ from sc.nd) (e_call G__law_of cl (hr.mono (by decide)) (by rfl) g__law_of kp__law_of b__law_of (c_by (pv 0) (c_cons (e_tup (a_cons e_int (a_cons e_int (a_cons e_int (a_cons e_int (a_cons e_int (a_cons e_int a_nil))))))) c_nil))))
      (ss_cons (s_set 5 (show List.Nodup _ from sc.nd) (e_call G__law_of cl (hr.mono (by decide)) (by rfl) g__law_of kp__law_of b__law_of (c_by (pv 0) (c_cons (e_f (F_lst (a_cons (e_call G__law_frac cl (hr.mono (by decide)) (by rfl) g__law_frac kp__law_frac b__law_frac (c_cons (e_call G__law_draw cl (hr.mono (by decide)) (by rfl) g__law_draw kp__law_draw b__law_draw (c_by (pv 0) (c_cons (e_op s_add o_add (e_var 4) e_int) c_nil))) (c_cons (e_var 4) c_nil))) (a_cons (e_tup (a_cons e_int (a_cons e_int a_nil))) (a_cons (e_tup (a_cons e_int (a_cons e_int a_nil))) (a_cons (e_tup (a_cons e_int (a_cons e_int a_nil))) (a_cons (e_tup (a_cons e_int (a_cons e_int a_nil))) a_nil))))))) c_nil))))
      (ss_cons (s_set 6 (show List.Nodup _ from sc.nd) (e_call G__law_tail cl (hr.mono (by decide)) (by rfl) g__law_tail kp__law_tail b__law_tail (c_cons (e_var 2) (c_cons (e_var 3) (c_cons (e_var 5) c_nil)))))
      (ss_cons (s_if (t_w (w_and (t_cmp s_lt (o_lt hr.units0) (e_var 2) e_int (nomark _)) (w_and1 (t_cmp s_neA (o_neA hr.units) (e_call G__law_rows_of_wins cl (hr.mono (by decide)) (by rfl) g__law_rows_of_wins kp__law_rows_of_wins b__law_rows_of_wins (c_cons (e_var 2) (c_cons (e_var 3) (c_cons (e_var 5) c_nil)))) (e_var 6) (nomark _))))) (ss_one (s_ret e_bl)) ss_nil)
      (ss_one (s_if (t_cmp s_neA (o_neA hr.units) (e_cb s_repr (c_repr cl hr.units) (by rfl) bt.repr boot_repr (a_cons (e_f (F_lst (a_cons (e_call G_tail cl (hr.mono (by decide)) (by rfl) g_tail kp_tail b_tail (c_cons (e_var 2) (c_cons (e_var 3) (c_cons (e_var 5) c_nil)))) (a_cons (e_callK (ks := ["share", "wins", "number"]) [2, 1, 0] G_tail cl (hr.mono (by decide)) (by rfl) g_tail kp_tail kb_tail (fun ds h => match ds, h with | [_, _, _], _ => rfl) (k_cons (e_var 5) (k_cons (e_var 3) (k_cons (e_var 2) k_nil)))) a_nil)))) a_nil)) (e_cb s_repr (c_repr cl hr.units) (by rfl) bt.repr boot_repr (a_cons (e_f (F_lst (a_cons (e_var 6) (a_cons (e_var 6) a_nil)))) a_nil)) (nomark _)) (ss_one (s_ret e_bl)) ss_nil)))))))))
      (ss_one (s_ret e_bl)))⟩
/-! ### law -/
abbrev s_law : Stmt := topS 35
theorem sc_law : FnScope ["script", "lap"] ["script"] (defScope s_law) := ⟨rfl, rfl, rfl, by decide +kernel, rfl, by decide +kernel, by decide +kernel⟩
noncomputable def bd_law : S1 := (sSeq (sFor (fRng1 (fCons (fCB gMax2 (fCons (fC (.int 2)) (fCons (fCB gMin2 (fCons (fCB gLen (fCons (fVar 0) fNil)) (fCons (fC (.int 3)) fNil))) fNil))) fNil)) (hName 1) (sIf (fNotT (fT (fTmpE fn__law_right (fCallF fn__law_well (aCons (fVar 0) (aCons (fVar 1) aNil)))))) (sRet (fC (.bool false))) sNext))
    (sRet (fC (.bool true))))
noncomputable def fn_law : Fn := fnOf 2 bd_law
def kb_law (fd : FuncData) : Prop := True
theorem has_law (bt : Bts K mg) {f : Addr} {fd : FuncData} (F : L2.Fun K "law" "law" s_law f fd) (gf : mg "law" = some (.ref f)) (h__law_right : Has P w K mg base 7 "_law_right" ["well"] 1 fn__law_right kb__law_right) (h__law_well : Has P w K mg base 1 "_law_well" ["script", "lap"] 2 fn__law_well kb__law_well) :
    Has P w K mg base 8 "law" ["script"] 1 fn_law kb_law := by
  obtain ⟨f__law_right, fd__law_right, G__law_right, g__law_right, kp__law_right, b__law_right, kb__law_right⟩ := h__law_right.ex
  obtain ⟨f__law_well, fd__law_well, G__law_well, g__law_well, kp__law_well, b__law_well, kb__law_well⟩ := h__law_well.ex
  have kb : kb_law fd := trivial
  have sc := sc_law
  refine ⟨f, fd, FnG.byBody F sc rfl rfl (by decide) ?_, gf, F.kp, F.binds (ps := ["script"]) fun _ _ _ _ _ _ us hl => match us, hl with | [_], _ => rfl, kb⟩
  intro cdv A out s H c hr
  have cl : Cl0 (A.deeper (envOfC "law" (defScope s_law) s.heap.objs.size f cdv)) := c
  exact ⟨_, (ss_cons (s_for PassesOwn.never rfl (i_rng1 (by rfl) bt.range (a_cons (e_cb s_max2 (call_max2 rfl) (by rfl) bt.max boot_max (a_cons e_int (a_cons (e_cb s_min2 (call_min2 rfl) (by rfl) bt.min boot_min (a_cons (e_cb s_len c_len (by rfl) bt.len boot_len (a_cons (e_var 0) a_nil)) (a_cons e_int a_nil))) a_nil))) a_nil)) (g_name 1 (show List.Nodup _ from sc.nd)) (ss_one (s_if (t_not (t_val (e_callTmp G__law_right cl (hr.mono (by decide)) (by rfl) g__law_right kp__law_right b__law_right (F_call G__law_well cl (hr.mono (by decide)) (by rfl) g__law_well kp__law_well b__law_well (c_cons (e_var 0) (c_cons (e_var 1) c_nil)))))) (ss_one (s_ret e_bl)) ss_nil)))
      (ss_one (s_ret e_bl)))⟩
end
/-! ### what the top has written -/
theorem all_mk {P : Program} {w : World} {K : PySem.W.Frag} {base : Heap} {mg : Str → Option Value} {f_is_whole f_lowest f_powers_of f__law_well f__law_draw f__law_frac f_is_fraction f_is_index f_tail_of f__law_of f__law_plus f__law_less f__law_times f__law_tail f_is_chance f_need_count f__law_total f_is_share f__law_rows_of_wins f_need_share f_tail f__law_right f_law : Addr} (X : K.In base) (G : base.Ns mainGlobals mg)
    {od_is_whole an_is_whole od_lowest an_lowest od_powers_of an_powers_of od__law_well an__law_well od__law_draw an__law_draw od__law_frac an__law_frac od_is_fraction an_is_fraction od_is_index an_is_index od_tail_of an_tail_of od__law_of an__law_of od__law_plus an__law_plus od__law_less an__law_less od__law_times an__law_times od__law_tail an__law_tail od_is_chance an_is_chance od_need_count an_need_count od__law_total an__law_total od_is_share an_is_share od__law_rows_of_wins an__law_rows_of_wins od_need_share an_need_share od_tail an_tail od__law_right an__law_right od_law an_law : Option Addr} {sl_is_whole sl_lowest sl_powers_of sl__law_well sl__law_draw sl__law_frac sl_is_fraction sl_is_index sl_tail_of sl__law_of sl__law_plus sl__law_less sl__law_times sl__law_tail sl_is_chance sl_need_count sl__law_total sl_is_share sl__law_rows_of_wins sl_need_share sl_tail sl__law_right sl_law : Array (Option Value)} {oc_is_whole kV_is_whole dc_is_whole pm_is_whole cd_is_whole ct_is_whole oc_lowest kV_lowest dc_lowest pm_lowest cd_lowest ct_lowest oc_powers_of kV_powers_of dc_powers_of pm_powers_of cd_powers_of ct_powers_of oc__law_well kV__law_well dc__law_well pm__law_well cd__law_well ct__law_well oc__law_draw kV__law_draw dc__law_draw pm__law_draw cd__law_draw ct__law_draw oc__law_frac kV__law_frac dc__law_frac pm__law_frac cd__law_frac ct__law_frac oc_is_fraction kV_is_fraction dc_is_fraction pm_is_fraction cd_is_fraction ct_is_fraction oc_is_index kV_is_index dc_is_index pm_is_index cd_is_index ct_is_index oc_tail_of kV_tail_of dc_tail_of pm_tail_of cd_tail_of ct_tail_of oc__law_of kV__law_of dc__law_of pm__law_of cd__law_of ct__law_of oc__law_plus kV__law_plus dc__law_plus pm__law_plus cd__law_plus ct__law_plus oc__law_less kV__law_less dc__law_less pm__law_less cd__law_less ct__law_less oc__law_times kV__law_times dc__law_times pm__law_times cd__law_times ct__law_times oc__law_tail kV__law_tail dc__law_tail pm__law_tail cd__law_tail ct__law_tail oc_is_chance kV_is_chance dc_is_chance pm_is_chance cd_is_chance ct_is_chance oc_need_count kV_need_count dc_need_count pm_need_count cd_need_count ct_need_count oc__law_total kV__law_total dc__law_total pm__law_total cd__law_total ct__law_total oc_is_share kV_is_share dc_is_share pm_is_share cd_is_share ct_is_share oc__law_rows_of_wins kV__law_rows_of_wins dc__law_rows_of_wins pm__law_rows_of_wins cd__law_rows_of_wins ct__law_rows_of_wins oc_need_share kV_need_share dc_need_share pm_need_share cd_need_share ct_need_share oc_tail kV_tail dc_tail pm_tail cd_tail ct_tail oc__law_right kV__law_right dc__law_right pm__law_right cd__law_right ct__law_right oc_law kV_law dc_law pm_law cd_law ct_law : Value}
    (a_is_whole : PySem.W.nsIn K mainGlobals "is_whole" = some (some (.ref f_is_whole))) (l_is_whole : K.lookup f_is_whole = some ⟨oc_is_whole, od_is_whole, .func (PySem.W.fnOf "is_whole" "is_whole" (defArgs s_is_whole) (defBody s_is_whole) (defScope s_is_whole) .none kV_is_whole dc_is_whole pm_is_whole an_is_whole cd_is_whole ct_is_whole), sl_is_whole⟩) (c_is_whole : PySem.W.codeIn K cd_is_whole "is_whole" = true) (k_is_whole : PySem.W.keepIn K (.ref f_is_whole) = true)
    (a_lowest : PySem.W.nsIn K mainGlobals "lowest" = some (some (.ref f_lowest))) (l_lowest : K.lookup f_lowest = some ⟨oc_lowest, od_lowest, .func (PySem.W.fnOf "lowest" "lowest" (defArgs s_lowest) (defBody s_lowest) (defScope s_lowest) .none kV_lowest dc_lowest pm_lowest an_lowest cd_lowest ct_lowest), sl_lowest⟩) (c_lowest : PySem.W.codeIn K cd_lowest "lowest" = true) (k_lowest : PySem.W.keepIn K (.ref f_lowest) = true)
    (a_powers_of : PySem.W.nsIn K mainGlobals "powers_of" = some (some (.ref f_powers_of))) (l_powers_of : K.lookup f_powers_of = some ⟨oc_powers_of, od_powers_of, .func (PySem.W.fnOf "powers_of" "powers_of" (defArgs s_powers_of) (defBody s_powers_of) (defScope s_powers_of) .none kV_powers_of dc_powers_of pm_powers_of an_powers_of cd_powers_of ct_powers_of), sl_powers_of⟩) (c_powers_of : PySem.W.codeIn K cd_powers_of "powers_of" = true) (k_powers_of : PySem.W.keepIn K (.ref f_powers_of) = true)
    (a__law_well : PySem.W.nsIn K mainGlobals "_law_well" = some (some (.ref f__law_well))) (l__law_well : K.lookup f__law_well = some ⟨oc__law_well, od__law_well, .func (PySem.W.fnOf "_law_well" "_law_well" (defArgs s__law_well) (defBody s__law_well) (defScope s__law_well) .none kV__law_well dc__law_well pm__law_well an__law_well cd__law_well ct__law_well), sl__law_well⟩) (c__law_well : PySem.W.codeIn K cd__law_well "_law_well" = true) (k__law_well : PySem.W.keepIn K (.ref f__law_well) = true)
    (a__law_draw : PySem.W.nsIn K mainGlobals "_law_draw" = some (some (.ref f__law_draw))) (l__law_draw : K.lookup f__law_draw = some ⟨oc__law_draw, od__law_draw, .func (PySem.W.fnOf "_law_draw" "_law_draw" (defArgs s__law_draw) (defBody s__law_draw) (defScope s__law_draw) .none kV__law_draw dc__law_draw pm__law_draw an__law_draw cd__law_draw ct__law_draw), sl__law_draw⟩) (c__law_draw : PySem.W.codeIn K cd__law_draw "_law_draw" = true) (k__law_draw : PySem.W.keepIn K (.ref f__law_draw) = true)
    (a__law_frac : PySem.W.nsIn K mainGlobals "_law_frac" = some (some (.ref f__law_frac))) (l__law_frac : K.lookup f__law_frac = some ⟨oc__law_frac, od__law_frac, .func (PySem.W.fnOf "_law_frac" "_law_frac" (defArgs s__law_frac) (defBody s__law_frac) (defScope s__law_frac) .none kV__law_frac dc__law_frac pm__law_frac an__law_frac cd__law_frac ct__law_frac), sl__law_frac⟩) (c__law_frac : PySem.W.codeIn K cd__law_frac "_law_frac" = true) (k__law_frac : PySem.W.keepIn K (.ref f__law_frac) = true)
    (a_is_fraction : PySem.W.nsIn K mainGlobals "is_fraction" = some (some (.ref f_is_fraction))) (l_is_fraction : K.lookup f_is_fraction = some ⟨oc_is_fraction, od_is_fraction, .func (PySem.W.fnOf "is_fraction" "is_fraction" (defArgs s_is_fraction) (defBody s_is_fraction) (defScope s_is_fraction) .none kV_is_fraction dc_is_fraction pm_is_fraction an_is_fraction cd_is_fraction ct_is_fraction), sl_is_fraction⟩) (c_is_fraction : PySem.W.codeIn K cd_is_fraction "is_fraction" = true) (k_is_fraction : PySem.W.keepIn K (.ref f_is_fraction) = true)
    (a_is_index : PySem.W.nsIn K mainGlobals "is_index" = some (some (.ref f_is_index))) (l_is_index : K.lookup f_is_index = some ⟨oc_is_index, od_is_index, .func (PySem.W.fnOf "is_index" "is_index" (defArgs s_is_index) (defBody s_is_index) (defScope s_is_index) .none kV_is_index dc_is_index pm_is_index an_is_index cd_is_index ct_is_index), sl_is_index⟩) (c_is_index : PySem.W.codeIn K cd_is_index "is_index" = true) (k_is_index : PySem.W.keepIn K (.ref f_is_index) = true)
    (a_tail_of : PySem.W.nsIn K mainGlobals "tail_of" = some (some (.ref f_tail_of))) (l_tail_of : K.lookup f_tail_of = some ⟨oc_tail_of, od_tail_of, .func (PySem.W.fnOf "tail_of" "tail_of" (defArgs s_tail_of) (defBody s_tail_of) (defScope s_tail_of) .none kV_tail_of dc_tail_of pm_tail_of an_tail_of cd_tail_of ct_tail_of), sl_tail_of⟩) (c_tail_of : PySem.W.codeIn K cd_tail_of "tail_of" = true) (k_tail_of : PySem.W.keepIn K (.ref f_tail_of) = true)
    (a__law_of : PySem.W.nsIn K mainGlobals "_law_of" = some (some (.ref f__law_of))) (l__law_of : K.lookup f__law_of = some ⟨oc__law_of, od__law_of, .func (PySem.W.fnOf "_law_of" "_law_of" (defArgs s__law_of) (defBody s__law_of) (defScope s__law_of) .none kV__law_of dc__law_of pm__law_of an__law_of cd__law_of ct__law_of), sl__law_of⟩) (c__law_of : PySem.W.codeIn K cd__law_of "_law_of" = true) (k__law_of : PySem.W.keepIn K (.ref f__law_of) = true)
    (a__law_plus : PySem.W.nsIn K mainGlobals "_law_plus" = some (some (.ref f__law_plus))) (l__law_plus : K.lookup f__law_plus = some ⟨oc__law_plus, od__law_plus, .func (PySem.W.fnOf "_law_plus" "_law_plus" (defArgs s__law_plus) (defBody s__law_plus) (defScope s__law_plus) .none kV__law_plus dc__law_plus pm__law_plus an__law_plus cd__law_plus ct__law_plus), sl__law_plus⟩) (c__law_plus : PySem.W.codeIn K cd__law_plus "_law_plus" = true) (k__law_plus : PySem.W.keepIn K (.ref f__law_plus) = true)
    (a__law_less : PySem.W.nsIn K mainGlobals "_law_less" = some (some (.ref f__law_less))) (l__law_less : K.lookup f__law_less = some ⟨oc__law_less, od__law_less, .func (PySem.W.fnOf "_law_less" "_law_less" (defArgs s__law_less) (defBody s__law_less) (defScope s__law_less) .none kV__law_less dc__law_less pm__law_less an__law_less cd__law_less ct__law_less), sl__law_less⟩) (c__law_less : PySem.W.codeIn K cd__law_less "_law_less" = true) (k__law_less : PySem.W.keepIn K (.ref f__law_less) = true)
    (a__law_times : PySem.W.nsIn K mainGlobals "_law_times" = some (some (.ref f__law_times))) (l__law_times : K.lookup f__law_times = some ⟨oc__law_times, od__law_times, .func (PySem.W.fnOf "_law_times" "_law_times" (defArgs s__law_times) (defBody s__law_times) (defScope s__law_times) .none kV__law_times dc__law_times pm__law_times an__law_times cd__law_times ct__law_times), sl__law_times⟩) (c__law_times : PySem.W.codeIn K cd__law_times "_law_times" = true) (k__law_times : PySem.W.keepIn K (.ref f__law_times) = true)
    (a__law_tail : PySem.W.nsIn K mainGlobals "_law_tail" = some (some (.ref f__law_tail))) (l__law_tail : K.lookup f__law_tail = some ⟨oc__law_tail, od__law_tail, .func (PySem.W.fnOf "_law_tail" "_law_tail" (defArgs s__law_tail) (defBody s__law_tail) (defScope s__law_tail) .none kV__law_tail dc__law_tail pm__law_tail an__law_tail cd__law_tail ct__law_tail), sl__law_tail⟩) (c__law_tail : PySem.W.codeIn K cd__law_tail "_law_tail" = true) (k__law_tail : PySem.W.keepIn K (.ref f__law_tail) = true)
    (a_is_chance : PySem.W.nsIn K mainGlobals "is_chance" = some (some (.ref f_is_chance))) (l_is_chance : K.lookup f_is_chance = some ⟨oc_is_chance, od_is_chance, .func (PySem.W.fnOf "is_chance" "is_chance" (defArgs s_is_chance) (defBody s_is_chance) (defScope s_is_chance) .none kV_is_chance dc_is_chance pm_is_chance an_is_chance cd_is_chance ct_is_chance), sl_is_chance⟩) (c_is_chance : PySem.W.codeIn K cd_is_chance "is_chance" = true) (k_is_chance : PySem.W.keepIn K (.ref f_is_chance) = true)
    (a_need_count : PySem.W.nsIn K mainGlobals "need_count" = some (some (.ref f_need_count))) (l_need_count : K.lookup f_need_count = some ⟨oc_need_count, od_need_count, .func (PySem.W.fnOf "need_count" "need_count" (defArgs s_need_count) (defBody s_need_count) (defScope s_need_count) .none kV_need_count dc_need_count pm_need_count an_need_count cd_need_count ct_need_count), sl_need_count⟩) (c_need_count : PySem.W.codeIn K cd_need_count "need_count" = true) (k_need_count : PySem.W.keepIn K (.ref f_need_count) = true)
    (a__law_total : PySem.W.nsIn K mainGlobals "_law_total" = some (some (.ref f__law_total))) (l__law_total : K.lookup f__law_total = some ⟨oc__law_total, od__law_total, .func (PySem.W.fnOf "_law_total" "_law_total" (defArgs s__law_total) (defBody s__law_total) (defScope s__law_total) .none kV__law_total dc__law_total pm__law_total an__law_total cd__law_total ct__law_total), sl__law_total⟩) (c__law_total : PySem.W.codeIn K cd__law_total "_law_total" = true) (k__law_total : PySem.W.keepIn K (.ref f__law_total) = true)
    (a_is_share : PySem.W.nsIn K mainGlobals "is_share" = some (some (.ref f_is_share))) (l_is_share : K.lookup f_is_share = some ⟨oc_is_share, od_is_share, .func (PySem.W.fnOf "is_share" "is_share" (defArgs s_is_share) (defBody s_is_share) (defScope s_is_share) .none kV_is_share dc_is_share pm_is_share an_is_share cd_is_share ct_is_share), sl_is_share⟩) (c_is_share : PySem.W.codeIn K cd_is_share "is_share" = true) (k_is_share : PySem.W.keepIn K (.ref f_is_share) = true)
    (a__law_rows_of_wins : PySem.W.nsIn K mainGlobals "_law_rows_of_wins" = some (some (.ref f__law_rows_of_wins))) (l__law_rows_of_wins : K.lookup f__law_rows_of_wins = some ⟨oc__law_rows_of_wins, od__law_rows_of_wins, .func (PySem.W.fnOf "_law_rows_of_wins" "_law_rows_of_wins" (defArgs s__law_rows_of_wins) (defBody s__law_rows_of_wins) (defScope s__law_rows_of_wins) .none kV__law_rows_of_wins dc__law_rows_of_wins pm__law_rows_of_wins an__law_rows_of_wins cd__law_rows_of_wins ct__law_rows_of_wins), sl__law_rows_of_wins⟩) (c__law_rows_of_wins : PySem.W.codeIn K cd__law_rows_of_wins "_law_rows_of_wins" = true) (k__law_rows_of_wins : PySem.W.keepIn K (.ref f__law_rows_of_wins) = true)
    (a_need_share : PySem.W.nsIn K mainGlobals "need_share" = some (some (.ref f_need_share))) (l_need_share : K.lookup f_need_share = some ⟨oc_need_share, od_need_share, .func (PySem.W.fnOf "need_share" "need_share" (defArgs s_need_share) (defBody s_need_share) (defScope s_need_share) .none kV_need_share dc_need_share pm_need_share an_need_share cd_need_share ct_need_share), sl_need_share⟩) (c_need_share : PySem.W.codeIn K cd_need_share "need_share" = true) (k_need_share : PySem.W.keepIn K (.ref f_need_share) = true)
    (a_tail : PySem.W.nsIn K mainGlobals "tail" = some (some (.ref f_tail))) (l_tail : K.lookup f_tail = some ⟨oc_tail, od_tail, .func (PySem.W.fnOf "tail" "tail" (defArgs s_tail) (defBody s_tail) (defScope s_tail) .none kV_tail dc_tail pm_tail an_tail cd_tail ct_tail), sl_tail⟩) (c_tail : PySem.W.codeIn K cd_tail "tail" = true) (k_tail : PySem.W.keepIn K (.ref f_tail) = true)
    (a__law_right : PySem.W.nsIn K mainGlobals "_law_right" = some (some (.ref f__law_right))) (l__law_right : K.lookup f__law_right = some ⟨oc__law_right, od__law_right, .func (PySem.W.fnOf "_law_right" "_law_right" (defArgs s__law_right) (defBody s__law_right) (defScope s__law_right) .none kV__law_right dc__law_right pm__law_right an__law_right cd__law_right ct__law_right), sl__law_right⟩) (c__law_right : PySem.W.codeIn K cd__law_right "_law_right" = true) (k__law_right : PySem.W.keepIn K (.ref f__law_right) = true)
    (a_law : PySem.W.nsIn K mainGlobals "law" = some (some (.ref f_law))) (l_law : K.lookup f_law = some ⟨oc_law, od_law, .func (PySem.W.fnOf "law" "law" (defArgs s_law) (defBody s_law) (defScope s_law) .none kV_law dc_law pm_law an_law cd_law ct_law), sl_law⟩) (c_law : PySem.W.codeIn K cd_law "law" = true) (k_law : PySem.W.keepIn K (.ref f_law) = true)
    {tc_MOST_COUNT : Tok} (z_MOST_COUNT : PySem.W.nsIn K mainGlobals "MOST_COUNT" = some (some (.int 100 tc_MOST_COUNT)))
    {fc_ONE : Addr} {tc_ONE uc_ONE : Tok} {oc_ONE : Option Addr} {nc_ONE : Nat} {xc_ONE : Array (Option Value)} (z_ONE : PySem.W.nsIn K mainGlobals "ONE" = some (some (.ref fc_ONE))) (y_ONE : K.lookup fc_ONE = some ⟨.type "tuple", oc_ONE, .seq #[.int 1 tc_ONE, .int 1 uc_ONE] nc_ONE, xc_ONE⟩)
    (z_abs : PySem.W.nsIn K mainGlobals "abs" = some none)
    (z_bool : PySem.W.nsIn K mainGlobals "bool" = some none)
    (z_divmod : PySem.W.nsIn K mainGlobals "divmod" = some none)
    (z_int : PySem.W.nsIn K mainGlobals "int" = some none)
    (z_isinstance : PySem.W.nsIn K mainGlobals "isinstance" = some none)
    (z_len : PySem.W.nsIn K mainGlobals "len" = some none)
    (z_max : PySem.W.nsIn K mainGlobals "max" = some none)
    (z_min : PySem.W.nsIn K mainGlobals "min" = some none)
    (z_range : PySem.W.nsIn K mainGlobals "range" = some none)
    (z_repr : PySem.W.nsIn K mainGlobals "repr" = some none)
    (z_sum : PySem.W.nsIn K mainGlobals "sum" = some none)
    (z_tuple : PySem.W.nsIn K mainGlobals "tuple" = some none)
    (z_comb : PySem.W.nsIn K mainGlobals "comb" = some (some (.builtin "math.comb")))
    (z_gcd : PySem.W.nsIn K mainGlobals "gcd" = some (some (.builtin "math.gcd")))
    : Has P w K mg base 8 "law" ["script"] 1 fn_law kb_law := by
  have bt : Bts K mg := ⟨PySem.W.mg_none_of X G z_abs, PySem.W.mg_none_of X G z_bool, PySem.W.mg_none_of X G z_divmod, PySem.W.mg_none_of X G z_int, PySem.W.mg_none_of X G z_isinstance, PySem.W.mg_none_of X G z_len, PySem.W.mg_none_of X G z_max, PySem.W.mg_none_of X G z_min, PySem.W.mg_none_of X G z_range, PySem.W.mg_none_of X G z_repr, PySem.W.mg_none_of X G z_sum, PySem.W.mg_none_of X G z_tuple, PySem.W.mg_of X G z_comb, PySem.W.mg_of X G z_gcd, ⟨_, PySem.W.mg_of X G z_MOST_COUNT⟩, ⟨_, PySem.W.mg_of X G z_ONE, rp_k2 y_ONE⟩⟩
  have h_is_whole := has_is_whole (P := P) (w := w) (base := base) bt (fun_mk (st := s_is_whole) l_is_whole c_is_whole k_is_whole) (PySem.W.mg_of X G a_is_whole)
  have h_lowest := has_lowest (P := P) (w := w) (base := base) bt (fun_mk (st := s_lowest) l_lowest c_lowest k_lowest) (PySem.W.mg_of X G a_lowest)
  have h_powers_of := has_powers_of (P := P) (w := w) (base := base) bt (fun_mk (st := s_powers_of) l_powers_of c_powers_of k_powers_of) (PySem.W.mg_of X G a_powers_of)
  have h__law_well := has__law_well (P := P) (w := w) (base := base) bt (fun_mk (st := s__law_well) l__law_well c__law_well k__law_well) (PySem.W.mg_of X G a__law_well)
  have h__law_draw := has__law_draw (P := P) (w := w) (base := base) bt (fun_mk (st := s__law_draw) l__law_draw c__law_draw k__law_draw) (PySem.W.mg_of X G a__law_draw)
  have h__law_frac := has__law_frac (P := P) (w := w) (base := base) bt (fun_mk (st := s__law_frac) l__law_frac c__law_frac k__law_frac) (PySem.W.mg_of X G a__law_frac)
  have h_is_fraction := has_is_fraction (P := P) (w := w) (base := base) bt (fun_mk (st := s_is_fraction) l_is_fraction c_is_fraction k_is_fraction) (PySem.W.mg_of X G a_is_fraction) h_is_whole
  have h_is_index := has_is_index (P := P) (w := w) (base := base) bt (fun_mk (st := s_is_index) l_is_index c_is_index k_is_index) (PySem.W.mg_of X G a_is_index) h_is_whole
  have h_tail_of := has_tail_of (P := P) (w := w) (base := base) bt (fun_mk (st := s_tail_of) l_tail_of c_tail_of k_tail_of) (PySem.W.mg_of X G a_tail_of) h_lowest h_powers_of
  have h__law_of := has__law_of (P := P) (w := w) (base := base) bt (fun_mk (st := s__law_of) l__law_of c__law_of k__law_of) (PySem.W.mg_of X G a__law_of) h__law_draw
  have h__law_plus := has__law_plus (P := P) (w := w) (base := base) bt (fun_mk (st := s__law_plus) l__law_plus c__law_plus k__law_plus) (PySem.W.mg_of X G a__law_plus) h__law_frac
  have h__law_less := has__law_less (P := P) (w := w) (base := base) bt (fun_mk (st := s__law_less) l__law_less c__law_less k__law_less) (PySem.W.mg_of X G a__law_less) h__law_frac
  have h__law_times := has__law_times (P := P) (w := w) (base := base) bt (fun_mk (st := s__law_times) l__law_times c__law_times k__law_times) (PySem.W.mg_of X G a__law_times) h__law_frac
  have h__law_tail := has__law_tail (P := P) (w := w) (base := base) bt (fun_mk (st := s__law_tail) l__law_tail c__law_tail k__law_tail) (PySem.W.mg_of X G a__law_tail) h__law_frac
  have h_is_chance := has_is_chance (P := P) (w := w) (base := base) bt (fun_mk (st := s_is_chance) l_is_chance c_is_chance k_is_chance) (PySem.W.mg_of X G a_is_chance) h_is_fraction
  have h_need_count := has_need_count (P := P) (w := w) (base := base) bt (fun_mk (st := s_need_count) l_need_count c_need_count k_need_count) (PySem.W.mg_of X G a_need_count) h_is_index
  have h__law_total := has__law_total (P := P) (w := w) (base := base) bt (fun_mk (st := s__law_total) l__law_total c__law_total k__law_total) (PySem.W.mg_of X G a__law_total) h__law_plus
  have h_is_share := has_is_share (P := P) (w := w) (base := base) bt (fun_mk (st := s_is_share) l_is_share c_is_share k_is_share) (PySem.W.mg_of X G a_is_share) h_is_chance
  have h__law_rows_of_wins := has__law_rows_of_wins (P := P) (w := w) (base := base) bt (fun_mk (st := s__law_rows_of_wins) l__law_rows_of_wins c__law_rows_of_wins k__law_rows_of_wins) (PySem.W.mg_of X G a__law_rows_of_wins) h__law_total h__law_times h__law_less
  have h_need_share := has_need_share (P := P) (w := w) (base := base) bt (fun_mk (st := s_need_share) l_need_share c_need_share k_need_share) (PySem.W.mg_of X G a_need_share) h_is_share
  have h_tail := has_tail (P := P) (w := w) (base := base) bt (fun_mk (st := s_tail) l_tail c_tail k_tail) (PySem.W.mg_of X G a_tail) h_tail_of h_need_share h_need_count
  have h__law_right := has__law_right (P := P) (w := w) (base := base) bt (fun_mk (st := s__law_right) l__law_right c__law_right k__law_right) (PySem.W.mg_of X G a__law_right) h_tail h__law_rows_of_wins h__law_tail h__law_of h__law_frac h__law_draw
  have h_law := has_law (P := P) (w := w) (base := base) bt (fun_mk (st := s_law) l_law c_law k_law) (PySem.W.mg_of X G a_law) h__law_right h__law_well
  exact h_law
end Lk65

end
section
set_option maxHeartbeats 1000000
namespace Lk65
open PySem Dv
/-! ### is_whole -/
noncomputable def v_is_whole (p_value : PyData) : Option (PyData) := (andO (isi "int" (p_value)) (notO (isi "bool" (p_value)))).bind fun x1 => some (x1)
theorem v_is_whole_ok : ∀ (p_value : PyData) a, v_is_whole p_value = some a → fn_is_whole [.pl p_value] = some ((fun a : PyData => Ret.pl a) a, (fun _ : PyData => [none]) a) := fun p_value a h => by
  have e : Sim bd_is_whole [some (.pl (p_value))] _ (Pf [.pl p_value] (fun a : PyData => Ret.pl a) (fun _ : PyData => [none])) := (sim_last (sim_ret (c := fun d => d) (ev_andV (ev_isi "int" (ev_var 0)) (ev_notV (ev_isi "bool" (ev_var 0)))) (fun _ => ⟨rfl, rfl⟩)))
  exact fn_sim (m := 1) (f := bd_is_whole) (xs := [.pl p_value]) (r := (fun a : PyData => Ret.pl a)) (os := (fun _ : PyData => [none])) (a := a) e h
/-! ### lowest -/
noncomputable def v_lowest (p_top : PyData) (p_bottom : PyData) : Option (PyData) := (gGcd [p_top, p_bottom]).bind fun x2 => (((gDiv (p_top) x2).bind fun x9 => ((gDiv (p_bottom) x2).bind fun x10 => some ([x10])).bind fun x11 => some ((x9 :: x11))).bind fun x12 => tupO x12).bind fun x13 => some (x13)
theorem v_lowest_ok : ∀ (p_top : PyData) (p_bottom : PyData) a, v_lowest p_top p_bottom = some a → fn_lowest [.pl p_top, .pl p_bottom] = some ((fun a : PyData => Ret.pl a) a, (fun _ : PyData => [none, none]) a) := fun p_top p_bottom a h => by
  have e : Sim bd_lowest [some (.pl (p_top)), some (.pl (p_bottom)), none] _ (Pf [.pl p_top, .pl p_bottom] (fun a : PyData => Ret.pl a) (fun _ : PyData => [none, none])) := (sim_asg (ev_cb (ev_cons (ev_var 0) (ev_cons (ev_var 1) ev_nil))) (fun x3 => (sim_last (sim_ret (c := fun d => d) (ev_tup (ev_cons (ev_2 (ev_var 0) (ev_var 2)) (ev_cons (ev_2 (ev_var 1) (ev_var 2)) ev_nil))) (fun _ => ⟨rfl, rfl⟩)))))
  exact fn_sim (m := 3) (f := bd_lowest) (xs := [.pl p_top, .pl p_bottom]) (r := (fun a : PyData => Ret.pl a)) (os := (fun _ : PyData => [none, none])) (a := a) e h
/-! ### powers_of -/
noncomputable def v_powers_of (p_number : PyData) (p_most : PyData) : Option (PyData) := (lstO [(PyData.int 1)]).bind fun x14 => (rngO (p_most)).bind fun x31 => (loopM (fun (s24 : List PyData) (a26 : PyData) => (((gNeg (PyData.int 1)).bind fun x27 => gIx (.list s24) x27).bind fun x28 => gMulA x28 (p_number)).bind fun x29 => (appO s24 x29).bind fun l30 => some (l30)) x31 x14).bind fun (s24 : List PyData) => some ((PyData.list s24))
theorem v_powers_of_ok : ∀ (p_number : PyData) (p_most : PyData) a, v_powers_of p_number p_most = some a → fn_powers_of [.pl p_number, .pl p_most] = some ((fun a : PyData => Ret.pl a) a, (fun _ : PyData => [none, none]) a) := fun p_number p_most a h => by
  have e : Sim bd_powers_of [some (.pl (p_number)), some (.pl (p_most)), none, none] _ (Pf [.pl p_number, .pl p_most] (fun a : PyData => Ret.pl a) (fun _ : PyData => [none, none])) := (sim_own (ev_lst (ev_cons (ev_c (.int 1)) ev_nil)) (fun x15 => (sim_forM (C := (fun (s : List PyData) (j : Option PyData) => [some (.pl (p_number)), some (.pl (p_most)), some (.ow s), (j).map PV.pl])) (fun a : PyData => a) (fun s16 j17 a18 => [some (.pl (p_number)), some (.pl (p_most)), some (.ow s16), some (.pl a18)]) some some_map x15 none (ev_rng1 (ev_var 1)) rfl (fun _ _ _ => rfl) (fun s16 j17 a18 => (sim_last (sim_app (x := .ow _) (ev_2 (ev_OL 2 (ev_1 (ev_c (.int 1)))) (ev_var 0)) (fun l22 => (sim_end (a := l22) ⟨.inl rfl, (some a18), rfl⟩))))) (fun s16 j17 => (sim_last (sim_ret (c := fun d => d) (ev_mv 2) (fun _ => ⟨rfl, rfl⟩)))))))
  exact fn_sim (m := 4) (f := bd_powers_of) (xs := [.pl p_number, .pl p_most]) (r := (fun a : PyData => Ret.pl a)) (os := (fun _ : PyData => [none, none])) (a := a) e h
/-! ### _law_well -/
noncomputable def v__law_well (p_script : PyData) (p_lap : PyData) : Option (List PyData) := ((gMul (PyData.int 7013) (p_lap)).bind fun x32 => gAdd (PyData.int 112356) x32).bind fun x33 => (((partO (PyData.int 12)).bind fun x180 => gSl (p_script) none x180).bind fun x181 => itemsOf x181).bind fun x182 => (loopM (fun (s109 : PyData) (a111 : PyData) => ((((((gMul s109 (PyData.int 45281)).bind fun x112 => ((gInt [a111]).bind fun x113 => gMod x113 (PyData.int 2147483549)).bind fun x114 => gAdd x112 x114).bind fun x115 => gAdd x115 (PyData.int 19)).bind fun x116 => some ([x116])).bind fun x117 => gInt x117).bind fun x118 => gMod x118 (PyData.int 2147483563)).bind fun x119 => some (x119)) x182 x33).bind fun (s109 : PyData) => ((((gLen [p_script]).bind fun x121 => gLt (p_lap) x121).bind fun x122 => tBd x122).bind fun x123 => if x123 then ((gIx (p_script) (p_lap)).bind fun x124 => some ([x124])).bind fun x125 => gInt x125 else some ((PyData.int 0))).bind fun x126 => ((((((gMul s109 (PyData.int 41)).bind fun x154 => (((gInt [x126]).bind fun x155 => gMod x155 (PyData.int 2147483549)).bind fun x156 => gMul x156 (PyData.int 15031)).bind fun x157 => gAdd x154 x157).bind fun x158 => gAdd x158 (PyData.int 5)).bind fun x159 => some ([x159])).bind fun x160 => gInt x160).bind fun x161 => gMod x161 (PyData.int 2147483563)).bind fun x162 => ((((((gLt x126 (PyData.int 0)).bind fun x172 => tBd x172).bind fun x173 => if x173 then some true else ((gPow (PyData.int 10) (PyData.int 15)).bind fun x174 => gGe x126 x174).bind fun x175 => tBd x175).bind fun x176 => if x176 then gAbs [x126] else some ((PyData.int 0))).bind fun x177 => some ([x177, x162, (PyData.int 0)])).bind fun x178 => lstO x178).bind fun x179 => some (x179)
theorem v__law_well_ok : ∀ (p_script : PyData) (p_lap : PyData) a, v__law_well p_script p_lap = some a → fn__law_well [.pl p_script, .pl p_lap] = some ((fun a : List PyData => Ret.fr a) a, (fun _ : List PyData => [none, none]) a) := fun p_script p_lap a h => by
  have e : Sim bd__law_well [some (.pl (p_script)), some (.pl (p_lap)), none, none, none] _ (Pf [.pl p_script, .pl p_lap] (fun a : List PyData => Ret.fr a) (fun _ : List PyData => [none, none])) := (sim_asg (ev_2 (ev_c (.int 112356)) (ev_2 (ev_c (.int 7013)) (ev_var 1))) (fun x34 => (sim_forM (C := (fun (s : PyData) (j : Option PyData) => [some (.pl (p_script)), some (.pl (p_lap)), some (.pl s), (j).map PV.pl, none])) (fun a : PyData => a) (fun s35 j36 a37 => [some (.pl (p_script)), some (.pl (p_lap)), some (.pl s35), some (.pl a37), none]) some some_map x34 none (ev_items (ev_sl (ev_var 0) ev_no (ev_part (ev_c (.int 12))))) rfl (fun _ _ _ => rfl) (fun s35 j36 a37 => (sim_last (sim_asg (ev_2 (ev_cb (ev_cons (ev_2 (ev_2 (ev_2 (ev_var 2) (ev_c (.int 45281))) (ev_2 (ev_cb (ev_cons (ev_var 3) ev_nil)) (ev_c (.int 2147483549)))) (ev_c (.int 19))) ev_nil)) (ev_c (.int 2147483563))) (fun x46 => (sim_end (a := x46) ⟨.inl rfl, (some a37), rfl⟩))))) (fun s35 j36 => (sim_asg (ev_if (ev_T (ev_2 (ev_var 1) (ev_cb (ev_cons (ev_var 0) ev_nil)))) (ev_cb (ev_cons (ev_2 (ev_var 0) (ev_var 1)) ev_nil)) (ev_c (.int 0))) (fun x53 => (sim_asg (ev_2 (ev_cb (ev_cons (ev_2 (ev_2 (ev_2 (ev_var 2) (ev_c (.int 41))) (ev_2 (ev_2 (ev_cb (ev_cons (ev_var 4) ev_nil)) (ev_c (.int 2147483549))) (ev_c (.int 15031)))) (ev_c (.int 5))) ev_nil)) (ev_c (.int 2147483563))) (fun x63 => (sim_last (sim_retF (c := fun d => d) (ev_lst (ev_cons (ev_if (ev_orT (ev_T (ev_2 (ev_var 4) (ev_c (.int 0)))) (ev_T (ev_2 (ev_var 4) (ev_2 (ev_c (.int 10)) (ev_c (.int 15)))))) (ev_cb (ev_cons (ev_var 4) ev_nil)) (ev_c (.int 0))) (ev_cons (ev_var 2) (ev_cons (ev_c (.int 0)) ev_nil)))) (fun _ => ⟨rfl, rfl⟩)))))))))))
  exact fn_sim (m := 5) (f := bd__law_well) (xs := [.pl p_script, .pl p_lap]) (r := (fun a : List PyData => Ret.fr a)) (os := (fun _ : List PyData => [none, none])) (a := a) e h
/-! ### _law_draw -/
noncomputable def v__law_draw (p_well : List PyData) (p_limit : PyData) : Option (PyData × List PyData) := match fn__law_draw [.rf p_well, .pl p_limit] with
  | some (.pl d, [some w, none]) => some (d, w)
  | _ => none
theorem v__law_draw_ok : ∀ (p_well : List PyData) (p_limit : PyData) a, v__law_draw p_well p_limit = some a → fn__law_draw [.rf p_well, .pl p_limit] = some ((fun p : PyData × List PyData => Ret.pl p.1) a, (fun p : PyData × List PyData => [some p.2, none]) a) := fun p_well p_limit a h => by
  unfold v__law_draw at h
  split at h
  · rename_i e; cases h; rw [e]
  · cases h
/-! ### _law_frac -/
noncomputable def v__law_frac (p_up : PyData) (p_down : PyData) : Option (PyData) := (gAbs [p_up]).bind fun x183 => (whileW (τ := Empty) (fun (s198 : PyData × PyData) => (gGt (s198.2) (PyData.int 0)).bind fun x204 => tBd x204) (fun (s198 : PyData × PyData) => ((gInt [s198.1]).bind fun x200 => gMod x200 (s198.2)).bind fun x201 => some (Fw.nx (s198.2, x201))) (x183, p_down)).bind fun o => goW Empty.elim (fun (s198 : PyData × PyData) => (((gDiv (p_up) (s198.1)).bind fun x205 => ((gDiv (p_down) (s198.1)).bind fun x206 => some ([x206])).bind fun x207 => some ((x205 :: x207))).bind fun x208 => tupO x208).bind fun x209 => some (x209)) o
theorem v__law_frac_ok : ∀ (p_up : PyData) (p_down : PyData) a, v__law_frac p_up p_down = some a → fn__law_frac [.pl p_up, .pl p_down] = some ((fun a : PyData => Ret.pl a) a, (fun _ : PyData => [none, none]) a) := fun p_up p_down a h => by
  have e : Sim bd__law_frac [some (.pl (p_up)), some (.pl (p_down)), none, none] _ (Pf [.pl p_up, .pl p_down] (fun a : PyData => Ret.pl a) (fun _ : PyData => [none, none])) := (sim_par (ev_cb (ev_cons (ev_var 0) ev_nil)) (ev_var 1) (fun u184 u185 => (sim_while (C := (fun (s : PyData × PyData) (j : Unit) => [some (.pl (p_up)), some (.pl (p_down)), some (.pl (s.1)), some (.pl (s.2))])) (R := fun (_ : Empty) _ _ => False) Empty.elim (u184, u185) () rfl (fun s186 j187 => (ev_T (ev_2 (ev_var 3) (ev_c (.int 0))))) (fun s186 j187 => (sim_last (sim_par (ev_var 3) (ev_2 (ev_cb (ev_cons (ev_var 2) ev_nil)) (ev_var 3)) (fun u190 u191 => (sim_end (a := Fw.nx (u190, u191)) ⟨.inl rfl, (), rfl⟩))))) (fun s186 j187 => (sim_last (sim_ret (c := fun d => d) (ev_tup (ev_cons (ev_2 (ev_var 0) (ev_var 2)) (ev_cons (ev_2 (ev_var 1) (ev_var 2)) ev_nil))) (fun _ => ⟨rfl, rfl⟩)))) (fun t => t.elim))))
  exact fn_sim (m := 4) (f := bd__law_frac) (xs := [.pl p_up, .pl p_down]) (r := (fun a : PyData => Ret.pl a)) (os := (fun _ : PyData => [none, none])) (a := a) e h
/-! ### is_fraction -/
noncomputable def v_is_fraction (p_value : PyData) : Option (PyData) := ((((isi "tuple" (p_value)).bind fun x217 => tBd x217).bind fun x218 => some ((!x218))).bind fun x219 => if x219 then some true else ((gLen [p_value]).bind fun x220 => gNeA x220 (PyData.int 2)).bind fun x221 => tBd x221).bind fun x222 => if x222 then some ((PyData.bool false)) else (un2 (p_value)).bind fun p214 => (andO (v_is_whole (p214.1)) (andO (v_is_whole (p214.2)) (andO (gGt (p214.2) (PyData.int 0)) ((gGcd [p214.1, p214.2]).bind fun x215 => gEqA x215 (PyData.int 1))))).bind fun x216 => some (x216)
theorem v_is_fraction_ok : ∀ (p_value : PyData) a, v_is_fraction p_value = some a → fn_is_fraction [.pl p_value] = some ((fun a : PyData => Ret.pl a) a, (fun _ : PyData => [none]) a) := fun p_value a h => by
  have e : Sim bd_is_fraction [some (.pl (p_value)), none, none] _ (Pf [.pl p_value] (fun a : PyData => Ret.pl a) (fun _ : PyData => [none])) := (sim_if (ev_orT (ev_notT (ev_T (ev_isi "tuple" (ev_var 0)))) (ev_T (ev_2 (ev_cb (ev_cons (ev_var 0) ev_nil)) (ev_c (.int 2))))) (sim_ret (c := fun d => d) (ev_c (.bool false)) (fun _ => ⟨rfl, rfl⟩)) (sim_next (sim_asg2 (ev_var 0) (fun u210 u211 => (sim_last (sim_ret (c := fun d => d) (ev_andV (ev_call1 (ev_var 1) v_is_whole_ok) (ev_andV (ev_call1 (ev_var 2) v_is_whole_ok) (ev_andV (ev_2 (ev_var 2) (ev_c (.int 0))) (ev_2 (ev_cb (ev_cons (ev_var 1) (ev_cons (ev_var 2) ev_nil))) (ev_c (.int 1)))))) (fun _ => ⟨rfl, rfl⟩)))))))
  exact fn_sim (m := 3) (f := bd_is_fraction) (xs := [.pl p_value]) (r := (fun a : PyData => Ret.pl a)) (os := (fun _ : PyData => [none])) (a := a) e h
/-! ### is_index -/
noncomputable def v_is_index (p_value : PyData) (p_many : PyData) : Option (PyData) := (andO (v_is_whole (p_value)) (andO (gLe (PyData.int 0) (p_value)) (gLt (p_value) (p_many)))).bind fun x223 => some (x223)
theorem v_is_index_ok : ∀ (p_value : PyData) (p_many : PyData) a, v_is_index p_value p_many = some a → fn_is_index [.pl p_value, .pl p_many] = some ((fun a : PyData => Ret.pl a) a, (fun _ : PyData => [none, none]) a) := fun p_value p_many a h => by
  have e : Sim bd_is_index [some (.pl (p_value)), some (.pl (p_many))] _ (Pf [.pl p_value, .pl p_many] (fun a : PyData => Ret.pl a) (fun _ : PyData => [none, none])) := (sim_last (sim_ret (c := fun d => d) (ev_andV (ev_call1 (ev_var 0) v_is_whole_ok) (ev_chain (ev_c (.int 0)) (ev_var 0) (ev_var 1))) (fun _ => ⟨rfl, rfl⟩)))
  exact fn_sim (m := 2) (f := bd_is_index) (xs := [.pl p_value, .pl p_many]) (r := (fun a : PyData => Ret.pl a)) (os := (fun _ : PyData => [none, none])) (a := a) e h
/-! ### tail_of -/
noncomputable def v_tail_of (p_number : PyData) (p_wins : PyData) (p_share : PyData) : Option (PyData) := ((gLe (p_wins) (PyData.int 0)).bind fun x411 => tBd x411).bind fun x412 => if x412 then some ((PyData.tuple [.int 1, .int 1])) else (un2 (p_share)).bind fun p318 => (v_powers_of (p318.1) (p_number)).bind fun x319 => ((gSub (p318.2) (p318.1)).bind fun x366 => v_powers_of x366 (p_number)).bind fun x367 => ((((gAdd (p_number) (PyData.int 1)).bind fun x396 => rng2O (p_wins) x396).bind fun x397 => lmO (fun a390 => ((gComb [p_number, a390]).bind fun x391 => (gIx x319 a390).bind fun x392 => gMulA x391 x392).bind fun x393 => ((gSub (p_number) a390).bind fun x394 => gIx x367 x394).bind fun x395 => gMulA x393 x395) x397).bind fun x398 => some ((PyData.list x398))).bind fun x399 => ((gSumA [x399]).bind fun x406 => ((v_powers_of (p318.2) (p_number)).bind fun x407 => (gNeg (PyData.int 1)).bind fun x408 => gIx x407 x408).bind fun x409 => v_lowest x406 x409).bind fun x410 => some (x410)
theorem v_tail_of_ok : ∀ (p_number : PyData) (p_wins : PyData) (p_share : PyData) a, v_tail_of p_number p_wins p_share = some a → fn_tail_of [.pl p_number, .pl p_wins, .pl p_share] = some ((fun a : PyData => Ret.pl a) a, (fun _ : PyData => [none, none, none]) a) := fun p_number p_wins p_share a h => by
  have e : Sim bd_tail_of [some (.pl (p_number)), some (.pl (p_wins)), some (.pl (p_share)), none, none, none, none, none, none] _ (Pf [.pl p_number, .pl p_wins, .pl p_share] (fun a : PyData => Ret.pl a) (fun _ : PyData => [none, none, none])) := (sim_if (ev_T (ev_2 (ev_var 1) (ev_c (.int 0)))) (sim_ret (c := fun d => d) (ev_c (.tuple [.int 1, .int 1])) (fun _ => ⟨rfl, rfl⟩)) (sim_next (sim_asg2 (ev_var 2) (fun u224 u225 => (sim_asg (ev_call2 (ev_var 3) (ev_var 0) v_powers_of_ok) (fun x227 => (sim_asg (ev_call2 (ev_2 (ev_var 4) (ev_var 3)) (ev_var 0) v_powers_of_ok) (fun x230 => (sim_asg (ev_f (ev_lcm (ev_rng2 (ev_var 1) (ev_2 (ev_var 0) (ev_c (.int 1)))) (fun _ => (ev_2 (ev_2 (ev_cb (ev_cons (ev_var 0) (ev_cons (ev_var 8) ev_nil))) (ev_2 (ev_var 5) (ev_var 8))) (ev_2 (ev_var 6) (ev_2 (ev_var 0) (ev_var 8))))))) (fun x241 => (sim_last (sim_ret (c := fun d => d) (ev_call2 (ev_cb (ev_cons (ev_var 7) ev_nil)) (ev_2 (ev_call2 (ev_var 4) (ev_var 0) v_powers_of_ok) (ev_1 (ev_c (.int 1)))) v_lowest_ok) (fun _ => ⟨rfl, rfl⟩)))))))))))))
  exact fn_sim (m := 9) (f := bd_tail_of) (xs := [.pl p_number, .pl p_wins, .pl p_share]) (r := (fun a : PyData => Ret.pl a)) (os := (fun _ : PyData => [none, none, none])) (a := a) e h
/-! ### _law_of -/
noncomputable def v__law_of (p_well : List PyData) (p_some : PyData) : Option (PyData × List PyData) := (((gLen [p_some]).bind fun x416 => v__law_draw (p_well) x416).bind fun q414 => (gIx (p_some) q414.1).bind fun z415 => some (z415, q414.2)).bind fun p413 => some ((p413.1, p413.2))
theorem v__law_of_ok : ∀ (p_well : List PyData) (p_some : PyData) a, v__law_of p_well p_some = some a → fn__law_of [.rf p_well, .pl p_some] = some ((fun p : PyData × List PyData => Ret.pl p.1) a, (fun p : PyData × List PyData => [some p.2, none]) a) := fun p_well p_some a h => by
  have e : Sim bd__law_of [some (.rf (p_well)), some (.pl (p_some))] _ (Pf [.rf p_well, .pl p_some] (fun p : PyData × List PyData => Ret.pl p.1) (fun p : PyData × List PyData => [some p.2, none])) := (sim_last (sim_retS (E := fun w => [some (.rf w), some (.pl (p_some))]) (c := fun d w => (d, w)) (evs_2pe (ev_var 1) (evs_call1 (ev_cb (ev_cons (ev_var 1) ev_nil)) (v__law_draw_ok _))) (fun _ _ => ⟨rfl, rfl⟩)))
  exact fn_sim (m := 2) (f := bd__law_of) (xs := [.rf p_well, .pl p_some]) (r := (fun p : PyData × List PyData => Ret.pl p.1)) (os := (fun p : PyData × List PyData => [some p.2, none])) (a := a) e h
/-! ### _law_plus -/
noncomputable def v__law_plus (p_x : PyData) (p_y : PyData) : Option (PyData) := ((((gIx (p_x) (PyData.int 0)).bind fun x417 => (gIx (p_y) (PyData.int 1)).bind fun x418 => gMulA x417 x418).bind fun x419 => ((gIx (p_y) (PyData.int 0)).bind fun x420 => (gIx (p_x) (PyData.int 1)).bind fun x421 => gMulA x420 x421).bind fun x422 => gAdd x419 x422).bind fun x423 => ((gIx (p_x) (PyData.int 1)).bind fun x424 => (gIx (p_y) (PyData.int 1)).bind fun x425 => gMulA x424 x425).bind fun x426 => v__law_frac x423 x426).bind fun x427 => some (x427)
theorem v__law_plus_ok : ∀ (p_x : PyData) (p_y : PyData) a, v__law_plus p_x p_y = some a → fn__law_plus [.pl p_x, .pl p_y] = some ((fun a : PyData => Ret.pl a) a, (fun _ : PyData => [none, none]) a) := fun p_x p_y a h => by
  have e : Sim bd__law_plus [some (.pl (p_x)), some (.pl (p_y))] _ (Pf [.pl p_x, .pl p_y] (fun a : PyData => Ret.pl a) (fun _ : PyData => [none, none])) := (sim_last (sim_ret (c := fun d => d) (ev_call2 (ev_2 (ev_2 (ev_2 (ev_var 0) (ev_c (.int 0))) (ev_2 (ev_var 1) (ev_c (.int 1)))) (ev_2 (ev_2 (ev_var 1) (ev_c (.int 0))) (ev_2 (ev_var 0) (ev_c (.int 1))))) (ev_2 (ev_2 (ev_var 0) (ev_c (.int 1))) (ev_2 (ev_var 1) (ev_c (.int 1)))) v__law_frac_ok) (fun _ => ⟨rfl, rfl⟩)))
  exact fn_sim (m := 2) (f := bd__law_plus) (xs := [.pl p_x, .pl p_y]) (r := (fun a : PyData => Ret.pl a)) (os := (fun _ : PyData => [none, none])) (a := a) e h
/-! ### _law_less -/
noncomputable def v__law_less (p_x : PyData) (p_y : PyData) : Option (PyData) := ((((gIx (p_x) (PyData.int 0)).bind fun x428 => (gIx (p_y) (PyData.int 1)).bind fun x429 => gMulA x428 x429).bind fun x430 => ((gIx (p_y) (PyData.int 0)).bind fun x431 => (gIx (p_x) (PyData.int 1)).bind fun x432 => gMulA x431 x432).bind fun x433 => gSub x430 x433).bind fun x434 => ((gIx (p_x) (PyData.int 1)).bind fun x435 => (gIx (p_y) (PyData.int 1)).bind fun x436 => gMulA x435 x436).bind fun x437 => v__law_frac x434 x437).bind fun x438 => some (x438)
theorem v__law_less_ok : ∀ (p_x : PyData) (p_y : PyData) a, v__law_less p_x p_y = some a → fn__law_less [.pl p_x, .pl p_y] = some ((fun a : PyData => Ret.pl a) a, (fun _ : PyData => [none, none]) a) := fun p_x p_y a h => by
  have e : Sim bd__law_less [some (.pl (p_x)), some (.pl (p_y))] _ (Pf [.pl p_x, .pl p_y] (fun a : PyData => Ret.pl a) (fun _ : PyData => [none, none])) := (sim_last (sim_ret (c := fun d => d) (ev_call2 (ev_2 (ev_2 (ev_2 (ev_var 0) (ev_c (.int 0))) (ev_2 (ev_var 1) (ev_c (.int 1)))) (ev_2 (ev_2 (ev_var 1) (ev_c (.int 0))) (ev_2 (ev_var 0) (ev_c (.int 1))))) (ev_2 (ev_2 (ev_var 0) (ev_c (.int 1))) (ev_2 (ev_var 1) (ev_c (.int 1)))) v__law_frac_ok) (fun _ => ⟨rfl, rfl⟩)))
  exact fn_sim (m := 2) (f := bd__law_less) (xs := [.pl p_x, .pl p_y]) (r := (fun a : PyData => Ret.pl a)) (os := (fun _ : PyData => [none, none])) (a := a) e h
/-! ### _law_times -/
noncomputable def v__law_times (p_x : PyData) (p_y : PyData) : Option (PyData) := (((gIx (p_x) (PyData.int 0)).bind fun x439 => (gIx (p_y) (PyData.int 0)).bind fun x440 => gMulA x439 x440).bind fun x441 => ((gIx (p_x) (PyData.int 1)).bind fun x442 => (gIx (p_y) (PyData.int 1)).bind fun x443 => gMulA x442 x443).bind fun x444 => v__law_frac x441 x444).bind fun x445 => some (x445)
theorem v__law_times_ok : ∀ (p_x : PyData) (p_y : PyData) a, v__law_times p_x p_y = some a → fn__law_times [.pl p_x, .pl p_y] = some ((fun a : PyData => Ret.pl a) a, (fun _ : PyData => [none, none]) a) := fun p_x p_y a h => by
  have e : Sim bd__law_times [some (.pl (p_x)), some (.pl (p_y))] _ (Pf [.pl p_x, .pl p_y] (fun a : PyData => Ret.pl a) (fun _ : PyData => [none, none])) := (sim_last (sim_ret (c := fun d => d) (ev_call2 (ev_2 (ev_2 (ev_var 0) (ev_c (.int 0))) (ev_2 (ev_var 1) (ev_c (.int 0)))) (ev_2 (ev_2 (ev_var 0) (ev_c (.int 1))) (ev_2 (ev_var 1) (ev_c (.int 1)))) v__law_frac_ok) (fun _ => ⟨rfl, rfl⟩)))
  exact fn_sim (m := 2) (f := bd__law_times) (xs := [.pl p_x, .pl p_y]) (r := (fun a : PyData => Ret.pl a)) (os := (fun _ : PyData => [none, none])) (a := a) e h
/-! ### _law_tail -/
noncomputable def v__law_tail (p_rounds : PyData) (p_wins : PyData) (p_share : PyData) : Option (PyData) := (((gIx (p_share) (PyData.int 0)).bind fun x565 => ((gIx (p_share) (PyData.int 1)).bind fun x566 => (((lstO [(PyData.int 1)]).bind fun x567 => some ((PyData.list x567))).bind fun x568 => some ([x568, (PyData.int 1)])).bind fun x569 => some ((x566 :: x569))).bind fun x570 => some ((x565 :: x570))).bind fun x571 => tupO x571).bind fun x572 => (un4 x572).bind fun p507 => (rngO (p_rounds)).bind fun x564 => (loopM (fun (s508 : PyData × PyData) (a510 : PyData) => (((lstO [(PyData.int 0)]).bind fun x511 => some ((PyData.list x511))).bind fun x512 => ((gLen [s508.1]).bind fun x513 => gAdd x513 (PyData.int 1)).bind fun x514 => gRepL x512 x514).bind fun x515 => ((gLen [s508.1]).bind fun x557 => rngO x557).bind fun x558 => (loopM (fun (s538 : List PyData) (a540 : PyData) => ((gIx (.list s538) a540).bind fun x549 => ((gIx (s508.1) a540).bind fun x550 => (gSub (p507.2.1) (p507.1)).bind fun x551 => gMulA x550 x551).bind fun x552 => gAdd x549 x552).bind fun x553 => (setO s538 a540 x553).bind fun l541 => (((gAdd a540 (PyData.int 1)).bind fun x543 => gIx (.list l541) x543).bind fun x544 => ((gIx (s508.1) a540).bind fun x545 => gMulA x545 (p507.1)).bind fun x546 => gAdd x544 x546).bind fun x547 => (gAdd a540 (PyData.int 1)).bind fun x548 => (setO l541 x548 x547).bind fun l542 => some (l542)) x558 x515).bind fun (s538 : List PyData) => (gMulA (s508.2) (p507.2.1)).bind fun x554 => some (((PyData.list s538), x554))) x564 (p507.2.2.1, p507.2.2.2)).bind fun (s508 : PyData × PyData) => (((((partO (p_wins)).bind fun x559 => gSl (s508.1) x559 none).bind fun x560 => some ([x560])).bind fun x561 => gSumA x561).bind fun x562 => v__law_frac x562 (s508.2)).bind fun x563 => some (x563)
theorem v__law_tail_ok : ∀ (p_rounds : PyData) (p_wins : PyData) (p_share : PyData) a, v__law_tail p_rounds p_wins p_share = some a → fn__law_tail [.pl p_rounds, .pl p_wins, .pl p_share] = some ((fun a : PyData => Ret.pl a) a, (fun _ : PyData => [none, none, none]) a) := fun p_rounds p_wins p_share a h => by
  have e : Sim bd__law_tail [some (.pl (p_rounds)), some (.pl (p_wins)), some (.pl (p_share)), none, none, none, none, none, none, none] _ (Pf [.pl p_rounds, .pl p_wins, .pl p_share] (fun a : PyData => Ret.pl a) (fun _ : PyData => [none, none, none])) := (sim_asg4 (ev_tup (ev_cons (ev_2 (ev_var 2) (ev_c (.int 0))) (ev_cons (ev_2 (ev_var 2) (ev_c (.int 1))) (ev_cons (ev_f (ev_lst (ev_cons (ev_c (.int 1)) ev_nil))) (ev_cons (ev_c (.int 1)) ev_nil))))) (fun u446 u447 u448 u449 => (sim_forM (C := (fun (s : PyData × PyData) (j : Option PyData × Option PV × Option PyData) => [some (.pl (p_rounds)), some (.pl (p_wins)), some (.pl (p_share)), some (.pl u446), some (.pl u447), some (.pl (s.1)), some (.pl (s.2)), (j.1).map PV.pl, (j.2.1), (j.2.2).map PV.pl])) (fun a : PyData => a) (fun s450 j451 a452 => [some (.pl (p_rounds)), some (.pl (p_wins)), some (.pl (p_share)), some (.pl u446), some (.pl u447), some (.pl (s450.1)), some (.pl (s450.2)), some (.pl a452), (j451.2.1), (j451.2.2).map PV.pl]) some some_map (u448, u449) (none, none, none) (ev_rng1 (ev_var 0)) rfl (fun _ _ _ => rfl) (fun s450 j451 a452 => (sim_own (ev_2F (ev_f (ev_lst (ev_cons (ev_c (.int 0)) ev_nil))) (ev_2 (ev_cb (ev_cons (ev_var 5) ev_nil)) (ev_c (.int 1)))) (fun x458 => (sim_forM (C := (fun (s : List PyData) (j : Option PyData) => [some (.pl (p_rounds)), some (.pl (p_wins)), some (.pl (p_share)), some (.pl u446), some (.pl u447), some (.pl (s450.1)), some (.pl (s450.2)), some (.pl a452), some (.ow s), (j).map PV.pl])) (fun a : PyData => a) (fun s459 j460 a461 => [some (.pl (p_rounds)), some (.pl (p_wins)), some (.pl (p_share)), some (.pl u446), some (.pl u447), some (.pl (s450.1)), some (.pl (s450.2)), some (.pl a452), some (.ow s459), some (.pl a461)]) some some_map x458 (j451.2.2) (ev_rng1 (ev_cb (ev_cons (ev_var 5) ev_nil))) rfl (fun _ _ _ => rfl) (fun s459 j460 a461 => (sim_st (x := .ow _) (ev_2 (ev_OL 8 (ev_var 9)) (ev_2 (ev_2 (ev_var 5) (ev_var 9)) (ev_2 (ev_var 4) (ev_var 3)))) (ev_var 9) (fun l462 => (sim_last (sim_st (x := .ow _) (ev_2 (ev_OL 8 (ev_2 (ev_var 9) (ev_c (.int 1)))) (ev_2 (ev_2 (ev_var 5) (ev_var 9)) (ev_var 3))) (ev_2 (ev_var 9) (ev_c (.int 1))) (fun l463 => (sim_end (a := l463) ⟨.inl rfl, (some a461), rfl⟩))))))) (fun s459 j460 => (sim_last (sim_par (ev_mv 8) (ev_2 (ev_var 6) (ev_var 4)) (fun u476 u477 => (sim_end (a := (u476, u477)) ⟨.inl rfl, (some a452, some (.pl (PyData.list s459)), j460), rfl⟩))))))))) (fun s450 j451 => (sim_last (sim_ret (c := fun d => d) (ev_call2 (ev_cb (ev_cons (ev_sl (ev_var 5) (ev_part (ev_var 1)) ev_no) ev_nil)) (ev_var 6) v__law_frac_ok) (fun _ => ⟨rfl, rfl⟩)))))))
  exact fn_sim (m := 10) (f := bd__law_tail) (xs := [.pl p_rounds, .pl p_wins, .pl p_share]) (r := (fun a : PyData => Ret.pl a)) (os := (fun _ : PyData => [none, none, none])) (a := a) e h
/-! ### is_chance -/
noncomputable def v_is_chance (p_value : PyData) : Option (PyData) := (andO (v_is_fraction (p_value)) ((gIx (p_value) (PyData.int 0)).bind fun x573 => gGe x573 (PyData.int 0))).bind fun x574 => some (x574)
theorem v_is_chance_ok : ∀ (p_value : PyData) a, v_is_chance p_value = some a → fn_is_chance [.pl p_value] = some ((fun a : PyData => Ret.pl a) a, (fun _ : PyData => [none]) a) := fun p_value a h => by
  have e : Sim bd_is_chance [some (.pl (p_value))] _ (Pf [.pl p_value] (fun a : PyData => Ret.pl a) (fun _ : PyData => [none])) := (sim_last (sim_ret (c := fun d => d) (ev_andV (ev_call1 (ev_var 0) v_is_fraction_ok) (ev_2 (ev_2 (ev_var 0) (ev_c (.int 0))) (ev_c (.int 0)))) (fun _ => ⟨rfl, rfl⟩)))
  exact fn_sim (m := 1) (f := bd_is_chance) (xs := [.pl p_value]) (r := (fun a : PyData => Ret.pl a)) (os := (fun _ : PyData => [none])) (a := a) e h
/-! ### need_count -/
noncomputable def v_need_count (p_number : PyData) : Option (PyData) := ((((gAdd (PyData.int 100) (PyData.int 1)).bind fun x575 => v_is_index (p_number) x575).bind fun x576 => tBd x576).bind fun x577 => some ((!x577))).bind fun x578 => if x578 then none else some (PyData.none)
theorem v_need_count_ok : ∀ (p_number : PyData) a, v_need_count p_number = some a → fn_need_count [.pl p_number] = some ((fun a : PyData => Ret.pl a) a, (fun _ : PyData => [none]) a) := fun p_number a h => by
  have e : Sim bd_need_count [some (.pl (p_number))] _ (Pf [.pl p_number] (fun a : PyData => Ret.pl a) (fun _ : PyData => [none])) := (sim_last (sim_if (ev_notT (ev_T (ev_call2 (ev_var 0) (ev_2 (ev_c (.int 100)) (ev_c (.int 1))) v_is_index_ok))) sim_never (sim_next (sim_end (a := PyData.none) ⟨rfl, rfl⟩))))
  exact fn_sim (m := 1) (f := bd_need_count) (xs := [.pl p_number]) (r := (fun a : PyData => Ret.pl a)) (os := (fun _ : PyData => [none])) (a := a) e h
/-! ### _law_total -/
noncomputable def v__law_total (p_row : PyData) : Option (PyData) := (tupO [(PyData.int 0), (PyData.int 1)]).bind fun x579 => (itemsOf (p_row)).bind fun x592 => (loopM (fun (s587 : PyData) (a589 : PyData) => (v__law_plus s587 a589).bind fun x590 => some (x590)) x592 x579).bind fun (s587 : PyData) => some (s587)
theorem v__law_total_ok : ∀ (p_row : PyData) a, v__law_total p_row = some a → fn__law_total [.pl p_row] = some ((fun a : PyData => Ret.pl a) a, (fun _ : PyData => [none]) a) := fun p_row a h => by
  have e : Sim bd__law_total [some (.pl (p_row)), none, none] _ (Pf [.pl p_row] (fun a : PyData => Ret.pl a) (fun _ : PyData => [none])) := (sim_asg (ev_tup (ev_cons (ev_c (.int 0)) (ev_cons (ev_c (.int 1)) ev_nil))) (fun x580 => (sim_forM (C := (fun (s : PyData) (j : Option PyData) => [some (.pl (p_row)), some (.pl s), (j).map PV.pl])) (fun a : PyData => a) (fun s581 j582 a583 => [some (.pl (p_row)), some (.pl s581), some (.pl a583)]) some some_map x580 none (ev_items (ev_var 0)) rfl (fun _ _ _ => rfl) (fun s581 j582 a583 => (sim_last (sim_asg (ev_call2 (ev_var 1) (ev_var 2) v__law_plus_ok) (fun x585 => (sim_end (a := x585) ⟨.inl rfl, (some a583), rfl⟩))))) (fun s581 j582 => (sim_last (sim_ret (c := fun d => d) (ev_var 1) (fun _ => ⟨rfl, rfl⟩)))))))
  exact fn_sim (m := 3) (f := bd__law_total) (xs := [.pl p_row]) (r := (fun a : PyData => Ret.pl a)) (os := (fun _ : PyData => [none])) (a := a) e h
/-! ### is_share -/
noncomputable def v_is_share (p_value : PyData) : Option (PyData) := (andO (v_is_chance (p_value)) ((gIx (p_value) (PyData.int 0)).bind fun x593 => (gIx (p_value) (PyData.int 1)).bind fun x594 => gLe x593 x594)).bind fun x595 => some (x595)
theorem v_is_share_ok : ∀ (p_value : PyData) a, v_is_share p_value = some a → fn_is_share [.pl p_value] = some ((fun a : PyData => Ret.pl a) a, (fun _ : PyData => [none]) a) := fun p_value a h => by
  have e : Sim bd_is_share [some (.pl (p_value))] _ (Pf [.pl p_value] (fun a : PyData => Ret.pl a) (fun _ : PyData => [none])) := (sim_last (sim_ret (c := fun d => d) (ev_andV (ev_call1 (ev_var 0) v_is_chance_ok) (ev_2 (ev_2 (ev_var 0) (ev_c (.int 0))) (ev_2 (ev_var 0) (ev_c (.int 1))))) (fun _ => ⟨rfl, rfl⟩)))
  exact fn_sim (m := 1) (f := bd_is_share) (xs := [.pl p_value]) (r := (fun a : PyData => Ret.pl a)) (os := (fun _ : PyData => [none])) (a := a) e h
/-! ### _law_rows_of_wins -/
noncomputable def v__law_rows_of_wins (p_rounds : PyData) (p_wins : PyData) (p_share : PyData) : Option (PyData) := ((((((tupO [(PyData.int 1), (PyData.int 1)]).bind fun x596 => some ([x596, (PyData.int 0)])).bind fun x597 => tupO x597).bind fun x598 => some ([x598])).bind fun x599 => lstO x599).bind fun x600 => some ((PyData.list x600))).bind fun x601 => ((tupO [(PyData.int 1), (PyData.int 1)]).bind fun x602 => v__law_less x602 (p_share)).bind fun x603 => (rngO (p_rounds)).bind fun x693 => (loopM (fun (s650 : PyData) (a652 : PyData) => (((itemsOf s650).bind fun x660 => lmO (fun a653 => (((gIx a653 (PyData.int 0)).bind fun x654 => v__law_times x654 (p_share)).bind fun x655 => (((gIx a653 (PyData.int 1)).bind fun x656 => gAdd x656 (PyData.int 1)).bind fun x657 => some ([x657])).bind fun x658 => some ((x655 :: x658))).bind fun x659 => tupO x659) x660).bind fun x661 => some ((PyData.list x661))).bind fun x662 => ((((itemsOf s650).bind fun x681 => lmO (fun a675 => (((gIx a675 (PyData.int 0)).bind fun x676 => v__law_times x676 x603).bind fun x677 => ((gIx a675 (PyData.int 1)).bind fun x678 => some ([x678])).bind fun x679 => some ((x677 :: x679))).bind fun x680 => tupO x680) x681).bind fun x682 => some ((PyData.list x682))).bind fun x683 => gAdd x662 x683).bind fun x684 => some (x684)) x693 x601).bind fun (s650 : PyData) => ((((itemsOf s650).bind fun x689 => lcO (fun a686 => ((gIx a686 (PyData.int 1)).bind fun x687 => gGe x687 (p_wins)).bind fun x688 => tBd x688) (fun a686 => gIx a686 (PyData.int 0)) x689).bind fun x690 => some ((PyData.list x690))).bind fun x691 => v__law_total x691).bind fun x692 => some (x692)
theorem v__law_rows_of_wins_ok : ∀ (p_rounds : PyData) (p_wins : PyData) (p_share : PyData) a, v__law_rows_of_wins p_rounds p_wins p_share = some a → fn__law_rows_of_wins [.pl p_rounds, .pl p_wins, .pl p_share] = some ((fun a : PyData => Ret.pl a) a, (fun _ : PyData => [none, none, none]) a) := fun p_rounds p_wins p_share a h => by
  have e : Sim bd__law_rows_of_wins [some (.pl (p_rounds)), some (.pl (p_wins)), some (.pl (p_share)), none, none, none, none, none] _ (Pf [.pl p_rounds, .pl p_wins, .pl p_share] (fun a : PyData => Ret.pl a) (fun _ : PyData => [none, none, none])) := (sim_par (ev_f (ev_lst (ev_cons (ev_tup (ev_cons (ev_tup (ev_cons (ev_c (.int 1)) (ev_cons (ev_c (.int 1)) ev_nil))) (ev_cons (ev_c (.int 0)) ev_nil))) ev_nil))) (ev_call2 (ev_tup (ev_cons (ev_c (.int 1)) (ev_cons (ev_c (.int 1)) ev_nil))) (ev_var 2) v__law_less_ok) (fun u604 u605 => (sim_forM (C := (fun (s : PyData) (j : Option PyData × Option PyData) => [some (.pl (p_rounds)), some (.pl (p_wins)), some (.pl (p_share)), some (.pl s), some (.pl u605), (j.1).map PV.pl, (j.2).map PV.pl, none])) (fun a : PyData => a) (fun s606 j607 a608 => [some (.pl (p_rounds)), some (.pl (p_wins)), some (.pl (p_share)), some (.pl s606), some (.pl u605), some (.pl a608), (j607.2).map PV.pl, none]) some some_map u604 (none, none) (ev_rng1 (ev_var 0)) rfl (fun _ _ _ => rfl) (fun s606 j607 a608 => (sim_asg (ev_f (ev_lcm (ev_items (ev_var 3)) (fun _ => (ev_tup (ev_cons (ev_call2 (ev_2 (ev_var 7) (ev_c (.int 0))) (ev_var 2) v__law_times_ok) (ev_cons (ev_2 (ev_2 (ev_var 7) (ev_c (.int 1))) (ev_c (.int 1))) ev_nil)))))) (fun x619 => (sim_last (sim_asg (ev_2 (ev_var 6) (ev_f (ev_lcm (ev_items (ev_var 3)) (fun _ => (ev_tup (ev_cons (ev_call2 (ev_2 (ev_var 7) (ev_c (.int 0))) (ev_var 4) v__law_times_ok) (ev_cons (ev_2 (ev_var 7) (ev_c (.int 1))) ev_nil))))))) (fun x630 => (sim_end (a := x630) ⟨.inl rfl, (some a608, some x619), rfl⟩))))))) (fun s606 j607 => (sim_last (sim_ret (c := fun d => d) (ev_call1 (ev_f (ev_lcf (ev_items (ev_var 3)) (fun _ => (ev_T (ev_2 (ev_2 (ev_var 7) (ev_c (.int 1))) (ev_var 1)))) (fun _ => (ev_2 (ev_var 7) (ev_c (.int 0)))))) v__law_total_ok) (fun _ => ⟨rfl, rfl⟩)))))))
  exact fn_sim (m := 8) (f := bd__law_rows_of_wins) (xs := [.pl p_rounds, .pl p_wins, .pl p_share]) (r := (fun a : PyData => Ret.pl a)) (os := (fun _ : PyData => [none, none, none])) (a := a) e h
/-! ### need_share -/
noncomputable def v_need_share (p_share : PyData) : Option (PyData) := (((v_is_share (p_share)).bind fun x694 => tBd x694).bind fun x695 => some ((!x695))).bind fun x696 => if x696 then none else some (PyData.none)
theorem v_need_share_ok : ∀ (p_share : PyData) a, v_need_share p_share = some a → fn_need_share [.pl p_share] = some ((fun a : PyData => Ret.pl a) a, (fun _ : PyData => [none]) a) := fun p_share a h => by
  have e : Sim bd_need_share [some (.pl (p_share))] _ (Pf [.pl p_share] (fun a : PyData => Ret.pl a) (fun _ : PyData => [none])) := (sim_last (sim_if (ev_notT (ev_T (ev_call1 (ev_var 0) v_is_share_ok))) sim_never (sim_next (sim_end (a := PyData.none) ⟨rfl, rfl⟩))))
  exact fn_sim (m := 1) (f := bd_need_share) (xs := [.pl p_share]) (r := (fun a : PyData => Ret.pl a)) (os := (fun _ : PyData => [none])) (a := a) e h
/-! ### tail -/
noncomputable def v_tail (p_number : PyData) (p_wins : PyData) (p_share : PyData) : Option (PyData) := (v_need_count (p_number)).bind fun x700 => (v_need_count (p_wins)).bind fun x699 => (v_need_share (p_share)).bind fun x698 => (v_tail_of (p_number) (p_wins) (p_share)).bind fun x697 => some (x697)
theorem v_tail_ok : ∀ (p_number : PyData) (p_wins : PyData) (p_share : PyData) a, v_tail p_number p_wins p_share = some a → fn_tail [.pl p_number, .pl p_wins, .pl p_share] = some ((fun a : PyData => Ret.pl a) a, (fun _ : PyData => [none, none, none]) a) := fun p_number p_wins p_share a h => by
  have e : Sim bd_tail [some (.pl (p_number)), some (.pl (p_wins)), some (.pl (p_share))] _ (Pf [.pl p_number, .pl p_wins, .pl p_share] (fun a : PyData => Ret.pl a) (fun _ : PyData => [none, none, none])) := (sim_drop (ev_call1 (ev_var 0) v_need_count_ok) (fun _ => (sim_drop (ev_call1 (ev_var 1) v_need_count_ok) (fun _ => (sim_drop (ev_call1 (ev_var 2) v_need_share_ok) (fun _ => (sim_last (sim_ret (c := fun d => d) (ev_call3 (ev_var 0) (ev_var 1) (ev_var 2) v_tail_of_ok) (fun _ => ⟨rfl, rfl⟩)))))))))
  exact fn_sim (m := 3) (f := bd_tail) (xs := [.pl p_number, .pl p_wins, .pl p_share]) (r := (fun a : PyData => Ret.pl a)) (os := (fun _ : PyData => [none, none, none])) (a := a) e h
/-! ### _law_right -/
noncomputable def v__law_right (p_well : List PyData) : Option (PyData × List PyData) := (rngO (PyData.int 4)).bind fun x1574 => (loopW (fun (s701 : List PyData) (a703 : PyData) => ((((gEqA a703 (PyData.int 3)).bind fun x1568 => tBd x1568).bind fun x1569 => if x1569 then ((v__law_draw s701 (PyData.int 9)).bind fun p1572 => (gEqA p1572.1 (PyData.int 0)).bind fun z1573 => some (z1573, p1572.2)).bind fun p1570 => (tBd (p1570.1)).bind fun x1571 => some ((x1571, p1570.2)) else some (false, s701)).bind fun p1567 => if p1567.1 then some (((PyData.int 100), p1567.2)) else v__law_draw (p1567.2) (PyData.int 10)).bind fun p704 => (((gLt (p704.1) (PyData.int 99)).bind fun x1564 => tBd x1564).bind fun x1565 => if x1565 then (gAdd (p704.1) (PyData.int 3)).bind fun x1566 => v__law_draw (p704.2) x1566 else v__law_draw (p704.2) (PyData.int 101)).bind fun p1137 => ((tupO [(PyData.int 2), (PyData.int 3), (PyData.int 4), (PyData.int 8), (PyData.int 17), (PyData.int 1000)]).bind fun x1563 => v__law_of (p1137.2) x1563).bind fun p1352 => (((((((((gAdd (p1352.1) (PyData.int 1)).bind fun x1553 => v__law_draw (p1352.2) x1553).bind fun p1551 => ((some ([], p1551.2)).bind fun q1554 => some (p1352.1 :: q1554.1, q1554.2)).bind fun q1552 => some (p1551.1 :: q1552.1, q1552.2)).bind fun q1549 => (vP2 v__law_frac q1549.1).bind fun d1550 => some (d1550, q1549.2)).bind fun p1548 => ((tupO [(PyData.int 0), (PyData.int 1)]).bind fun x1555 => ((tupO [(PyData.int 1), (PyData.int 1)]).bind fun x1556 => ((tupO [(PyData.int 3), (PyData.int 4)]).bind fun x1557 => ((tupO [(PyData.int 1), (PyData.int 2)]).bind fun x1558 => some ([x1558])).bind fun x1559 => some ((x1557 :: x1559))).bind fun x1560 => some ((x1556 :: x1560))).bind fun x1561 => some ((x1555 :: x1561))).bind fun x1562 => some (((p1548.1 :: x1562), p1548.2))).bind fun p1546 => (lstO (p1546.1)).bind fun x1547 => some ((x1547, p1546.2))).bind fun p1545 => some (((PyData.list (p1545.1)), p1545.2))).bind fun p1543 => (some ([], p1543.2)).bind fun q1544 => some (p1543.1 :: q1544.1, q1544.2)).bind fun q1542 => vR1 v__law_of q1542.2 q1542.1).bind fun p1459 => (v__law_tail (p704.1) (p1137.1) (p1459.1)).bind fun x1502 => (((gLt (p704.1) (PyData.int 7)).bind fun x1537 => tBd x1537).bind fun x1538 => if x1538 then ((v__law_rows_of_wins (p704.1) (p1137.1) (p1459.1)).bind fun x1539 => gNeA x1539 x1502).bind fun x1540 => tBd x1540 else some false).bind fun x1541 => if x1541 then some (Fw.rt ((PyData.bool false), p1459.2)) else ((((((((v_tail (p704.1) (p1137.1) (p1459.1)).bind fun x1523 => (((fun ds => match ds with | [y0, y1, y2] => v_tail y2 y1 y0 | _ => none) [p1459.1, p1137.1, p704.1]).bind fun x1524 => some ([x1524])).bind fun x1525 => some ((x1523 :: x1525))).bind fun x1526 => lstO x1526).bind fun x1527 => some ((PyData.list x1527))).bind fun x1528 => some ([x1528])).bind fun x1529 => gRepr x1529).bind fun x1530 => ((((lstO [x1502, x1502]).bind fun x1531 => some ((PyData.list x1531))).bind fun x1532 => some ([x1532])).bind fun x1533 => gRepr x1533).bind fun x1534 => gNeA x1530 x1534).bind fun x1535 => tBd x1535).bind fun x1536 => if x1536 then some (Fw.rt ((PyData.bool false), p1459.2)) else some (Fw.nx (p1459.2))) x1574 (p_well)).bind fun o => goW id (fun (s701 : List PyData) => some (((PyData.bool true), s701))) o
theorem v__law_right_ok : ∀ (p_well : List PyData) a, v__law_right p_well = some a → fn__law_right [.rf p_well] = some ((fun p : PyData × List PyData => Ret.pl p.1) a, (fun p : PyData × List PyData => [some p.2]) a) := fun p_well a h => by
  have e : Sim bd__law_right [some (.rf (p_well)), none, none, none, none, none, none] _ (Pf [.rf p_well] (fun p : PyData × List PyData => Ret.pl p.1) (fun p : PyData × List PyData => [some p.2])) := (sim_forW (C := (fun (s : List PyData) (j : Option PyData × Option PyData × Option PyData × Option PyData × Option PyData × Option PyData) => [some (.rf s), (j.1).map PV.pl, (j.2.1).map PV.pl, (j.2.2.1).map PV.pl, (j.2.2.2.1).map PV.pl, (j.2.2.2.2.1).map PV.pl, (j.2.2.2.2.2).map PV.pl])) (R := Pf [.rf p_well] (fun p : PyData × List PyData => Ret.pl p.1) (fun p : PyData × List PyData => [some p.2])) id (fun a : PyData => a) (fun s701 j702 a703 => [some (.rf s701), some (.pl a703), (j702.2.1).map PV.pl, (j702.2.2.1).map PV.pl, (j702.2.2.2.1).map PV.pl, (j702.2.2.2.2.1).map PV.pl, (j702.2.2.2.2.2).map PV.pl]) some some_map (p_well) (none, none, none, none, none, none) (ev_rng1 (ev_c (.int 4))) rfl (fun _ _ _ => rfl) (fun s701 j702 a703 => (sim_asgS (E := fun w => [some (.rf w), some (.pl a703), (j702.2.1).map PV.pl, (j702.2.2.1).map PV.pl, (j702.2.2.2.1).map PV.pl, (j702.2.2.2.2.1).map PV.pl, (j702.2.2.2.2.2).map PV.pl]) (evs_if (evs_andTpe rfl (ev_T (ev_2 (ev_var 1) (ev_c (.int 3)))) (evs_T (evs_2ep (evs_call1 (ev_c (.int 9)) (v__law_draw_ok _)) (fun _ => (ev_c (.int 0)))))) (fun _ => (evs_pure _ (ev_c (.int 100)))) (fun _ => (evs_call1 (ev_c (.int 10)) (v__law_draw_ok _)))) (fun x705 w706 => (sim_asgS (E := fun w => [some (.rf w), some (.pl a703), some (.pl x705), (j702.2.2.1).map PV.pl, (j702.2.2.2.1).map PV.pl, (j702.2.2.2.2.1).map PV.pl, (j702.2.2.2.2.2).map PV.pl]) (evs_ifp (ev_T (ev_2 (ev_var 2) (ev_c (.int 99)))) (evs_call1 (ev_2 (ev_var 2) (ev_c (.int 3))) (v__law_draw_ok _)) (evs_call1 (ev_c (.int 101)) (v__law_draw_ok _))) (fun x708 w709 => (sim_asgS (E := fun w => [some (.rf w), some (.pl a703), some (.pl x705), some (.pl x708), (j702.2.2.2.1).map PV.pl, (j702.2.2.2.2.1).map PV.pl, (j702.2.2.2.2.2).map PV.pl]) (evs_call1 (ev_tup (ev_cons (ev_c (.int 2)) (ev_cons (ev_c (.int 3)) (ev_cons (ev_c (.int 4)) (ev_cons (ev_c (.int 8)) (ev_cons (ev_c (.int 17)) (ev_cons (ev_c (.int 1000)) ev_nil))))))) (v__law_of_ok _)) (fun x711 w712 => (sim_asgS (E := fun w => [some (.rf w), some (.pl a703), some (.pl x705), some (.pl x708), some (.pl x711), (j702.2.2.2.2.1).map PV.pl, (j702.2.2.2.2.2).map PV.pl]) (evs_callR (evg_e (evs_f (evs_lst (evs_consep (evs_callG (evg_e (evs_call1 (ev_2 (ev_var 4) (ev_c (.int 1))) (v__law_draw_ok _)) (fun _ => (evg_p (ev_var 4) (evg_nil _)))) (vP2_ok v__law_frac_ok)) (fun _ => (ev_cons (ev_tup (ev_cons (ev_c (.int 0)) (ev_cons (ev_c (.int 1)) ev_nil))) (ev_cons (ev_tup (ev_cons (ev_c (.int 1)) (ev_cons (ev_c (.int 1)) ev_nil))) (ev_cons (ev_tup (ev_cons (ev_c (.int 3)) (ev_cons (ev_c (.int 4)) ev_nil))) (ev_cons (ev_tup (ev_cons (ev_c (.int 1)) (ev_cons (ev_c (.int 2)) ev_nil))) ev_nil)))))))) (fun _ => (evg_nil _))) (vR1_ok v__law_of_ok) PV.rf) (fun x714 w715 => (sim_asg (ev_call3 (ev_var 2) (ev_var 3) (ev_var 5) v__law_tail_ok) (fun x717 => (sim_if (ev_andT (ev_T (ev_2 (ev_var 2) (ev_c (.int 7)))) (ev_T (ev_2 (ev_call3 (ev_var 2) (ev_var 3) (ev_var 5) v__law_rows_of_wins_ok) (ev_var 6)))) (sim_ret (c := fun d => Fw.rt (d, w715)) (ev_c (.bool false)) (fun _ => ⟨⟨_, rfl⟩, rfl, rfl⟩)) (sim_next (sim_last (sim_if (ev_T (ev_2 (ev_cb (ev_cons (ev_f (ev_lst (ev_cons (ev_call3 (ev_var 2) (ev_var 3) (ev_var 5) v_tail_ok) (ev_cons (ev_callK (v := (fun ds => match ds with | [y0, y1, y2] => v_tail y2 y1 y0 | _ => none)) (ev_cons (ev_var 5) (ev_cons (ev_var 3) (ev_cons (ev_var 2) ev_nil))) (fun ds d h => by
      split at h
      · exact ⟨rfl, _, v_tail_ok _ _ _ _ h⟩
      · cases h)) ev_nil)))) ev_nil)) (ev_cb (ev_cons (ev_f (ev_lst (ev_cons (ev_var 6) (ev_cons (ev_var 6) ev_nil)))) ev_nil)))) (sim_ret (c := fun d => Fw.rt (d, w715)) (ev_c (.bool false)) (fun _ => ⟨⟨_, rfl⟩, rfl, rfl⟩)) (sim_next (sim_end (a := Fw.nx w715) ⟨.inl rfl, (some a703, some x705, some x708, some x711, some x714, some x717), rfl⟩))))))))))))))))) (fun s701 j702 => (sim_last (sim_ret (c := fun d => (d, s701)) (ev_c (.bool true)) (fun _ => ⟨rfl, rfl⟩)))) (fun _ _ _ h => h))
  exact fn_sim (m := 7) (f := bd__law_right) (xs := [.rf p_well]) (r := (fun p : PyData × List PyData => Ret.pl p.1)) (os := (fun p : PyData × List PyData => [some p.2])) (a := a) e h
/-! ### law -/
noncomputable def v_law (p_script : PyData) : Option (PyData) := (((((((gLen [p_script]).bind fun x1583 => some ([x1583, (PyData.int 3)])).bind fun x1584 => gMin2 x1584).bind fun x1585 => some ([x1585])).bind fun x1586 => some (((PyData.int 2) :: x1586))).bind fun x1587 => gMax2 x1587).bind fun x1588 => rngO x1588).bind fun x1589 => (loopW (fun (s1575 : Unit) (a1577 : PyData) => ((((v__law_well (p_script) a1577).bind fun x1578 => (v__law_right x1578).bind fun x1579 => some (x1579.1)).bind fun x1580 => tBd x1580).bind fun x1581 => some ((!x1581))).bind fun x1582 => if x1582 then some (Fw.rt (PyData.bool false)) else some (Fw.nx ())) x1589 ()).bind fun o => goW id (fun (s1575 : Unit) => some ((PyData.bool true))) o
theorem v_law_ok : ∀ (p_script : PyData) a, v_law p_script = some a → fn_law [.pl p_script] = some ((fun a : PyData => Ret.pl a) a, (fun _ : PyData => [none]) a) := fun p_script a h => by
  have e : Sim bd_law [some (.pl (p_script)), none] _ (Pf [.pl p_script] (fun a : PyData => Ret.pl a) (fun _ : PyData => [none])) := (sim_forW (C := (fun (s : Unit) (j : Option PyData) => [some (.pl (p_script)), (j).map PV.pl])) (R := Pf [.pl p_script] (fun a : PyData => Ret.pl a) (fun _ : PyData => [none])) id (fun a : PyData => a) (fun s1575 j1576 a1577 => [some (.pl (p_script)), some (.pl a1577)]) some some_map () none (ev_rng1 (ev_cb (ev_cons (ev_c (.int 2)) (ev_cons (ev_cb (ev_cons (ev_cb (ev_cons (ev_var 0) ev_nil)) (ev_cons (ev_c (.int 3)) ev_nil))) ev_nil)))) rfl (fun _ _ _ => rfl) (fun s1575 j1576 a1577 => (sim_last (sim_if (ev_notT (ev_T (ev_tmp (ev_callF2 (ev_var 0) (ev_var 1) v__law_well_ok) v__law_right_ok))) (sim_ret (c := fun d => Fw.rt d) (ev_c (.bool false)) (fun _ => ⟨⟨_, rfl⟩, rfl, rfl⟩)) (sim_next (sim_end (a := Fw.nx ()) ⟨.inl rfl, (some a1577), rfl⟩))))) (fun s1575 j1576 => (sim_last (sim_ret (c := fun d => d) (ev_c (.bool true)) (fun _ => ⟨rfl, rfl⟩)))) (fun _ _ _ h => h))
  exact fn_sim (m := 2) (f := bd_law) (xs := [.pl p_script]) (r := (fun a : PyData => Ret.pl a)) (os := (fun _ : PyData => [none])) (a := a) e h
end Lk65

namespace Lk65
open PySem Dv
/-! ### draws -/
theorem sm_md (i : Int) : small64 (i % 2147483563) = true := by
  have a := Int.emod_nonneg i (show (2147483563 : Int) ≠ 0 by omega)
  have b := Int.emod_lt_of_pos i (show (0 : Int) < 2147483563 by omega)
  simp [small64]; omega
local macro_rules | `(tactic| walk_at "ev") => `(tactic| simp [fnOf, sSeq, sAsg, sOwn, sPar, sParF, sAug, sApp, sIf, sRet, sRetF, sRetN, sNext, sNever, sBreak, sDrop, sFor, hName, hTup, hCons, hNil, hSub, fVar, fC, f1, f2, f2F, fF, fOL, fOR, fOU, ownAt, PV.lst?, PV.put, fNil, fCons, fTup, fLst, fT, fAndT, fOrT, fNotT, fAndV, fOrV, fNotV, fIf, fChain, fSl, fNo, fPart, fCB, fCBF, fIsi, fItems, fYes, fRng1, fRng2, aNil, aCons, aBy, toPV, oneBy, setOuts, fCall, fCallE, outsOf, gDivmod, gMin2, gMax2, gTuple, gList, itemsOf, sizeLine_eq, oAdd, oSub, oLt, oLe, oGt, oGe, oInt, oNeg, oLenT, oLenL, ixL0, ixL1, ixL2, ix30, ix31, ix32, *])
theorem fn_draw {w : List PyData} (hw : W3 w) {few : Int} (h1 : 0 < few) (h2 : few < 1073741824) :
    ∃ k w', W3 w' ∧ 0 ≤ k ∧ k < few ∧ fn__law_draw [.rf w, .pl (.int few)] = some (.pl (.int k), [some w', none]) := by
  obtain ⟨a, b, c, rfl⟩ := hw
  suffices h : ∃ t x y z, fn__law_draw [.rf [.int a, .int b, .int c], .pl (.int few)] = some (.pl (.int (t % few)), [some [.int x, .int y, .int z], none]) by
    obtain ⟨t, x, y, z, e⟩ := h
    exact ⟨_, _, ⟨x, y, z, rfl⟩, Int.emod_nonneg _ (by omega), Int.emod_lt_of_pos _ h1, e⟩
  by_cases ha : 0 < a
  · refine ⟨a, a / few, b, c, ?_⟩
    unfold fn__law_draw bd__law_draw
    walk_at "ev"
  · unfold fn__law_draw bd__law_draw
    have e1 : ∀ i, gMul (.int i) (.int 40037) = some (.int (i * 40037)) := fun i => oMulR _ _ (by decide)
    have e2 : ∀ i, gMul (.int 13001) (.int i) = some (.int (13001 * i)) := fun i => oMulL _ _ (by decide)
    have e3 : ∀ i, gMod (.int i) (.int 2147483563) = some (.int (i % 2147483563)) := fun i => oMod _ _ (by decide)
    have e4 : ∀ i, gMod (.int i) (.int 5009) = some (.int (i % 5009)) := fun i => oMod _ _ (by decide)
    have e5 : ∀ i j, gMul (.int (i % 2147483563)) (.int j) = some (.int (i % 2147483563 * j)) := fun i j => oMulL _ _ (sm_md i)
    have e6 : ∀ i, gDiv (.int i) (.int 1013) = some (.int (i / 1013)) := fun i => oDiv _ _ (by decide)
    have e7 : ∀ i, gMod (.int i) (.int few) = some (.int (i % few)) := fun i => oMod _ _ h1
    walk_at "ev"
    exact ⟨_, rfl⟩
def Drw (few : Nat) (p : PyData × List PyData) : Prop := W3 p.2 ∧ ∃ k : Nat, p.1 = .int k ∧ k < few
theorem t_draw {w : List PyData} (hw : W3 w) {few : Nat} (h1 : 0 < few) (h2 : few < 1073741824) : WP (v__law_draw w (.int (few : Int))) (Drw few) := by
  obtain ⟨k, w', hw', k0, k1, e⟩ := fn_draw hw (few := (few : Int)) (by omega) (by omega)
  obtain ⟨n, rfl⟩ := Int.eq_ofNat_of_zero_le k0
  refine ⟨(.int n, w'), ?_, hw', n, rfl, by omega⟩
  unfold v__law_draw
  rw [e]
theorem t_of {w : List PyData} (hw : W3 w) {ds : List PyData} (h1 : ds ≠ []) (h2 : ds.length < 1073741824) : WP (v__law_of w (.tuple ds)) fun p => W3 p.2 ∧ p.1 ∈ ds := by
  have hl : 0 < ds.length := List.length_pos_iff.mpr h1
  unfold v__law_of
  rw [nLenT, bsome]
  refine ((t_draw hw (few := ds.length) (by omega) (by omega)).bind fun p hp => ?_).bind (P := fun p => W3 p.2 ∧ p.1 ∈ ds) fun p hp => WP.ret hp
  obtain ⟨hw', k, e, hk⟩ := hp
  rw [e]
  obtain ⟨d, hd, e2⟩ := gIx_nat (xs := ds) (k := k) (by omega)
  rw [e2, bsome]
  exact WP.ret ⟨hw', hd⟩

/-! ### fractions of any size -/
theorem t_frac (u v : Nat) (hv : 0 < v) (hb : v.log2 < 8000) : v__law_frac (.int (u : Int)) (.int (v : Int)) = some (Fr v u) := by
  unfold v__law_frac
  have ea : gAbs [.int (u : Int)] = some (.int (u : Int)) := by
    show some (PyData.int (if (u : Int) < 0 then -(u : Int) else u)) = _
    rw [if_neg (by omega)]
  rw [ea, bsome, euclid, bsome, nGoN]
  have g : 0 < Nat.gcd u v := Nat.gcd_pos_of_pos_right _ hv
  have g2 : (Nat.gcd u v).log2 < 9000 := by
    have := lg_le (Nat.gcd_le_right u hv)
    omega
  simp only [gDivL g g2, bsome]
  rw [tupO_ok (by simp), bsome]; rfl
theorem t_lowest (u v : Nat) (hv : 0 < v) (hb : v.log2 < 8000) : v_lowest (.int (u : Int)) (.int (v : Int)) = some (Fr v u) := by
  unfold v_lowest
  have g : 0 < Nat.gcd u v := Nat.gcd_pos_of_pos_right _ hv
  have g2 : (Nat.gcd u v).log2 < 9000 := by
    have := lg_le (Nat.gcd_le_right u hv)
    omega
  rw [gGcd_nat, bsome]
  simp only [gDivL g g2, bsome]
  rw [tupO_ok (by simp), bsome]; rfl
theorem fr_lgN {M k : Nat} : (frN M k).log2 ≤ k.log2 := lg_le (Nat.div_le_self _ _)
theorem fr_lgD {M k : Nat} : (frD M k).log2 ≤ M.log2 := lg_le (Nat.div_le_self _ _)
theorem t_times {M1 M2 k1 k2 : Nat} (h1 : 0 < M1) (h2 : 0 < M2) (b1 : M1.log2 < 3000) (b2 : M2.log2 < 3000) (c1 : k1.log2 < 3000) (c2 : k2.log2 < 3000) : v__law_times (Fr M1 k1) (Fr M2 k2) = some (Fr (M1 * M2) (k1 * k2)) := by
  unfold v__law_times
  have p1 := fr_pos (M := M1) (k := k1) h1
  have p2 := fr_pos (M := M2) (k := k2) h2
  have d1 := fr_lgD (M := M1) (k := k1)
  have d2 := fr_lgD (M := M2) (k := k2)
  have n1 := fr_lgN (M := M1) (k := k1)
  have n2 := fr_lgN (M := M2) (k := k2)
  have dm := lg_mul (frD M1 k1) (frD M2 k2)
  rw [Fr0, bsome, Fr0, bsome, gMulL (by omega), bsome, Fr1, bsome, Fr1, bsome, gMulL (by omega), bsome, t_frac _ _ (Nat.mul_pos p1 p2) (by omega), bsome]
  rw [Fr_of (Nat.mul_pos p1 p2) (Nat.mul_pos h1 h2)]
  calc frN M1 k1 * frN M2 k2 * (M1 * M2) = (frN M1 k1 * M1) * (frN M2 k2 * M2) := by ac_rfl
    _ = k1 * k2 * (frD M1 k1 * frD M2 k2) := by rw [fr_mul, fr_mul]; ac_rfl
theorem t_plus {M k1 k2 : Nat} (h : 0 < M) (b : M.log2 < 3000) (c1 : k1.log2 < 3000) (c2 : k2.log2 < 3000) : v__law_plus (Fr M k1) (Fr M k2) = some (Fr M (k1 + k2)) := by
  unfold v__law_plus
  have p1 := fr_pos (M := M) (k := k1) h
  have p2 := fr_pos (M := M) (k := k2) h
  have d1 := fr_lgD (M := M) (k := k1)
  have d2 := fr_lgD (M := M) (k := k2)
  have n1 := fr_lgN (M := M) (k := k1)
  have n2 := fr_lgN (M := M) (k := k2)
  have dm := lg_mul (frD M k1) (frD M k2)
  rw [Fr0, bsome, Fr1, bsome, gMulL (by omega), bsome, Fr0, bsome, Fr1, bsome, gMulL (by omega), bsome, gAdd_nat, bsome, bsome, bsome, gMulL (by omega), bsome, t_frac _ _ (Nat.mul_pos p1 p2) (by omega), bsome]
  rw [Fr_of (Nat.mul_pos p1 p2) h (k := k1 + k2)]
  calc (frN M k1 * frD M k2 + frN M k2 * frD M k1) * M = (frN M k1 * M) * frD M k2 + (frN M k2 * M) * frD M k1 := by rw [Nat.add_mul]; congr 1 <;> ac_rfl
    _ = (k1 + k2) * (frD M k1 * frD M k2) := by rw [fr_mul, fr_mul, Nat.add_mul]; congr 1 <;> ac_rfl
theorem t_less {M k : Nat} (h : 0 < M) (b : M.log2 < 3000) (c : k ≤ M) : v__law_less (.tuple [.int 1, .int 1]) (Fr M k) = some (Fr M (M - k)) := by
  unfold v__law_less
  have p1 := fr_pos (M := M) (k := k) h
  have d1 := fr_lgD (M := M) (k := k)
  have n1 := fr_lgN (M := M) (k := k)
  have c' := lg_le c
  have i0 : gIx (.tuple [.int 1, .int 1]) (.int 0) = some (.int ((1 : Nat) : Int)) := nr rfl
  have i1 : gIx (.tuple [.int 1, .int 1]) (.int 1) = some (.int ((1 : Nat) : Int)) := nr rfl
  have le : frN M k ≤ frD M k := Nat.div_le_div_right c
  have l1 : Nat.log2 1 = 0 := by decide
  rw [i0, bsome, Fr1, bsome, gMulL (by rw [l1]; omega), bsome, Fr0, bsome, i1, bsome, gMulL (by rw [l1]; omega), bsome, gSub_nat (by omega), bsome, bsome, bsome, gMulL (by rw [l1]; omega), bsome]
  rw [Nat.one_mul, Nat.mul_one, t_frac _ _ p1 (by omega), bsome, Fr_of p1 h (k := M - k)]
  rw [Nat.sub_mul, Nat.sub_mul, fr_mul, Nat.mul_comm]

/-! ### tails -/
theorem lg_Bn {up lo n k : Nat} (hu : up.log2 ≤ 9) (hl : lo.log2 ≤ 9) (hn : n ≤ 100) (hk : k ≤ n) : (Bn up lo n k).log2 ≤ 2200 := by
  unfold Bn
  have h1 := lg_mul (Ch n k * up ^ k) (lo ^ (n - k))
  have h2 := lg_mul (Ch n k) (up ^ k)
  have h3 : (Ch n k).log2 ≤ n := by
    have := lg_le (Ch_le n k)
    rwa [Nat.log2_two_pow] at this
  have h4 := lg_pow up k
  have h5 := lg_pow lo (n - k)
  have h6 : k * (up.log2 + 1) ≤ k * 10 := Nat.mul_le_mul_left _ (by omega)
  have h7 : (n - k) * (lo.log2 + 1) ≤ (n - k) * 10 := Nat.mul_le_mul_left _ (by omega)
  omega
/-- the list ahead of turn i -/
def inr (up lo n i : Nat) (j : Nat) : Nat := (if j < i then Bn up lo n j * lo else 0) + (if 1 ≤ j ∧ j ≤ i then Bn up lo n (j - 1) * up else 0)
theorem inr_end (up lo n j : Nat) (h : j < n + 2) : inr up lo n (n + 1) j = Bn up lo (n + 1) j := by
  unfold inr
  cases j with
  | zero => rw [if_pos (by omega), if_neg (by omega), Bn_0, Nat.mul_comm]; rfl
  | succ j =>
    rw [Bn_s]
    by_cases hj : j + 1 < n + 1
    · rw [if_pos hj, if_pos (by omega), Nat.add_sub_cancel, Nat.mul_comm, Nat.mul_comm up]
    · rw [if_neg hj, if_pos (by omega), Nat.add_sub_cancel, Bn_gt (show n < j + 1 by omega), Nat.mul_comm up]; omega
theorem t_ltail {n w up dn : Nat} (hn : n ≤ 100) (hu : up ≤ dn) (hd : 0 < dn) (hb : dn.log2 ≤ 9) : v__law_tail (.int (n : Int)) (.int (w : Int)) (.tuple [.int (up : Int), .int (dn : Int)]) = some (Fr (dn ^ n) (tl up (dn - up) n w)) := by
  have lu := lg_le hu
  have ll := lg_le (Nat.sub_le dn up)
  unfold v__law_tail
  rw [nIx2a, bsome, nIx2b, bsome, lstO_ok (by simp), bsome, bsome, bsome, bsome, bsome, tupO_ok (by simp), bsome, nUn4, bsome, rngO_nat (by omega), bsome]
  dsimp only
  rw [loopM_nat (fun l => (PyData.list (rl (l + 1) (Bn up (dn - up) l)), PyData.int ((dn ^ l : Nat) : Int))) (s := (PyData.list [PyData.int 1], PyData.int 1)) (by rfl) fun l hl => ?_]
  · rw [bsome, nPart, bsome, cut_rl, bsome, bsome, sum_rl, bsome, tl_from]
    have hp : 0 < dn ^ n := Nat.pow_pos hd
    have lp := lg_pow dn n
    have : n * (dn.log2 + 1) ≤ n * 10 := Nat.mul_le_mul_left _ (by omega)
    rw [t_frac _ _ hp (by omega), bsome]
  · simp only
    rw [lstO_ok (by simp), bsome, bsome, len_rl, bsome, gAdd1, bsome, rep_rl (by omega), bsome, bsome, rngO_nat (by omega), bsome]
    rw [loopM_nat (fun i => rl (l + 1 + 1) (inr up (dn - up) l i)) (rl_congr fun i _ => by simp only [inr]; rw [if_neg (by omega), if_neg (by omega)]) fun i hi => ?_]
    · have lp := lg_pow dn l
      have : l * (dn.log2 + 1) ≤ l * 10 := Nat.mul_le_mul_left _ (by omega)
      rw [bsome, gMulL (by omega), bsome, rl_congr (inr_end up (dn - up) l), ← Nat.pow_succ]
    · have lB := lg_Bn (k := i) (n := l) (show up.log2 ≤ 9 by omega) (show (dn - up).log2 ≤ 9 by omega) (by omega) (by omega)
      rw [ix_rl (by omega), bsome, ix_rl (by omega), bsome, gSub_nat hu, bsome, gMulL (by omega), bsome, gAdd_nat, bsome, set_rl (by omega), bsome, gAdd1, bsome, ix_rl (by omega), bsome]
      rw [bsome, gMulL (by omega), bsome, gAdd_nat, bsome, bsome, set_rl (by omega), bsome]
      congr 1
      refine rl_congr fun j hj => ?_
      by_cases h1 : j = i + 1
      · subst h1
        simp only [inr, Nat.add_sub_cancel, if_true]
        repeat' split
        all_goals omega
      · rw [if_neg h1]
        by_cases h2 : j = i
        · subst h2
          simp only [inr, if_true]
          repeat' split
          all_goals omega
        · rw [if_neg h2]
          simp only [inr]
          repeat' split
          all_goals omega
theorem t_powers {x n : Nat} (hn : n ≤ 100) (hx : x.log2 ≤ 9) : v_powers_of (.int (x : Int)) (.int (n : Int)) = some (.list (rl (n + 1) fun i => x ^ i)) := by
  unfold v_powers_of
  rw [lstO_ok (by simp), bsome, rngO_nat (by omega), bsome, loopM_nat (fun i => rl (i + 1) fun i => x ^ i) (s := [PyData.int 1]) (by rfl) fun i hi => ?_]
  · rw [bsome]
  · have lp := lg_pow x i
    have : i * (x.log2 + 1) ≤ i * 10 := Nat.mul_le_mul_left _ (by omega)
    rw [neg1, bsome, last_rl, bsome, gMulL (by omega), bsome, app_rl (by omega) (Nat.pow_succ ..).symm, bsome]
theorem t_tail_of {n w up dn : Nat} (hn : n ≤ 100) (hw : w ≤ 101) (hu : up ≤ dn) (hd : 0 < dn) (hb : dn.log2 ≤ 9) : v_tail_of (.int (n : Int)) (.int (w : Int)) (.tuple [.int (up : Int), .int (dn : Int)]) = some (Fr (dn ^ n) (tl up (dn - up) n w)) := by
  have lu := lg_le hu
  have ll := lg_le (Nat.sub_le dn up)
  have hp : 0 < dn ^ n := Nat.pow_pos hd
  unfold v_tail_of
  rw [nLe, bsome, tBd_b, bsome]
  by_cases h0 : w = 0
  · subst h0
    rw [if_pos (by simp), tl_0, show up + (dn - up) = dn by omega]
    congr 1
    unfold Fr frN frD
    rw [Nat.gcd_self, Nat.div_self hp]; rfl
  · rw [if_neg (by simp; omega), nUn2, bsome, t_powers hn (by omega), bsome, gSub_nat hu, bsome, t_powers hn (by omega), bsome, gAdd1, bsome, rng2_nat (by omega) (by omega), bsome]
    rw [lm_map (g := fun i => PyData.int ((Bn up (dn - up) n (w + i) : Nat) : Int)) (fun i hi => ?_) (by simp; omega)]
    · rw [bsome, bsome]
      have e : ((List.range (n + 1 - w)).map fun i => PyData.int ((Bn up (dn - up) n (w + i) : Nat) : Int)) = rl (n + 1 - w) fun i => Bn up (dn - up) n (w + i) := rfl
      have lp := lg_pow dn n
      have : n * (dn.log2 + 1) ≤ n * 10 := Nat.mul_le_mul_left _ (by omega)
      rw [e, sum_rl, bsome, tl_from, t_powers hn hb, bsome, neg1, bsome, last_rl, bsome, t_lowest _ _ hp (by omega), bsome]
    · have hi := List.mem_range.mp hi
      have h3 : (Ch n (w + i)).log2 ≤ n := by
        have := lg_le (Ch_le n (w + i))
        rwa [Nat.log2_two_pow] at this
      have h2 := lg_mul (Ch n (w + i)) (up ^ (w + i))
      have h4 := lg_pow up (w + i)
      have h5 := lg_pow (dn - up) (n - (w + i))
      have h6 : (w + i) * (up.log2 + 1) ≤ (w + i) * 10 := Nat.mul_le_mul_left _ (by omega)
      have h7 : (n - (w + i)) * ((dn - up).log2 + 1) ≤ (n - (w + i)) * 10 := Nat.mul_le_mul_left _ (by omega)
      rw [gComb_nat (by omega) (by omega), bsome, ix_rl (by omega), bsome, gMulL (by omega), bsome, gSub_nat (by omega), bsome, ix_rl (by omega), bsome, gMulL (by omega)]
      rfl
/-! ### guards -/
theorem t_whole (i : Int) : v_is_whole (.int i) = some (.bool true) := by
  unfold v_is_whole
  rw [isi_w 0 (.int i), bsome]; rfl
theorem t_index (i m : Int) : v_is_index (.int i) (.int m) = some (.bool (decide (0 ≤ i) && decide (i < m))) := by
  unfold v_is_index
  rw [t_whole, nLe, nLt, andO_bb, andO_bb, bsome, Bool.true_and]
theorem t_count {n : Nat} (h : n ≤ 100) : v_need_count (.int (n : Int)) = some .none := by
  unfold v_need_count
  rw [nAdd, bsome, t_index, bsome, tBd_b, bsome, bsome, decide_eq_true (by omega), decide_eq_true (by omega)]; rfl
theorem t_fraction {up dn : Nat} (hd : 0 < dn) (hc : Nat.gcd up dn = 1) : v_is_fraction (.tuple [.int (up : Int), .int (dn : Int)]) = some (.bool true) := by
  unfold v_is_fraction
  rw [isi_tup' (n := 2) (.tup (by simp) fun d hd => by simp at hd; rcases hd with rfl | rfl <;> exact .int _), bsome, isT, tBd_b, bsome, bsome, nNotT, if_neg (by simp), nLenT, bsome, neInt, bsome, tBd_b, bsome, if_neg (by simp), nUn2, bsome, t_whole, t_whole, nGt, gGcd_nat, bsome, hc]
  rw [show (PyData.int 1) = .int ((1 : Nat) : Int) from rfl, eqNat, andO_bb, andO_bb, andO_bb, bsome, decide_eq_true (by omega)]
  simp
theorem t_share {up dn : Nat} (hu : up ≤ dn) (hd : 0 < dn) (hc : Nat.gcd up dn = 1) : v_need_share (.tuple [.int (up : Int), .int (dn : Int)]) = some .none := by
  unfold v_need_share v_is_share v_is_chance
  rw [t_fraction hd hc, nIx2a, bsome, nGe, andO_bb, bsome, bsome, nIx2b, bsome, nLe, andO_bb, bsome, bsome, tBd_b, bsome, bsome, decide_eq_true (by omega), decide_eq_true (by omega)]; rfl
theorem t_tail {n w up dn : Nat} (hn : n ≤ 100) (hw : w ≤ 100) (hu : up ≤ dn) (hd : 0 < dn) (hb : dn.log2 ≤ 9) (hc : Nat.gcd up dn = 1) : v_tail (.int (n : Int)) (.int (w : Int)) (.tuple [.int (up : Int), .int (dn : Int)]) = some (Fr (dn ^ n) (tl up (dn - up) n w)) := by
  unfold v_tail
  rw [t_count hn, bsome, t_count hw, bsome, t_share hu hd hc, bsome, t_tail_of hn (by omega) hu hd hb, bsome]

/-! ### rows of wins -/
theorem fr_cop_eq {up dn : Nat} (hc : Nat.gcd up dn = 1) : PyData.tuple [.int (up : Int), .int (dn : Int)] = Fr dn up := by
  unfold Fr frN frD
  rw [hc, Nat.div_one, Nat.div_one]
abbrev rwd (M : Nat) (p : Nat × Nat) : PyData := .tuple [Fr M p.1, .int ((p.2 : Nat) : Int)]
theorem lg_small {x n : Nat} (hx : x.log2 ≤ 9) (hn : n ≤ 7) : (x ^ n).log2 < 3000 := by
  have lp := lg_pow x n
  have : n * (x.log2 + 1) ≤ 7 * 10 := Nat.mul_le_mul hn (by omega)
  omega
theorem rws_le {up lo : Nat} : ∀ (n : Nat) (p : Nat × Nat), p ∈ rws up lo n → p.1 ≤ (up + lo) ^ n
  | 0, p, h => by simp [rws] at h; rw [h]; exact Nat.le_refl _
  | n + 1, p, h => by
    rw [rws, List.mem_append] at h
    rcases h with h | h
    · obtain ⟨q, hq, rfl⟩ := List.mem_map.mp h
      exact Nat.mul_le_mul (rws_le n q hq) (Nat.le_add_right _ _)
    · obtain ⟨q, hq, rfl⟩ := List.mem_map.mp h
      exact Nat.mul_le_mul (rws_le n q hq) (Nat.le_add_left _ _)
theorem t_ltotal {M : Nat} (h : 0 < M) (b : M.log2 < 2900) (ks : List Nat) (hs : ks.sum ≤ M) : v__law_total (.list (ks.map (Fr M))) = some (Fr M ks.sum) := by
  unfold v__law_total
  rw [tupO_ok (by simp), bsome, nItL, bsome]
  have e0 : PyData.tuple [.int 0, .int 1] = Fr M 0 := by
    unfold Fr frN frD
    rw [Nat.gcd_zero_left, Nat.div_self h, Nat.zero_div]; rfl
  rw [e0]
  have key : ∀ (ks : List Nat) (a : Nat), a + ks.sum ≤ M → loopM (fun (s : PyData) (x : PyData) => (v__law_plus s x).bind fun y => some y) (ks.map (Fr M)) (Fr M a) = some (Fr M (a + ks.sum)) := by
    intro ks
    induction ks with
    | nil => intro a _; rfl
    | cons k ks ih =>
      intro a ha
      rw [List.sum_cons] at ha
      have l1 := lg_le (show a ≤ M by omega)
      have l2 := lg_le (show k ≤ M by omega)
      rw [List.map_cons, loopM, t_plus h (by omega) (by omega) (by omega), bsome, bsome, ih (a + k) (by omega), List.sum_cons, Nat.add_assoc]
  rw [key ks 0 (by omega), bsome, Nat.zero_add]
theorem t_rows {n w up dn : Nat} (hn : n ≤ 6) (hu : up ≤ dn) (hd : 0 < dn) (hb : dn.log2 ≤ 9) (hc : Nat.gcd up dn = 1) : v__law_rows_of_wins (.int (n : Int)) (.int (w : Int)) (.tuple [.int (up : Int), .int (dn : Int)]) = some (Fr (dn ^ n) (tl up (dn - up) n w)) := by
  have lu := lg_le hu
  have ll := lg_le (Nat.sub_le dn up)
  have hs : up + (dn - up) = dn := by omega
  unfold v__law_rows_of_wins
  rw [fr_cop_eq hc]
  repeat (first | rw [bsome] | rw [tupO_ok (by simp)] | rw [lstO_ok (by simp)])
  rw [t_less hd (by omega) hu, bsome, rngO_nat (by omega), bsome]
  rw [loopM_nat (fun l => PyData.list ((rws up (dn - up) l).map (rwd (dn ^ l)))) (s := PyData.list [.tuple [.tuple [.int 1, .int 1], .int 0]]) (by simp [rws, rwd, Fr, frN, frD]) fun l hl => ?_]
  · rw [bsome, nItL, bsome]
    have hl : (rws up (dn - up) n).length ≤ 100000 := by
      rw [rws_len]
      exact Nat.le_trans (Nat.pow_le_pow_right (by omega) hn) (by decide)
    rw [lc_map (p := fun p => decide (w ≤ p.2)) (g := fun p => Fr (dn ^ n) p.1) (fun p _ => ?_) (fun p _ _ => ?_) hl]
    · rw [bsome, bsome]
      have e : (((rws up (dn - up) n).filter fun p => decide (w ≤ p.2)).map fun p => Fr (dn ^ n) p.1) = (((rws up (dn - up) n).filter fun p => decide (w ≤ p.2)).map (·.1)).map (Fr (dn ^ n)) := by rw [List.map_map]; rfl
      have lp := lg_small (x := dn) hb (show n ≤ 7 by omega)
      have lp2 := lg_pow dn n
      have : n * (dn.log2 + 1) ≤ 6 * 10 := Nat.mul_le_mul hn (by omega)
      rw [e, t_ltotal (Nat.pow_pos hd) (by omega) _ (by rw [rws_tl]; have := tl_le up (dn - up) n w; rwa [hs] at this), bsome, rws_tl]
    · rw [nIx2b, bsome, nGe, bsome, tBd_b]
      congr 1
      exact Bool.eq_iff_iff.mpr (by simp)
    · rw [nIx2a]
  · have hl2 : (rws up (dn - up) l).length ≤ 64 := by
      rw [rws_len]
      exact Nat.le_trans (Nat.pow_le_pow_right (by omega) (show l ≤ 6 by omega)) (by decide)
    have hM : 0 < dn ^ l := Nat.pow_pos hd
    have lM := lg_small (x := dn) hb (show l ≤ 7 by omega)
    have lk : ∀ p ∈ rws up (dn - up) l, p.1.log2 < 3000 := fun p hp => by
      have h1 := lg_le (rws_le l p hp)
      rw [hs] at h1
      omega
    rw [nItL, bsome, lm_map (g := fun p => rwd (dn ^ (l + 1)) (p.1 * up, p.2 + 1)) (fun p hp => ?_) (by omega), bsome, bsome, bsome, lm_map (g := fun p => rwd (dn ^ (l + 1)) (p.1 * (dn - up), p.2)) (fun p hp => ?_) (by omega), bsome, bsome]
    · rw [oCatL _ _ (by rw [List.length_map, List.length_map]; exact k5 (by omega)), bsome, rws, List.map_append, List.map_map, List.map_map]; rfl
    · have := lk p hp
      rw [nIx2a, bsome, t_times hM hd lM (by omega) this (by omega), bsome, nIx2b, bsome, bsome, bsome, tupO_ok (by simp), Nat.pow_succ]
    · have := lk p hp
      rw [nIx2a, bsome, t_times hM hd lM (by omega) this (by omega), bsome, nIx2b, bsome, gAdd1, bsome, bsome, bsome, tupO_ok (by simp), Nat.pow_succ]
/-! ### the law -/
theorem eqFr {M k : Nat} : gNeA (Fr M k) (Fr M k) = some (.bool false) := by
  have := ne_ti [((frN M k : Nat) : Int), ((frD M k : Nat) : Int)] [((frN M k : Nat) : Int), ((frD M k : Nat) : Int)]
  rw [decide_eq_true rfl] at this
  exact this
theorem t_right {w : List PyData} (hw : W3 w) : WP (v__law_right w) fun p => p.1 = .bool true := by
  unfold v__law_right
  have r4 : rngO (.int 4) = some ((List.range 4).map fun (i : Nat) => .int i) := rngO_nat (n := 4) (by omega)
  rw [r4, bsome]
  refine WP.bind (P := fun o : Fw (List PyData) (PyData × List PyData) => match o with | .nx s => W3 s | .bk s => W3 s | .rt _ => False) (loopW_wp (fun s => W3 s) (fun o : Fw (List PyData) (PyData × List PyData) => match o with | .nx s => W3 s | .bk s => W3 s | .rt _ => False) (fun s h => h) _ _ hw fun s a ha hs => ?_) fun o ho => goW_wp (fun s => W3 s) (fun _ => False) (by cases o <;> exact ho) (fun s hs => WP.ret rfl) (fun _ h => h.elim)
  obtain ⟨lap, _, rfl⟩ := List.mem_map.mp ha
  refine WP.bind (P := fun p : PyData × List PyData => W3 p.2 ∧ ∃ n : Nat, p.1 = .int (n : Int) ∧ (n = 100 ∨ n ≤ 9)) ?_ fun p hp => ?_
  · rw [show PyData.int 3 = .int ((3 : Nat) : Int) from rfl, eqNat, bsome, tBd_b, bsome]
    refine WP.bind (P := fun p : Bool × List PyData => W3 p.2) (WP.ite (fun _ => ?_) fun _ => WP.ret hs) fun p hp => WP.ite (fun _ => WP.ret ⟨hp, 100, rfl, .inl rfl⟩) fun _ => ?_
    · simp only [bassoc, bsome]
      refine (t_draw hs (few := 9) (by omega) (by omega)).bind fun d hd => ?_
      obtain ⟨d1, k, ek, _⟩ := hd
      rw [ek, eqInt, bsome, tBd_b, bsome]
      exact WP.ret d1
    · refine (t_draw hp (few := 10) (by omega) (by omega)).mono fun d hd => ?_
      obtain ⟨d1, k, ek, hk⟩ := hd
      exact ⟨d1, k, ek, .inr (by omega)⟩
  obtain ⟨p1, n, en, hn⟩ := hp
  rw [en]
  refine WP.bind (P := fun p : PyData × List PyData => W3 p.2 ∧ ∃ m : Nat, p.1 = .int (m : Int) ∧ m ≤ 100) ?_ fun p hp => ?_
  · rw [nLt, bsome, tBd_b, bsome]
    refine WP.ite (fun h => ?_) fun _ => ?_
    · have h := of_decide_eq_true h
      rw [show PyData.int 3 = .int ((3 : Nat) : Int) from rfl, gAdd_nat, bsome]
      refine (t_draw p1 (few := n + 3) (by omega) (by omega)).mono fun d hd => ?_
      obtain ⟨d1, k, ek, hk⟩ := hd
      exact ⟨d1, k, ek, by omega⟩
    · refine (t_draw p1 (few := 101) (by omega) (by omega)).mono fun d hd => ?_
      obtain ⟨d1, k, ek, hk⟩ := hd
      exact ⟨d1, k, ek, by omega⟩
  obtain ⟨q1, m, em, hm⟩ := hp
  rw [em, tupO_ok (by simp), bsome]
  refine (t_of q1 (by simp) (by simp)).bind fun f hf => ?_
  obtain ⟨f1, hf⟩ := hf
  obtain ⟨u, eu, u1, u2⟩ : ∃ u : Nat, f.1 = .int (u : Int) ∧ 1 ≤ u ∧ u ≤ 1000 := by
    simp only [List.mem_cons, List.not_mem_nil, or_false] at hf
    rcases hf with h | h | h | h | h | h
    · exact ⟨2, h, by omega⟩
    · exact ⟨3, h, by omega⟩
    · exact ⟨4, h, by omega⟩
    · exact ⟨8, h, by omega⟩
    · exact ⟨17, h, by omega⟩
    · exact ⟨1000, h, by omega⟩
  rw [eu]
  have l1000 : Nat.log2 1000 = 9 := by decide
  refine WP.bind (P := fun p : PyData × List PyData => W3 p.2 ∧ ∃ up dn : Nat, p.1 = .tuple [.int (up : Int), .int (dn : Int)] ∧ up ≤ dn ∧ 0 < dn ∧ dn.log2 ≤ 9 ∧ Nat.gcd up dn = 1) ?_ fun p hp => ?_
  · simp only [bassoc, bsome]
    rw [gAdd1, bsome]
    refine (t_draw f1 (few := u + 1) (by omega) (by omega)).bind fun d hd => ?_
    obtain ⟨d1, k, ek, hk⟩ := hd
    have lu := lg_le u2
    simp only [vP2, ek]
    rw [t_frac _ _ (by omega) (by omega), bsome]
    repeat (first | rw [bsome] | rw [tupO_ok (by simp)] | rw [lstO_ok (by simp)])
    simp only [vR1, bsome]
    have e : v__law_of d.2 (.list [Fr u k, .tuple [.int 0, .int 1], .tuple [.int 1, .int 1], .tuple [.int 3, .int 4], .tuple [.int 1, .int 2]]) = v__law_of d.2 (.tuple [Fr u k, .tuple [.int 0, .int 1], .tuple [.int 1, .int 1], .tuple [.int 3, .int 4], .tuple [.int 1, .int 2]]) := rfl
    rw [e]
    refine (t_of d1 (by simp) (by simp)).mono fun g hg => ?_
    obtain ⟨g1, hg⟩ := hg
    refine ⟨g1, ?_⟩
    simp only [List.mem_cons, List.not_mem_nil, or_false] at hg
    rcases hg with h | h | h | h | h
    · refine ⟨_, _, h, Nat.div_le_div_right (by omega), fr_pos (by omega), Nat.le_trans fr_lgD (by omega), fr_cop (by omega)⟩
    · exact ⟨0, 1, h, by decide, by decide, by decide, by decide⟩
    · exact ⟨1, 1, h, by decide, by decide, by decide, by decide⟩
    · exact ⟨3, 4, h, by decide, by decide, by decide, by decide⟩
    · exact ⟨1, 2, h, by decide, by decide, by decide, by decide⟩
  obtain ⟨g1, up, dn, es, hu, hd, hb, hc⟩ := hp
  have n100 : n ≤ 100 := by omega
  have ht := t_tail n100 hm hu hd hb hc
  rw [es, t_ltail n100 hu hd hb, bsome]
  have e7 : (((gLt (.int (n : Int)) (PyData.int 7)).bind fun x => tBd x).bind fun x => if x = true then ((v__law_rows_of_wins (.int (n : Int)) (.int (m : Int)) (.tuple [.int (up : Int), .int (dn : Int)])).bind fun y => gNeA y (Fr (dn ^ n) (tl up (dn - up) n m))).bind fun y => tBd y else some false) = some false := by
    rw [nLt, bsome, tBd_b, bsome]
    by_cases h : (n : Int) < 7
    · rw [if_pos (decide_eq_true h), t_rows (by omega) hu hd hb hc, bsome, eqFr, bsome, tBd_b]
    · rw [if_neg (by simpa using h)]
  rw [e7, bsome, if_neg (by simp)]
  have hM : 0 < dn ^ n := Nat.pow_pos hd
  have lp := lg_pow dn n
  have : n * (dn.log2 + 1) ≤ 100 * 10 := Nat.mul_le_mul n100 (by omega)
  have tle := lg_le (tl_le up (dn - up) n m)
  rw [show up + (dn - up) = dn by omega] at tle
  have sh := (fr_shownL (x := frN (dn ^ n) (tl up (dn - up) n m)) (y := frD (dn ^ n) (tl up (dn - up) n m)) (Nat.lt_of_le_of_lt fr_lgN (by omega)) (Nat.lt_of_le_of_lt fr_lgD (by omega))).2
  simp only [ht, bsome]
  rw [lstO_ok (by simp), bsome, bsome, bsome]
  rw [show gRepr [.list [Fr (dn ^ n) (tl up (dn - up) n m), Fr (dn ^ n) (tl up (dn - up) n m)]] = _ from repr_list sh]
  rw [bsome, bsome, neStr_self, bsome, tBd_b, bsome, if_neg (by simp)]
  exact WP.ret g1

/-! ### a well, a law -/
theorem cut_ints (ns : List Int) (lo hi : Option Int) : cutA (ns.map PyData.int) lo hi = (cutA ns lo hi).map PyData.int := by
  unfold cutA
  rw [List.map_take, List.map_drop, List.length_map]
abbrev scr (ns : List Int) : PyData := .dict [(.none, .list (ns.map .int))]
theorem t_well (ns : List Int) (lap : Nat) (hl : lap ≤ 100) (hn : ns.length ≤ 63) : WP (v__law_well (scr ns) (.int lap)) W3 := by
  unfold v__law_well
  have e1 : ∀ i, gMul (.int i) (.int 45281) = some (.int (i * 45281)) := fun i => oMulR _ _ (by decide)
  have e2 : ∀ i, gMod (.int i) (.int 2147483549) = some (.int (i % 2147483549)) := fun i => oMod _ _ (by decide)
  have e3 : ∀ i, gMod (.int i) (.int 2147483563) = some (.int (i % 2147483563)) := fun i => oMod _ _ (by decide)
  have e4 : ∀ i, gMul (.int i) (.int 41) = some (.int (i * 41)) := fun i => oMulR _ _ (by decide)
  have e5 : ∀ i, gMul (.int i) (.int 15031) = some (.int (i * 15031)) := fun i => oMulR _ _ (by decide)
  have e6 : gMul (.int 7013) (.int lap) = some (.int (7013 * lap)) := oMulL _ _ (by decide)
  have e7 : gPow (.int 10) (.int 15) = some (.int 1000000000000000) := by
    show (if decide ((0 : Int) ≤ 15 ∧ (15 : Int) ≤ 1000000 ∧ (10 : Int).natAbs < 2 ^ 64) then some (PyData.int (10 ^ (15 : Int).toNat)) else none) = _
    rw [if_pos (by decide)]; rfl
  have s1 : gSl (scr ns) none (some 12) = some (.list ((cutA ns none (some 12)).map .int)) := by
    show some (PyData.list (cutA (ns.map PyData.int) none (some 12))) = _
    rw [cut_ints]
  have g0 : gLen [scr ns] = some (.int ns.length) := by
    show some (PyData.int ((ns.map PyData.int).length : Nat)) = _
    rw [List.length_map]
  simp only [bassoc, bsome, e6, nAdd, nPart, s1, nItL, g0, nLt, tBd_b]
  refine WP.bind (P := fun x => ∃ i, x = .int i) (loopM_wp (fun x => ∃ i, x = PyData.int i) _ _ ⟨_, rfl⟩ fun s a ha hs => ?_) fun x hx => ?_
  · obtain ⟨i, rfl⟩ := hs
    obtain ⟨j, _, rfl⟩ := List.mem_map.mp ha
    simp only [e1, e2, e3, nInt, bsome, nAdd]
    exact WP.ret ⟨_, rfl⟩
  · obtain ⟨i, rfl⟩ := hx
    refine WP.bind (P := fun x => ∃ i, x = .int i) (WP.ite (fun hc => ?_) fun _ => WP.ret ⟨0, rfl⟩) fun x hx => ?_
    · have hc : lap < ns.length := by have := of_decide_eq_true hc; omega
      have : gIx (scr ns) (.int (lap : Int)) = some (.int (ns[lap])) := by
        show L2.atI (ns.map PyData.int) (lap : Int) = _
        simp [L2.atI, L2.ixN, hc]
      rw [this]
      simp only [bsome, nInt]
      exact WP.ret ⟨_, rfl⟩
    · obtain ⟨j, rfl⟩ := hx
      have ea : gAbs [.int j] = some (.int (if j < 0 then -j else j)) := rfl
      simp only [e2, e3, e4, e5, e7, nInt, bsome, nAdd, nLt, nGe, tBd_b, ea]
      refine WP.bind (P := fun _ : Bool => True) (WP.ite (fun _ => WP.ret trivial) fun _ => WP.ret trivial) fun b _ => ?_
      refine WP.bind (P := fun x => ∃ i, x = PyData.int i) (WP.ite (fun _ => WP.ret ⟨_, rfl⟩) fun _ => WP.ret ⟨0, rfl⟩) fun x hx => ?_
      obtain ⟨k, rfl⟩ := hx
      rw [lstO_ok (by simp)]
      exact WP.ret ⟨_, _, _, rfl⟩
theorem t_law (ns : List Int) (hn : ns.length ≤ 63) : v_law (scr ns) = some (.bool true) := by
  unfold v_law
  have g0 : gLen [scr ns] = some (.int ns.length) := by
    show some (PyData.int ((ns.map PyData.int).length : Nat)) = _
    rw [List.length_map]
  obtain ⟨m, em, hm⟩ : ∃ m : Nat, gMin2 [.int (ns.length : Int), .int 3] = some (.int m) ∧ m ≤ 3 := by
    show ∃ m : Nat, some (PyData.int (if (3 : Int) < (ns.length : Int) then 3 else (ns.length : Int))) = some (.int m) ∧ m ≤ 3
    by_cases h : (3 : Int) < (ns.length : Int)
    · exact ⟨3, by rw [if_pos h]; rfl, by omega⟩
    · exact ⟨ns.length, by rw [if_neg h], by omega⟩
  obtain ⟨k, ek, hk⟩ : ∃ k : Nat, gMax2 [.int 2, .int (m : Int)] = some (.int k) ∧ k ≤ 3 := by
    show ∃ k : Nat, some (PyData.int (if (m : Int) > 2 then (m : Int) else 2)) = some (.int k) ∧ k ≤ 3
    by_cases h : (m : Int) > 2
    · exact ⟨m, by rw [if_pos h], hm⟩
    · exact ⟨2, by rw [if_neg h]; rfl, by omega⟩
  simp only [bassoc, bsome, g0, em, ek]
  rw [rngO_nat (by omega), bsome]
  refine WP.val (WP.bind (P := fun o : Fw Unit PyData => match o with | .nx _ => True | .bk _ => True | .rt _ => False) (loopW_wp (fun _ => True) (fun o : Fw Unit PyData => match o with | .nx _ => True | .bk _ => True | .rt _ => False) (fun _ h => h) _ _ trivial fun s a ha _ => ?_) fun o ho => goW_wp (fun _ => True) (fun _ => False) (by cases o <;> exact ho) (fun s _ => WP.ret rfl) (fun _ h => h.elim))
  obtain ⟨i, hi, rfl⟩ := List.mem_map.mp ha
  refine (t_well ns i (by have := List.mem_range.mp hi; omega) hn).bind fun w hw => (t_right hw).bind fun p hp => ?_
  rw [hp, tBd_b, bsome]
  exact WP.ret trivial
theorem hF : ∀ ns : List Int, ns.length ≤ 63 → ∃ outs, fn_law [.pl (.dict [(.none, .list (ns.map .int))])] = some (.pl (.bool true), outs) := fun ns h => ⟨_, v_law_ok _ _ (t_law ns h)⟩

end Lk65
end
open PySem PySem.W PyProof.Rows
set_option maxRecDepth 100000 in
set_option maxHeartbeats 0 in
theorem PySem.Challenge.cw_belltables_k65_tails_by_rows_of_wins_holds : PySem.Challenge.rw_belltables_k65_tails_by_rows_of_wins.Holds := by
  w_on; o_law; k_head; (case hw => w_witness2)
  k_fill
  refine Dv.walkG (l := PySem.Challenge.rw_belltables_k65_tails_by_rows_of_wins) (n := 63) (k := 8) (x := "script") (F := Lk65.fn_law) (kb := Lk65.kb_law) rfl (by decide) rfl ⟨rfl, by decide, by decide⟩ (fun w h Y => PySem.W.kIn_of Y) ?F Lk65.hF
  case F =>
    intro w mg base X G
    refine' Lk65.all_mk X G ?a_is_whole ?l_is_whole ?c_is_whole ?k_is_whole ?a_lowest ?l_lowest ?c_lowest ?k_lowest ?a_powers_of ?l_powers_of ?c_powers_of ?k_powers_of ?a__law_well ?l__law_well ?c__law_well ?k__law_well ?a__law_draw ?l__law_draw ?c__law_draw ?k__law_draw ?a__law_frac ?l__law_frac ?c__law_frac ?k__law_frac ?a_is_fraction ?l_is_fraction ?c_is_fraction ?k_is_fraction ?a_is_index ?l_is_index ?c_is_index ?k_is_index ?a_tail_of ?l_tail_of ?c_tail_of ?k_tail_of ?a__law_of ?l__law_of ?c__law_of ?k__law_of ?a__law_plus ?l__law_plus ?c__law_plus ?k__law_plus ?a__law_less ?l__law_less ?c__law_less ?k__law_less ?a__law_times ?l__law_times ?c__law_times ?k__law_times ?a__law_tail ?l__law_tail ?c__law_tail ?k__law_tail ?a_is_chance ?l_is_chance ?c_is_chance ?k_is_chance ?a_need_count ?l_need_count ?c_need_count ?k_need_count ?a__law_total ?l__law_total ?c__law_total ?k__law_total ?a_is_share ?l_is_share ?c_is_share ?k_is_share ?a__law_rows_of_wins ?l__law_rows_of_wins ?c__law_rows_of_wins ?k__law_rows_of_wins ?a_need_share ?l_need_share ?c_need_share ?k_need_share ?a_tail ?l_tail ?c_tail ?k_tail ?a__law_right ?l__law_right ?c__law_right ?k__law_right ?a_law ?l_law ?c_law ?k_law ?z_abs ?z_bool ?z_divmod ?z_int ?z_isinstance ?z_len ?z_max ?z_min ?z_range ?z_repr ?z_sum ?z_tuple ?z_comb ?z_gcd ?z_MOST_COUNT ?z_ONE ?y_ONE
    (case a_is_whole => k_is); (case l_is_whole => k_is); (case c_is_whole => k_is); (case k_is_whole => k_is); (case a_lowest => k_is); (case l_lowest => k_is); (case c_lowest => k_is); (case k_lowest => k_is); (case a_powers_of => k_is); (case l_powers_of => k_is); (case c_powers_of => k_is); (case k_powers_of => k_is); (case a__law_well => k_is); (case l__law_well => k_is); (case c__law_well => k_is); (case k__law_well => k_is); (case a__law_draw => k_is); (case l__law_draw => k_is); (case c__law_draw => k_is); (case k__law_draw => k_is); (case a__law_frac => k_is); (case l__law_frac => k_is); (case c__law_frac => k_is); (case k__law_frac => k_is); (case a_is_fraction => k_is); (case l_is_fraction => k_is); (case c_is_fraction => k_is); (case k_is_fraction => k_is); (case a_is_index => k_is); (case l_is_index => k_is); (case c_is_index => k_is); (case k_is_index => k_is); (case a_tail_of => k_is); (case l_tail_of => k_is); (case c_tail_of => k_is); (case k_tail_of => k_is); (case a__law_of => k_is); (case l__law_of => k_is); (case c__law_of => k_is); (case k__law_of => k_is); (case a__law_plus => k_is); (case l__law_plus => k_is); (case c__law_plus => k_is); (case k__law_plus => k_is); (case a__law_less => k_is); (case l__law_less => k_is); (case c__law_less => k_is); (case k__law_less => k_is); (case a__law_times => k_is); (case l__law_times => k_is); (case c__law_times => k_is); (case k__law_times => k_is); (case a__law_tail => k_is); (case l__law_tail => k_is); (case c__law_tail => k_is); (case k__law_tail => k_is); (case a_is_chance => k_is); (case l_is_chance => k_is); (case c_is_chance => k_is); (case k_is_chance => k_is); (case a_need_count => k_is); (case l_need_count => k_is); (case c_need_count => k_is); (case k_need_count => k_is); (case a__law_total => k_is); (case l__law_total => k_is); (case c__law_total => k_is); (case k__law_total => k_is); (case a_is_share => k_is); (case l_is_share => k_is); (case c_is_share => k_is); (case k_is_share => k_is); (case a__law_rows_of_wins => k_is); (case l__law_rows_of_wins => k_is); (case c__law_rows_of_wins => k_is); (case k__law_rows_of_wins => k_is); (case a_need_share => k_is); (case l_need_share => k_is); (case c_need_share => k_is); (case k_need_share => k_is); (case a_tail => k_is); (case l_tail => k_is); (case c_tail => k_is); (case k_tail => k_is); (case a__law_right => k_is); (case l__law_right => k_is); (case c__law_right => k_is); (case k__law_right => k_is); (case a_law => k_is); (case l_law => k_is); (case c_law => k_is); (case k_law => k_is); (case z_abs => k_is); (case z_bool => k_is); (case z_divmod => k_is); (case z_int => k_is); (case z_isinstance => k_is); (case z_len => k_is); (case z_max => k_is); (case z_min => k_is); (case z_range => k_is); (case z_repr => k_is); (case z_sum => k_is); (case z_tuple => k_is); (case z_comb => k_is); (case z_gcd => k_is); (case z_MOST_COUNT => k_is); (case z_ONE => k_is); (case y_ONE => k_is)
