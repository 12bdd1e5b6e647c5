import PyProof.Rows.All
import Wide.All
import OpenK.AllK
import Wide.FinOn
import HandS.ForMost
import HandS.Wide
import HandS.WideBits
import HandS.Gcd
import HandS.IsInst
import HandS.Defaults
import HandS.EndBits
import HandS.Head0
import HandS.Head1
import HandS.Head2
import HandS.Head3
import HandS.HeadEnd
import HandS.HeadHook1
import HandS.HeadHook2
import KE.KStateDown
import Flt.RightSqrt
import KE.KMathG
import PySem.Challenge.RW_standfast_k05_roots_to_a_side
set_option Elab.async false
set_option linter.all false
set_option maxRecDepth 100000
/-! A typed evaluation of readings: what stands still (F) within the heap (H), what a slot holds (En), what an expression gives (Rp). -/
namespace Fz
open PySem L2

structure Grow (F H F2 H2 : Hp) : Prop where
  ff : Same F F2
  hh : Same H H2
  fh : Same F2 H2
  dom : ∀ a o, F2 a = some o → F a = some o ∨ H a = none
theorem same_upd {H : Hp} {p : Addr} {o : HO} (h : H p = none) : Same H (upd H p o) := fun b x e => by
  rw [upd_ne (ne_of_none e h)]
  exact e
section
variable {F H F1 H1 F2 H2 : Hp} {p l : Addr} {o : HO}
theorem Grow.refl (h : Same F H) : Grow F H F H := ⟨Same.refl _, Same.refl _, h, fun _ _ e => .inl e⟩
theorem Grow.trans (g : Grow F H F1 H1) (k : Grow F1 H1 F2 H2) : Grow F H F2 H2 :=
  ⟨g.ff.trans k.ff, g.hh.trans k.hh, k.fh, fun a o e => (k.dom a o e).elim (fun e1 => g.dom a o e1) fun e1 => .inr (g.hh.free e1)⟩
theorem Grow.new (h : Same F H) (n : H p = none) : Grow F H (upd F p o) (upd H p o) :=
  ⟨same_upd (h.free n), same_upd n, fun a x e => by
    by_cases q : a = p
    · subst q
      rw [upd_same] at e ⊢
      exact e
    · rw [upd_ne q] at e ⊢
      exact h a x e, fun a x e => by
    by_cases q : a = p
    · subst q
      exact .inr n
    · rw [upd_ne q] at e
      exact .inl e⟩
theorem Grow.side (h : Same F H) (s : Same H H2) : Grow F H F H2 := ⟨Same.refl _, s, h.trans s, fun _ _ e => .inl e⟩
theorem Grow.mut (g : Grow F H F1 H1) (n : H l = none) (m : F1 l = none) : Grow F H F1 (upd H1 l o) :=
  ⟨g.ff, fun a x e => by
    rw [upd_ne (ne_of_none e n)]
    exact g.hh a x e, fun a x e => by
    rw [upd_ne (ne_of_none e m)]
    exact g.fh a x e, g.dom⟩
theorem Grow.freeze (g : Grow F H F1 H1) (n : H l = none) (m : F1 l = none) (e : H1 l = some o) : Grow F H (upd F1 l o) H1 :=
  ⟨fun a x q => by
    rw [upd_ne (ne_of_none (g.ff a x q) m)]
    exact g.ff a x q, g.hh, fun a x q => by
    by_cases z : a = l
    · subst z
      rw [upd_same] at q
      rw [← q]
      exact e
    · rw [upd_ne z] at q
      exact g.fh a x q, fun a x q => by
    by_cases z : a = l
    · subst z
      exact .inr n
    · rw [upd_ne z] at q
      exact g.dom a x q⟩
theorem Grow.none (g : Grow F H F1 H1) (h : ∃ o, H l = some o) (m : F l = none) : F1 l = none := by
  cases q : F1 l with
  | none => rfl
  | some o =>
    obtain ⟨o', e⟩ := h
    rcases g.dom l o q with z | z
    · rw [m] at z
      cases z
    · rw [e] at z
      cases z
theorem tup_mono {K : PySem.W.Frag} {H H' : Hp} {a : Addr} {xs : List V} (e : Same H H') (h : SqT K H a xs) : SqT K H' a xs := by
  rcases h with h | h
  · rcases h with h | ⟨o, h⟩
    · exact .inl (.inl (e a _ h))
    · exact .inl (.inr ⟨o, e a _ h⟩)
  · exact .inr h
end

/-! ### what a value is -/
structure Rp where
  ok : V → Hp → Prop
  mono : ∀ {v : V} {F F2 : Hp}, Same F F2 → ok v F → ok v F2
structure LRp where
  ok : List V → Hp → Prop
  mono : ∀ {v : List V} {F F2 : Hp}, Same F F2 → ok v F → ok v F2
def rV (v : V) : Rp := ⟨fun x _ => x = v, fun _ h => h⟩
abbrev rInt (i : Int) : Rp := rV (.int i)
abbrev rBl (b : Bool) : Rp := rV (.bl b)
abbrev rStr (s : Str) : Rp := rV (.str s)
abbrev rNon : Rp := rV .non
/-- any of these -/
def rAny : Rp := ⟨fun _ _ => True, fun _ h => h⟩
def lNil : LRp := ⟨fun vs _ => vs = [], fun _ h => h⟩
def lCons (A : Rp) (L : LRp) : LRp := ⟨fun vs F => ∃ v r, vs = v :: r ∧ A.ok v F ∧ L.ok r F, fun e ⟨v, r, h1, h2, h3⟩ => ⟨v, r, h1, A.mono e h2, L.mono e h3⟩⟩
def lAll : List Rp → LRp
  | [] => lNil
  | A :: As => lCons A (lAll As)
def rTup (K : PySem.W.Frag) (As : List Rp) : Rp := ⟨fun v F => ∃ a xs, v = .ref a ∧ SqT K F a xs ∧ (lAll As).ok xs F, fun e ⟨a, xs, h1, h2, h3⟩ => ⟨a, xs, h1, tup_mono e h2, (lAll As).mono e h3⟩⟩
def rLst (K : PySem.W.Frag) (As : List Rp) : Rp := ⟨fun v F => ∃ a xs, v = .ref a ∧ SqL K F a xs ∧ (lAll As).ok xs F, fun e ⟨a, xs, h1, h2, h3⟩ => ⟨a, xs, h1, e.seq h2, (lAll As).mono e h3⟩⟩
theorem lAll_length : ∀ {As : List Rp} {vs : List V} {F : Hp}, (lAll As).ok vs F → vs.length = As.length
  | [], _, _, h => by
    have h' : _ = [] := h
    rw [h']
    rfl
  | A :: As, _, _, h => by
    obtain ⟨v, r, rfl, _, h3⟩ := h
    show r.length + 1 = As.length + 1
    rw [lAll_length h3]
theorem lAll_get : ∀ {As : List Rp} {vs : List V} {F : Hp} {i : Nat} {A : Rp}, (lAll As).ok vs F → As[i]? = some A → ∃ v, vs[i]? = some v ∧ A.ok v F
  | [], _, _, _, _, _, h => by simp at h
  | B :: As, _, _, 0, A, h, e => by
    obtain ⟨v, r, rfl, h2, _⟩ := h
    have e' : B = A := by simpa using e
    subst e'
    exact ⟨v, rfl, h2⟩
  | B :: As, _, _, i + 1, A, h, e => by
    obtain ⟨v, r, rfl, _, h3⟩ := h
    obtain ⟨u, e1, e2⟩ := lAll_get (i := i) (A := A) h3 (by simpa using e)
    exact ⟨u, by simpa using e1, e2⟩
theorem lAll_snoc : ∀ {As : List Rp} {vs : List V} {F : Hp} {A : Rp} {v : V}, (lAll As).ok vs F → A.ok v F → (lAll (As ++ [A])).ok (vs ++ [v]) F
  | [], _, _, A, v, h, e => by
    have h' : _ = [] := h
    rw [h']
    exact ⟨v, [], rfl, e, rfl⟩
  | B :: As, _, _, A, v, h, e => by
    obtain ⟨u, r, rfl, h2, h3⟩ := h
    exact ⟨u, r ++ [v], rfl, h2, lAll_snoc h3 e⟩
theorem lAll_append : ∀ {As Bs : List Rp} {vs ws : List V} {F : Hp}, (lAll As).ok vs F → (lAll Bs).ok ws F → (lAll (As ++ Bs)).ok (vs ++ ws) F
  | [], _, _, _, _, h, e => by
    have h' : _ = [] := h
    rw [h']
    exact e
  | B :: As, _, _, _, _, h, e => by
    obtain ⟨u, r, rfl, h2, h3⟩ := h
    exact ⟨u, _, rfl, h2, lAll_append h3 e⟩
theorem lAll_int : ∀ {ns : List Int} {F : Hp}, (lAll (ns.map rInt)).ok (ns.map V.int) F
  | [], _ => rfl
  | _ :: _, _ => ⟨_, _, rfl, rfl, lAll_int⟩
theorem lAll_int_of : ∀ {ns : List Int} {vs : List V} {F : Hp}, (lAll (ns.map rInt)).ok vs F → vs = ns.map V.int
  | [], _, _, h => h
  | _ :: _, _, _, h => by
    obtain ⟨u, r, rfl, h2, h3⟩ := h
    rw [lAll_int_of h3, show u = V.int _ from h2]
    rfl

/-! ### slots -/
/-- what an object of one's own is -/
structure Mp where
  ok : Addr → HO → Hp → Prop
  mono : ∀ {l : Addr} {o : HO} {F F2 : Hp}, Same F F2 → ok l o F → ok l o F2
def mLst (As : List Rp) : Mp := ⟨fun _ o F => ∃ vs, o = .lst vs ∧ (lAll As).ok vs F, fun e ⟨vs, h1, h2⟩ => ⟨vs, h1, (lAll As).mono e h2⟩⟩
/-- shapes of objects whose places are told -/
inductive Sh where
  | lst
  | tup
  | dic (ks : List Key)
  | ins (C dx : Addr) (ns : List Str)
def Sh.mk : Sh → List V → HO
  | .lst, vs => .lst vs
  | .tup, vs => .tup vs
  | .dic ks, vs => .dK (ks.zip vs)
  | .ins C dx ns, vs => .ins C dx (ns.zip vs)
/-- an object of one's own whose place is told -/
structure Cell where
  a : Addr
  s : Sh
  As : List Rp
def CellOk (F H : Hp) (c : Cell) : Prop := ∃ vs, H c.a = some (c.s.mk vs) ∧ (lAll c.As).ok vs F
inductive En where
  | no
  | im (A : Rp)
  | mu (M : Mp)
  /-- a region: its root, and its objects -/
  | ow (r : Addr) (cs : List Cell)
  /-- a region that is only read -/
  | ro (r : Addr) (cs : List Cell)
abbrev En.ml (As : List Rp) : En := .mu (mLst As)
/-- where an object of the def's own stands -/
def Own (H0 F H : Hp) (M : Mp) (l : Addr) : Prop := H0 l = none ∧ F l = none ∧ ∃ o, H l = some o ∧ M.ok l o F
def OwnL (H0 F H : Hp) (As : List Rp) (l : Addr) : Prop := H0 l = none ∧ F l = none ∧ ∃ vs, H l = some (.lst vs) ∧ (lAll As).ok vs F
theorem Own.l {H0 F H : Hp} {As : List Rp} {l : Addr} (h : Own H0 F H (mLst As) l) : OwnL H0 F H As l := by
  obtain ⟨h1, h2, o, h3, vs, rfl, h4⟩ := h
  exact ⟨h1, h2, vs, h3, h4⟩
def OwnR (H0 F H : Hp) (cs : List Cell) : Prop := (∀ c ∈ cs, H0 c.a = none ∧ F c.a = none ∧ CellOk F H c) ∧ (cs.map Cell.a).Nodup
def EnOk (H0 F H : Hp) : En → Option V → Prop
  | .no, _ => True
  | .im A, v => ∃ x, v = some x ∧ A.ok x F
  | .mu M, v => ∃ l, v = some (.ref l) ∧ Own H0 F H M l
  | .ow r cs, v => v = some (.ref r) ∧ OwnR H0 F H cs
  | .ro r cs, v => v = some (.ref r) ∧ ∀ c ∈ cs, ∃ vs, H0 c.a = some (c.s.mk vs) ∧ H c.a = some (c.s.mk vs) ∧ (lAll c.As).ok vs F
/-- the places that a slot owns -/
def feet : En → Option V → List Addr
  | .mu _, some (.ref l) => [l]
  | .ow _ cs, _ => cs.map Cell.a
  | _, _ => []
structure Sl (H0 : Hp) (Γ : List En) (σ : L2.St) (F H : Hp) : Prop where
  len : σ.length = Γ.length
  at_ : ∀ (i : Nat) (e : En), Γ[i]? = some e → ∃ v, σ[i]? = some v ∧ EnOk H0 F H e v
  sep : ∀ (i j : Nat) (e f : En) (v w : Option V), i ≠ j → Γ[i]? = some e → Γ[j]? = some f → σ[i]? = some v → σ[j]? = some w → ∀ a, a ∈ feet e v → a ∈ feet f w → False
section
variable {H0 F H F2 H2 : Hp} {Γ : List En} {σ : L2.St} {e : En} {v : V} {i : Nat} {A : Rp} {As : List Rp} {M : Mp}
theorem EnOk.own {u : Option V} (h : EnOk H0 F H e u) {a : Addr} (ha : a ∈ feet e u) : H0 a = none ∧ F a = none ∧ ∃ o, H a = some o := by
  cases e with
  | no => cases ha
  | im A => cases ha
  | mu M =>
    obtain ⟨l, rfl, h1, h2, o, h3, _⟩ := h
    rw [List.mem_singleton.mp ha]
    exact ⟨h1, h2, o, h3⟩
  | ow r cs =>
    obtain ⟨_, h, _⟩ := h
    obtain ⟨c, hc, rfl⟩ := List.mem_map.mp ha
    obtain ⟨h1, h2, vs, h3, _⟩ := h c hc
    exact ⟨h1, h2, _, h3⟩
  | ro r cs => cases ha
theorem EnOk.move {u : Option V} (h : EnOk H0 F H e u) (ff : Same F F2) (keep : ∀ a, a ∈ feet e u ∨ H0 a ≠ none → ∀ o, H a = some o → H2 a = some o) (fn : ∀ a ∈ feet e u, F2 a = none) : EnOk H0 F2 H2 e u := by
  cases e with
  | no => exact h
  | im A =>
    obtain ⟨x, e, q⟩ := h
    exact ⟨x, e, A.mono ff q⟩
  | mu M =>
    obtain ⟨l, rfl, q1, q2, o, q3, q4⟩ := h
    have m : l ∈ feet (.mu M) (some (.ref l)) := List.mem_singleton.mpr rfl
    exact ⟨l, rfl, q1, fn l m, o, keep l (.inl m) o q3, M.mono ff q4⟩
  | ow r cs =>
    obtain ⟨h0, h, hn⟩ := h
    refine ⟨h0, fun c hc => ?_, hn⟩
    have m : c.a ∈ feet (.ow r cs) u := List.mem_map_of_mem hc
    obtain ⟨h1, h2, vs, h3, h4⟩ := h c hc
    exact ⟨h1, fn _ m, vs, keep _ (.inl m) _ h3, (lAll c.As).mono ff h4⟩
  | ro r cs =>
    obtain ⟨h0, h⟩ := h
    refine ⟨h0, fun c hc => ?_⟩
    obtain ⟨vs, h1, h2, h3⟩ := h c hc
    exact ⟨vs, h1, keep _ (.inr (by rw [h1]; exact fun z => by cases z)) _ h2, (lAll c.As).mono ff h3⟩
theorem EnOk.grow {u : Option V} (g : Grow F H F2 H2) (h : EnOk H0 F H e u) : EnOk H0 F2 H2 e u :=
  h.move g.ff (fun a _ o e => g.hh a o e) fun a ha => let ⟨_, h2, h3⟩ := h.own ha; g.none h3 h2
theorem Sl.grow (s : Sl H0 Γ σ F H) (g : Grow F H F2 H2) : Sl H0 Γ σ F2 H2 :=
  ⟨s.len, fun i e q => let ⟨v, h1, h2⟩ := s.at_ i e q; ⟨v, h1, h2.grow g⟩, s.sep⟩
theorem Sl.im (s : Sl H0 Γ σ F H) (q : Γ[i]? = some (.im A)) : ∃ x, σ[i]? = some (some x) ∧ A.ok x F := by
  obtain ⟨v, h1, x, rfl, h2⟩ := s.at_ i _ q
  exact ⟨x, h1, h2⟩
theorem Sl.mu (s : Sl H0 Γ σ F H) (q : Γ[i]? = some (.mu M)) : ∃ l, σ[i]? = some (some (.ref l)) ∧ Own H0 F H M l := by
  obtain ⟨v, h1, l, rfl, h2⟩ := s.at_ i _ q
  exact ⟨l, h1, h2⟩
theorem Sl.ow {r : Addr} {cs : List Cell} (s : Sl H0 Γ σ F H) (q : Γ[i]? = some (.ow r cs)) : σ[i]? = some (some (.ref r)) ∧ OwnR H0 F H cs := by
  obtain ⟨v, h1, rfl, h2⟩ := s.at_ i _ q
  exact ⟨h1, h2⟩
theorem Sl.ml (s : Sl H0 Γ σ F H) (q : Γ[i]? = some (.ml As)) : ∃ l, σ[i]? = some (some (.ref l)) ∧ OwnL H0 F H As l := by
  obtain ⟨l, h1, h2⟩ := s.mu q
  exact ⟨l, h1, h2.l⟩
theorem Sl.apart (s : Sl H0 Γ σ F H) (i j : Nat) (M N : Mp) (l : Addr) (ne : i ≠ j) (q1 : Γ[i]? = some (.mu M)) (q2 : Γ[j]? = some (.mu N)) (e1 : σ[i]? = some (some (.ref l))) (e2 : σ[j]? = some (some (.ref l))) : False :=
  s.sep i j _ _ _ _ ne q1 q2 e1 e2 l (List.mem_singleton.mpr rfl) (List.mem_singleton.mpr rfl)
/-- one slot, and places that no other slot owns, change -/
theorem Sl.re0 (s : Sl H0 Γ σ F H) (i : Nat) (e : En) (u : Option V) (old : List Addr) (off : ∀ (j : Nat) (f : En) (w : Option V) (a : Addr), i ≠ j → Γ[j]? = some f → σ[j]? = some w → a ∈ feet f w → a ∉ old) (old0 : ∀ a ∈ old, H0 a = none)
    (ff : Same F F2) (keep : ∀ a o, H a = some o → a ∉ old → H2 a = some o) (dom : ∀ a o, F2 a = some o → F a = some o ∨ H a = none ∨ a ∈ old)
    (ok : EnOk H0 F2 H2 e u) (new : ∀ (j : Nat) (f : En) (w : Option V) (a : Addr), i ≠ j → Γ[j]? = some f → σ[j]? = some w → a ∈ feet f w → a ∉ feet e u) : Sl H0 (Γ.set i e) (σ.set i u) F2 H2 := by
  refine ⟨by rw [List.length_set, List.length_set]; exact s.len, fun j f q => ?_, fun j k f g w x ne q1 q2 e1 e2 a ha hb => ?_⟩
  · rw [List.getElem?_set] at q ⊢
    by_cases z : i = j
    · subst z
      rw [if_pos rfl] at q ⊢
      by_cases y : i < Γ.length
      · rw [if_pos y] at q
        rw [if_pos (by rw [s.len]; exact y)]
        cases q
        exact ⟨_, rfl, ok⟩
      · rw [if_neg y] at q
        cases q
    · rw [if_neg z] at q ⊢
      obtain ⟨w, h1, h2⟩ := s.at_ j f q
      refine ⟨w, h1, h2.move ff (fun a ha o ho => keep a o ho ?_) fun a ha => ?_⟩
      · rcases ha with ha | ha
        · exact off j f w a z q h1 ha
        · exact fun y => ha (old0 a y)
      · obtain ⟨_, n, o, l⟩ := h2.own ha
        cases y : F2 a with
        | none => rfl
        | some o' =>
          rcases dom a o' y with p | p | p
          · rw [n] at p
            cases p
          · rw [l] at p
            cases p
          · exact (off j f w a z q h1 ha p).elim
  · rw [List.getElem?_set] at q1 q2 e1 e2
    by_cases z1 : i = j
    · have z2 : ¬ i = k := fun z => ne (z1.symm.trans z)
      rw [if_neg z2] at q2 e2
      rw [if_pos z1] at q1 e1
      split at q1 <;> cases q1
      split at e1 <;> cases e1
      exact new k g x a z2 q2 e2 hb ha
    · by_cases z2 : i = k
      · rw [if_neg z1] at q1 e1
        rw [if_pos z2] at q2 e2
        split at q2 <;> cases q2
        split at e2 <;> cases e2
        exact new j f w a z1 q1 e1 ha hb
      · rw [if_neg z1] at q1 e1
        rw [if_neg z2] at q2 e2
        exact s.sep j k f g w x ne q1 q2 e1 e2 a ha hb
/-- one slot, and the places that it owned, change -/
theorem Sl.re (s : Sl H0 Γ σ F H) (i : Nat) (e : En) (u : Option V) (old : List Addr) (hold : ∀ a ∈ old, ∃ f w, Γ[i]? = some f ∧ σ[i]? = some w ∧ a ∈ feet f w)
    (ff : Same F F2) (keep : ∀ a o, H a = some o → a ∉ old → H2 a = some o) (dom : ∀ a o, F2 a = some o → F a = some o ∨ H a = none ∨ a ∈ old)
    (ok : EnOk H0 F2 H2 e u) (new : ∀ a ∈ feet e u, a ∈ old ∨ H a = none) : Sl H0 (Γ.set i e) (σ.set i u) F2 H2 := by
  have off : ∀ (j : Nat) (f : En) (w : Option V) (a : Addr), i ≠ j → Γ[j]? = some f → σ[j]? = some w → a ∈ feet f w → a ∉ old := fun j f w a ne q1 q2 ha ho => by
    obtain ⟨f', w', q3, q4, hb⟩ := hold a ho
    exact s.sep i j f' f w' w ne q3 q1 q4 q2 a hb ha
  refine s.re0 i e u old off (fun a ha => ?_) ff keep dom ok fun j f w a z q1 q2 h1 h2 => ?_
  · obtain ⟨f', w', q3, q4, hb⟩ := hold a ha
    obtain ⟨w2, h3, h4⟩ := s.at_ i f' q3
    rw [q4] at h3
    cases h3
    exact (h4.own hb).1
  · rcases new a h2 with p | p
    · exact off j f w a z q1 q2 h1 p
    · obtain ⟨w', h3, h4⟩ := s.at_ j f q1
      rw [q2] at h3
      cases h3
      obtain ⟨_, _, o, l⟩ := h4.own h1
      rw [l] at p
      cases p
theorem set_self {α : Type} {l : List α} {i : Nat} {x : α} (h : l[i]? = some x) : l.set i x = l := by
  refine List.ext_getElem? fun j => ?_
  rw [List.getElem?_set]
  by_cases z : i = j
  · subst z
    rw [if_pos rfl, if_pos (List.getElem?_eq_some_iff.mp h).1, h]
  · rw [if_neg z]
theorem Sl.set (s : Sl H0 Γ σ F H) (h : A.ok v F) : Sl H0 (Γ.set i (.im A)) (σ.set i (some v)) F H :=
  s.re i (.im A) (some v) [] (fun _ h => by cases h) (Same.refl _) (fun _ _ e _ => e) (fun _ _ e => .inl e) ⟨v, rfl, h⟩ fun _ h => by cases h
/-- a new object of one's own at p -/
theorem Sl.setM (s : Sl H0 Γ σ F H) {p : Addr} {o : HO} (n0 : H0 p = none) (n : H p = none) (sm : Same F H) (h : M.ok p o F) : Sl H0 (Γ.set i (.mu M)) (σ.set i (some (.ref p))) F (upd H p o) :=
  s.re i (.mu M) (some (.ref p)) [] (fun _ h => by cases h) (Same.refl _) (fun _ _ e _ => same_upd n _ _ e) (fun _ _ e => .inl e) ⟨p, rfl, n0, sm.free n, o, upd_same, h⟩ fun a ha => by
    rw [List.mem_singleton.mp ha]
    exact .inr n
theorem Sl.setL (s : Sl H0 Γ σ F H) {p : Addr} (n0 : H0 p = none) (n : H p = none) (sm : Same F H) {vs : List V} (h : (lAll As).ok vs F) : Sl H0 (Γ.set i (.ml As)) (σ.set i (some (.ref p))) F (upd H p (.lst vs)) := s.setM n0 n sm ⟨vs, rfl, h⟩
/-- an object of one's own is changed -/
theorem Sl.changeM (s : Sl H0 Γ σ F H) {N : Mp} {l : Addr} {o : HO} (q : Γ[i]? = some (.mu M)) (e : σ[i]? = some (some (.ref l))) (h : N.ok l o F) : Sl H0 (Γ.set i (.mu N)) σ F (upd H l o) := by
  obtain ⟨l', e', n0, nf, vs0, hl, _⟩ := s.mu q
  rw [e] at e'
  cases e'
  have s2 := s.re (H2 := upd H l o) i (.mu N) (some (.ref l)) [l] (fun a ha => ⟨_, _, q, e, ha⟩) (Same.refl _) (fun a x ex na => by
    rw [upd_ne fun z => na (List.mem_singleton.mpr z)]
    exact ex) (fun _ _ e => .inl e) ⟨l, rfl, n0, nf, o, upd_same, h⟩ fun a ha => .inl ha
  rw [set_self e] at s2
  exact s2
theorem Sl.change (s : Sl H0 Γ σ F H) {Bs : List Rp} {l : Addr} {vs : List V} (q : Γ[i]? = some (.ml As)) (e : σ[i]? = some (some (.ref l))) (h : (lAll Bs).ok vs F) : Sl H0 (Γ.set i (.ml Bs)) σ F (upd H l (.lst vs)) := s.changeM q e ⟨vs, rfl, h⟩
/-- an object of one's own that is no longer changed -/
theorem Sl.freezeM (s : Sl H0 Γ σ F H) (q : Γ[i]? = some (.mu M)) (hr : ∀ o F l, M.ok l o F → F l = some o → A.ok (.ref l) F) : ∃ l o, H0 l = none ∧ F l = none ∧ H l = some o ∧ Sl H0 (Γ.set i (.im A)) σ (upd F l o) H := by
  obtain ⟨l, e, n0, nf, o, hl, ho⟩ := s.mu q
  have sm : Same F (upd F l o) := same_upd nf
  refine ⟨l, o, n0, nf, hl, ?_⟩
  have s2 := s.re (F2 := upd F l o) (H2 := H) i (.im A) (some (.ref l)) [l] (fun a ha => ⟨_, _, q, e, ha⟩) sm (fun _ _ e _ => e) (fun a x ex => by
    by_cases z : a = l
    · exact .inr (.inr (List.mem_singleton.mpr z))
    · rw [upd_ne z] at ex
      exact .inl ex) ⟨_, rfl, hr o _ l (M.mono sm ho) upd_same⟩ fun a ha => by cases ha
  rw [set_self e] at s2
  exact s2
theorem Sl.freeze (K : PySem.W.Frag) (s : Sl H0 Γ σ F H) (q : Γ[i]? = some (.ml As)) : ∃ l o, H0 l = none ∧ F l = none ∧ H l = some o ∧ Sl H0 (Γ.set i (.im (rLst K As))) σ (upd F l o) H :=
  s.freezeM q fun o F l ⟨vs, e, h⟩ hl => ⟨l, vs, rfl, .inl (.inl (by rw [hl, e])), h⟩
theorem Sl.weak (s : Sl H0 Γ σ F H) {Δ : List En} (hl : Δ.length = Γ.length) (h : ∀ (i : Nat) (e : En), Δ[i]? = some e → e = En.no ∨ Γ[i]? = some e) : Sl H0 Δ σ F H := by
  refine ⟨s.len.trans hl.symm, fun i e q => ?_, fun i j e f v w ne q1 q2 e1 e2 a ha hb => ?_⟩
  · rcases h i e q with rfl | z
    · have hi : i < σ.length := by
        rw [s.len, ← hl]
        exact (List.getElem?_eq_some_iff.mp q).1
      exact ⟨_, List.getElem?_eq_getElem hi, trivial⟩
    · exact s.at_ i e z
  · rcases h i _ q1 with rfl | z1
    · cases ha
    · rcases h j _ q2 with rfl | z2
      · cases hb
      · exact s.sep i j e f v w ne z1 z2 e1 e2 a ha hb
end

/-! ### expressions -/
def Ev (te : TE) (Γ : List En) (R : Rp) : Prop := ∀ H0 σ F H, Sl H0 Γ σ F H → Same F H → ∀ Q : VK, (∀ v F2 H2, Grow F H F2 H2 → R.ok v F2 → Q v H2) → te σ H Q
def EvA (ta : TA) (Γ : List En) (L : LRp) : Prop := ∀ H0 σ F H, Sl H0 Γ σ F H → Same F H → ∀ Q : List V → Hp → Prop, (∀ v F2 H2, Grow F H F2 H2 → L.ok v F2 → Q v H2) → ta σ H Q
def EvT (tt : TT) (Γ : List En) (b : Bool) : Prop := ∀ H0 σ F H, Sl H0 Γ σ F H → Same F H → ∀ Q : Bool → Hp → Prop, (∀ F2 H2, Grow F H F2 H2 → Q b H2) → tt σ H Q
section
variable {Γ : List En} {ta tb te : TE} {tt tu : TT} {tl tm : TA} {A B R : Rp} {L : LRp} {K : PySem.W.Frag} {i : Nat} {x y v : V}
theorem Ev.imp (h : Ev te Γ A) (k : ∀ v F, A.ok v F → B.ok v F) : Ev te Γ B := fun H0 σ F H s e Q q => h H0 σ F H s e Q fun v F2 H2 g r => q v F2 H2 g (k v F2 r)
theorem Ev.to (h : Ev te Γ A) (k : A = B) : Ev te Γ B := k ▸ h
theorem EvT.to {b c : Bool} (h : EvT tt Γ b) (k : b = c) : EvT tt Γ c := k ▸ h
theorem ev_var (h : Γ[i]? = some (.im A)) : Ev (tVar i) Γ A := fun H0 σ F H s e Q q =>
  let ⟨x, h1, h2⟩ := s.im h; ⟨x, h1, q x F H (Grow.refl e) h2⟩
theorem ev_c : Ev (tC v) Γ (rV v) := fun H0 σ F H s e Q q => q v F H (Grow.refl e) rfl
/-- a constant of the module -/
theorem ev_g (h : ∀ F, A.ok v F) : Ev (tC v) Γ A := fun H0 σ F H s e Q q => q v F H (Grow.refl e) (h F)
theorem ev_op {r : R2} (ha : Ev ta Γ A) (hb : Ev tb Γ B) (hr : ∀ x y F H, Same F H → A.ok x F → B.ok y F → ∀ Q : VK, (∀ v F2 H2, Grow F H F2 H2 → R.ok v F2 → Q v H2) → r x y H Q) : Ev (tOp r ta tb) Γ R := fun H0 σ F H s e Q q =>
  ha H0 σ F H s e _ fun x F1 H1 g1 a1 => hb H0 σ F1 H1 (s.grow g1) g1.fh _ fun y F2 H2 g2 b2 => hr x y F2 H2 g2.fh (A.mono g2.ff a1) b2 Q fun v F3 H3 g3 r3 => q v F3 H3 ((g1.trans g2).trans g3) r3
theorem ev_I0 {g : Int → Int → V} {i j : Int} (ha : Ev ta Γ (rInt i)) (hb : Ev tb Γ (rInt j)) : Ev (tOp (rI0 g) ta tb) Γ (rV (g i j)) := ev_op ha hb fun x y F H e a b Q q => ⟨i, j, a, b, q _ F H (Grow.refl e) rfl⟩
theorem ev_I {C : Int → Int → Prop} {g : Int → Int → V} {i j : Int} (ha : Ev ta Γ (rInt i)) (hb : Ev tb Γ (rInt j)) (hc : C i j) : Ev (tOp (rI C g) ta tb) Γ (rV (g i j)) := ev_op ha hb fun x y F H e a b Q q => ⟨i, j, a, b, hc, q _ F H (Grow.refl e) rfl⟩
theorem ev_eq (ha : Ev ta Γ (rV x)) (hb : Ev tb Γ (rV y)) (hs : scal x y = true) : Ev (tOp rEq ta tb) Γ (rBl (decide (x = y))) := ev_op ha hb fun x' y' F H e a b Q q => by
  cases a
  cases b
  exact ⟨hs, q _ F H (Grow.refl e) rfl⟩
theorem ev_ne (ha : Ev ta Γ (rV x)) (hb : Ev tb Γ (rV y)) (hs : scal x y = true) : Ev (tOp rNe ta tb) Γ (rBl (!decide (x = y))) := ev_op ha hb fun x' y' F H e a b Q q => by
  cases a
  cases b
  exact ⟨hs, q _ F H (Grow.refl e) rfl⟩
theorem ev_un {r : V → Hp → VK → Prop} (ha : Ev ta Γ A) (hr : ∀ x F H, Same F H → A.ok x F → ∀ Q : VK, (∀ v F2 H2, Grow F H F2 H2 → R.ok v F2 → Q v H2) → r x H Q) : Ev (tUn r ta) Γ R := fun H0 σ F H s e Q q =>
  ha H0 σ F H s e _ fun x F1 H1 g1 a1 => hr x F1 H1 g1.fh a1 Q fun v F3 H3 g3 r3 => q v F3 H3 (g1.trans g3) r3
theorem ev_neg {i : Int} {g : Int → V} (ha : Ev ta Γ (rInt i)) : Ev (tUn (rU g) ta) Γ (rV (g i)) := ev_un ha fun x F H e a Q q => ⟨i, a, q _ F H (Grow.refl e) rfl⟩
theorem ea_nil : EvA tNil Γ lNil := fun H0 σ F H s e Q q => q [] F H (Grow.refl e) rfl
theorem ea_cons (ha : Ev ta Γ A) (hl : EvA tl Γ L) : EvA (tCons ta tl) Γ (lCons A L) := fun H0 σ F H s e Q q =>
  ha H0 σ F H s e _ fun x F1 H1 g1 a1 => hl H0 σ F1 H1 (s.grow g1) g1.fh _ fun vs F2 H2 g2 b2 => q _ F2 H2 (g1.trans g2) ⟨x, vs, rfl, A.mono g2.ff a1, b2⟩
theorem ea_n : EvA tNil Γ (lAll []) := ea_nil
theorem ea_c {As : List Rp} (ha : Ev ta Γ A) (hl : EvA tl Γ (lAll As)) : EvA (tCons ta tl) Γ (lAll (A :: As)) := ea_cons ha hl
theorem ev_tup {As : List Rp} (h : EvA tl Γ (lAll As)) (hz : As.length ≤ 1000 := by decide) : Ev (tTup tl) Γ (rTup K As) := fun H0 σ F H s e Q q =>
  h H0 σ F H s e _ fun vs F1 H1 g1 a1 => ⟨by rw [lAll_length a1]; exact Nat.le_trans hz (by decide), fun p hp => q _ (upd F1 p (.tup vs)) _ (g1.trans (Grow.new g1.fh hp)) ⟨p, vs, rfl, .inl (.inl upd_same), (lAll As).mono (same_upd (g1.fh.free hp)) a1⟩⟩
theorem ev_lst {As : List Rp} (h : EvA tl Γ (lAll As)) (hz : As.length ≤ 1000 := by decide) : Ev (tLst tl) Γ (rLst K As) := fun H0 σ F H s e Q q =>
  h H0 σ F H s e _ fun vs F1 H1 g1 a1 => ⟨by rw [lAll_length a1]; exact Nat.le_trans hz (by decide), fun p hp => q _ (upd F1 p (.lst vs)) _ (g1.trans (Grow.new g1.fh hp)) ⟨p, vs, rfl, .inl (.inl upd_same), (lAll As).mono (same_upd (g1.fh.free hp)) a1⟩⟩
theorem atI_of {As : List Rp} {vs : List V} {F : Hp} {j : Int} (h : (lAll As).ok vs F) (e : atI As j = some A) : ∃ u, atI vs j = some u ∧ A.ok u F := by
  unfold atI at e ⊢
  rw [lAll_length h]
  cases q : ixN As.length j with
  | none =>
    rw [q] at e
    cases e
  | some k =>
    rw [q] at e
    exact lAll_get h e
theorem ev_ixT {As : List Rp} {j : Int} (ha : Ev ta Γ (rTup K As)) (hb : Ev tb Γ (rInt j)) (e : atI As j = some A) : Ev (tOp (rIxT K) ta tb) Γ A := ev_op ha hb fun x y F H s a b Q q => by
  obtain ⟨p, xs, rfl, h1, h2⟩ := a
  obtain ⟨u, e1, e2⟩ := atI_of h2 e
  exact ⟨p, xs, j, u, rfl, b, tup_mono s h1, e1, q _ F H (Grow.refl s) e2⟩
theorem ev_ixL {As : List Rp} {j : Int} (ha : Ev ta Γ (rLst K As)) (hb : Ev tb Γ (rInt j)) (e : atI As j = some A) : Ev (tOp (rIxL K) ta tb) Γ A := ev_op ha hb fun x y F H s a b Q q => by
  obtain ⟨p, xs, rfl, h1, h2⟩ := a
  obtain ⟨u, e1, e2⟩ := atI_of h2 e
  exact ⟨p, xs, j, u, rfl, b, s.seq h1, e1, q _ F H (Grow.refl s) e2⟩
/-- an item of a list of one's own -/
theorem ev_ixM {As : List Rp} {j : Int} (ha : Γ[i]? = some (.ml As)) (hb : Ev tb Γ (rInt j)) (e : atI As j = some A) : Ev (tOp (rIxL K) (tVar i) tb) Γ A := fun H0 σ F H s e1 Q q => by
  obtain ⟨l, h1, _⟩ := s.ml ha
  refine ⟨_, h1, hb H0 σ F H s e1 _ fun y F2 H2 g2 b2 => ?_⟩
  obtain ⟨l', h1', _, _, vs, h4, h5⟩ := (s.grow g2).ml ha
  rw [h1] at h1'
  cases h1'
  obtain ⟨u, e2, e3⟩ := atI_of h5 e
  exact ⟨l, vs, j, u, rfl, b2, .inl (.inl h4), e2, q _ F2 H2 g2 e3⟩
/-- what a call asks and gives -/
def spOf {ι : Type} (args : ι → List Rp) (pre : ι → Prop) (res : ι → Rp) : Sp := fun vs H Q _ => ∃ F i, Same F H ∧ pre i ∧ (lAll (args i)).ok vs F ∧ ∀ v F2 H2, Grow F H F2 H2 → (res i).ok v F2 → Q v H2
theorem ev_call {ι : Type} {args : ι → List Rp} {pre : ι → Prop} {res : ι → Rp} {dvs : List V} {E : XK} (i : ι) (h : EvA tl Γ L) (hd : ∀ vs F, L.ok vs F → (lAll (args i)).ok (vs ++ dvs) F) (hp : pre i) : Ev (tCall (spOf args pre res) dvs E tl) Γ (res i) := fun H0 σ F H s e Q q =>
  h H0 σ F H s e _ fun vs F1 H1 g1 a1 => ⟨F1, i, g1.fh, hp, hd vs F1 a1, fun v F2 H2 g2 r2 => q v F2 H2 (g1.trans g2) r2⟩
theorem ev_call0 {ι : Type} {args : ι → List Rp} {pre : ι → Prop} {res : ι → Rp} {E : XK} (i : ι) (h : EvA tl Γ (lAll (args i))) (hp : pre i) : Ev (tCall (spOf args pre res) [] E tl) Γ (res i) := ev_call i h (fun vs F a => by rw [List.append_nil]; exact a) hp
theorem ev_cb {r : List V → Hp → VK → Prop} (h : EvA tl Γ L) (hr : ∀ vs F H, Same F H → L.ok vs F → ∀ Q : VK, (∀ v F2 H2, Grow F H F2 H2 → R.ok v F2 → Q v H2) → r vs H Q) : Ev (tCB r tl) Γ R := fun H0 σ F H s e Q q =>
  h H0 σ F H s e _ fun vs F1 H1 g1 a1 => hr vs F1 H1 g1.fh a1 Q fun v F2 H2 g2 r2 => q v F2 H2 (g1.trans g2) r2
theorem ev_if {b : Bool} (h : EvT tt Γ b) (h1 : b = true → Ev ta Γ R) (h2 : b = false → Ev tb Γ R) : Ev (tIf tt ta tb) Γ R := fun H0 σ F H s e Q q => h H0 σ F H s e _ fun F1 H1 g1 => by
  cases b with
  | true =>
    show ta σ H1 Q
    exact h1 rfl H0 σ F1 H1 (s.grow g1) g1.fh Q fun v F2 H2 g2 r => q v F2 H2 (g1.trans g2) r
  | false =>
    show tb σ H1 Q
    exact h2 rfl H0 σ F1 H1 (s.grow g1) g1.fh Q fun v F2 H2 g2 r => q v F2 H2 (g1.trans g2) r
theorem ev_andV {a b : Bool} (h1 : Ev ta Γ (rBl a)) (h2 : a = true → Ev tb Γ (rBl b)) : Ev (tAndV ta tb) Γ (rBl (a && b)) := fun H0 σ F H s e Q q => h1 H0 σ F H s e _ fun v F1 H1 g1 r1 => ⟨a, r1, by
  cases a with
  | true =>
    show tb σ H1 Q
    exact h2 rfl H0 σ F1 H1 (s.grow g1) g1.fh Q fun v F2 H2 g2 r => q v F2 H2 (g1.trans g2) r
  | false =>
    show Q (.bl false) H1
    exact q _ F1 H1 g1 rfl⟩
theorem ev_orV {a b : Bool} (h1 : Ev ta Γ (rBl a)) (h2 : a = false → Ev tb Γ (rBl b)) : Ev (tOrV ta tb) Γ (rBl (a || b)) := fun H0 σ F H s e Q q => h1 H0 σ F H s e _ fun v F1 H1 g1 r1 => ⟨a, r1, by
  cases a with
  | false =>
    show tb σ H1 Q
    exact h2 rfl H0 σ F1 H1 (s.grow g1) g1.fh Q fun v F2 H2 g2 r => q v F2 H2 (g1.trans g2) r
  | true =>
    show Q (.bl true) H1
    exact q _ F1 H1 g1 rfl⟩
theorem ev_notV {a : Bool} (h1 : Ev ta Γ (rBl a)) : Ev (tNotV ta) Γ (rBl (!a)) := fun H0 σ F H s e Q q => h1 H0 σ F H s e _ fun v F1 H1 g1 r1 => ⟨a, r1, q _ F1 H1 g1 rfl⟩
theorem ev_isN (ha : Ev ta Γ A) {b : Bool} (hb : ∀ v F, A.ok v F → decide (v = .non) = b) : Ev (tIsN ta) Γ (rBl b) := fun H0 σ F H s e Q q => ha H0 σ F H s e _ fun v F1 H1 g1 r1 => by
  rw [hb v F1 r1]
  exact q _ F1 H1 g1 rfl
theorem ev_notN (ha : Ev ta Γ A) {b : Bool} (hb : ∀ v F, A.ok v F → decide (v = .non) = b) : Ev (tNotN ta) Γ (rBl (!b)) := fun H0 σ F H s e Q q => ha H0 σ F H s e _ fun v F1 H1 g1 r1 => by
  rw [hb v F1 r1]
  exact q _ F1 H1 g1 rfl
/-! tests -/
theorem et_test {b : Bool} (h : Ev te Γ (rBl b)) : EvT (tTest te) Γ b := fun H0 σ F H s e Q q => h H0 σ F H s e _ fun v F1 H1 g1 r1 => ⟨b, r1, q F1 H1 g1⟩
theorem et_B {b : Bool} (h : Ev te Γ (rBl b)) : EvT (tB te) Γ b := fun H0 σ F H s e Q q => h H0 σ F H s e _ fun v F1 H1 g1 r1 => ⟨b, r1, q F1 H1 g1⟩
theorem et_not {a : Bool} (h : EvT tt Γ a) : EvT (tNot tt) Γ (!a) := fun H0 σ F H s e Q q => h H0 σ F H s e _ fun F1 H1 g1 => q F1 H1 g1
theorem et_and {a b : Bool} (h1 : EvT tt Γ a) (h2 : a = true → EvT tu Γ b) : EvT (tAnd tt tu) Γ (a && b) := fun H0 σ F H s e Q q => h1 H0 σ F H s e _ fun F1 H1 g1 => by
  cases a with
  | true =>
    show tu σ H1 Q
    exact h2 rfl H0 σ F1 H1 (s.grow g1) g1.fh Q fun F2 H2 g2 => q F2 H2 (g1.trans g2)
  | false =>
    show Q false H1
    exact q F1 H1 g1
theorem et_or {a b : Bool} (h1 : EvT tt Γ a) (h2 : a = false → EvT tu Γ b) : EvT (tOr tt tu) Γ (a || b) := fun H0 σ F H s e Q q => h1 H0 σ F H s e _ fun F1 H1 g1 => by
  cases a with
  | false =>
    show tu σ H1 Q
    exact h2 rfl H0 σ F1 H1 (s.grow g1) g1.fh Q fun F2 H2 g2 => q F2 H2 (g1.trans g2)
  | true =>
    show Q true H1
    exact q F1 H1 g1
end

/-! ### statements -/
structure Post where
  nx : List En → Prop
  rt : Rp
  bk : List En → Prop := fun _ => False
  ct : List En → Prop := fun _ => False
  /-- the slots where a value is returned -/
  rm : List En → Prop := fun _ => True
def Stm (t : TS) (Γ : List En) (P : Post) : Prop := ∀ (D : Ends) (σ : L2.St) (F0 H0 F H : Hp), Grow F0 H0 F H → Sl H0 Γ σ F H →
  (∀ Γ' σ' F' H', P.nx Γ' → Grow F0 H0 F' H' → Sl H0 Γ' σ' F' H' → D.nx σ' H') → (∀ Γ' σ' F' H', P.bk Γ' → Grow F0 H0 F' H' → Sl H0 Γ' σ' F' H' → D.bk σ' H') →
  (∀ Γ' σ' F' H', P.ct Γ' → Grow F0 H0 F' H' → Sl H0 Γ' σ' F' H' → D.ct σ' H') → (∀ v Γ' σ' F' H', P.rm Γ' → Grow F0 H0 F' H' → Sl H0 Γ' σ' F' H' → P.rt.ok v F' → D.rt v H') → t D σ H
section
variable {Γ : List En} {te : TE} {tt : TT} {tl : TA} {t u : TS} {A B R : Rp} {K : PySem.W.Frag} {i : Nat} {P : Post}
theorem st_seq {M : List En → Prop} (h : Stm t Γ { P with nx := M }) (k : ∀ Γ', M Γ' → Stm u Γ' P) : Stm (tSeq t u) Γ P := fun D σ F0 H0 F H g s qn qb qc qr =>
  h { D with nx := u D } σ F0 H0 F H g s (fun Γ' σ' F' H' m g' s' => k Γ' m D σ' F0 H0 F' H' g' s' qn qb qc qr) qb qc qr
theorem st_next (h : P.nx Γ) : Stm tNext Γ P := fun D σ F0 H0 F H g s qn qb qc qr => qn Γ σ F H h g s
theorem st_break (h : P.bk Γ) : Stm tBreak Γ P := fun D σ F0 H0 F H g s qn qb qc qr => qb Γ σ F H h g s
theorem st_cont (h : P.ct Γ) : Stm tCont Γ P := fun D σ F0 H0 F H g s qn qb qc qr => qc Γ σ F H h g s
theorem st_ret (h : Ev te Γ P.rt) (hm : P.rm Γ := by trivial) : Stm (tRet te) Γ P := fun D σ F0 H0 F H g s qn qb qc qr => h H0 σ F H s g.fh _ fun v F2 H2 g2 r => qr v Γ σ F2 H2 hm (g.trans g2) (s.grow g2) r
theorem st_if {b : Bool} (h : EvT tt Γ b) (h1 : b = true → Stm t Γ P) (h2 : b = false → Stm u Γ P) : Stm (tIfS tt t u) Γ P := fun D σ F0 H0 F H g s qn qb qc qr => h H0 σ F H s g.fh _ fun F2 H2 g2 => by
  cases b with
  | true =>
    show t D σ H2
    exact h1 rfl D σ F0 H0 F2 H2 (g.trans g2) (s.grow g2) qn qb qc qr
  | false =>
    show u D σ H2
    exact h2 rfl D σ F0 H0 F2 H2 (g.trans g2) (s.grow g2) qn qb qc qr
/-- if t: .. that leaves; then the rest -/
theorem st_guard {b : Bool} (h : EvT tt Γ b) (h1 : b = true → Stm t Γ { P with nx := fun _ => False }) (h2 : b = false → Stm u Γ P) : Stm (tSeq (tIfS tt t tNext) u) Γ P :=
  st_seq (M := fun Γ' => Γ' = Γ ∧ b = false) (st_if h (fun e D σ F0 H0 F H g s qn qb qc qr => h1 e D σ F0 H0 F H g s (fun _ _ _ _ z => z.elim) qb qc qr) fun e => st_next ⟨rfl, e⟩) fun Γ' ⟨e, e2⟩ => e ▸ h2 e2
/-- x = e -/
theorem st_asg (h : Ev te Γ A) (k : P.nx (Γ.set i (.im A))) : Stm (tAsg te (gName i)) Γ P := fun D σ F0 H0 F H g s qn qb qc qr => h H0 σ F H s g.fh _ fun v F2 H2 g2 r =>
  qn _ _ F2 H2 k (g.trans g2) ((s.grow g2).set r)
theorem st_set (h : Ev te Γ A) (k : Stm u (Γ.set i (.im A)) P) : Stm (tSeq (tAsg te (gName i)) u) Γ P := st_seq (M := fun Γ' => Γ' = Γ.set i (.im A)) (st_asg h rfl) fun Γ' e => e ▸ k
/-- x = [..], a list of one's own -/
theorem st_asgL {As : List Rp} (h : EvA tl Γ (lAll As)) (k : P.nx (Γ.set i (.ml As))) (hz : As.length ≤ 1000 := by decide) : Stm (tAsg (tLst tl) (gName i)) Γ P := fun D σ F0 H0 F H g s qn qb qc qr => h H0 σ F H s g.fh _ fun vs F2 H2 g2 r =>
  ⟨by rw [lAll_length r]; exact Nat.le_trans hz (by decide), fun p hp => qn _ _ F2 _ k ((g.trans g2).trans (Grow.side g2.fh (same_upd hp))) ((s.grow g2).setL ((g.trans g2).hh.free hp) hp g2.fh r)⟩
theorem st_setL {As : List Rp} (h : EvA tl Γ (lAll As)) (k : Stm u (Γ.set i (.ml As)) P) (hz : As.length ≤ 1000 := by decide) : Stm (tSeq (tAsg (tLst tl) (gName i)) u) Γ P := st_seq (M := fun Γ' => Γ' = Γ.set i (.ml As)) (st_asgL h rfl hz) fun Γ' e => e ▸ k
/-- x.append(e) -/
theorem st_app {As : List Rp} (q : Γ[i]? = some (.ml As)) (h : Ev te Γ A) (hz : As.length < 16777216) (k : P.nx (Γ.set i (.ml (As ++ [A])))) : Stm (tDrop (tBM K "list" rAppend (tVar i) (tCons te tNil))) Γ P := fun D σ F0 H0 F H g s qn qb qc qr => by
  obtain ⟨l, h1, n0, nf, vs, hl, ho⟩ := s.ml q
  refine ⟨_, h1, .inl ⟨rfl, vs, .inl (.inl hl)⟩, h H0 σ F H s g.fh _ fun v F2 H2 g2 r => ?_⟩
  obtain ⟨l', h1', n0', nf', vs', hl', ho'⟩ := (s.grow g2).ml q
  rw [h1] at h1'
  cases h1'
  refine ⟨l, vs', v, rfl, rfl, hl', ?_, ?_⟩
  · rw [lAll_length ho']
    exact hz
  · exact qn _ _ F2 _ k ((g.trans g2).mut n0 nf') ((s.grow g2).change q h1 (lAll_snoc ho' r))
theorem st_appS {As : List Rp} (q : Γ[i]? = some (.ml As)) (h : Ev te Γ A) (hz : As.length < 16777216) (k : Stm u (Γ.set i (.ml (As ++ [A]))) P) : Stm (tSeq (tDrop (tBM K "list" rAppend (tVar i) (tCons te tNil))) u) Γ P := st_seq (M := fun Γ' => Γ' = Γ.set i (.ml (As ++ [A]))) (st_app q h hz rfl) fun Γ' e => e ▸ k
theorem st_freeze (K : PySem.W.Frag) {As : List Rp} (i : Nat) (q : Γ[i]? = some (.ml As)) (k : Stm t (Γ.set i (.im (rLst K As))) P) : Stm t Γ P := fun D σ F0 H0 F H g s qn qb qc qr => by
  obtain ⟨l, vs, n0, nf, hl, s'⟩ := s.freeze K q
  exact k D σ F0 H0 _ H (g.freeze n0 nf hl) s' qn qb qc qr
theorem st_weak {Δ : List En} (k : Stm t Δ P) (hl : Δ.length = Γ.length) (h : ∀ (i : Nat) (e : En), Δ[i]? = some e → e = En.no ∨ Γ[i]? = some e) : Stm t Γ P := fun D σ F0 H0 F H g s => k D σ F0 H0 F H g (s.weak hl h)
theorem st_imp {P' : Post} (h : Stm t Γ P) (h1 : ∀ Γ', P.nx Γ' → P'.nx Γ') (h2 : ∀ Γ', P.bk Γ' → P'.bk Γ') (h3 : ∀ Γ', P.ct Γ' → P'.ct Γ') (h4 : P.rt = P'.rt) (h5 : ∀ Γ', P.rm Γ' → P'.rm Γ') : Stm t Γ P' := fun D σ F0 H0 F H g s qn qb qc qr =>
  h D σ F0 H0 F H g s (fun Γ' σ' F' H' z => qn Γ' σ' F' H' (h1 Γ' z)) (fun Γ' σ' F' H' z => qb Γ' σ' F' H' (h2 Γ' z)) (fun Γ' σ' F' H' z => qc Γ' σ' F' H' (h3 Γ' z)) (fun v Γ' σ' F' H' m g s r => qr v Γ' σ' F' H' (h5 Γ' m) g s (h4 ▸ r))
/-- a, b = e, f -/
theorem st_par {j : Nat} (h : EvA tl Γ (lAll [A, B])) (k : Stm u ((Γ.set i (.im A)).set j (.im B)) P) : Stm (tSeq (tPar i j tl) u) Γ P := st_seq (M := fun Γ' => Γ' = (Γ.set i (.im A)).set j (.im B)) (fun D σ F0 H0 F H g s qn qb qc qr => h H0 σ F H s g.fh _ fun vs F2 H2 g2 r => by
  obtain ⟨v, r', rfl, a1, w, r2, rfl, a2, r3⟩ := r
  have e : r2 = [] := r3
  subst e
  exact ⟨v, w, rfl, qn _ _ F2 H2 rfl (g.trans g2) (((s.grow g2).set a1).set a2)⟩) fun Γ' e => e ▸ k
theorem st_parE {j : Nat} (h : EvA tl Γ (lAll [A, B])) (k : P.nx ((Γ.set i (.im A)).set j (.im B))) : Stm (tPar i j tl) Γ P := fun D σ F0 H0 F H g s qn qb qc qr => h H0 σ F H s g.fh _ fun vs F2 H2 g2 r => by
  obtain ⟨v, r', rfl, a1, w, r2, rfl, a2, r3⟩ := r
  have e : r2 = [] := r3
  subst e
  exact ⟨v, w, rfl, qn _ _ F2 H2 k (g.trans g2) (((s.grow g2).set a1).set a2)⟩
/-- for x in range(n) -/
theorem st_range {j : Nat} {n : Int} (h : EvA tl Γ (lAll [rInt n])) (hn : 0 ≤ n ∧ n < 2 ^ 62) (I : Nat → List En → Prop) (h0 : I 0 Γ)
    (hs : ∀ (k : Nat) Γ', (k : Int) < n → I k Γ' → Stm u (Γ'.set j (.im (rInt k))) { nx := I (k + 1), ct := I (k + 1), bk := P.nx, rt := P.rt, rm := P.rm }) (hd : ∀ Γ', I n.toNat Γ' → P.nx Γ') : Stm (tFor (iRng1 tl) (gName j) u) Γ P := fun D σ F0 H0 F H g s qn qb qc qr =>
  h H0 σ F H s g.fh _ fun vs F1 H1 g1 r => by
    obtain ⟨v, r', rfl, a1, r2⟩ := r
    have e : r' = [] := r2
    subst e
    have a2 : v = .int n := a1
    subst a2
    refine ⟨n, rfl, by omega, hn.2, for_range (lo := 0) (n := n.toNat) (fun k σ' H' => ∃ Γ' F', I k Γ' ∧ Grow F0 H0 F' H' ∧ Sl H0 Γ' σ' F' H') ⟨Γ, F1, h0, g.trans g1, s.grow g1⟩ ?_ ?_⟩
    · rintro k σ' H' hk ⟨Γ', F', hI, g', s'⟩
      have e0 : (0 : Int) + (k : Int) = (k : Int) := Int.zero_add _
      show u _ (σ'.set j (some (.int ((0 : Int) + (k : Int))))) H'
      rw [e0]
      exact hs k Γ' (by omega) hI _ _ F0 H0 F' H' g' (s'.set rfl) (fun Γ2 σ2 F2 H2 z g2 s2 => ⟨Γ2, F2, z, g2, s2⟩) qn (fun Γ2 σ2 F2 H2 z g2 s2 => ⟨Γ2, F2, z, g2, s2⟩) qr
    · rintro σ' H' ⟨Γ', F', hI, g', s'⟩
      exact qn Γ' σ' F' H' (hd Γ' hI) g' s'
/-- for x in xs, a list that stands still -/
theorem st_forL {j : Nat} {As : List Rp} (h : Ev te Γ (rLst K As)) (I : Nat → List En → Prop) (h0 : I 0 Γ)
    (hs : ∀ (k : Nat) A Γ', As[k]? = some A → I k Γ' → Stm u (Γ'.set j (.im A)) { nx := I (k + 1), ct := I (k + 1), bk := P.nx, rt := P.rt, rm := P.rm }) (hd : ∀ Γ', I As.length Γ' → P.nx Γ') : Stm (tFor (iList K te) (gName j) u) Γ P := fun D σ F0 H0 F H g s qn qb qc qr =>
  h H0 σ F H s g.fh _ fun v F1 H1 g1 r => by
    obtain ⟨a, xs, rfl, hx, hA⟩ := r
    refine ⟨a, rfl, ⟨xs, g1.fh.seq hx⟩, for_list (K := K) (a := a) (xs := xs) (fun k σ' H' => ∃ Γ' F', I k Γ' ∧ Same F1 F' ∧ Grow F0 H0 F' H' ∧ Sl H0 Γ' σ' F' H') ⟨Γ, F1, h0, Same.refl _, g.trans g1, s.grow g1⟩ (fun k σ' H' _ ⟨Γ', F', _, sm, g', _⟩ => g'.fh.seq (sm.seq hx)) ?_ ?_⟩
    · rintro k x σ' H' hk ⟨Γ', F', hI, sm, g', s'⟩
      have hl := lAll_length hA
      have hk2 : k < As.length := by
        rw [← hl]
        exact (List.getElem?_eq_some_iff.mp hk).1
      obtain ⟨u', e1, e2⟩ := lAll_get hA (List.getElem?_eq_getElem hk2)
      rw [hk] at e1
      cases e1
      have gd : Grow F1 H0 F' H' := ⟨sm, g'.hh, g'.fh, fun a o e => (g'.dom a o e).imp (fun e => (g.trans g1).ff a o e) id⟩
      have up : ∀ {F2 H2}, Grow F1 H0 F2 H2 → Grow F0 H0 F2 H2 := fun {F2 H2} k2 => ⟨(g.trans g1).ff.trans k2.ff, k2.hh, k2.fh, fun a o e => (k2.dom a o e).elim (fun e => (g.trans g1).dom a o e) .inr⟩
      exact hs k As[k] Γ' (List.getElem?_eq_getElem hk2) hI _ _ F1 H0 F' H' gd (s'.set (As[k].mono sm e2)) (fun Γ2 σ2 F2 H2 z g2 s2 => ⟨Γ2, F2, z, g2.ff, up g2, s2⟩) (fun Γ2 σ2 F2 H2 z g2 s2 => qn Γ2 σ2 F2 H2 z (up g2) s2) (fun Γ2 σ2 F2 H2 z g2 s2 => ⟨Γ2, F2, z, g2.ff, up g2, s2⟩) (fun v Γ2 σ2 F2 H2 m g2 s2 r => qr v Γ2 σ2 F2 H2 m (up g2) s2 r)
    · rintro σ' H' ⟨Γ', F', hI, _, g', s'⟩
      rw [lAll_length hA] at hI
      exact qn Γ' σ' F' H' (hd Γ' hI) g' s'
end
end Fz

set_option Elab.async false
set_option linter.all false
set_option maxRecDepth 100000
set_option maxHeartbeats 2000000
/-! defs by their promises, the head, the law's end, built-ins. -/
namespace Fz
open PySem L2 PyProof.Rows

/-! ### sizes -/
abbrev lg (i : Int) : Nat := i.natAbs.log2
def CMulY (i j : Int) : Prop := lg i + lg j < 134217000
theorem CMulY.ok {i j : Int} (h : CMulY i j) : IntMulOk i j := by
  have b : ∀ x : Int, Builtin.Int.intBits x ≤ x.natAbs.log2 + 1 := fun x => by
    unfold Builtin.Int.intBits
    split <;> omega
  have h1 := b i
  have h2 := b j
  have h3 : i.natAbs.log2 + j.natAbs.log2 < 134217000 := h
  have e : bitsLine = 134217728 := by decide
  unfold IntMulOk
  intro z
  rw [Bool.and_eq_true] at z
  have z2 := z.2
  unfold Builtin.Int.intTooBig at z2
  have z3 := of_decide_eq_true z2
  rw [e] at z3
  omega
theorem op_mulY {X : Cx} : OpR X (binaryOp .Mult) (rI CMulY fun i j => .int (i * j)) := opI fun _ _ _ _ _ _ _ hc q => mul_int q hc.ok

/-! ### a def -/
section
variable {P : Program} {w : World} {K : PySem.W.Frag} {mg : Str → Option Value} {base : Heap}
abbrev FnP (K : PySem.W.Frag) (x : Str) (st : Stmt) (dvs : List V) (f : Addr) (fd : FuncData) : Prop := FunD K x x (defArgs st) (defBody st) (defScope st) dvs [] f fd
theorem lAll_im : ∀ {As : List Rp} {vs : List V} {F : Hp} {i : Nat} {e : En}, (lAll As).ok vs F → (As.map En.im)[i]? = some e → ∃ v, vs[i]? = some v ∧ ∃ A, e = .im A ∧ A.ok v F := fun {As vs F i e} h q => by
  rw [List.getElem?_map] at q
  cases z : As[i]? with
  | none =>
    rw [z] at q
    cases q
  | some A =>
    rw [z] at q
    obtain ⟨v, e1, e2⟩ := lAll_get h z
    exact ⟨v, e1, A, (Option.some.inj q).symm, e2⟩
theorem sl_start {N : List Str} {As : List Rp} {vs : List V} {F H : Hp} {m : Nat} (h : (lAll As).ok vs F) (hN : N.length = As.length + m) : Sl H (As.map En.im ++ List.replicate m En.no) (L2.start N vs) F H := by
  have hl := lAll_length h
  refine ⟨?_, fun i e q => ?_, fun i j e f v w ne q1 q2 e1 e2 a ha hb => ?_⟩
  · unfold L2.start
    rw [List.length_append, List.length_append, List.length_map, List.length_map, List.length_replicate, List.length_replicate]
    omega
  · by_cases z : i < As.length
    · rw [List.getElem?_append_left (by rw [List.length_map]; exact z)] at q
      obtain ⟨v, e1, A, rfl, e2⟩ := lAll_im h q
      refine ⟨some v, ?_, v, rfl, e2⟩
      unfold L2.start
      rw [List.getElem?_append_left (by rw [List.length_map]; omega), List.getElem?_map, e1]
      rfl
    · rw [List.getElem?_append_right (by rw [List.length_map]; omega), List.length_map, List.getElem?_replicate] at q
      split at q
      · cases q
        refine ⟨none, ?_, trivial⟩
        unfold L2.start
        rw [List.getElem?_append_right (by rw [List.length_map]; omega), List.length_map, List.getElem?_replicate, if_pos (by omega)]
      · cases q
  · have key : e = .no ∨ ∃ B, e = .im B := by
      rcases List.mem_append.mp (List.mem_of_getElem? q1) with hm | hm
      · obtain ⟨B, _, rfl⟩ := List.mem_map.mp hm
        exact .inr ⟨B, rfl⟩
      · exact .inl (List.mem_replicate.mp hm).2
    rcases key with rfl | ⟨B, rfl⟩ <;> cases ha
/-- THE RULE for a def -/
theorem fn_ok {ι : Type} {args : ι → List Rp} {pre : ι → Prop} {res : ι → Rp} {x : Str} {st : Stmt} {dvs : List V} {f : Addr} {fd : FuncData} {N ps : List Str} {k : Nat} (m : Nat) (F : FnP K x st dvs f fd) (S : FnScope N ps (defScope st)) (hN : N.length = ps.length + m) (hp : ∀ i, (args i).length = ps.length)
    (hb : ∀ (cdv : Value) (A : Around) (outer : List Env) (s : Shared) (H : Hp) (E : XK), Room k (A.deeper (envOfC x (defScope st) s.heap.objs.size f cdv)) →
      ∃ t, PSs (cxOf CX0 P w K mg base N x (defScope st) f cdv A outer s H E).nox (defBody st) t ∧ ∀ i, pre i → Stm t ((args i).map En.im ++ List.replicate m En.no) { nx := fun _ => ∀ F, (res i).ok .non F, rt := res i }) :
    FnOk P w K mg base CX0 (k + 1) f fd ps (spOf args pre res) := by
  refine F.ok S (fun vs H Q E h => ?_) (fun cdv A outer s H vs Q E hr h => ?_)
  · obtain ⟨G, i, _, _, a, _⟩ := h
    rw [lAll_length a, hp]
  · obtain ⟨G, i, sm, hi, a, q⟩ := h
    obtain ⟨t, ht, hs⟩ := hb cdv A outer s H E hr
    refine ⟨t, PSs.nox ht, hs i hi _ _ G H G H (Grow.refl sm) (sl_start a (by rw [hN, hp])) ?_ ?_ ?_ ?_⟩
    · exact fun Γ' σ' F' H' z g _ => q _ F' H' g (z F')
    · exact fun _ _ _ _ z => z.elim
    · exact fun _ _ _ _ z => z.elim
    · exact fun v _ _ F' H' _ g _ r => q v F' H' g r
end

/-! ### the head's hook, with facts of one's own -/
abbrev AlE : Type := He.AlD × Bool
def obsE (n : Nat) (fa : List He.Fa) (fn : List He.DefD) (ex : PySem.W.Frag → Bool) (g : Addr → Option Obj) : AlE := (He.obsD fa fn (He.frG g (He.asD g n)), ex (He.frG g (He.asD g n)))
def hookE (n : Nat) (fa : List He.Fa) (fn : List He.DefD) (ex : PySem.W.Frag → Bool) : PySem.W.Hook where
  α := AlE
  obs := fun s => obsE n fa fn ex s.heap.get?
  val := fun _ => (He.valD fn, true)
  says := fun _ h => ∃ K : PySem.W.Frag, K.In h ∧ He.SaysD fa fn K ∧ ex K = true
  of := fun _ _ e => ⟨_, He.frG_in, congrArg (fun z : AlE => z.1) e, congrArg (fun z : AlE => z.2) e⟩
  keeps := fun _ _ _ ⟨K, hK, c⟩ k => ⟨K, PySem.W.Frag.In.keeps hK k, c⟩
theorem obsE_eq {n : Nat} {fa : List He.Fa} {fn : List He.DefD} {ex : PySem.W.Frag → Bool} {g : Addr → Option Obj} {s : Shared} (h : ∀ a, g a = s.heap.get? a) : obsE n fa fn ex g = (hookE n fa fn ex).obs s := by
  have e : g = s.heap.get? := funext h
  rw [e] <;> rfl
/-- the module's name x stands for this value -/
def isVal (K : PySem.W.Frag) (x : Str) (u : Value) : Bool := He.eqO (PySem.W.nsIn K mainGlobals x) (some (some u))
theorem isVal_ok {K : PySem.W.Frag} {h : Heap} {mg : Str → Option Value} (X : K.In h) (G : h.Ns mainGlobals mg) {x : Str} {u : Value} (c : isVal K x u = true) : mg x = some u := PySem.W.mg_of X G (He.eqO_ok c)
/-- the module's name x stands for this int, this text -/
def intB (K : PySem.W.Frag) (x : Str) (i : Int) : Bool := match PySem.W.nsIn K mainGlobals x with
  | some (some (.int j _)) => decide (j = i)
  | _ => false
def strB (K : PySem.W.Frag) (x : Str) (i : Str) : Bool := match PySem.W.nsIn K mainGlobals x with
  | some (some (.str j _)) => decide (j = i)
  | _ => false
theorem intB_ok {K : PySem.W.Frag} {h : Heap} {mg : Str → Option Value} (X : K.In h) (G : h.Ns mainGlobals mg) {x : Str} {i : Int} (c : intB K x i = true) : ∃ u, mg x = some u ∧ RelV (.int i) u := by
  unfold intB at c
  split at c
  · rename_i j t e
    exact ⟨_, PySem.W.mg_of X G e, t, by rw [of_decide_eq_true c]⟩
  · cases c
theorem strB_ok {K : PySem.W.Frag} {h : Heap} {mg : Str → Option Value} (X : K.In h) (G : h.Ns mainGlobals mg) {x : Str} {i : Str} (c : strB K x i = true) : ∃ u, mg x = some u ∧ RelV (.str i) u := by
  unfold strB at c
  split at c
  · rename_i j t e
    exact ⟨_, PySem.W.mg_of X G e, t, by rw [of_decide_eq_true c]⟩
  · cases c

/-- the law's end -/
theorem walk_E {l : PySem.W.OpenLaw} {n k : Nat} {q : Program} {loose : List Str} {XP : (Str → Option Value) → Heap → Prop} {YP : World → Heap → Prop} {d : DefRec} {x : Str}
    (hn : l.most = some n) (hn2 : n ≤ sizeLine) (hdf : d.params.defaults = []) (hr : Room k callerA)
    (F : ∀ (w : World) (mg : Str → Option Value) (fa : Addr) (h : Heap), YP w h → h.Ns mainGlobals mg → mg d.name = some (.ref fa) →
      ∃ (K : PySem.W.Frag) (fd : FuncData) (sp : Sp), K.In h ∧ (∀ (s : Shared) (u : Value), BindsTo s fd ⟨[u], []⟩ [(x, u)]) ∧
        (∀ (H : Hp) (a : Addr) (ns : List Int), ns.length ≤ n → (∀ z ∈ ns, Builtin.Int.intBits z ≤ 1048576) → SqL K H a (ns.map V.int) → sp [.ref a] H (fun v _ => v = .bl true) fun _ _ _ => False) ∧
        ∀ base : Heap, K.In base → base.Ns mainGlobals mg → FnOk l.prog w K mg base CX0 k fa fd [x] sp) :
    PySem.W.WalkO q loose XP YP l.row.toRowW d [] (fun f vs => PySem.call f vs) := by
  refine Att.attach_callB hn hdf fun w s₀ s₁ mg mb fa o pm cd doc a vs ns G Y ho hd hcd hmg hobj hints hlen hbits hg => ?_
  obtain ⟨K, fd, sp, KX, hb, hsp, hF⟩ := F w mg fa _ Y G.T.g hmg
  exact law_call KX G.T.g G.T.b G.T.builtins G.T.nolimit hg hobj hints (Nat.le_trans hlen hn2) hr hF hb (fun H hO hS => hsp H a ns hlen hbits hS) fun H e s' z => z

/-- a script's ints -/
structure Script (ns : List Int) : Prop where
  len : ns.length ≤ 63
  bits : ∀ z ∈ ns, lg z ≤ 1048576
theorem lg_bits {z : Int} (h : Builtin.Int.intBits z ≤ 1048576) : lg z ≤ 1048576 := by
  unfold Builtin.Int.intBits at h
  unfold lg
  split at h
  · rename_i e
    rw [show z = 0 by simpa using e]
    decide
  · omega
/-- a law's own promise -/
abbrev spLaw (K : PySem.W.Frag) : Sp := spOf (fun ns : List Int => [rLst K (ns.map rInt)]) Script fun _ => rBl true
theorem law_sp {K : PySem.W.Frag} {H : Hp} {a : Addr} {ns : List Int} (h1 : ns.length ≤ 63) (h2 : ∀ z ∈ ns, Builtin.Int.intBits z ≤ 1048576) (hS : SqL K H a (ns.map V.int)) : spLaw K [.ref a] H (fun v _ => v = .bl true) fun _ _ _ => False :=
  ⟨H, ns, Same.refl H, ⟨h1, fun z hz => lg_bits (h2 z hz)⟩, ⟨_, [], rfl, ⟨a, _, rfl, hS, lAll_int⟩, rfl⟩, fun v F2 H2 _ r => r⟩

/-! ### built-ins -/
section
variable {Γ : List En} {te ta tb : TE} {tl : TA} {A B : Rp} {K : PySem.W.Frag} {i : Nat}
abbrev rInt1 : List V → Hp → VK → Prop := fun xs H Q => (∃ i, xs = [.int i] ∧ Q (.int i) H) ∨ ∃ k, xs = [.bl k] ∧ Q (.int (if k then 1 else 0)) H
theorem ev_int {n : Int} (h : Ev te Γ (rInt n)) : Ev (tCB rInt1 (tCons te tNil)) Γ (rInt n) := ev_cb (L := lCons (rInt n) lNil) (ea_cons h ea_nil) fun vs F H s a Q q => by
  obtain ⟨v, r, rfl, a1, a2⟩ := a
  have e1 : v = .int n := a1
  have e2 : r = [] := a2
  subst e1 e2
  exact .inl ⟨n, rfl, q _ F H (Grow.refl s) rfl⟩
theorem ev_intb {b : Bool} (h : Ev te Γ (rBl b)) : Ev (tCB rInt1 (tCons te tNil)) Γ (rInt (if b then 1 else 0)) := ev_cb (L := lCons (rBl b) lNil) (ea_cons h ea_nil) fun vs F H s a Q q => by
  obtain ⟨v, r, rfl, a1, a2⟩ := a
  have e1 : v = .bl b := a1
  have e2 : r = [] := a2
  subst e1 e2
  exact .inr ⟨b, rfl, q _ F H (Grow.refl s) rfl⟩
abbrev rAbs : List V → Hp → VK → Prop := fun xs H Q => ∃ i, xs = [.int i] ∧ Q (.int (if i < 0 then -i else i)) H
theorem abs_nat (n : Int) : (if n < 0 then -n else n) = (n.natAbs : Int) := by
  split <;> omega
theorem ev_abs {n : Int} (h : Ev te Γ (rInt n)) : Ev (tCB rAbs (tCons te tNil)) Γ (rInt (n.natAbs : Int)) := ev_cb (L := lCons (rInt n) lNil) (ea_cons h ea_nil) fun vs F H s a Q q => by
  obtain ⟨v, r, rfl, a1, a2⟩ := a
  have e1 : v = .int n := a1
  have e2 : r = [] := a2
  subst e1 e2
  exact ⟨n, rfl, q _ F H (Grow.refl s) (by rw [abs_nat] <;> rfl)⟩
abbrev rLenS (K : PySem.W.Frag) : List V → Hp → VK → Prop := fun xs H Q => ∃ p ys, xs = [.ref p] ∧ (SqL K H p ys ∨ SqT K H p ys) ∧ Q (.int ys.length) H
theorem ev_lenL {As : List Rp} (h : Ev te Γ (rLst K As)) : Ev (tCB (rLenS K) (tCons te tNil)) Γ (rInt As.length) := ev_cb (L := lCons (rLst K As) lNil) (ea_cons h ea_nil) fun vs F H s a Q q => by
  obtain ⟨v, r, rfl, ⟨p, ys, rfl, h1, h2⟩, a2⟩ := a
  have e2 : r = [] := a2
  subst e2
  exact ⟨p, ys, rfl, .inl (s.seq h1), q _ F H (Grow.refl s) (by rw [lAll_length h2] <;> rfl)⟩
theorem ev_lenT {As : List Rp} (h : Ev te Γ (rTup K As)) : Ev (tCB (rLenS K) (tCons te tNil)) Γ (rInt As.length) := ev_cb (L := lCons (rTup K As) lNil) (ea_cons h ea_nil) fun vs F H s a Q q => by
  obtain ⟨v, r, rfl, ⟨p, ys, rfl, h1, h2⟩, a2⟩ := a
  have e2 : r = [] := a2
  subst e2
  exact ⟨p, ys, rfl, .inr (tup_mono s h1), q _ F H (Grow.refl s) (by rw [lAll_length h2] <;> rfl)⟩
theorem ev_lenM {As : List Rp} (h : Γ[i]? = some (.ml As)) : Ev (tCB (rLenS K) (tCons (tVar i) tNil)) Γ (rInt As.length) := fun H0 σ F H s e Q q => by
  obtain ⟨l, h1, _, _, vs, h4, h5⟩ := s.ml h
  exact ⟨_, h1, l, vs, rfl, .inl (.inl (.inl h4)), q _ F H (Grow.refl e) (by rw [lAll_length h5] <;> rfl)⟩
theorem ev_gcd {a b : Int} (h1 : Ev ta Γ (rInt a)) (h2 : Ev tb Γ (rInt b)) : Ev (tCB rGcd (tCons ta (tCons tb tNil))) Γ (rInt ((Nat.gcd a.natAbs b.natAbs : Nat) : Int)) := ev_cb (L := lCons (rInt a) (lCons (rInt b) lNil)) (ea_cons h1 (ea_cons h2 ea_nil)) fun vs F H s x Q q => by
  obtain ⟨v, r, rfl, a1, w, r2, rfl, a2, a3⟩ := x
  have e1 : v = .int a := a1
  have e2 : w = .int b := a2
  have e3 : r2 = [] := a3
  subst e1 e2 e3
  exact ⟨a, b, rfl, q _ F H (Grow.refl s) rfl⟩
/-- isinstance(x, T), T a built-in type -/
theorem ev_isi {T t : String} {b : Bool} (h : Ev te Γ A) (hk : kitB t T = some b) (ht : ∀ v F H, Same F H → A.ok v F → TyX K H v (.type t)) : Ev (tCB (rIsi K) (tCons te (tCons (tC (.ty T)) tNil))) Γ (rBl b) := ev_cb (L := lCons A (lCons (rV (.ty T)) lNil)) (ea_cons h (ea_cons ev_c ea_nil)) fun vs F H s x Q q => by
  obtain ⟨v, r, rfl, a1, w, r2, rfl, a2, a3⟩ := x
  have e2 : w = .ty T := a2
  have e3 : r2 = [] := a3
  subst e2 e3
  exact ⟨v, .ty T, .type t, .type T, b, rfl, .ty T, ht v F H s a1, kit_ty hk, q _ F H (Grow.refl s) rfl⟩
theorem ty_int {n : Int} : ∀ v F H, Same F H → (rInt n).ok v F → TyX K H v (.type "int") := fun v F H s e => by
  have e : v = .int n := e
  subst e
  exact .base (.int n)
theorem ty_tup {As : List Rp} : ∀ v F H, Same F H → (rTup K As).ok v F → TyX K H v (.type "tuple") := fun v F H s e => by
  obtain ⟨a, xs, rfl, h, _⟩ := e
  rcases h with h | ⟨o, its, n, hk, hc, _⟩
  · rcases h with h | ⟨o, h⟩
    · exact .base (.tup (s a _ h))
    · exact .fTuple (s a _ h)
  · exact .kTuple hk hc
end
end Fz

set_option Elab.async false
set_option linter.all false
set_option maxRecDepth 100000
/-! ## numbers -/
namespace Qn
open PySem L2 Fz
theorem log2_mono {a b : Nat} (h : a ≤ b) : a.log2 ≤ b.log2 := by
  by_cases ha : a = 0
  · rw [ha]
    exact Nat.zero_le _
  · exact (Nat.le_log2 (by omega)).2 (Nat.le_trans (Nat.log2_self_le ha) h)
abbrev Sm (k : Nat) (i : Int) : Prop := i.natAbs < 2 ^ k
theorem Sm.mono {k l : Nat} {i : Int} (h : Sm k i) (e : k ≤ l) : Sm l i := Nat.lt_of_lt_of_le h (Nat.pow_le_pow_right (by decide) e)
theorem Sm.mul {k l : Nat} {i j : Int} (h : Sm k i) (h2 : Sm l j) : Sm (k + l) (i * j) := by
  unfold Sm
  rw [Int.natAbs_mul, Nat.pow_add]
  exact Nat.mul_lt_mul'' h h2
theorem Sm.neg {k : Nat} {i : Int} (h : Sm k i) : Sm k (-i) := by
  unfold Sm
  rw [Int.natAbs_neg]
  exact h
theorem Sm.add {k : Nat} {i j : Int} (h : Sm k i) (h2 : Sm k j) : Sm (k + 1) (i + j) := by
  have h' : i.natAbs < 2 ^ k := h
  have h2' : j.natAbs < 2 ^ k := h2
  unfold Sm
  rw [Nat.pow_succ]
  omega
theorem Sm.sub {k : Nat} {i j : Int} (h : Sm k i) (h2 : Sm k j) : Sm (k + 1) (i - j) := by
  have h' : i.natAbs < 2 ^ k := h
  have h2' : j.natAbs < 2 ^ k := h2
  unfold Sm
  rw [Nat.pow_succ]
  omega
theorem Sm.lg {k : Nat} {i : Int} (h : Sm k i) : lg i ≤ k := by
  by_cases z : i.natAbs = 0
  · unfold Fz.lg
    rw [z]
    exact Nat.zero_le _
  · exact Nat.le_of_lt ((Nat.log2_lt z).mpr h)
theorem Sm.mulX {k l : Nat} {i j : Int} (h : Sm k i) (h2 : Sm l j) (e : k + l ≤ 1000000) : CMulY i j := by
  have := h.lg
  have := h2.lg
  unfold CMulY
  omega
theorem Sm.le {k : Nat} {i j : Int} (h : Sm k j) (e : i.natAbs ≤ j.natAbs) : Sm k i := Nat.lt_of_le_of_lt e h

abbrev Q : Type := Int × Int
/-- in lowest terms -/
def nrm (n d : Int) : Q :=
  let s := if d < 0 then -1 else 1
  let g := (Nat.gcd n.natAbs d.natAbs : Int)
  (s * n / g, s * d / g)
/-- q is n / d -/
structure IsQ (q : Q) (n d : Int) : Prop where
  pos : 1 ≤ q.2
  eq : q.1 * d = n * q.2
  low : Nat.gcd q.1.natAbs q.2.natAbs = 1
theorem nrm_is {n d : Int} (h : d ≠ 0) : IsQ (nrm n d) n d := by
  have hg : (Nat.gcd n.natAbs d.natAbs) ≠ 0 := by
    intro z
    rw [Nat.gcd_eq_zero_iff] at z
    omega
  have key : ∀ s : Int, (s = 1 ∨ s = -1) → 0 < s * d → IsQ (s * n / (Nat.gcd n.natAbs d.natAbs : Int), s * d / (Nat.gcd n.natAbs d.natAbs : Int)) n d := by
    intro s hs hp
    generalize hG : Nat.gcd n.natAbs d.natAbs = g at *
    have h1 : (g : Int) ∣ n := by
      rw [← hG]
      exact Int.gcd_dvd_left (a := n) (b := d)
    have h2 : (g : Int) ∣ d := by
      rw [← hG]
      exact Int.gcd_dvd_right (a := n) (b := d)
    obtain ⟨a, rfl⟩ := h1
    obtain ⟨b, rfl⟩ := h2
    have gp : (0 : Int) < g := by omega
    have e1 : s * (g * a) / g = s * a := by
      rw [show s * (g * a) = g * (s * a) by grind]
      exact Int.mul_ediv_cancel_left _ (by omega)
    have e2 : s * (g * b) / g = s * b := by
      rw [show s * (g * b) = g * (s * b) by grind]
      exact Int.mul_ediv_cancel_left _ (by omega)
    rw [e1, e2]
    have hgab : Nat.gcd a.natAbs b.natAbs = 1 := by
      rw [Int.natAbs_mul, Int.natAbs_mul, Nat.gcd_mul_left] at hG
      simp only [Int.natAbs_natCast] at hG
      have : g * Nat.gcd a.natAbs b.natAbs = g * 1 := by omega
      exact Nat.eq_of_mul_eq_mul_left (by omega) this
    have sb : 0 < s * b := by
      have : (0 : Int) < g * (s * b) := by
        have e : s * (g * b) = g * (s * b) := by grind
        rw [← e]
        exact hp
      exact Int.lt_of_mul_lt_mul_left (a := (g : Int)) (by rw [Int.mul_zero]; exact this) (by omega)
    refine ⟨by omega, by grind, ?_⟩
    show Nat.gcd (s * a).natAbs (s * b).natAbs = 1
    rcases hs with rfl | rfl
    · rw [Int.one_mul, Int.one_mul]
      exact hgab
    · rw [Int.neg_one_mul, Int.neg_one_mul, Int.natAbs_neg, Int.natAbs_neg]
      exact hgab
  unfold nrm
  by_cases hd : d < 0
  · rw [if_pos hd]
    exact key (-1) (.inr rfl) (by omega)
  · rw [if_neg hd]
    exact key 1 (.inl rfl) (by omega)
/-- the size of what is normed -/
theorem nrm_sm {n d : Int} {k l : Nat} (hd : d ≠ 0) (h : Sm k n) (h2 : Sm l d) : Sm k (nrm n d).1 ∧ Sm l (nrm n d).2 := by
  have key : ∀ (s x : Int) (g : Nat) (m : Nat), (s = 1 ∨ s = -1) → Sm m x → Sm m (s * x / g) := by
    intro s x g m hs hx
    have e : (s * x / (g : Int)).natAbs ≤ (s * x).natAbs := Int.natAbs_ediv_le_natAbs _ _
    refine Sm.le (j := s * x) ?_ e
    rcases hs with rfl | rfl
    · rw [Int.one_mul]
      exact hx
    · rw [Int.neg_one_mul]
      exact hx.neg
  unfold nrm
  by_cases z : d < 0
  · rw [if_pos z]
    exact ⟨key (-1) n _ k (.inr rfl) h, key (-1) d _ l (.inr rfl) h2⟩
  · rw [if_neg z]
    exact ⟨key 1 n _ k (.inl rfl) h, key 1 d _ l (.inl rfl) h2⟩
/-- a ratio of at most k bits each -/
structure Bq (k l : Nat) (q : Q) : Prop where
  n : Sm k q.1
  d : Sm l q.2
  pos : 0 < q.2
theorem nrm_bq {n d : Int} {k l : Nat} (hd : d ≠ 0) (h : Sm k n) (h2 : Sm l d) : Bq k l (nrm n d) := ⟨(nrm_sm hd h h2).1, (nrm_sm hd h h2).2, (nrm_is hd).pos⟩
def addQ (a b : Q) : Q := nrm (a.1 * b.2 + b.1 * a.2) (a.2 * b.2)
def subQ (a b : Q) : Q := nrm (a.1 * b.2 - b.1 * a.2) (a.2 * b.2)
def mulQ (a b : Q) : Q := nrm (a.1 * b.1) (a.2 * b.2)
def divQ (a b : Q) : Q := nrm (a.1 * b.2) (a.2 * b.1)
def negQ (a : Q) : Q := (-a.1, a.2)
def absQ (a : Q) : Q := ((a.1.natAbs : Int), a.2)
def sgn (i : Int) : Int := if i < 0 then -1 else if i > 0 then 1 else 0
abbrev rQ (K : PySem.W.Frag) (q : Q) : Rp := rTup K [rInt q.1, rInt q.2]
theorem cancel {x y c : Int} (h : x * c = y * c) (hc : c ≠ 0) : x = y := Int.eq_of_mul_eq_mul_right hc h
theorem add_is {a b : Q} {n d m e : Int} (ha : IsQ a n d) (hb : IsQ b m e) (hd : d * e ≠ 0) : IsQ (addQ a b) (n * e + m * d) (d * e) := by
  have pa := ha.pos
  have pb := hb.pos
  have nz : a.2 * b.2 ≠ 0 := Int.mul_ne_zero (by omega) (by omega)
  have h := nrm_is (n := a.1 * b.2 + b.1 * a.2) nz
  refine ⟨h.pos, ?_, h.low⟩
  have h1 := ha.eq
  have h2 := hb.eq
  have h3 := h.eq
  show (addQ a b).1 * (d * e) = (n * e + m * d) * (addQ a b).2
  have h3 : (addQ a b).1 * (a.2 * b.2) = (a.1 * b.2 + b.1 * a.2) * (addQ a b).2 := h3
  refine cancel (c := a.2 * b.2) ?_ nz
  grind
theorem sub_is {a b : Q} {n d m e : Int} (ha : IsQ a n d) (hb : IsQ b m e) (hd : d * e ≠ 0) : IsQ (subQ a b) (n * e - m * d) (d * e) := by
  have pa := ha.pos
  have pb := hb.pos
  have nz : a.2 * b.2 ≠ 0 := Int.mul_ne_zero (by omega) (by omega)
  have h := nrm_is (n := a.1 * b.2 - b.1 * a.2) nz
  refine ⟨h.pos, ?_, h.low⟩
  have h1 := ha.eq
  have h2 := hb.eq
  have h3 := h.eq
  show (subQ a b).1 * (d * e) = (n * e - m * d) * (subQ a b).2
  have h3 : (subQ a b).1 * (a.2 * b.2) = (a.1 * b.2 - b.1 * a.2) * (subQ a b).2 := h3
  refine cancel (c := a.2 * b.2) ?_ nz
  grind
theorem mul_is {a b : Q} {n d m e : Int} (ha : IsQ a n d) (hb : IsQ b m e) (hd : d * e ≠ 0) : IsQ (mulQ a b) (n * m) (d * e) := by
  have pa := ha.pos
  have pb := hb.pos
  have nz : a.2 * b.2 ≠ 0 := Int.mul_ne_zero (by omega) (by omega)
  have h := nrm_is (n := a.1 * b.1) nz
  refine ⟨h.pos, ?_, h.low⟩
  have h1 := ha.eq
  have h2 := hb.eq
  have h3 : (mulQ a b).1 * (a.2 * b.2) = (a.1 * b.1) * (mulQ a b).2 := h.eq
  show (mulQ a b).1 * (d * e) = (n * m) * (mulQ a b).2
  refine cancel (c := a.2 * b.2) ?_ nz
  grind
theorem div_is {a b : Q} {n d m e : Int} (ha : IsQ a n d) (hb : IsQ b m e) (hd : d * e ≠ 0) (nb : b.1 ≠ 0) : IsQ (divQ a b) (n * e) (d * m) := by
  have pa := ha.pos
  have pb := hb.pos
  have nz : a.2 * b.1 ≠ 0 := Int.mul_ne_zero (by omega) nb
  have nz2 : a.2 * b.2 ≠ 0 := Int.mul_ne_zero (by omega) (by omega)
  have h := nrm_is (n := a.1 * b.2) nz
  refine ⟨h.pos, ?_, h.low⟩
  have h1 := ha.eq
  have h2 := hb.eq
  have h3 : (divQ a b).1 * (a.2 * b.1) = (a.1 * b.2) * (divQ a b).2 := h.eq
  show (divQ a b).1 * (d * m) = (n * e) * (divQ a b).2
  refine cancel (c := a.2 * b.2) ?_ nz2
  grind
theorem neg_is {a : Q} {n d : Int} (ha : IsQ a n d) : IsQ (negQ a) (-n) d := by
  have h1 := ha.eq
  refine ⟨ha.pos, ?_, ?_⟩
  · show -a.1 * d = -n * a.2
    grind
  · show Nat.gcd (-a.1).natAbs a.2.natAbs = 1
    rw [Int.natAbs_neg]
    exact ha.low
theorem abs_is {a : Q} {n d : Int} (ha : IsQ a n d) (hd : 0 < d) : IsQ (absQ a) (n.natAbs : Int) d := by
  refine ⟨ha.pos, ?_, ?_⟩
  · show (a.1.natAbs : Int) * d = (n.natAbs : Int) * a.2
    have h1 := congrArg Int.natAbs ha.eq
    rw [Int.natAbs_mul, Int.natAbs_mul] at h1
    have pa := ha.pos
    have e1 : ((d.natAbs : Nat) : Int) = d := by omega
    have e2 : ((a.2.natAbs : Nat) : Int) = a.2 := by omega
    have h2 : ((a.1.natAbs * d.natAbs : Nat) : Int) = ((n.natAbs * a.2.natAbs : Nat) : Int) := by rw [h1]
    rw [Int.natCast_mul, Int.natCast_mul, e1, e2] at h2
    exact h2
  · show Nat.gcd (a.1.natAbs : Int).natAbs a.2.natAbs = 1
    rw [Int.natAbs_natCast]
    exact ha.low
theorem sgn_eq {x y c d : Int} (h : x * d = y * c) (hd : 0 < d) (hc : 0 < c) : sgn x = sgn y := by
  have n1 : ∀ {u v : Int}, u < 0 → 0 < v → u * v < 0 := fun h1 h2 => Int.mul_neg_of_neg_of_pos h1 h2
  have p1 : ∀ {u v : Int}, 0 < u → 0 < v → 0 < u * v := fun h1 h2 => Int.mul_pos h1 h2
  unfold sgn
  rcases Int.lt_trichotomy x 0 with hx | hx | hx <;> rcases Int.lt_trichotomy y 0 with hy | hy | hy
  · rw [if_pos hx, if_pos hy]
  · subst hy
    have := n1 hx hd
    omega
  · have := n1 hx hd
    have := p1 hy hc
    omega
  · subst hx
    have := n1 hy hc
    omega
  · rw [hx, hy]
  · subst hx
    have := p1 hy hc
    omega
  · have := p1 hx hd
    have := n1 hy hc
    omega
  · subst hy
    have := p1 hx hd
    omega
  · rw [if_neg (show ¬ x < 0 by omega), if_neg (show ¬ y < 0 by omega), if_pos (show x > 0 from hx), if_pos (show y > 0 from hy)]
theorem lg_mul (i j : Int) : lg (i * j) ≤ lg i + lg j + 1 := by
  by_cases hz : (i * j).natAbs = 0
  · unfold lg
    rw [hz]
    exact Nat.zero_le _
  · have h1 : i.natAbs < 2 ^ (lg i + 1) := Nat.lt_log2_self
    have h2 : j.natAbs < 2 ^ (lg j + 1) := Nat.lt_log2_self
    have h3 : (i * j).natAbs < 2 ^ (lg i + 1 + (lg j + 1)) := by
      rw [Int.natAbs_mul, Nat.pow_add]
      exact Nat.mul_lt_mul'' h1 h2
    have := (Nat.log2_lt hz).mpr h3
    show (i * j).natAbs.log2 ≤ _
    omega
theorem cm64 {i j : Int} (h : i.natAbs < 2 ^ 64) (h2 : j.natAbs < 2 ^ 64) : CMulY i j := Sm.mulX h h2 (by decide)
def mixF (k : Nat) (c : Int) : Int := (((c + 131 * k + 7) * 48271 + k * k * 69621) % 1000000007 + 17 * k + 3) * 2862933555777941757 % 18446744073709551557
def rowF (ns : List Int) (k : Nat) : Int :=
  let c0 := ns[k]?.getD 0
  let c1 := if c0 < 0 then 1 - 2 * c0 else c0
  if (decide ((ns.length : Int) ≤ k) || decide (c1 < 1000000000)) = true then mixF k c1 else c1
theorem mixF_ok (k : Nat) (c : Int) : 0 ≤ mixF k c ∧ mixF k c < 18446744073709551557 := ⟨Int.emod_nonneg _ (by decide), Int.emod_lt_of_pos _ (by decide)⟩
theorem lg_lt {i : Int} {k : Nat} (h : i.natAbs < 2 ^ k) : lg i ≤ k := Sm.lg h
theorem lg_half {c : Int} (h : lg c ≤ 1048576) : lg (1 - 2 * c) ≤ 1048580 := by
  have h1 : c.natAbs < 2 ^ (lg c + 1) := Nat.lt_log2_self
  have h2 : (1 - 2 * c).natAbs < 2 ^ (lg c + 1 + 2) := by
    rw [Nat.pow_add]
    have e : (2 : Nat) ^ 2 = 4 := rfl
    rw [e]
    omega
  have := lg_lt h2
  omega
theorem rowF_ok {ns : List Int} (S : Script ns) (k : Nat) : 0 ≤ rowF ns k ∧ lg (rowF ns k) ≤ 1048580 := by
  have hc : lg (ns[k]?.getD 0) ≤ 1048576 := by
    cases e : ns[k]? with
    | none => exact Nat.zero_le _
    | some z => exact S.bits z (List.mem_of_getElem? e)
  unfold rowF
  generalize ns[k]?.getD 0 = c at hc
  dsimp only
  have h1 : 0 ≤ (if c < 0 then 1 - 2 * c else c) ∧ lg (if c < 0 then 1 - 2 * c else c) ≤ 1048580 := by
    split
    · exact ⟨by omega, lg_half hc⟩
    · exact ⟨by omega, by omega⟩
  generalize (if c < 0 then 1 - 2 * c else c) = c1 at h1
  split
  · have h := mixF_ok k c1
    refine ⟨h.1, Nat.le_trans (lg_lt (k := 64) ?_) (by decide)⟩
    have e : (2 : Nat) ^ 64 = 18446744073709551616 := by decide
    rw [e]
    omega
  · exact h1

/-! ### Euclid's turns -/
def fibp : Nat → Nat × Nat
  | 0 => (0, 1)
  | n + 1 => ((fibp n).2, (fibp n).1 + (fibp n).2)
def fib (n : Nat) : Nat := (fibp n).1
theorem fib_add (n : Nat) : fib (n + 2) = fib n + fib (n + 1) := rfl
theorem fib_mono (n : Nat) : fib n ≤ fib (n + 1) ∨ n = 0 ∧ fib n = 0 := by
  cases n with
  | zero => exact .inr ⟨rfl, rfl⟩
  | succ m =>
    left
    rw [fib_add]
    omega
theorem fib_le (n : Nat) : fib n ≤ fib (n + 1) := by
  rcases fib_mono n with h | ⟨rfl, h⟩
  · exact h
  · rw [h]
    exact Nat.zero_le _
theorem fib_up {n m : Nat} (h : n ≤ m) : fib n ≤ fib m := by
  induction h with
  | refl => exact Nat.le_refl _
  | step _ ih => exact Nat.le_trans ih (fib_le _)
theorem fib13 (n : Nat) : 377 * fib n ≤ fib (n + 13) := by
  have h := fib_le n
  have e1 := fib_add n
  have e2 := fib_add (n + 1)
  have e3 := fib_add (n + 2)
  have e4 := fib_add (n + 3)
  have e5 := fib_add (n + 4)
  have e6 := fib_add (n + 5)
  have e7 := fib_add (n + 6)
  have e8 := fib_add (n + 7)
  have e9 := fib_add (n + 8)
  have e10 := fib_add (n + 9)
  have e11 := fib_add (n + 10)
  have e12 := fib_add (n + 11)
  simp only [Nat.add_assoc, Nat.reduceAdd] at *
  omega
theorem fib_pow : ∀ j : Nat, 377 ^ j ≤ fib (13 * j + 1)
  | 0 => Nat.le_refl _
  | j + 1 => by
    have h := fib_pow j
    have h2 := fib13 (13 * j + 1)
    have e : 13 * (j + 1) + 1 = 13 * j + 1 + 13 := by omega
    rw [e, Nat.pow_succ]
    omega
theorem fib_4000 : 2 ^ 2600 ≤ fib 4000 := by
  have h1 : 2 ^ 2600 ≤ 377 ^ 307 := by decide +kernel
  exact Nat.le_trans h1 (Nat.le_trans (fib_pow 307) (fib_up (by decide)))
def Turn (b0 k f s : Nat) : Prop := (k = 0 ∧ s = b0) ∨ (1 ≤ k ∧ s ≤ f ∧ fib k * f + fib (k - 1) * s ≤ b0)
theorem Turn.next {b0 k f s : Nat} (hs : 0 < s) (h : Turn b0 k f s) : Turn b0 (k + 1) s (f % s) := by
  have h1 : f % s < s := Nat.mod_lt _ hs
  rcases h with ⟨rfl, rfl⟩ | ⟨hk, hf, hb⟩
  · refine .inr ⟨by omega, Nat.le_of_lt h1, ?_⟩
    show 1 * s + 0 * (f % s) ≤ s
    omega
  · refine .inr ⟨by omega, Nat.le_of_lt h1, ?_⟩
    obtain ⟨j, rfl⟩ : ∃ j, k = j + 1 := ⟨k - 1, by omega⟩
    rw [Nat.add_sub_cancel] at hb ⊢
    have q : s + f % s ≤ f := by
      have e := Nat.div_add_mod f s
      have q : 1 ≤ f / s := (Nat.one_le_div_iff hs).mpr hf
      have : s * 1 ≤ s * (f / s) := Nat.mul_le_mul_left _ q
      omega
    have m : fib (j + 1) * (s + f % s) ≤ fib (j + 1) * f := Nat.mul_le_mul_left _ q
    rw [fib_add, Nat.add_mul]
    rw [Nat.mul_add] at m
    omega
theorem Turn.last {b0 f s : Nat} (hb : b0 < 2 ^ 2600) (h : Turn b0 4000 f s) : s = 0 := by
  rcases h with ⟨h, _⟩ | ⟨_, hf, h⟩
  · exact absurd h (by decide)
  · rcases Nat.eq_zero_or_pos s with e | e
    · exact e
    · have q : fib 4000 * 1 ≤ fib 4000 * f := Nat.mul_le_mul_left _ (by omega)
      have := fib_4000
      have h : fib 4000 * f + fib (4000 - 1) * s ≤ b0 := h
      generalize fib (4000 - 1) * s = z at h
      generalize fib 4000 * f = y at h q
      generalize 2 ^ 2600 = B at *
      omega
end Qn

set_option Elab.async false
set_option linter.all false
set_option maxRecDepth 100000
namespace Fz
open PySem L2
section
variable {Γ : List En} {te : TE} {tt : TT} {t u : TS} {P : Post}
theorem st_skip {b : Bool} (h : EvT tt Γ b) (e : b = false) (k : Stm u Γ P) : Stm (tSeq (tIfS tt t tNext) u) Γ P := st_guard h (fun z => by rw [e] at z; cases z) fun _ => k
theorem st_ifT {b : Bool} (h : EvT tt Γ b) (e : b = true) (k : Stm t Γ P) : Stm (tIfS tt t u) Γ P := st_if h (fun _ => k) fun z => by rw [e] at z; cases z
theorem st_ifF {b : Bool} (h : EvT tt Γ b) (e : b = false) (k : Stm u Γ P) : Stm (tIfS tt t u) Γ P := st_if h (fun z => by rw [e] at z; cases z) fun _ => k
theorem st_retE {R : Rp} (h : Ev te Γ R) (e : R = P.rt) (hm : P.rm Γ := by trivial) : Stm (tRet te) Γ P := st_ret (h.to e) hm
theorem rInt_eq {i j : Int} (h : i = j) : rInt i = rInt j := by rw [h]
theorem rBl_eq {i j : Bool} (h : i = j) : rBl i = rBl j := by rw [h]
end
end Fz
namespace Spx
open PySem L2 Fz Qn
section
variable {K : PySem.W.Frag}
def spRatio (K : PySem.W.Frag) : Sp := spOf (fun p : Int × Int => [rInt p.1, rInt p.2]) (fun p => p.2 ≠ 0 ∧ lg p.2 < 9000) fun p => rQ K (nrm p.1 p.2)
def BqP (p : Q × Q) : Prop := ∃ k l, k ≤ 100000 ∧ l ≤ 4000 ∧ Bq k l p.1 ∧ Bq k l p.2
abbrev spBin (K : PySem.W.Frag) (pre : Q × Q → Prop) (f : Q → Q → Q) : Sp := spOf (fun p : Q × Q => [rQ K p.1, rQ K p.2]) pre fun p => rQ K (f p.1 p.2)
def spPlus (K : PySem.W.Frag) : Sp := spBin K BqP addQ
def spMinus (K : PySem.W.Frag) : Sp := spBin K BqP subQ
def spTimes (K : PySem.W.Frag) : Sp := spBin K BqP mulQ
def spOver (K : PySem.W.Frag) : Sp := spBin K (fun p => (∃ k, k ≤ 4000 ∧ Bq k k p.1 ∧ Bq k k p.2) ∧ p.2.1 ≠ 0) divQ
abbrev spOne (K : PySem.W.Frag) (f : Q → Rp) : Sp := spOf (fun p : Q => [rQ K p]) (fun _ => True) f
def spNegative (K : PySem.W.Frag) : Sp := spOne K fun a => rQ K (negQ a)
def spSize (K : PySem.W.Frag) : Sp := spOne K fun a => rQ K (absQ a)
def spSign (K : PySem.W.Frag) : Sp := spOne K fun a => rInt (sgn a.1)
section
variable {Γ : List En} {tl : TA} {E : XK} {K : PySem.W.Frag}
theorem c_ratio {n d : Int} (h : EvA tl Γ (lAll [rInt n, rInt d])) (h1 : d ≠ 0) (h2 : lg d < 9000) : Ev (tCall (spRatio K) [] E tl) Γ (rQ K (nrm n d)) := ev_call0 (n, d) h ⟨h1, h2⟩
theorem c_ratio1 {n : Int} (h : EvA tl Γ (lAll [rInt n])) : Ev (tCall (spRatio K) [.int 1] E tl) Γ (rQ K (nrm n 1)) := ev_call (n, (1 : Int)) h (fun vs F a => lAll_append a (lAll_int (ns := [1]))) ⟨show (1 : Int) ≠ 0 by decide, show lg 1 < 9000 by decide⟩
theorem c_plus {a b : Q} (h : EvA tl Γ (lAll [rQ K a, rQ K b])) (p : BqP (a, b)) : Ev (tCall (spPlus K) [] E tl) Γ (rQ K (addQ a b)) := ev_call0 (a, b) h p
theorem c_minus {a b : Q} (h : EvA tl Γ (lAll [rQ K a, rQ K b])) (p : BqP (a, b)) : Ev (tCall (spMinus K) [] E tl) Γ (rQ K (subQ a b)) := ev_call0 (a, b) h p
theorem c_times {a b : Q} (h : EvA tl Γ (lAll [rQ K a, rQ K b])) (p : BqP (a, b)) : Ev (tCall (spTimes K) [] E tl) Γ (rQ K (mulQ a b)) := ev_call0 (a, b) h p
theorem c_over {a b : Q} (h : EvA tl Γ (lAll [rQ K a, rQ K b])) (k : Nat) (hk : k ≤ 4000) (p : Bq k k a) (q : Bq k k b) (nz : b.1 ≠ 0) : Ev (tCall (spOver K) [] E tl) Γ (rQ K (divQ a b)) := ev_call0 (a, b) h ⟨⟨k, hk, p, q⟩, nz⟩
theorem c_negative {a : Q} (h : EvA tl Γ (lAll [rQ K a])) : Ev (tCall (spNegative K) [] E tl) Γ (rQ K (negQ a)) := ev_call0 a h trivial
theorem c_size {a : Q} (h : EvA tl Γ (lAll [rQ K a])) : Ev (tCall (spSize K) [] E tl) Γ (rQ K (absQ a)) := ev_call0 a h trivial
theorem c_sign {a : Q} (h : EvA tl Γ (lAll [rQ K a])) : Ev (tCall (spSign K) [] E tl) Γ (rInt (sgn a.1)) := ev_call0 a h trivial
end
theorem den_ok {a b : Int} {k : Nat} (hk : k ≤ 4000) (ha : Sm k a) (hb : Sm k b) (na : a ≠ 0) (nb : b ≠ 0) : a * b ≠ 0 ∧ lg (a * b) < 9000 := by
  refine ⟨Int.mul_ne_zero na nb, ?_⟩
  have := (ha.mul hb).lg
  omega
theorem atI_map {xs : List Int} {j : Int} (h0 : 0 ≤ j) (h1 : j < xs.length) : atI (xs.map rInt) j = some (rInt (xs[j.toNat]?.getD 0)) := by
  unfold atI ixN
  rw [if_pos h0, if_pos (by rw [List.length_map]; exact h1)]
  show (xs.map rInt)[j.toNat]? = _
  rw [List.getElem?_map, List.getElem?_eq_getElem (by omega)]
  rfl
theorem ev_ixI {Γ : List En} {ta tb : TE} {xs : List Int} {j : Int} (ha : Ev ta Γ (rLst K (xs.map rInt))) (hb : Ev tb Γ (rInt j)) (h0 : 0 ≤ j) (h1 : j < xs.length) : Ev (tOp (rIxL K) ta tb) Γ (rInt (xs[j.toNat]?.getD 0)) := ev_ixL ha hb (atI_map h0 h1)
def spRows (K : PySem.W.Frag) : Sp := spOf (fun p : List Int × Nat => [rLst K (p.1.map rInt), rInt p.2]) (fun p => Script p.1 ∧ p.2 ≤ 1000) fun p => rLst K ((List.range p.2).map fun k => rInt (rowF p.1 k))
theorem c_rows {Γ : List En} {tl : TA} {E : XK} {ns : List Int} {n : Nat} (h : EvA tl Γ (lAll [rLst K (ns.map rInt), rInt n])) (p : Script ns ∧ n ≤ 1000) : Ev (tCall (spRows K) [] E tl) Γ (rLst K ((List.range n).map fun k => rInt (rowF ns k))) := ev_call0 (ns, n) h p
theorem atI_range {n j : Nat} {f : Nat → Rp} (h : j < n) : atI ((List.range n).map f) (j : Int) = some (f j) := by
  unfold atI ixN
  rw [if_pos (by omega), if_pos (by rw [List.length_map, List.length_range]; omega), Int.toNat_natCast]
  show ((List.range n).map f)[j]? = _
  rw [List.getElem?_map, List.getElem?_range h]
  rfl
def spGcd (K : PySem.W.Frag) : Sp := spOf (fun p : Int × Int => [rInt p.1, rInt p.2]) (fun p => Sm 2600 p.2) fun p => rInt (Nat.gcd p.1.natAbs p.2.natAbs : Int)
theorem ev_modI {Γ : List En} {ta tb : TE} {i j : Int} (ha : Ev ta Γ (rInt i)) (hb : Ev tb Γ (rInt j)) (h : 0 < j) : Ev (tOp (rI (fun _ j => 0 < j) fun i j => .int (i % j)) ta tb) Γ (rInt (i % j)) := ev_I ha hb h
def spInteger (K : PySem.W.Frag) : Sp := spOf (fun n : Int => [rInt n]) (fun _ => True) fun _ => rBl true
theorem c_integer {Γ : List En} {tl : TA} {E : XK} {n : Int} (h : EvA tl Γ (lAll [rInt n])) : Ev (tCall (spInteger K) [] E tl) Γ (rBl true) := ev_call0 n h trivial
theorem c_gcd {Γ : List En} {tl : TA} {E : XK} {a b : Int} (h : EvA tl Γ (lAll [rInt a, rInt b])) (p : Sm 2600 b) : Ev (tCall (spGcd K) [] E tl) Γ (rInt (Nat.gcd a.natAbs b.natAbs : Int)) := ev_call0 (a, b) h p
structure IsP (p : Q × Int × Int) : Prop where
  is : IsQ p.1 p.2.1 p.2.2
  s1 : Sm 100000 p.1.1
  s2 : Sm 2600 p.1.2
  s3 : Sm 100000 p.2.1
  s4 : Sm 100000 p.2.2
def spIs (K : PySem.W.Frag) : Sp := spOf (fun p : Q × Int × Int => [rQ K p.1, rInt p.2.1, rInt p.2.2]) IsP fun _ => rBl true
theorem c_is {Γ : List En} {tl : TA} {E : XK} {q : Q} {n d : Int} (h : EvA tl Γ (lAll [rQ K q, rInt n, rInt d])) (p : IsP (q, n, d)) : Ev (tCall (spIs K) [] E tl) Γ (rBl true) := ev_call0 (q, n, d) h p
/-! comparing, sums -/
theorem Bq.mono {k l k' l' : Nat} {q : Q} (h : Bq k l q) (h1 : k ≤ k') (h2 : l ≤ l') : Bq k' l' q := ⟨h.n.mono h1, h.d.mono h2, h.pos⟩
def ltQ (a b : Q) : Bool := decide (a.1 * b.2 < b.1 * a.2)
def leQ (a b : Q) : Bool := decide (a.1 * b.2 ≤ b.1 * a.2)
def BqC (p : Q × Q) : Prop := ∃ k, k ≤ 100000 ∧ Bq k k p.1 ∧ Bq k k p.2
theorem BqC.swap {a b : Q} (h : BqC (a, b)) : BqC (b, a) := let ⟨k, h1, h2, h3⟩ := h; ⟨k, h1, h3, h2⟩
theorem BqC.m1 {a b : Q} (h : BqC (a, b)) : CMulY a.1 b.2 := let ⟨_, h1, h2, h3⟩ := h; h2.n.mulX h3.d (by omega)
theorem BqC.m2 {a b : Q} (h : BqC (a, b)) : CMulY b.1 a.2 := let ⟨_, h1, h2, h3⟩ := h; h3.n.mulX h2.d (by omega)
abbrev sp2 (K : PySem.W.Frag) (pre : Q × Q → Prop) (f : Q → Q → Rp) : Sp := spOf (fun p : Q × Q => [rQ K p.1, rQ K p.2]) pre fun p => f p.1 p.2
def spLess (K : PySem.W.Frag) : Sp := sp2 K BqC fun a b => rBl (ltQ a b)
def spAtMost (K : PySem.W.Frag) : Sp := sp2 K BqC fun a b => rBl (leQ a b)
def maxQ (a b : Q) : Q := if ltQ a b = true then b else a
def minQ (a b : Q) : Q := if ltQ b a = true then b else a
def spGreater (K : PySem.W.Frag) : Sp := sp2 K BqC fun a b => rQ K (maxQ a b)
def spLesser (K : PySem.W.Frag) : Sp := sp2 K BqC fun a b => rQ K (minQ a b)
def totQ (l : List Q) : Q := l.foldl addQ (0, 1)
theorem totQ_snoc (l : List Q) (q : Q) : totQ (l ++ [q]) = addQ (totQ l) q := by
  unfold totQ
  rw [List.foldl_append]
  rfl
def TotP (l : List Q) : Prop := ∃ c, (∀ q ∈ l, Bq c c q) ∧ l.length * (c + 1) + 1 ≤ 3999
theorem add_bq {a b : Q} {k l c : Nat} (ha : Bq k l a) (hb : Bq c c b) (hk : l ≤ k) : Bq (k + c + 1) (l + c) (addQ a b) := by
  have nz : a.2 * b.2 ≠ 0 := Int.mul_ne_zero (by have := ha.pos; omega) (by have := hb.pos; omega)
  exact nrm_bq nz ((ha.n.mul hb.d).add ((hb.n.mul ha.d).mono (by omega))) (ha.d.mul hb.d)
theorem fold_bq {c : Nat} : ∀ {l : List Q} {a : Q} {j : Nat}, (∀ q ∈ l, Bq c c q) → Bq (j * (c + 1) + 1) (j * c + 1) a → Bq ((j + l.length) * (c + 1) + 1) ((j + l.length) * c + 1) (l.foldl addQ a)
  | [], a, j, _, ha => ha
  | q :: l, a, j, h, ha => by
    have h3 := add_bq ha (h q List.mem_cons_self) (by
      have : j * (c + 1) = j * c + j := Nat.mul_succ _ _
      omega)
    have h4 : Bq ((j + 1) * (c + 1) + 1) ((j + 1) * c + 1) (addQ a q) := by
      rw [Nat.add_mul, Nat.add_mul]
      exact Bq.mono h3 (by omega) (by omega)
    have h5 := fold_bq (l := l) (fun x hx => h x (List.mem_cons_of_mem _ hx)) h4
    have e : j + (q :: l).length = j + 1 + l.length := by
      rw [List.length_cons]
      omega
    rw [e]
    exact h5
theorem totQ_bq {l : List Q} {c : Nat} (h : ∀ q ∈ l, Bq c c q) : Bq (l.length * (c + 1) + 1) (l.length * c + 1) (totQ l) := by
  have h2 := fold_bq (l := l) (a := (0, 1)) (j := 0) h ⟨show Sm (0 * (c + 1) + 1) 0 by rw [Nat.zero_mul]; decide, show Sm (0 * c + 1) 1 by rw [Nat.zero_mul]; decide, by decide⟩
  rw [Nat.zero_add] at h2
  exact h2
def spTotal (K : PySem.W.Frag) : Sp := spOf (fun l : List Q => [rLst K (l.map (rQ K))]) TotP fun l => rQ K (totQ l)
section
variable {Γ : List En} {tl : TA} {E : XK} {a b : Q}
theorem c_less (h : EvA tl Γ (lAll [rQ K a, rQ K b])) (p : BqC (a, b)) : Ev (tCall (spLess K) [] E tl) Γ (rBl (ltQ a b)) := ev_call0 (a, b) h p
theorem c_at_most (h : EvA tl Γ (lAll [rQ K a, rQ K b])) (p : BqC (a, b)) : Ev (tCall (spAtMost K) [] E tl) Γ (rBl (leQ a b)) := ev_call0 (a, b) h p
theorem c_greater (h : EvA tl Γ (lAll [rQ K a, rQ K b])) (p : BqC (a, b)) : Ev (tCall (spGreater K) [] E tl) Γ (rQ K (maxQ a b)) := ev_call0 (a, b) h p
theorem c_lesser (h : EvA tl Γ (lAll [rQ K a, rQ K b])) (p : BqC (a, b)) : Ev (tCall (spLesser K) [] E tl) Γ (rQ K (minQ a b)) := ev_call0 (a, b) h p
theorem c_total {l : List Q} (h : EvA tl Γ (lAll [rLst K (l.map (rQ K))])) (p : TotP l) : Ev (tCall (spTotal K) [] E tl) Γ (rQ K (totQ l)) := ev_call0 l h p
end
end
end Spx

set_option Elab.async false
set_option linter.all false
set_option maxRecDepth 100000
/-! data: equality; unpacking; isqrt. -/
namespace Fz
open PySem L2
mutual
theorem dp_mono {K : PySem.W.Frag} {F F2 : Hp} (s : Same F F2) : ∀ (d : PyData) (v : V), Dp K F v d → Dp K F2 v d
  | .none, _, h => by
    cases h
    exact .non
  | .bool b, _, h => by
    cases h
    exact .bl b
  | .int i, _, h => by
    cases h
    exact .int i
  | .str x, _, h => by
    cases h
    exact .str x
  | .list ds, _, h => by
    cases h with
    | lst hs ha => exact .lst (s.seq hs) (dpAll_mono s ds _ ha)
  | .tuple ds, _, h => by
    cases h with
    | tup hs ha => exact .tup (tup_mono s hs) (dpAll_mono s ds _ ha)
  | .dict _, _, h => by cases h
theorem dpAll_mono {K : PySem.W.Frag} {F F2 : Hp} (s : Same F F2) : ∀ (ds : List PyData) (vs : List V), DpAll K F vs ds → DpAll K F2 vs ds
  | [], _, h => by
    cases h
    exact .nil
  | d :: ds, _, h => by
    cases h with
    | cons h1 h2 => exact .cons (dp_mono s d _ h1) (dpAll_mono s ds _ h2)
end
/-- what is A shows as the data d -/
def Shows (K : PySem.W.Frag) (A : Rp) (d : PyData) : Prop := ∀ v F, A.ok v F → Dp K F v d
def ShowsAll (K : PySem.W.Frag) : List Rp → List PyData → Prop
  | [], [] => True
  | A :: As, d :: ds => Shows K A d ∧ ShowsAll K As ds
  | _, _ => False
section
variable {K : PySem.W.Frag} {A B : Rp} {As : List Rp} {d e : PyData} {ds : List PyData}
theorem shows_int {i : Int} : Shows K (rInt i) (.int i) := fun v F h => by
  have h : v = .int i := h
  rw [h]
  exact .int i
theorem shows_bl {i : Bool} : Shows K (rBl i) (.bool i) := fun v F h => by
  have h : v = .bl i := h
  rw [h]
  exact .bl i
theorem shows_str {i : Str} : Shows K (rStr i) (.str i) := fun v F h => by
  have h : v = .str i := h
  rw [h]
  exact .str i
theorem shows_non : Shows K rNon .none := fun v F h => by
  have h : v = .non := h
  rw [h]
  exact .non
theorem shows_all : ∀ {As : List Rp} {ds : List PyData} {vs : List V} {F : Hp}, ShowsAll K As ds → (lAll As).ok vs F → DpAll K F vs ds
  | [], [], _, _, _, h => by
    have h : _ = [] := h
    rw [h]
    exact .nil
  | A :: As, d :: ds, _, _, s, h => by
    obtain ⟨v, r, rfl, h1, h2⟩ := h
    exact .cons (s.1 v _ h1) (shows_all s.2 h2)
  | [], _ :: _, _, _, s, _ => s.elim
  | _ :: _, [], _, _, s, _ => s.elim
theorem shows_tup (h : ShowsAll K As ds) : Shows K (rTup K As) (.tuple ds) := fun v F ⟨a, xs, e, h1, h2⟩ => by
  rw [e]
  exact .tup h1 (shows_all h h2)
theorem shows_lst (h : ShowsAll K As ds) : Shows K (rLst K As) (.list ds) := fun v F ⟨a, xs, e, h1, h2⟩ => by
  rw [e]
  exact .lst h1 (shows_all h h2)
theorem shows_map {α : Type} {f : α → Rp} {g : α → PyData} (h : ∀ x, Shows K (f x) (g x)) : ∀ l : List α, ShowsAll K (l.map f) (l.map g)
  | [] => trivial
  | x :: l => ⟨h x, shows_map h l⟩
end
/-! what == may look at -/
structure Shp (d : PyData) (n : Nat) : Prop where
  lay : d.canLay0 = true
  dep : d.depth ≤ n
theorem Shp.ok {d : PyData} {n : Nat} (h : Shp d n) (hn : n ≤ 64) : SeqAt.shaped d = true := by
  unfold SeqAt.shaped
  rw [h.lay, decide_eq_true (Nat.le_trans h.dep hn)]
  rfl
section
variable {Γ : List En} {ta tb te : TE} {A B : Rp} {K : PySem.W.Frag} {d e : PyData}
theorem ev_eqD (ha : Ev ta Γ A) (hb : Ev tb Γ B) (h1 : Shows K A d) (h2 : Shows K B e) (s1 : SeqAt.shaped d = true) (s2 : SeqAt.shaped e = true) : Ev (tOp (rEqD K) ta tb) Γ (rBl (PyData.eqv d e)) := ev_op ha hb fun x y F H s a b Q q =>
  ⟨d, e, dp_mono s d x (h1 x F a), dp_mono s e y (h2 y F b), s1, s2, q _ F H (Grow.refl s) rfl⟩
theorem ev_neD (ha : Ev ta Γ A) (hb : Ev tb Γ B) (h1 : Shows K A d) (h2 : Shows K B e) (s1 : SeqAt.shaped d = true) (s2 : SeqAt.shaped e = true) : Ev (tOp (rNeD K) ta tb) Γ (rBl (!PyData.eqv d e)) := ev_op ha hb fun x y F H s a b Q q =>
  ⟨d, e, dp_mono s d x (h1 x F a), dp_mono s e y (h2 y F b), s1, s2, q _ F H (Grow.refl s) rfl⟩
theorem eqv_same {d : PyData} (h : SeqAt.shaped d = true) : PyData.eqv d d = true := by
  unfold SeqAt.shaped at h
  exact SeqAt.eqv_refl d (Bool.and_eq_true_iff.mp h).1
theorem ev_eqR (ha : Ev ta Γ A) (hb : Ev tb Γ B) (h1 : Shows K A d) (h2 : Shows K B d) (s1 : SeqAt.shaped d = true) : Ev (tOp (rEqD K) ta tb) Γ (rBl true) := (ev_eqD ha hb h1 h2 s1 s1).to (by rw [eqv_same s1])
theorem ev_neR (ha : Ev ta Γ A) (hb : Ev tb Γ B) (h1 : Shows K A d) (h2 : Shows K B d) (s1 : SeqAt.shaped d = true) : Ev (tOp (rNeD K) ta tb) Γ (rBl false) := (ev_neD ha hb h1 h2 s1 s1).to (by rw [eqv_same s1] <;> rfl)
/-- a, b = e -/
theorem st_unpack {u : TS} {i j : Nat} {P : Post} (h : Ev te Γ (rTup K [A, B])) (k : Stm u ((Γ.set i (.im A)).set j (.im B)) P) : Stm (tSeq (tAsg te (gTup K 2 (gCons (gName i) (gCons (gName j) gNil)))) u) Γ P :=
  st_seq (M := fun Γ' => Γ' = (Γ.set i (.im A)).set j (.im B)) (fun D σ F0 H0 F H g s qn qb qc qr => h H0 σ F H s g.fh _ fun v F2 H2 g2 r => by
    obtain ⟨a, xs, rfl, hx, v, r', rfl, a1, w, r2, rfl, a2, r3⟩ := r
    have e : r2 = [] := r3
    subst e
    exact ⟨a, [v, w], rfl, tup_mono g2.fh hx, rfl, v, [w], rfl, w, [], rfl, rfl, qn _ _ F2 H2 rfl (g.trans g2) (((s.grow g2).set a1).set a2)⟩) fun Γ' e => e ▸ k
end
/-! ### isqrt -/
def isq (a : Int) : Nat := Float64.isqrt a.toNat
theorem isq_le {a : Int} (h : 0 ≤ a) : (isq a : Int) * isq a ≤ a := by
  have h2 := (PySem.Float64.isqrt_spec a.toNat).1
  rw [← Int.natCast_mul]
  unfold isq
  omega
theorem isq_lt {a : Int} (h : 0 ≤ a) : a < ((isq a : Int) + 1) * (isq a + 1) := by
  have h2 := (PySem.Float64.isqrt_spec a.toNat).2
  have e2 : (((Float64.isqrt a.toNat + 1) * (Float64.isqrt a.toNat + 1) : Nat) : Int) = ((Float64.isqrt a.toNat : Nat) + 1 : Int) * ((Float64.isqrt a.toNat : Nat) + 1) := by
    rw [Int.natCast_mul]
    rfl
  unfold isq
  rw [← e2]
  omega
def rIsqrt : List V → Hp → VK → Prop := fun vs H Q => ∃ a : Int, vs = [.int a] ∧ 0 ≤ a ∧ lg a ≤ 13000 ∧ Q (.int (isq a)) H
theorem cr_isqrt {X : Cx} : CallR X (.builtin "math.isqrt") rIsqrt := by
  intro pins s σ H vs us Q I r h
  obtain ⟨a, rfl, h0, h1, q⟩ := h
  cases r with
  | cons r1 rr =>
    cases rr
    obtain ⟨t, rfl⟩ := r1
    have e : a.toNat = a.natAbs := by omega
    have l : a.toNat.log2 ≤ 13000 := by
      rw [e]
      exact h1
    exact PySem.call_function_meets PySem.W.MGF.kind_isqrt PySem.W.MGF.plain_isqrt PySem.W.MGF.entry_isqrt (PySem.W.MGF.args_isqrt _) (PySem.W.mg_run_isqrt a t (by omega) (by omega) (by omega)).meets ⟨.int _, H, I.tok _, ⟨_, rfl⟩, q⟩
theorem ev_isqrt {Γ : List En} {ta : TE} {a : Int} (h : Ev ta Γ (rInt a)) (h0 : 0 ≤ a) (h1 : lg a ≤ 13000) : Ev (tCB rIsqrt (tCons ta tNil)) Γ (rInt (isq a)) := ev_cb (L := lCons (rInt a) lNil) (ea_cons h ea_nil) fun vs F H s x Q q => by
  obtain ⟨v, r, rfl, a1, a2⟩ := x
  have e1 : v = .int a := a1
  have e2 : r = [] := a2
  subst e1 e2
  exact ⟨a, rfl, h0, h1, q _ F H (Grow.refl s) rfl⟩
end Fz

set_option Elab.async false
set_option linter.all false
set_option maxRecDepth 100000
namespace Lw
open PySem PySem.Spec L2 Fz Qn Spx
def topS (i : Nat) : Stmt := PySem.Challenge.pw_standfast_k05_roots_to_a_side.main.body.getD i (.Pass ⟨0, 0, 0, 0⟩)
abbrev s_ratio : Stmt := topS 3
theorem sc_ratio : FnScope ["n", "d", "shared"] ["n", "d"] (defScope s_ratio) := ⟨rfl, rfl, rfl, by decide +kernel, rfl, by decide +kernel, by decide +kernel⟩
abbrev s_root_below : Stmt := topS 6
theorem sc_root_below : FnScope ["a", "n", "d"] ["a"] (defScope s_root_below) := ⟨rfl, rfl, rfl, by decide +kernel, rfl, by decide +kernel, by decide +kernel⟩
abbrev s_root_above : Stmt := topS 7
theorem sc_root_above : FnScope ["a", "n", "d"] ["a"] (defScope s_root_above) := ⟨rfl, rfl, rfl, by decide +kernel, rfl, by decide +kernel, by decide +kernel⟩
abbrev s_millionths_above : Stmt := topS 8
theorem sc_millionths_above : FnScope ["n", "d", "rounded_up"] ["n", "d"] (defScope s_millionths_above) := ⟨rfl, rfl, rfl, by decide +kernel, rfl, by decide +kernel, by decide +kernel⟩
abbrev s__law_rows : Stmt := topS 10
theorem sc__law_rows : FnScope ["script", "count", "rows", "k", "cell"] ["script", "count"] (defScope s__law_rows) := ⟨rfl, rfl, rfl, by decide +kernel, rfl, by decide +kernel, by decide +kernel⟩
abbrev s__law_gcd : Stmt := topS 11
theorem sc__law_gcd : FnScope ["a", "b", "first", "second", "_law_turn"] ["a", "b"] (defScope s__law_gcd) := ⟨rfl, rfl, rfl, by decide +kernel, rfl, by decide +kernel, by decide +kernel⟩
abbrev s__law_integer : Stmt := topS 12
theorem sc__law_integer : FnScope ["item"] ["item"] (defScope s__law_integer) := ⟨rfl, rfl, rfl, by decide +kernel, rfl, by decide +kernel, by decide +kernel⟩
abbrev s__law_is : Stmt := topS 13
theorem sc__law_is : FnScope ["item", "n", "d"] ["item", "n", "d"] (defScope s__law_is) := ⟨rfl, rfl, rfl, by decide +kernel, rfl, by decide +kernel, by decide +kernel⟩
abbrev s__law_number : Stmt := topS 14
theorem sc__law_number : FnScope ["row", "kind", "base"] ["row"] (defScope s__law_number) := ⟨rfl, rfl, rfl, by decide +kernel, rfl, by decide +kernel, by decide +kernel⟩
abbrev s__law_steps : Stmt := topS 15
theorem sc__law_steps : FnScope ["root"] ["root"] (defScope s__law_steps) := ⟨rfl, rfl, rfl, by decide +kernel, rfl, by decide +kernel, by decide +kernel⟩
abbrev s_law : Stmt := topS 16
theorem sc_law : FnScope ["script", "rows", "row", "n", "d", "low", "high", "square"] ["script"] (defScope s_law) := ⟨rfl, rfl, rfl, by decide +kernel, rfl, by decide +kernel, by decide +kernel⟩
structure Txt (K : PySem.W.Frag) (mg : Str → Option Value) where
  f_ratio : Addr
  d_ratio : FuncData
  F_ratio : FnP K "ratio" s_ratio [.int 1] f_ratio d_ratio
  g_ratio : mg "ratio" = some (.ref f_ratio)
  b_ratio : Binds K d_ratio ["n", "d"] []
  f_root_below : Addr
  d_root_below : FuncData
  F_root_below : FnP K "root_below" s_root_below [] f_root_below d_root_below
  g_root_below : mg "root_below" = some (.ref f_root_below)
  b_root_below : Binds K d_root_below ["a"] []
  f_root_above : Addr
  d_root_above : FuncData
  F_root_above : FnP K "root_above" s_root_above [] f_root_above d_root_above
  g_root_above : mg "root_above" = some (.ref f_root_above)
  b_root_above : Binds K d_root_above ["a"] []
  f_millionths_above : Addr
  d_millionths_above : FuncData
  F_millionths_above : FnP K "millionths_above" s_millionths_above [] f_millionths_above d_millionths_above
  g_millionths_above : mg "millionths_above" = some (.ref f_millionths_above)
  b_millionths_above : Binds K d_millionths_above ["n", "d"] []
  f__law_rows : Addr
  d__law_rows : FuncData
  F__law_rows : FnP K "_law_rows" s__law_rows [] f__law_rows d__law_rows
  g__law_rows : mg "_law_rows" = some (.ref f__law_rows)
  b__law_rows : Binds K d__law_rows ["script", "count"] []
  f__law_gcd : Addr
  d__law_gcd : FuncData
  F__law_gcd : FnP K "_law_gcd" s__law_gcd [] f__law_gcd d__law_gcd
  g__law_gcd : mg "_law_gcd" = some (.ref f__law_gcd)
  b__law_gcd : Binds K d__law_gcd ["a", "b"] []
  f__law_integer : Addr
  d__law_integer : FuncData
  F__law_integer : FnP K "_law_integer" s__law_integer [] f__law_integer d__law_integer
  g__law_integer : mg "_law_integer" = some (.ref f__law_integer)
  b__law_integer : Binds K d__law_integer ["item"] []
  f__law_is : Addr
  d__law_is : FuncData
  F__law_is : FnP K "_law_is" s__law_is [] f__law_is d__law_is
  g__law_is : mg "_law_is" = some (.ref f__law_is)
  b__law_is : Binds K d__law_is ["item", "n", "d"] []
  f__law_number : Addr
  d__law_number : FuncData
  F__law_number : FnP K "_law_number" s__law_number [] f__law_number d__law_number
  g__law_number : mg "_law_number" = some (.ref f__law_number)
  b__law_number : Binds K d__law_number ["row"] []
  f__law_steps : Addr
  d__law_steps : FuncData
  F__law_steps : FnP K "_law_steps" s__law_steps [] f__law_steps d__law_steps
  g__law_steps : mg "_law_steps" = some (.ref f__law_steps)
  b__law_steps : Binds K d__law_steps ["root"] []
  f_law : Addr
  d_law : FuncData
  F_law : FnP K "law" s_law [] f_law d_law
  g_law : mg "law" = some (.ref f_law)
  b_law : Binds K d_law ["script"] []
  z_abs : mg "abs" = none
  z_bool : mg "bool" = none
  z_int : mg "int" = none
  z_isinstance : mg "isinstance" = none
  z_len : mg "len" = none
  z_range : mg "range" = none
  z_tuple : mg "tuple" = none
  g_gcd : mg "gcd" = some (.builtin "math.gcd")
  g_isqrt : mg "isqrt" = some (.builtin "math.isqrt")
  a_ZERO : Addr
  g_ZERO : mg "ZERO" = some (.ref a_ZERO)
  r_ZERO : RelV (.ref a_ZERO) (.ref a_ZERO)
  t_ZERO : ∀ H : Hp, SqT K H a_ZERO [.int 0, .int 1]
  u_MILLION : Value
  g_MILLION : mg "MILLION" = some u_MILLION
  r_MILLION : RelV (.int 1000000) u_MILLION
set_option hygiene false in
local macro_rules | `(tactic| walk_at "ev") => `(tactic| first
  | exact ev_var rfl
  | exact ev_c
  | exact ea_n
  | rfl
  | exact Nat.le_of_ble_eq_true rfl
  | (refine' ea_c ?_ ?_ <;> walk_at "ev")
  | (refine' ev_I0 ?_ ?_ <;> walk_at "ev")
  | (refine' ev_I ?_ ?_ ?_ <;> walk_at "ev")
  | (refine' ev_ixT (K := K) ?_ ?_ ?_ <;> walk_at "ev")
  | (refine' ev_neg ?_ <;> walk_at "ev")
  | (refine' ev_tup (K := K) ?_ ?_ <;> walk_at "ev")
  | (refine' ev_gcd ?_ ?_ <;> walk_at "ev")
  | (refine' ev_abs ?_ <;> walk_at "ev")
  | (refine' ev_int ?_ <;> walk_at "ev")
  | (refine' et_test ?_ <;> walk_at "ev")
  | (refine' et_B ?_ <;> walk_at "ev")
  | (refine' et_not ?_ <;> walk_at "ev")
  | (show CMulY _ _; assumption)
  | (show CDivW _ _; assumption)
  | (show CPow _ _; assumption)
  | (show (0 : Int) < _; assumption)
  | skip)
section
variable {P : Program} {w : World} {K : PySem.W.Frag} {mg : Str → Option Value} {base : Heap}
theorem ok_ratio (T : Txt K mg) : FnOk P w K mg base CX0 1 T.f_ratio T.d_ratio ["n", "d"] (spRatio K) := by
  refine fn_ok 1 T.F_ratio sc_ratio rfl (fun _ => rfl) fun cdv A outer s H E hr => ⟨_, (pss_cons (ps_if (pt_cmpR op_lt (pv 1) pe_int (nomark _)) (pss_one (ps_par (i := 0) (j := 1) (by rfl) sc_ratio.nd rfl rfl (by decide) rfl rfl (pa_cons (pe_un un_neg (pv 0)) (pa_cons (pe_un un_neg (pv 1)) pa_nil)) (by rfl))) pss_nil) (pss_cons (ps_set (i := 2) sc_ratio.nd rfl (.inl rfl) (pe_callBfun cr_gcd (by rfl) T.g_gcd (pa_cons (pv 0) (pa_cons (pv 1) pa_nil)))) (pss_one (ps_ret (pe_tup (pa_cons (pe_op op_fdivW (pv 0) (pv 2)) (pa_cons (pe_op op_fdivW (pv 1) (pv 2)) pa_nil))))))), fun i hi => ?_⟩
  obtain ⟨n, d⟩ := i
  obtain ⟨h1, h2⟩ := hi
  show Stm _ [.im (rInt n), .im (rInt d), .no] _
  refine st_seq (M := fun Γ' => Γ' = [.im (rInt ((if d < 0 then -1 else 1) * n)), .im (rInt ((if d < 0 then -1 else 1) * d)), .no]) (st_if (b := decide (d < 0)) (by walk_at "ev") (fun z => ?_) fun z => ?_) ?_
  · have z := of_decide_eq_true z
    refine st_parE (A := rInt (-n)) (B := rInt (-d)) (by walk_at "ev") ?_
    rw [if_pos z, Int.neg_one_mul, Int.neg_one_mul]
    rfl
  · have z := of_decide_eq_false z
    refine st_next ?_
    show _ = _
    rw [if_neg z, Int.one_mul, Int.one_mul]
  · rintro Γ' rfl
    have hg : 0 < (Nat.gcd n.natAbs d.natAbs : Int) := by
      have : Nat.gcd n.natAbs d.natAbs ≠ 0 := by
        intro z
        rw [Nat.gcd_eq_zero_iff] at z
        exact h1 (by omega)
      omega
    have hl : lg (Nat.gcd n.natAbs d.natAbs : Int) < 9000 := by
      refine Nat.lt_of_le_of_lt ?_ h2
      unfold lg
      rw [Int.natAbs_natCast]
      exact log2_mono (Nat.le_of_dvd (by have h1' : d ≠ 0 := h1; omega) (Nat.gcd_dvd_right _ _))
    have eg : ∀ s : Int, (s = 1 ∨ s = -1) → Nat.gcd (s * n).natAbs (s * d).natAbs = Nat.gcd n.natAbs d.natAbs := by
      rintro s (rfl | rfl)
      · rw [Int.one_mul, Int.one_mul]
      · rw [Int.neg_one_mul, Int.neg_one_mul, Int.natAbs_neg, Int.natAbs_neg]
    have es := eg (if d < 0 then -1 else 1) (by split <;> simp)
    refine st_set (A := rInt (Nat.gcd n.natAbs d.natAbs : Int)) ((ev_gcd (ev_var rfl) (ev_var rfl)).to (by rw [es])) ?_
    have m1 : ∀ x : Int, CDivW x (Nat.gcd n.natAbs d.natAbs : Int) := fun _ => ⟨hg, hl⟩
    have m2 := m1 ((if d < 0 then -1 else 1) * n)
    have m3 := m1 ((if d < 0 then -1 else 1) * d)
    exact st_retE (by walk_at "ev") rfl
theorem ok__law_rows (T : Txt K mg) : FnOk P w K mg base CX0 1 T.f__law_rows T.d__law_rows ["script", "count"] (spRows K) := by
  refine fn_ok 3 T.F__law_rows sc__law_rows rfl (fun _ => rfl) fun cdv A outer s H E hr => ⟨_, (pss_cons (ps_set (i := 2) sc__law_rows.nd rfl (.inl rfl) (pe_lst pa_nil)) (pss_cons (ps_for PassesOwn.never rfl (pi_range1 (by rfl) T.z_range (pa_cons (pv 1) pa_nil)) (pg_name (i := 3) sc__law_rows.nd rfl (.inl rfl)) (pss_cons (ps_set (i := 4) sc__law_rows.nd rfl (.inl rfl) pe_int) (pss_cons (ps_if (pt_cmpR op_lt (pv 3) (pe_callB call_len_seq (by rfl) T.z_len (by decide +kernel) (pa_cons (pv 0) pa_nil)) (nomark _)) (pss_one (ps_set (i := 4) sc__law_rows.nd rfl (.inl rfl) (pe_callTy call_int1 (by rfl) T.z_int (by decide +kernel) (pa_cons (pe_ix ix_list (pv 0) (pv 3) (fun _ _ => rfl)) pa_nil)))) pss_nil) (pss_cons (ps_if (pt_cmpR op_lt (pv 4) pe_int (nomark _)) (pss_one (ps_set (i := 4) sc__law_rows.nd rfl (.inl rfl) (pe_op op_sub pe_int (pe_op op_mulY pe_int (pv 4))))) pss_nil) (pss_cons (ps_if (PW.pt (pw_or (pt_cmpR op_ge (pv 3) (pe_callB call_len_seq (by rfl) T.z_len (by decide +kernel) (pa_cons (pv 0) pa_nil)) (nomark _)) (pw_or1 (pt_cmpR op_lt (pv 4) pe_int (nomark _))))) (pss_cons (ps_set (i := 4) sc__law_rows.nd rfl (.inl rfl) (pe_op op_mod (pe_callTy call_int1 (by rfl) T.z_int (by decide +kernel) (pa_cons (pe_op op_add (pe_op op_mulY (pe_op op_add (pe_op op_add (pv 4) (pe_op op_mulY pe_int (pv 3))) pe_int) pe_int) (pe_op op_mulY (pe_op op_mulY (pv 3) (pv 3)) pe_int)) pa_nil)) pe_int)) (pss_one (ps_set (i := 4) sc__law_rows.nd rfl (.inl rfl) (pe_op op_mod (pe_callTy call_int1 (by rfl) T.z_int (by decide +kernel) (pa_cons (pe_op op_mulY (pe_op op_add (pe_op op_add (pv 4) (pe_op op_mulY pe_int (pv 3))) pe_int) pe_int) pa_nil)) pe_int)))) pss_nil) (pss_one (ps_expr (pe_bm PySem.F.plainAttrs_list PySem.F.slot_list_append PySem.F.type_list_append mt_append (pv 2) (pa_cons (pv 4) pa_nil))))))))) (pss_one (ps_ret (pv 2))))), fun i hi => ?_⟩
  obtain ⟨ns, n⟩ := i
  obtain ⟨S, hn⟩ := hi
  show Stm _ [.im (rLst K (ns.map rInt)), .im (rInt n), .no, .no, .no] _
  have hn : n ≤ 1000 := hn
  refine st_setL ea_n ?_ (by decide)
  show Stm _ [.im (rLst K (ns.map rInt)), .im (rInt n), .ml [], .no, .no] _
  refine st_seq (M := fun Γ' => ∃ e3 e4, Γ' = [.im (rLst K (ns.map rInt)), .im (rInt n), .ml ((List.range n).map fun k => rInt (rowF ns k)), e3, e4]) ?_ ?_
  · refine st_range (n := n) (by walk_at "ev") ⟨by omega, by omega⟩ (fun k Γ' => ∃ e3 e4, Γ' = [.im (rLst K (ns.map rInt)), .im (rInt n), .ml ((List.range k).map fun k => rInt (rowF ns k)), e3, e4]) ⟨_, _, rfl⟩ ?_ ?_
    · rintro k _ hk ⟨e3, e4, rfl⟩
      have hk : k < n := by omega
      show Stm _ [.im (rLst K (ns.map rInt)), .im (rInt n), .ml ((List.range k).map fun k => rInt (rowF ns k)), .im (rInt k), e4] _
      refine st_set ev_c ?_
      show Stm _ [.im (rLst K (ns.map rInt)), .im (rInt n), .ml ((List.range k).map fun k => rInt (rowF ns k)), .im (rInt k), .im (rInt 0)] _
      generalize hc : ns[k]?.getD 0 = c
      have hlen : ((ns.map rInt).length : Int) = (ns.length : Int) := by rw [List.length_map]
      refine st_seq (M := fun Γ' => Γ' = [.im (rLst K (ns.map rInt)), .im (rInt n), .ml ((List.range k).map fun k => rInt (rowF ns k)), .im (rInt k), .im (rInt c)]) (st_if (b := decide ((k : Int) < ns.length)) ?_ (fun z => ?_) fun z => ?_) ?_
      · refine et_test (ev_I0 (g := fun i j => .bl (decide (i < j))) (ev_var rfl) ((ev_lenL (ev_var rfl)).to (by rw [hlen])))
      · have z := of_decide_eq_true z
        refine st_asg (A := rInt c) (ev_int ((ev_ixI (ev_var rfl) (ev_var rfl) (by omega) z).to ?_)) rfl
        rw [Int.toNat_natCast, hc]
      · have z := of_decide_eq_false z
        refine st_next ?_
        show _ = _
        rw [← hc, List.getElem?_eq_none (by omega)]
        rfl
      rintro _ rfl
      generalize hc1 : (if c < 0 then 1 - 2 * c else c) = c1
      have m0 : CMulY 2 c := by
        have : lg c ≤ 1048576 := by
          rw [← hc]
          cases e : ns[k]? with
          | none => exact Nat.zero_le _
          | some z => exact S.bits z (List.mem_of_getElem? e)
        have e2 : lg 2 = 1 := by decide
        unfold CMulY
        omega
      refine st_seq (M := fun Γ' => Γ' = [.im (rLst K (ns.map rInt)), .im (rInt n), .ml ((List.range k).map fun k => rInt (rowF ns k)), .im (rInt k), .im (rInt c1)]) (st_if (b := decide (c < 0)) (by walk_at "ev") (fun z => ?_) fun z => ?_) ?_
      · have z := of_decide_eq_true z
        refine st_asg (A := rInt (1 - 2 * c)) (by walk_at "ev") ?_
        show _ = _
        rw [← hc1, if_pos z]
        rfl
      · have z := of_decide_eq_false z
        refine st_next ?_
        show _ = _
        rw [← hc1, if_neg z]
      rintro _ rfl
      have hr0 : rowF ns k = if (decide ((ns.length : Int) ≤ k) || decide (c1 < 1000000000)) = true then mixF k c1 else c1 := by
        unfold rowF
        rw [hc]
        show (if (_ || decide ((if c < 0 then 1 - 2 * c else c) < _)) = true then mixF k (if c < 0 then 1 - 2 * c else c) else (if c < 0 then 1 - 2 * c else c)) = _
        rw [hc1]
      refine st_seq (M := fun Γ' => Γ' = [.im (rLst K (ns.map rInt)), .im (rInt n), .ml ((List.range k).map fun k => rInt (rowF ns k)), .im (rInt k), .im (rInt (rowF ns k))]) (st_if (b := decide ((ns.length : Int) ≤ k) || decide (c1 < 1000000000)) ?_ (fun z => ?_) fun z => ?_) ?_
      · refine et_or (et_test (ev_I0 (g := fun i j => .bl (decide (j ≤ i))) (ev_var rfl) ((ev_lenL (ev_var rfl)).to (by rw [hlen])))) fun _ => ?_
        walk_at "ev"
      · rw [if_pos z] at hr0
        have b0 : 0 ≤ c1 ∧ c1 < 1000000000 := by
          rcases Bool.or_eq_true_iff.mp z with y | y
          · have y := of_decide_eq_true y
            have e : c = 0 := by
              rw [← hc, List.getElem?_eq_none (by omega)]
              rfl
            rw [← hc1, e]
            decide
          · have y := of_decide_eq_true y
            refine ⟨?_, y⟩
            rw [← hc1]
            split <;> omega
        have bk : 0 ≤ (k : Int) * k ∧ (k : Int) * k < 1000000 := by
          have h1 : k * k ≤ 999 * 999 := Nat.mul_le_mul (by omega) (by omega)
          have h2 : ((k * k : Nat) : Int) = (k : Int) * k := Int.natCast_mul k k
          omega
        have bm := Int.emod_lt_of_pos ((c1 + 131 * k + 7) * 48271 + k * k * 69621) (show (0 : Int) < 1000000007 by decide)
        have bn := Int.emod_nonneg ((c1 + 131 * k + 7) * 48271 + k * k * 69621) (show (1000000007 : Int) ≠ 0 by decide)
        have m1 : CMulY 131 (k : Int) := cm64 (by omega) (by omega)
        have m2 : CMulY (c1 + 131 * k + 7) 48271 := cm64 (by omega) (by omega)
        have m3 : CMulY (k : Int) (k : Int) := cm64 (by omega) (by omega)
        have m4 : CMulY ((k : Int) * k) 69621 := cm64 (by omega) (by omega)
        have m5 : CMulY 17 (k : Int) := cm64 (by omega) (by omega)
        have m6 : CMulY (((c1 + 131 * k + 7) * 48271 + k * k * 69621) % 1000000007 + 17 * k + 3) 2862933555777941757 := cm64 (by omega) (by decide)
        have p1 : (0 : Int) < 1000000007 := by decide
        have p2 : (0 : Int) < 18446744073709551557 := by decide
        refine st_set (A := rInt (((c1 + 131 * k + 7) * 48271 + k * k * 69621) % 1000000007)) (by walk_at "ev") ?_
        refine st_asg (A := rInt (mixF k c1)) (by walk_at "ev") ?_
        show _ = _
        rw [hr0]
        rfl
      · rw [if_neg (by rw [z]; decide)] at hr0
        refine st_next ?_
        show _ = _
        rw [hr0]
      rintro _ rfl
      refine st_app rfl (ev_var rfl) (by rw [List.length_map, List.length_range]; omega) ?_
      refine ⟨.im (rInt k), .im (rInt (rowF ns k)), ?_⟩
      show [En.im (rLst K (ns.map rInt)), .im (rInt n), .ml ((List.range k).map (fun k => rInt (rowF ns k)) ++ [rInt (rowF ns k)]), .im (rInt k), .im (rInt (rowF ns k))] = _
      rw [List.range_succ, List.map_append]
      rfl
    · rintro _ ⟨e3, e4, rfl⟩
      exact ⟨e3, e4, by rw [Int.toNat_natCast]⟩
  · rintro _ ⟨e3, e4, rfl⟩
    refine st_freeze K 2 rfl ?_
    exact st_ret (ev_var rfl)
theorem ok__law_gcd (T : Txt K mg) : FnOk P w K mg base CX0 1 T.f__law_gcd T.d__law_gcd ["a", "b"] (spGcd K) := by
  refine fn_ok 3 T.F__law_gcd sc__law_gcd rfl (fun _ => rfl) fun cdv A outer s H E hr => ⟨_, (pss_cons (ps_set (i := 2) sc__law_gcd.nd rfl (.inl rfl) (pe_callB call_abs (by rfl) T.z_abs (by decide +kernel) (pa_cons (pv 0) pa_nil))) (pss_cons (ps_set (i := 3) sc__law_gcd.nd rfl (.inl rfl) (pe_callB call_abs (by rfl) T.z_abs (by decide +kernel) (pa_cons (pv 1) pa_nil))) (pss_cons (ps_for PassesOwn.never rfl (pi_range1 (by rfl) T.z_range (pa_cons pe_int pa_nil)) (pg_name (i := 4) sc__law_gcd.nd rfl (.inl rfl)) (pss_cons (ps_if (pt_cmpR op_eq (pv 3) pe_int (nomark _)) (pss_one ps_break) pss_nil) (pss_one (ps_par (i := 2) (j := 3) (by rfl) sc__law_gcd.nd rfl rfl (by decide) rfl rfl (pa_cons (pv 3) (pa_cons (pe_op op_mod (pe_callTy call_int1 (by rfl) T.z_int (by decide +kernel) (pa_cons (pv 2) pa_nil)) (pv 3)) pa_nil)) (by rfl))))) (pss_one (ps_ret (pv 2)))))), fun i hi => ?_⟩
  obtain ⟨a, b⟩ := i
  have hb : b.natAbs < 2 ^ 2600 := hi
  show Stm _ [.im (rInt a), .im (rInt b), .no, .no, .no] _
  refine st_set (by walk_at "ev") ?_
  refine st_set (by walk_at "ev") ?_
  show Stm _ [.im (rInt a), .im (rInt b), .im (rInt (a.natAbs : Int)), .im (rInt (b.natAbs : Int)), .no] _
  generalize hg : Nat.gcd a.natAbs b.natAbs = g
  refine st_seq (M := fun Γ' => ∃ e3 e4, Γ' = [.im (rInt a), .im (rInt b), .im (rInt (g : Int)), e3, e4]) ?_ ?_
  · refine st_range (n := 4000) (by walk_at "ev") ⟨by decide, by decide⟩ (fun k Γ' => ∃ (f s : Nat) (e4 : En), Γ' = [.im (rInt a), .im (rInt b), .im (rInt (f : Int)), .im (rInt (s : Int)), e4] ∧ Nat.gcd f s = g ∧ Turn b.natAbs k f s) ⟨_, _, _, rfl, hg, .inl ⟨rfl, rfl⟩⟩ ?_ ?_
    · rintro k _ hk ⟨f, s', e4, rfl, h1, h2⟩
      show Stm _ [.im (rInt a), .im (rInt b), .im (rInt (f : Int)), .im (rInt (s' : Int)), .im (rInt k)] _
      refine st_guard (b := decide (V.int (s' : Int) = V.int 0)) (et_test (ev_eq (ev_var rfl) ev_c rfl)) (fun z => ?_) fun z => ?_
      · have z := V.int.inj (of_decide_eq_true z)
        have e : s' = 0 := by omega
        subst e
        rw [Nat.gcd_zero_right] at h1
        refine st_break ⟨.im (rInt ((0 : Nat) : Int)), .im (rInt k), ?_⟩
        rw [h1]
      · have z := of_decide_eq_false z
        have hs : 0 < s' := by
          rcases Nat.eq_zero_or_pos s' with e | e
          · subst e
            exact absurd rfl z
          · exact e
        refine st_parE (A := rInt (s' : Int)) (B := rInt ((f : Int) % (s' : Int))) (ea_c (ev_var rfl) (ea_c (ev_modI (ev_int (ev_var rfl)) (ev_var rfl) (by omega)) ea_n)) ?_
        refine ⟨s', f % s', .im (rInt k), ?_, ?_, h2.next hs⟩
        · rw [Int.natCast_emod]
          rfl
        · rw [← h1, Nat.gcd_comm f s', Nat.gcd_rec s' f, Nat.gcd_comm]
    · rintro _ ⟨f, s', e4, rfl, h1, h2⟩
      have e : s' = 0 := h2.last hb
      subst e
      rw [Nat.gcd_zero_right] at h1
      exact ⟨_, _, by rw [h1]⟩
  · rintro _ ⟨e3, e4, rfl⟩
    exact st_ret (ev_var rfl)
theorem ok__law_integer (T : Txt K mg) : FnOk P w K mg base CX0 1 T.f__law_integer T.d__law_integer ["item"] (spInteger K) := by
  refine fn_ok 0 T.F__law_integer sc__law_integer rfl (fun _ => rfl) fun cdv A outer s H E hr => ⟨_, (pss_one (ps_ret (pe_and (pe_callB call_isi (by rfl) T.z_isinstance (by decide +kernel) (pa_cons (pv 0) (pa_cons (pe_bltn (v := .ty "int") (by rfl) T.z_int (by decide +kernel) rfl) pa_nil))) (pe_one (pe_not (pe_callB call_isi (by rfl) T.z_isinstance (by decide +kernel) (pa_cons (pv 0) (pa_cons (pe_bltn (v := .ty "bool") (by rfl) T.z_bool (by decide +kernel) rfl) pa_nil)))))))), fun i hi => ?_⟩
  show Stm _ [.im (rInt i)] _
  refine st_retE (ev_andV (a := true) (b := true) (ev_isi (t := "int") (ev_var rfl) (by decide +kernel) ty_int) fun _ => (ev_notV (a := false) (ev_isi (t := "int") (ev_var rfl) (by decide +kernel) ty_int))) rfl
theorem ev_ZERO {Γ : List En} (T : Txt K mg) : Ev (tC (.ref T.a_ZERO)) Γ (rQ K (0, 1)) := ev_g fun F => ⟨_, _, rfl, T.t_ZERO F, lAll_int (ns := [0, 1])⟩
/-! the roots -/
def rbS (q : Q) : Int := if q.1 < 0 then 0 else (isq (q.1 * 10 ^ (12 : Int).toNat / q.2) : Int)
def raS (q : Q) : Int := if q.1 ≤ 0 then 0 else (isq (-(-q.1 * 10 ^ (12 : Int).toNat / q.2) - 1) : Int) + 1
def rbQ (q : Q) : Q := if q.1 < 0 then (0, 1) else nrm (rbS q) 1000000
def raQ (q : Q) : Q := nrm (raS q) 1000000
theorem isq_self {a : Int} (h : 0 ≤ a) : (isq a : Int) ≤ a := by
  have h1 := isq_le h
  rcases Nat.eq_zero_or_pos (isq a) with e | e
  · rw [e]
    exact h
  · have : (1 : Int) * (isq a) ≤ (isq a : Int) * isq a := Int.mul_le_mul_of_nonneg_right (by omega) (by omega)
    omega
def RtP (q : Q) : Prop := Bq 200 200 q
def spBelow (K : PySem.W.Frag) : Sp := spOf (fun q : Q => [rQ K q]) RtP fun q => rQ K (rbQ q)
def spAbove (K : PySem.W.Frag) : Sp := spOf (fun q : Q => [rQ K q]) RtP fun q => rQ K (raQ q)
theorem c_below {Γ : List En} {tl : TA} {E : XK} {q : Q} (h : EvA tl Γ (lAll [rQ K q])) (p : RtP q) : Ev (tCall (spBelow K) [] E tl) Γ (rQ K (rbQ q)) := ev_call0 q h p
theorem c_above {Γ : List En} {tl : TA} {E : XK} {q : Q} (h : EvA tl Γ (lAll [rQ K q])) (p : RtP q) : Ev (tCall (spAbove K) [] E tl) Γ (rQ K (raQ q)) := ev_call0 q h p
theorem p12 : CPow 10 12 := ⟨by decide, by decide, by decide⟩
theorem s12 : Sm 40 (10 ^ (12 : Int).toNat) := by decide
theorem n6 : (1000000 : Int) ≠ 0 := by decide
theorem l6 : lg 1000000 < 9000 := by decide
theorem sm_div {x d : Int} {k : Nat} (h : Sm k x) : Sm k (x / d) := Sm.le h (Int.natAbs_ediv_le_natAbs _ _)
theorem ok_root_below (T : Txt K mg) : FnOk P w K mg base CX0 2 T.f_root_below T.d_root_below ["a"] (spBelow K) := by
  refine fn_ok 2 T.F_root_below sc_root_below rfl (fun _ => rfl) fun cdv A outer s H E hr => ⟨_, (pss_cons (ps_asg (pv 0) (pg_tup rfl (pgs_cons (pg_name (i := 1) sc_root_below.nd rfl (.inl rfl)) (pgs_cons (pg_name (i := 2) sc_root_below.nd rfl (.inl rfl)) pgs_nil)))) (pss_cons (ps_if (pt_cmpR op_lt (pv 1) pe_int (nomark _)) (pss_one (ps_ret (pe_glob (by rfl) T.g_ZERO T.r_ZERO))) pss_nil) (pss_one (ps_ret (pe_call (ok_ratio T) (hr.mono (by decide)) (by rfl) T.g_ratio T.F_ratio.kp T.b_ratio .nil pass0 (pa_cons (pe_callBfun cr_isqrt (by rfl) T.g_isqrt (pa_cons (pe_op op_fdivW (pe_op op_mulY (pv 1) (pe_op op_pow pe_int pe_int)) (pv 2)) pa_nil)) (pa_cons (pe_glob (by rfl) T.g_MILLION T.r_MILLION) pa_nil))))))), fun i hi => ?_⟩
  have b : Bq 200 200 i := hi
  show Stm _ [.im (rQ K i), .no, .no] _
  refine st_unpack (K := K) (A := rInt i.1) (B := rInt i.2) (ev_var rfl) ?_
  show Stm _ [.im (rQ K i), .im (rInt i.1), .im (rInt i.2)] _
  refine st_guard (b := decide (i.1 < 0)) (by walk_at "ev") (fun z => ?_) fun z => ?_
  · have z := of_decide_eq_true z
    refine st_retE (ev_ZERO T) ?_
    show rQ K (0, 1) = rQ K (rbQ i)
    unfold rbQ
    rw [if_pos z]
  · have z := of_decide_eq_false z
    have q12 := p12
    have m1 : CMulY i.1 (10 ^ (12 : Int).toNat) := b.n.mulX s12 (by decide)
    have pd := b.pos
    have d1 : CDivW (i.1 * 10 ^ (12 : Int).toNat) i.2 := ⟨pd, Nat.lt_of_le_of_lt b.d.lg (by decide)⟩
    have h0 : 0 ≤ i.1 * 10 ^ (12 : Int).toNat / i.2 := Int.ediv_nonneg (Int.mul_nonneg (by omega) (by decide)) (by omega)
    refine st_retE (c_ratio (n := (isq (i.1 * 10 ^ (12 : Int).toNat / i.2) : Int)) (d := 1000000) (ea_c (ev_isqrt (by walk_at "ev") h0 ?_) (by walk_at "ev")) n6 l6) ?_
    · exact Nat.le_trans (sm_div (d := i.2) (b.n.mul s12)).lg (by decide)
    · show rQ K _ = rQ K (rbQ i)
      unfold rbQ rbS
      rw [if_neg z, if_neg z]
def spMil : Sp := spOf (fun q : Q => [rInt q.1, rInt q.2]) RtP fun q => rInt (raS q)
theorem c_mil {Γ : List En} {tl : TA} {E : XK} {q : Q} (h : EvA tl Γ (lAll [rInt q.1, rInt q.2])) (p : RtP q) : Ev (tCall spMil [] E tl) Γ (rInt (raS q)) := ev_call0 q h p
theorem ok_millionths_above (T : Txt K mg) : FnOk P w K mg base CX0 1 T.f_millionths_above T.d_millionths_above ["n", "d"] spMil := by
  refine fn_ok 1 T.F_millionths_above sc_millionths_above rfl (fun _ => rfl) fun cdv A outer s H E hr => ⟨_, (pss_cons (ps_if (pt_cmpR op_le (pv 0) pe_int (nomark _)) (pss_one (ps_ret pe_int)) pss_nil) (pss_cons (ps_set (i := 2) sc_millionths_above.nd rfl (.inl rfl) (pe_un un_neg (pe_op op_fdivW (pe_op op_mulY (pe_un un_neg (pv 0)) (pe_op op_pow pe_int pe_int)) (pv 1)))) (pss_one (ps_ret (pe_op op_add (pe_callBfun cr_isqrt (by rfl) T.g_isqrt (pa_cons (pe_op op_sub (pv 2) pe_int) pa_nil)) pe_int))))), fun i hi => ?_⟩
  have b : Bq 200 200 i := hi
  show Stm _ [.im (rInt i.1), .im (rInt i.2), .no] _
  refine st_guard (b := decide (i.1 ≤ 0)) (by walk_at "ev") (fun z => ?_) fun z => ?_
  · have z := of_decide_eq_true z
    exact st_retE ev_c (rInt_eq (if_pos z).symm)
  · have z := of_decide_eq_false z
    have q12 := p12
    have m1 : CMulY (-i.1) (10 ^ (12 : Int).toNat) := b.n.neg.mulX s12 (by decide)
    have pd := b.pos
    have d1 : CDivW (-i.1 * 10 ^ (12 : Int).toNat) i.2 := ⟨pd, Nat.lt_of_le_of_lt b.d.lg (by decide)⟩
    refine st_set (A := rInt (-(-i.1 * 10 ^ (12 : Int).toNat / i.2))) (by walk_at "ev") ?_
    have h0 : 0 ≤ -(-i.1 * 10 ^ (12 : Int).toNat / i.2) - 1 := by
      have hn : -i.1 * 10 ^ (12 : Int).toNat < 0 := Int.mul_neg_of_neg_of_pos (by omega) (by decide)
      have := Int.ediv_neg_of_neg_of_pos hn pd
      omega
    refine st_retE (ev_I0 (ev_isqrt (a := -(-i.1 * 10 ^ (12 : Int).toNat / i.2) - 1) (by walk_at "ev") h0 ?_) ev_c) ?_
    · exact Nat.le_trans (Sm.sub (k := 240) (sm_div (d := i.2) (b.n.neg.mul s12)).neg (by decide)).lg (by decide)
    · exact rInt_eq (if_neg z).symm
theorem ok_root_above (T : Txt K mg) : FnOk P w K mg base CX0 2 T.f_root_above T.d_root_above ["a"] (spAbove K) := by
  refine fn_ok 2 T.F_root_above sc_root_above rfl (fun _ => rfl) fun cdv A outer s H E hr => ⟨_, (pss_cons (ps_asg (pv 0) (pg_tup rfl (pgs_cons (pg_name (i := 1) sc_root_above.nd rfl (.inl rfl)) (pgs_cons (pg_name (i := 2) sc_root_above.nd rfl (.inl rfl)) pgs_nil)))) (pss_one (ps_ret (pe_call (ok_ratio T) (hr.mono (by decide)) (by rfl) T.g_ratio T.F_ratio.kp T.b_ratio .nil pass0 (pa_cons (pe_call (ok_millionths_above T) (hr.mono (by decide)) (by rfl) T.g_millionths_above T.F_millionths_above.kp T.b_millionths_above .nil pass0 (pa_cons (pv 1) (pa_cons (pv 2) pa_nil))) (pa_cons (pe_glob (by rfl) T.g_MILLION T.r_MILLION) pa_nil)))))), fun i hi => ?_⟩
  have b : Bq 200 200 i := hi
  show Stm _ [.im (rQ K i), .no, .no] _
  refine st_unpack (K := K) (A := rInt i.1) (B := rInt i.2) (ev_var rfl) ?_
  show Stm _ [.im (rQ K i), .im (rInt i.1), .im (rInt i.2)] _
  exact st_retE (c_ratio (n := raS i) (d := 1000000) (ea_c (c_mil (by walk_at "ev") b) (by walk_at "ev")) n6 l6) rfl
/-! the law's own -/
structure StP (p : Q × Int) : Prop where
  is : IsQ p.1 p.2 1000000
  pos : 0 ≤ p.2
  s1 : Sm 100000 p.1.1
  s2 : Sm 2600 p.1.2
def spSteps (K : PySem.W.Frag) : Sp := spOf (fun p : Q × Int => [rQ K p.1]) StP fun p => rInt p.2
theorem c_steps {Γ : List En} {tl : TA} {E : XK} {q : Q} {s : Int} (h : EvA tl Γ (lAll [rQ K q])) (p : StP (q, s)) : Ev (tCall (spSteps K) [] E tl) Γ (rInt s) := ev_call0 (q, s) h p
theorem ok__law_steps (T : Txt K mg) : FnOk P w K mg base CX0 2 T.f__law_steps T.d__law_steps ["root"] (spSteps K) := by
  refine fn_ok 0 T.F__law_steps sc__law_steps rfl (fun _ => rfl) fun cdv A outer s H E hr => ⟨_, (pss_cons (ps_if (PW.pt (pw_or (pt_not (pt_val (pe_callB call_isi (by rfl) T.z_isinstance (by decide +kernel) (pa_cons (pv 0) (pa_cons (pe_bltn (v := .ty "tuple") (by rfl) T.z_tuple (by decide +kernel) rfl) pa_nil))))) (pw_or (pt_cmpR op_ne (pe_callB call_len_seq (by rfl) T.z_len (by decide +kernel) (pa_cons (pv 0) pa_nil)) pe_int (nomark _)) (pw_or (pt_not (pt_val (pe_call (ok__law_integer T) (hr.mono (by decide)) (by rfl) T.g__law_integer T.F__law_integer.kp T.b__law_integer .nil pass0 (pa_cons (pe_ix ix_tup (pv 0) pe_int (fun _ _ => rfl)) pa_nil)))) (pw_or1 (pt_not (pt_val (pe_call (ok__law_integer T) (hr.mono (by decide)) (by rfl) T.g__law_integer T.F__law_integer.kp T.b__law_integer .nil pass0 (pa_cons (pe_ix ix_tup (pv 0) pe_int (fun _ _ => rfl)) pa_nil))))))))) (pss_one (ps_ret (pe_un un_neg pe_int))) pss_nil) (pss_cons (ps_if (PW.pt (pw_or (pt_cmpR op_lt (pe_ix ix_tup (pv 0) pe_int (fun _ _ => rfl)) pe_int (nomark _)) (pw_or (pt_cmpR op_ne (pe_op op_mod (pe_callTy call_int1 (by rfl) T.z_int (by decide +kernel) (pa_cons (pe_op op_mulY (pe_ix ix_tup (pv 0) pe_int (fun _ _ => rfl)) pe_int) pa_nil)) (pe_ix ix_tup (pv 0) pe_int (fun _ _ => rfl))) pe_int (nomark _)) (pw_or1 (pt_cmpR op_ne (pe_call (ok__law_gcd T) (hr.mono (by decide)) (by rfl) T.g__law_gcd T.F__law_gcd.kp T.b__law_gcd .nil pass0 (pa_cons (pe_ix ix_tup (pv 0) pe_int (fun _ _ => rfl)) (pa_cons (pe_ix ix_tup (pv 0) pe_int (fun _ _ => rfl)) pa_nil))) pe_int (nomark _)))))) (pss_one (ps_ret (pe_un un_neg pe_int))) pss_nil) (pss_one (ps_ret (pe_op op_fdivW (pe_op op_mulY (pe_ix ix_tup (pv 0) pe_int (fun _ _ => rfl)) pe_int) (pe_ix ix_tup (pv 0) pe_int (fun _ _ => rfl))))))), fun i hi => ?_⟩
  obtain ⟨q, s⟩ := i
  obtain ⟨⟨h1, h2, h3⟩, h4, s1, s2⟩ := hi
  have h1 : 1 ≤ q.2 := h1
  have h2 : q.1 * 1000000 = s * q.2 := h2
  have h3 : Nat.gcd q.1.natAbs q.2.natAbs = 1 := h3
  show Stm _ [.im (rQ K q)] _
  refine st_skip (et_or (et_not (et_B (ev_isi (t := "tuple") (b := true) (ev_var rfl) (by decide +kernel) ty_tup))) fun _ => et_or (et_test (ev_ne (ev_lenT (ev_var rfl)) ev_c rfl)) fun _ => et_or (et_not (et_B (c_integer (by walk_at "ev")))) fun _ => et_not (et_B (c_integer (by walk_at "ev")))) rfl ?_
  have m1 : CMulY q.1 1000000 := s1.mulX (l := 20) (by decide) (by decide)
  have p2 : (0 : Int) < q.2 := by omega
  have l2 : lg q.2 < 9000 := Nat.lt_of_le_of_lt s2.lg (by decide)
  have d1 : CDivW (q.1 * 1000000) q.2 := ⟨p2, l2⟩
  have e1 : q.1 * 1000000 % q.2 = 0 := by
    rw [h2]
    exact Int.mul_emod_left _ _
  have e2 : q.1 * 1000000 / q.2 = s := by
    rw [h2]
    exact Int.mul_ediv_cancel _ (by omega)
  refine st_skip (et_or (show EvT _ _ (decide (q.2 < 1)) by walk_at "ev") fun _ => et_or (et_test (ev_ne (x := .int (q.1 * 1000000 % q.2)) (by walk_at "ev") ev_c rfl)) fun _ => et_test (ev_ne (c_gcd (by walk_at "ev") s2) ev_c rfl)) (by rw [decide_eq_false (show ¬ q.2 < 1 by omega), e1, h3]; decide) ?_
  exact st_retE (by walk_at "ev") (rInt_eq e2)
/-! numbers drawn of a row -/
def kBase (row : Int) : Int := row / 6 % (10 ^ (9 : Int).toNat)
def lnQ (row : Int) : Q :=
  let b := kBase row
  if row % 6 = 0 then nrm (b * b) (10 ^ (12 : Int).toNat)
  else if row % 6 = 1 then nrm (b * b * 10 ^ (9 : Int).toNat + 1) (10 ^ (21 : Int).toNat)
  else if row % 6 = 2 then nrm (b * b * 10 ^ (9 : Int).toNat - 1) (10 ^ (21 : Int).toNat)
  else if row % 6 = 3 then nrm (row * row * row % (10 ^ (40 : Int).toNat)) (1 + b)
  else if row % 6 = 4 then nrm b (1 + row / 7 % (10 ^ (12 : Int).toNat))
  else nrm (-b) 7
theorem kBase_ok (row : Int) : 0 ≤ kBase row ∧ kBase row < 1000000000 := ⟨Int.emod_nonneg _ (by decide), Int.emod_lt_of_pos _ (by decide)⟩
theorem sm_bound {x : Int} {B k : Nat} (h : x.natAbs ≤ B) (hk : B < 2 ^ k) : Sm k x := Nat.lt_of_le_of_lt h hk
theorem lnQ_ok (row : Int) : Bq 150 150 (lnQ row) := by
  have hb := kBase_ok row
  unfold lnQ
  dsimp only
  generalize kBase row = b at hb
  have sb : Sm 30 b := sm_bound (B := 1000000000) (by omega) (by decide)
  have h9 : Sm 30 (10 ^ (9 : Int).toNat) := by decide
  have h21 : Sm 70 (10 ^ (21 : Int).toNat) := by decide
  have up : ∀ {n d : Int} {k l : Nat}, d ≠ 0 → Sm k n → Sm l d → k ≤ 150 → l ≤ 150 → Bq 150 150 (nrm n d) := fun h1 h2 h3 h4 h5 => nrm_bq h1 (h2.mono h4) (h3.mono h5)
  split
  · exact up (by decide) (sb.mul sb) s12 (by decide) (by decide)
  split
  · exact up (by decide) (((sb.mul sb).mul h9).add (show Sm 90 1 by decide)) h21 (by decide) (by decide)
  split
  · exact up (by decide) (((sb.mul sb).mul h9).sub (show Sm 90 1 by decide)) h21 (by decide) (by decide)
  split
  · have h1 := Int.emod_nonneg (row * row * row) (show (10 ^ (40 : Int).toNat : Int) ≠ 0 by decide)
    have h2 := Int.emod_lt_of_pos (row * row * row) (show (0 : Int) < 10 ^ (40 : Int).toNat by decide)
    have e : (10 ^ (40 : Int).toNat : Int) = 10000000000000000000000000000000000000000 := by decide
    rw [e] at h1 h2 ⊢
    exact up (k := 140) (l := 32) (by omega) (sm_bound (B := 10000000000000000000000000000000000000000) (by omega) (by decide)) (sm_bound (B := 1000000001) (by omega) (by decide)) (by decide) (by decide)
  split
  · have h1 := Int.emod_nonneg (row / 7) (show (10 ^ (12 : Int).toNat : Int) ≠ 0 by decide)
    have h2 := Int.emod_lt_of_pos (row / 7) (show (0 : Int) < 10 ^ (12 : Int).toNat by decide)
    have e : (10 ^ (12 : Int).toNat : Int) = 1000000000000 := by decide
    rw [e] at h1 h2 ⊢
    exact up (k := 30) (l := 42) (by omega) sb (sm_bound (B := 1000000000001) (by omega) (by decide)) (by decide) (by decide)
  · exact up (l := 3) (by decide) sb.neg (by decide) (by decide) (by decide)
def RowP (row : Int) : Prop := 0 ≤ row ∧ lg row ≤ 1100000
def spNumber (K : PySem.W.Frag) : Sp := spOf (fun n : Int => [rInt n]) RowP fun n => rQ K (lnQ n)
theorem c_number {Γ : List En} {tl : TA} {E : XK} {n : Int} (h : EvA tl Γ (lAll [rInt n])) (p : RowP n) : Ev (tCall (spNumber K) [] E tl) Γ (rQ K (lnQ n)) := ev_call0 n h p
theorem int_ne {a b : Int} (h : decide (V.int a = V.int b) = false) : a ≠ b := fun z => of_decide_eq_false h (by rw [z])
theorem int_eq {a b : Int} (h : decide (V.int a = V.int b) = true) : a = b := V.int.inj (of_decide_eq_true h)
theorem ok__law_number (T : Txt K mg) : FnOk P w K mg base CX0 2 T.f__law_number T.d__law_number ["row"] (spNumber K) := by
  refine fn_ok 2 T.F__law_number sc__law_number rfl (fun _ => rfl) fun cdv A outer s H E hr => ⟨_, (pss_cons (ps_set (i := 1) sc__law_number.nd rfl (.inl rfl) (pe_op op_mod (pe_callTy call_int1 (by rfl) T.z_int (by decide +kernel) (pa_cons (pv 0) pa_nil)) pe_int)) (pss_cons (ps_set (i := 2) sc__law_number.nd rfl (.inl rfl) (pe_op op_mod (pe_callTy call_int1 (by rfl) T.z_int (by decide +kernel) (pa_cons (pe_op op_fdivW (pv 0) pe_int) pa_nil)) (pe_op op_pow pe_int pe_int))) (pss_cons (ps_if (pt_cmpR op_eq (pv 1) pe_int (nomark _)) (pss_one (ps_ret (pe_call (ok_ratio T) (hr.mono (by decide)) (by rfl) T.g_ratio T.F_ratio.kp T.b_ratio .nil pass0 (pa_cons (pe_op op_mulY (pv 2) (pv 2)) (pa_cons (pe_op op_pow pe_int pe_int) pa_nil))))) pss_nil) (pss_cons (ps_if (pt_cmpR op_eq (pv 1) pe_int (nomark _)) (pss_one (ps_ret (pe_call (ok_ratio T) (hr.mono (by decide)) (by rfl) T.g_ratio T.F_ratio.kp T.b_ratio .nil pass0 (pa_cons (pe_op op_add (pe_op op_mulY (pe_op op_mulY (pv 2) (pv 2)) (pe_op op_pow pe_int pe_int)) pe_int) (pa_cons (pe_op op_pow pe_int pe_int) pa_nil))))) pss_nil) (pss_cons (ps_if (pt_cmpR op_eq (pv 1) pe_int (nomark _)) (pss_one (ps_ret (pe_call (ok_ratio T) (hr.mono (by decide)) (by rfl) T.g_ratio T.F_ratio.kp T.b_ratio .nil pass0 (pa_cons (pe_op op_sub (pe_op op_mulY (pe_op op_mulY (pv 2) (pv 2)) (pe_op op_pow pe_int pe_int)) pe_int) (pa_cons (pe_op op_pow pe_int pe_int) pa_nil))))) pss_nil) (pss_cons (ps_if (pt_cmpR op_eq (pv 1) pe_int (nomark _)) (pss_one (ps_ret (pe_call (ok_ratio T) (hr.mono (by decide)) (by rfl) T.g_ratio T.F_ratio.kp T.b_ratio .nil pass0 (pa_cons (pe_op op_mod (pe_callTy call_int1 (by rfl) T.z_int (by decide +kernel) (pa_cons (pe_op op_mulY (pe_op op_mulY (pv 0) (pv 0)) (pv 0)) pa_nil)) (pe_op op_pow pe_int pe_int)) (pa_cons (pe_op op_add pe_int (pv 2)) pa_nil))))) pss_nil) (pss_cons (ps_if (pt_cmpR op_eq (pv 1) pe_int (nomark _)) (pss_one (ps_ret (pe_call (ok_ratio T) (hr.mono (by decide)) (by rfl) T.g_ratio T.F_ratio.kp T.b_ratio .nil pass0 (pa_cons (pv 2) (pa_cons (pe_op op_add pe_int (pe_op op_mod (pe_callTy call_int1 (by rfl) T.z_int (by decide +kernel) (pa_cons (pe_op op_fdivW (pv 0) pe_int) pa_nil)) (pe_op op_pow pe_int pe_int))) pa_nil))))) pss_nil) (pss_one (ps_ret (pe_call (ok_ratio T) (hr.mono (by decide)) (by rfl) T.g_ratio T.F_ratio.kp T.b_ratio .nil pass0 (pa_cons (pe_un un_neg (pv 2)) (pa_cons pe_int pa_nil)))))))))))), fun i hi => ?_⟩
  obtain ⟨h0, hl⟩ := hi
  show Stm _ [.im (rInt i), .no, .no] _
  have z6 : (0 : Int) < 6 := by decide
  have z9 : (0 : Int) < 10 ^ (9 : Int).toNat := by decide
  have z40 : (0 : Int) < 10 ^ (40 : Int).toNat := by decide
  have z12 : (0 : Int) < 10 ^ (12 : Int).toNat := by decide
  have p9 : CPow 10 9 := ⟨by decide, by decide, by decide⟩
  have q12 := p12
  have p21 : CPow 10 21 := ⟨by decide, by decide, by decide⟩
  have p40 : CPow 10 40 := ⟨by decide, by decide, by decide⟩
  have d6 : CDivW i 6 := ⟨by decide, by decide⟩
  have d7 : CDivW i 7 := ⟨by decide, by decide⟩
  refine st_set (by walk_at "ev") ?_
  refine st_set (A := rInt (kBase i)) (by walk_at "ev") ?_
  show Stm _ [.im (rInt i), .im (rInt (i % 6)), .im (rInt (kBase i))] _
  have hb := kBase_ok i
  have hq : lnQ i = lnQ i := rfl
  conv at hq => rhs; unfold lnQ
  dsimp only at hq
  generalize kBase i = b at hb hq
  have sb : Sm 30 b := sm_bound (B := 1000000000) (by omega) (by decide)
  have h9 : Sm 30 (10 ^ (9 : Int).toNat) := by decide
  have mb : CMulY b b := sb.mulX sb (by decide)
  have mb9 : CMulY (b * b) (10 ^ (9 : Int).toNat) := (sb.mul sb).mulX h9 (by decide)
  refine st_guard (b := decide (V.int (i % 6) = V.int 0)) (et_test (ev_eq (ev_var rfl) ev_c rfl)) (fun z => ?_) fun z0 => ?_
  · refine st_retE (c_ratio (n := b * b) (d := 10 ^ (12 : Int).toNat) (by walk_at "ev") (by decide) (by decide)) ?_
    rw [if_pos (int_eq z)] at hq
    show rQ K _ = rQ K (lnQ i)
    rw [hq]
  rw [if_neg (int_ne z0)] at hq
  refine st_guard (b := decide (V.int (i % 6) = V.int 1)) (et_test (ev_eq (ev_var rfl) ev_c rfl)) (fun z => ?_) fun z1 => ?_
  · refine st_retE (c_ratio (n := b * b * 10 ^ (9 : Int).toNat + 1) (d := 10 ^ (21 : Int).toNat) (by walk_at "ev") (by decide) (by decide)) ?_
    rw [if_pos (int_eq z)] at hq
    show rQ K _ = rQ K (lnQ i)
    rw [hq]
  rw [if_neg (int_ne z1)] at hq
  refine st_guard (b := decide (V.int (i % 6) = V.int 2)) (et_test (ev_eq (ev_var rfl) ev_c rfl)) (fun z => ?_) fun z2 => ?_
  · refine st_retE (c_ratio (n := b * b * 10 ^ (9 : Int).toNat - 1) (d := 10 ^ (21 : Int).toNat) (by walk_at "ev") (by decide) (by decide)) ?_
    rw [if_pos (int_eq z)] at hq
    show rQ K _ = rQ K (lnQ i)
    rw [hq]
  rw [if_neg (int_ne z2)] at hq
  refine st_guard (b := decide (V.int (i % 6) = V.int 3)) (et_test (ev_eq (ev_var rfl) ev_c rfl)) (fun z => ?_) fun z3 => ?_
  · have m1 : CMulY i i := by
      unfold CMulY
      omega
    have m2 : CMulY (i * i) i := by
      have := lg_mul i i
      unfold CMulY
      omega
    refine st_retE (c_ratio (n := i * i * i % (10 ^ (40 : Int).toNat)) (d := 1 + b) (by walk_at "ev") (by omega) (Nat.lt_of_le_of_lt (sm_bound (k := 32) (B := 1000000001) (x := 1 + b) (by omega) (by decide)).lg (by decide))) ?_
    rw [if_pos (int_eq z)] at hq
    show rQ K _ = rQ K (lnQ i)
    rw [hq]
  rw [if_neg (int_ne z3)] at hq
  refine st_guard (b := decide (V.int (i % 6) = V.int 4)) (et_test (ev_eq (ev_var rfl) ev_c rfl)) (fun z => ?_) fun z4 => ?_
  · have h1 := Int.emod_nonneg (i / 7) (show (10 ^ (12 : Int).toNat : Int) ≠ 0 by decide)
    have h2 := Int.emod_lt_of_pos (i / 7) (show (0 : Int) < 10 ^ (12 : Int).toNat by decide)
    have e : (10 ^ (12 : Int).toNat : Int) = 1000000000000 := by decide
    refine st_retE (c_ratio (n := b) (d := 1 + i / 7 % (10 ^ (12 : Int).toNat)) (by walk_at "ev") (by omega) (Nat.lt_of_le_of_lt (sm_bound (k := 42) (B := 1000000000001) (x := 1 + i / 7 % (10 ^ (12 : Int).toNat)) (by rw [e] at h1 h2 ⊢; omega) (by decide)).lg (by decide))) ?_
    rw [if_pos (int_eq z)] at hq
    show rQ K _ = rQ K (lnQ i)
    rw [hq]
  rw [if_neg (int_ne z4)] at hq
  refine st_retE (c_ratio (n := -b) (d := 7) (by walk_at "ev") (by decide) (by decide)) ?_
  show rQ K _ = rQ K (lnQ i)
  rw [hq]
/-! the mathematics -/
theorem zero_is : IsQ (0, 1) 0 1000000 := ⟨by decide, by decide, by decide⟩
theorem rbS_sm {q : Q} (b : Bq 150 150 q) : Sm 200 (rbS q) := by
  by_cases z : q.1 < 0
  · have e : rbS q = 0 := if_pos z
    rw [e]
    decide
  · have e : rbS q = (isq (q.1 * 10 ^ (12 : Int).toNat / q.2) : Int) := if_neg z
    have h0 : 0 ≤ q.1 * 10 ^ (12 : Int).toNat / q.2 := Int.ediv_nonneg (Int.mul_nonneg (by omega) (by decide)) (by have := b.pos; omega)
    have h1 := isq_self h0
    rw [e]
    exact Sm.mono (k := 190) (Sm.le (sm_div (d := q.2) (b.n.mul s12)) (by omega)) (by decide)
theorem raS_sm {q : Q} (b : Bq 150 150 q) : Sm 200 (raS q) := by
  by_cases z : q.1 ≤ 0
  · have e : raS q = 0 := if_pos z
    rw [e]
    decide
  · have e : raS q = (isq (-(-q.1 * 10 ^ (12 : Int).toNat / q.2) - 1) : Int) + 1 := if_neg z
    have h0 : 0 ≤ -(-q.1 * 10 ^ (12 : Int).toNat / q.2) - 1 := by
      have hn : -q.1 * 10 ^ (12 : Int).toNat < 0 := Int.mul_neg_of_neg_of_pos (by omega) (by decide)
      have := Int.ediv_neg_of_neg_of_pos hn b.pos
      omega
    have h1 := isq_self h0
    rw [e]
    have s1 : Sm 191 (-(-q.1 * 10 ^ (12 : Int).toNat / q.2) - 1) := Sm.sub (k := 190) (sm_div (d := q.2) (b.n.neg.mul s12)).neg (by decide)
    exact Sm.mono (k := 192) (Sm.add (k := 191) (Sm.le s1 (by omega)) (by decide)) (by decide)
theorem rbQ_ok {q : Q} (b : Bq 150 150 q) : StP (rbQ q, rbS q) := by
  unfold rbQ
  by_cases z : q.1 < 0
  · have e : rbS q = 0 := if_pos z
    rw [if_pos z, e]
    exact ⟨zero_is, by decide, show Sm 100000 0 from Nat.pow_pos (by decide), show Sm 2600 1 from (show Sm 1 1 by decide).mono (by decide)⟩
  · have e : rbS q = (isq (q.1 * 10 ^ (12 : Int).toNat / q.2) : Int) := if_neg z
    have h0 : 0 ≤ q.1 * 10 ^ (12 : Int).toNat / q.2 := Int.ediv_nonneg (Int.mul_nonneg (by omega) (by decide)) (by have := b.pos; omega)
    have h1 := isq_self h0
    have sx : Sm 190 (rbS q) := by
      rw [e]
      exact Sm.le (sm_div (d := q.2) (b.n.mul s12)) (by omega)
    rw [if_neg z]
    have s := nrm_sm n6 sx (show Sm 20 1000000 by decide)
    exact ⟨nrm_is n6, by rw [e]; omega, s.1.mono (by decide), s.2.mono (by decide)⟩
theorem raS_pos {q : Q} : 0 ≤ raS q := by
  unfold raS
  split
  · exact Int.le_refl 0
  · omega
theorem raQ_ok {q : Q} (b : Bq 150 150 q) : StP (raQ q, raS q) := by
  have sx := raS_sm b
  have s := nrm_sm n6 sx (show Sm 20 1000000 by decide)
  exact ⟨nrm_is n6, raS_pos, s.1.mono (by decide), s.2.mono (by decide)⟩
theorem rb_le {q : Q} (h : 0 < q.1) (hd : 0 < q.2) : rbS q * rbS q * q.2 ≤ q.1 * 10 ^ (12 : Int).toNat ∧ q.1 * 10 ^ (12 : Int).toNat < (rbS q + 1) * (rbS q + 1) * q.2 := by
  have e : rbS q = (isq (q.1 * 10 ^ (12 : Int).toNat / q.2) : Int) := if_neg (by omega)
  rw [e]
  generalize hs : q.1 * 10 ^ (12 : Int).toNat = s
  have s0 : 0 ≤ s := by
    rw [← hs]
    exact Int.mul_nonneg (by omega) (by decide)
  have h0 : 0 ≤ s / q.2 := Int.ediv_nonneg s0 (by omega)
  have h1 := isq_le h0
  have h2 := isq_lt h0
  generalize (isq (s / q.2) : Int) = r at h1 h2
  constructor
  · have h3 : r * r * q.2 ≤ s / q.2 * q.2 := Int.mul_le_mul_of_nonneg_right h1 (by omega)
    have h4 := Int.ediv_mul_le s (show q.2 ≠ 0 by omega)
    omega
  · have h3 : (s / q.2 + 1) * q.2 ≤ (r + 1) * (r + 1) * q.2 := Int.mul_le_mul_of_nonneg_right (by omega) (by omega)
    have h4 := Int.lt_ediv_add_one_mul_self s hd
    omega
theorem ra_le {q : Q} (h : 0 < q.1) (hd : 0 < q.2) : q.1 * 10 ^ (12 : Int).toNat ≤ raS q * raS q * q.2 ∧ (raS q - 1) * (raS q - 1) * q.2 < q.1 * 10 ^ (12 : Int).toNat := by
  have e : raS q = (isq (-(-q.1 * 10 ^ (12 : Int).toNat / q.2) - 1) : Int) + 1 := if_neg (by omega)
  rw [e]
  have hn : -q.1 * 10 ^ (12 : Int).toNat = -(q.1 * 10 ^ (12 : Int).toNat) := Int.neg_mul _ _
  rw [hn]
  have s0 : 0 < q.1 * 10 ^ (12 : Int).toNat := Int.mul_pos h (by decide)
  generalize q.1 * 10 ^ (12 : Int).toNat = s at s0
  have h5 := Int.ediv_mul_le (-s) (show q.2 ≠ 0 by omega)
  have h6 := Int.lt_ediv_add_one_mul_self (-s) hd
  have h7 := Int.ediv_neg_of_neg_of_pos (show -s < 0 by omega) hd
  generalize -s / q.2 = c at h5 h6 h7
  have h0 : 0 ≤ -c - 1 := by omega
  have h1 := isq_le h0
  have h2 := isq_lt h0
  generalize (isq (-c - 1) : Int) = r at h1 h2
  constructor
  · have h3 : (-c) * q.2 ≤ (r + 1) * (r + 1) * q.2 := Int.mul_le_mul_of_nonneg_right (by omega) (by omega)
    rw [Int.neg_mul] at h3
    omega
  · have h3 : r * r * q.2 ≤ (-c - 1) * q.2 := Int.mul_le_mul_of_nonneg_right h1 (by omega)
    have e2 : (-c - 1) * q.2 = -((c + 1) * q.2) := by grind
    rw [e2] at h3
    rw [Int.add_sub_cancel]
    omega
theorem rb_zero {q : Q} (h : q.1 ≤ 0) (hd : 0 < q.2) (lo : Nat.gcd q.1.natAbs q.2.natAbs = 1 ∨ True) : rbS q = 0 := by
  unfold rbS
  by_cases z : q.1 < 0
  · rw [if_pos z]
  · rw [if_neg z]
    have e : q.1 = 0 := by omega
    rw [e, Int.zero_mul, Int.zero_ediv]
    decide
theorem ok_law (T : Txt K mg) : FnOk P w K mg base CX0 3 T.f_law T.d_law ["script"] (spLaw K) := by
  refine fn_ok 7 T.F_law sc_law rfl (fun _ => rfl) fun cdv A outer s H E hr => ⟨_, (pss_cons (ps_set (i := 1) sc_law.nd rfl (.inl rfl) (pe_call (ok__law_rows T) (hr.mono (by decide)) (by rfl) T.g__law_rows T.F__law_rows.kp T.b__law_rows .nil pass0 (pa_cons (pv 0) (pa_cons pe_int pa_nil)))) (pss_cons (ps_for PassesOwn.never rfl (pi_list (pv 1)) (pg_name (i := 2) sc_law.nd rfl (.inl rfl)) (pss_cons (ps_asg (pe_call (ok__law_number T) (hr.mono (by decide)) (by rfl) T.g__law_number T.F__law_number.kp T.b__law_number .nil pass0 (pa_cons (pv 2) pa_nil)) (pg_tup rfl (pgs_cons (pg_name (i := 3) sc_law.nd rfl (.inl rfl)) (pgs_cons (pg_name (i := 4) sc_law.nd rfl (.inl rfl)) pgs_nil)))) (pss_cons (ps_set (i := 5) sc_law.nd rfl (.inl rfl) (pe_call (ok__law_steps T) (hr.mono (by decide)) (by rfl) T.g__law_steps T.F__law_steps.kp T.b__law_steps .nil pass0 (pa_cons (pe_call (ok_root_below T) (hr.mono (by decide)) (by rfl) T.g_root_below T.F_root_below.kp T.b_root_below .nil pass0 (pa_cons (pe_tup (pa_cons (pv 3) (pa_cons (pv 4) pa_nil))) pa_nil)) pa_nil))) (pss_cons (ps_set (i := 6) sc_law.nd rfl (.inl rfl) (pe_call (ok__law_steps T) (hr.mono (by decide)) (by rfl) T.g__law_steps T.F__law_steps.kp T.b__law_steps .nil pass0 (pa_cons (pe_call (ok_root_above T) (hr.mono (by decide)) (by rfl) T.g_root_above T.F_root_above.kp T.b_root_above .nil pass0 (pa_cons (pe_tup (pa_cons (pv 3) (pa_cons (pv 4) pa_nil))) pa_nil)) pa_nil))) (pss_cons (ps_if (pt_cmpR op_le (pv 3) pe_int (nomark _)) (pss_cons (ps_if (PW.pt (pw_or (pt_cmpR op_ne (pv 5) pe_int (nomark _)) (pw_or1 (pt_cmpR op_ne (pv 6) pe_int (nomark _))))) (pss_one (ps_ret pe_bl)) pss_nil) (pss_one ps_continue)) pss_nil) (pss_cons (ps_set (i := 7) sc_law.nd rfl (.inl rfl) (pe_op op_mulY (pv 3) (pe_op op_pow pe_int pe_int))) (pss_cons (ps_if (PW.pt (pw_or (pt_cmpR op_lt (pv 5) pe_int (nomark _)) (pw_or (pt_cmpR op_lt (pv 6) pe_int (nomark _)) (pw_or (pt_cmpR op_gt (pe_op op_mulY (pe_op op_mulY (pv 5) (pv 5)) (pv 4)) (pv 7) (nomark _)) (pw_or1 (pt_cmpR op_le (pe_op op_mulY (pe_op op_mulY (pe_op op_add (pv 5) pe_int) (pe_op op_add (pv 5) pe_int)) (pv 4)) (pv 7) (nomark _))))))) (pss_one (ps_ret pe_bl)) pss_nil) (pss_one (ps_if (PW.pt (pw_or (pt_cmpR op_lt (pe_op op_mulY (pe_op op_mulY (pv 6) (pv 6)) (pv 4)) (pv 7) (nomark _)) (pw_or1 (PW.pt (pw_and (pt_cmpR op_gt (pv 6) pe_int (nomark _)) (pw_and1 (pt_cmpR op_ge (pe_op op_mulY (pe_op op_mulY (pe_op op_sub (pv 6) pe_int) (pe_op op_sub (pv 6) pe_int)) (pv 4)) (pv 7) (nomark _)))))))) (pss_one (ps_ret pe_bl)) pss_nil))))))))) (pss_one (ps_ret (pe_cmpR op_eq (pe_call (ok__law_steps T) (hr.mono (by decide)) (by rfl) T.g__law_steps T.F__law_steps.kp T.b__law_steps .nil pass0 (pa_cons (pe_call (ok_root_above T) (hr.mono (by decide)) (by rfl) T.g_root_above T.F_root_above.kp T.b_root_above .nil pass0 (pa_cons (pe_tup (pa_cons pe_int (pa_cons pe_int pa_nil))) pa_nil)) pa_nil)) pe_int (nomark _)))))), fun i hi => ?_⟩
  show Stm _ [.im (rLst K (i.map rInt)), .no, .no, .no, .no, .no, .no, .no] _
  refine st_set (c_rows (n := 40) (by walk_at "ev") ⟨hi, by decide⟩) ?_
  show Stm _ [.im (rLst K (i.map rInt)), .im (rLst K ((List.range 40).map fun k => rInt (rowF i k))), .no, .no, .no, .no, .no, .no] _
  refine st_seq (M := fun Γ' => ∃ e2 e3 e4 e5 e6 e7, Γ' = [.im (rLst K (i.map rInt)), .im (rLst K ((List.range 40).map fun k => rInt (rowF i k))), e2, e3, e4, e5, e6, e7]) ?_ ?_
  · refine st_forL (ev_var rfl) (fun k Γ' => ∃ e2 e3 e4 e5 e6 e7, Γ' = [.im (rLst K (i.map rInt)), .im (rLst K ((List.range 40).map fun k => rInt (rowF i k))), e2, e3, e4, e5, e6, e7]) ⟨_, _, _, _, _, _, rfl⟩ ?_ fun Γ' h => h
    rintro k A _ hA ⟨e2, e3, e4, e5, e6, e7, rfl⟩
    obtain ⟨row, rfl, r0, r1⟩ : ∃ row, A = rInt row ∧ 0 ≤ row ∧ lg row ≤ 1048580 := by
      rw [List.getElem?_map] at hA
      cases e : (List.range 40)[k]? with
      | none =>
        rw [e] at hA
        cases hA
      | some j =>
        rw [e] at hA
        exact ⟨rowF i j, (Option.some.inj hA).symm, rowF_ok hi j⟩
    show Stm _ [.im (rLst K (i.map rInt)), .im (rLst K ((List.range 40).map fun k => rInt (rowF i k))), .im (rInt row), e3, e4, e5, e6, e7] _
    refine st_unpack (K := K) (A := rInt (lnQ row).1) (B := rInt (lnQ row).2) (c_number (by walk_at "ev") ⟨r0, Nat.le_trans r1 (by decide)⟩) ?_
    have hb := lnQ_ok row
    generalize lnQ row = q at hb
    show Stm _ [.im (rLst K (i.map rInt)), .im (rLst K ((List.range 40).map fun k => rInt (rowF i k))), .im (rInt row), .im (rInt q.1), .im (rInt q.2), e5, e6, e7] _
    have hq : RtP q := ⟨hb.n.mono (by decide), hb.d.mono (by decide), hb.pos⟩
    have hd := hb.pos
    have t1 := rbQ_ok hb
    have t2 := raQ_ok hb
    refine st_set (c_steps (ea_c (c_below (ea_c (ev_tup (K := K) (ea_c (ev_var rfl) (ea_c (ev_var rfl) ea_n)) (Nat.le_of_ble_eq_true rfl)) ea_n) hq) ea_n) t1) ?_
    refine st_set (c_steps (ea_c (c_above (ea_c (ev_tup (K := K) (ea_c (ev_var rfl) (ea_c (ev_var rfl) ea_n)) (Nat.le_of_ble_eq_true rfl)) ea_n) hq) ea_n) t2) ?_
    show Stm _ [.im (rLst K (i.map rInt)), .im (rLst K ((List.range 40).map fun k => rInt (rowF i k))), .im (rInt row), .im (rInt q.1), .im (rInt q.2), .im (rInt (rbS q)), .im (rInt (raS q)), e7] _
    refine st_guard (b := decide (q.1 ≤ 0)) (by walk_at "ev") (fun z => ?_) fun z => ?_
    · have z := of_decide_eq_true z
      have x1 := rb_zero z hd (.inr trivial)
      have x2 : raS q = 0 := if_pos z
      rw [x1, x2]
      refine st_skip (et_or (et_test (ev_ne (ev_var rfl) ev_c rfl)) fun _ => et_test (ev_ne (ev_var rfl) ev_c rfl)) (by decide) ?_
      exact st_cont ⟨_, _, _, _, _, _, rfl⟩
    · have z := of_decide_eq_false z
      have g1 := rb_le (show 0 < q.1 by omega) hd
      have g2 := ra_le (show 0 < q.1 by omega) hd
      have p1 : 0 ≤ rbS q := t1.pos
      have p2 : 0 ≤ raS q := t2.pos
      have w1 := rbS_sm hb
      have w2 := raS_sm hb
      generalize rbS q = a at g1 p1 w1
      generalize raS q = b at g2 p2 w2
      have q12 := p12
      have m0 : CMulY q.1 (10 ^ (12 : Int).toNat) := hb.n.mulX s12 (by decide)
      generalize hsq : q.1 * 10 ^ (12 : Int).toNat = sq at g1 g2
      have o1 : Sm 200 1 := (show Sm 1 1 by decide).mono (by decide)
      have m1 : CMulY a a := w1.mulX w1 (by decide)
      have m2 : CMulY (a * a) q.2 := (w1.mul w1).mulX hb.d (by decide)
      have m3 : CMulY (a + 1) (a + 1) := (w1.add o1).mulX (w1.add o1) (by decide)
      have m4 : CMulY ((a + 1) * (a + 1)) q.2 := ((w1.add o1).mul (w1.add o1)).mulX hb.d (by decide)
      have m5 : CMulY b b := w2.mulX w2 (by decide)
      have m6 : CMulY (b * b) q.2 := (w2.mul w2).mulX hb.d (by decide)
      have m7 : CMulY (b - 1) (b - 1) := (w2.sub o1).mulX (w2.sub o1) (by decide)
      have m8 : CMulY ((b - 1) * (b - 1)) q.2 := ((w2.sub o1).mul (w2.sub o1)).mulX hb.d (by decide)
      refine st_set (A := rInt sq) (Ev.to (by walk_at "ev") (rInt_eq hsq)) ?_
      show Stm _ [.im (rLst K (i.map rInt)), .im (rLst K ((List.range 40).map fun k => rInt (rowF i k))), .im (rInt row), .im (rInt q.1), .im (rInt q.2), .im (rInt a), .im (rInt b), .im (rInt sq)] _
      refine st_skip (et_or (a := decide (a < 0)) (by walk_at "ev") fun _ => et_or (a := decide (b < 0)) (by walk_at "ev") fun _ => et_or (a := decide (sq < a * a * q.2)) (by walk_at "ev") fun _ => (show EvT _ _ (decide ((a + 1) * (a + 1) * q.2 ≤ sq)) by walk_at "ev")) (by rw [decide_eq_false (show ¬ a < 0 by omega), decide_eq_false (show ¬ b < 0 by omega), decide_eq_false (show ¬ sq < a * a * q.2 by omega), decide_eq_false (show ¬ (a + 1) * (a + 1) * q.2 ≤ sq by omega)]; rfl) ?_
      refine st_ifF (et_or (a := decide (b * b * q.2 < sq)) (by walk_at "ev") fun _ => et_and (a := decide (0 < b)) (b := decide (sq ≤ (b - 1) * (b - 1) * q.2)) (by walk_at "ev") fun _ => by walk_at "ev") (by rw [decide_eq_false (show ¬ b * b * q.2 < sq by omega), decide_eq_false (show ¬ sq ≤ (b - 1) * (b - 1) * q.2 by omega), Bool.and_false]; rfl) ?_
      exact st_next ⟨_, _, _, _, _, _, rfl⟩
  · rintro _ ⟨e2, e3, e4, e5, e6, e7, rfl⟩
    have hq : Bq 150 150 (0, 1) := ⟨by decide, by decide, by decide⟩
    have t2 := raQ_ok hq
    have e : raS (0, 1) = 0 := rfl
    rw [e] at t2
    refine st_retE (ev_eq (x := .int 0) (y := .int 0) (c_steps (q := raQ (0, 1)) (s := 0) (ea_c (c_above (q := (0, 1)) (ea_c (ev_tup (K := K) (ea_c ev_c (ea_c ev_c ea_n)) (Nat.le_of_ble_eq_true rfl)) ea_n) ⟨by decide, by decide, by decide⟩) ea_n) t2) ev_c rfl) ?_
    exact rBl_eq (decide_eq_true rfl)
end
/-! ### the head -/
def h_ratio : He.DefD := ⟨("ratio", none), "ratio", "ratio", defArgs s_ratio, defBody s_ratio, defScope s_ratio, [.int 1], []⟩
def h_root_below : He.DefD := ⟨("root_below", none), "root_below", "root_below", defArgs s_root_below, defBody s_root_below, defScope s_root_below, [], []⟩
def h_root_above : He.DefD := ⟨("root_above", none), "root_above", "root_above", defArgs s_root_above, defBody s_root_above, defScope s_root_above, [], []⟩
def h_millionths_above : He.DefD := ⟨("millionths_above", none), "millionths_above", "millionths_above", defArgs s_millionths_above, defBody s_millionths_above, defScope s_millionths_above, [], []⟩
def h__law_rows : He.DefD := ⟨("_law_rows", none), "_law_rows", "_law_rows", defArgs s__law_rows, defBody s__law_rows, defScope s__law_rows, [], []⟩
def h__law_gcd : He.DefD := ⟨("_law_gcd", none), "_law_gcd", "_law_gcd", defArgs s__law_gcd, defBody s__law_gcd, defScope s__law_gcd, [], []⟩
def h__law_integer : He.DefD := ⟨("_law_integer", none), "_law_integer", "_law_integer", defArgs s__law_integer, defBody s__law_integer, defScope s__law_integer, [], []⟩
def h__law_is : He.DefD := ⟨("_law_is", none), "_law_is", "_law_is", defArgs s__law_is, defBody s__law_is, defScope s__law_is, [], []⟩
def h__law_number : He.DefD := ⟨("_law_number", none), "_law_number", "_law_number", defArgs s__law_number, defBody s__law_number, defScope s__law_number, [], []⟩
def h__law_steps : He.DefD := ⟨("_law_steps", none), "_law_steps", "_law_steps", defArgs s__law_steps, defBody s__law_steps, defScope s__law_steps, [], []⟩
def h_law : He.DefD := ⟨("law", none), "law", "law", defArgs s_law, defBody s_law, defScope s_law, [], []⟩
def fn : List He.DefD := [h_ratio, h_root_below, h_root_above, h_millionths_above, h__law_rows, h__law_gcd, h__law_integer, h__law_is, h__law_number, h__law_steps, h_law]
def fa : List He.Fa := [.glo "ratio", .glo "root_below", .glo "root_above", .glo "millionths_above", .glo "_law_rows", .glo "_law_gcd", .glo "_law_integer", .glo "_law_is", .glo "_law_number", .glo "_law_steps", .glo "law", .glo "ZERO", .free "abs", .free "bool", .free "int", .free "isinstance", .free "len", .free "range", .free "tuple"]
def ex (K : PySem.W.Frag) : Bool := (isVal K "gcd" (.builtin "math.gcd")) && (isVal K "isqrt" (.builtin "math.isqrt")) && (He.tupB K "ZERO" [.int 0, .int 1]) && (intB K "MILLION" 1000000)
theorem ex_0 {K : PySem.W.Frag} (h : ex K = true) : (isVal K "gcd" (.builtin "math.gcd")) = true := (Bool.and_eq_true_iff.mp (Bool.and_eq_true_iff.mp (Bool.and_eq_true_iff.mp h).1).1).1
theorem ex_1 {K : PySem.W.Frag} (h : ex K = true) : (isVal K "isqrt" (.builtin "math.isqrt")) = true := (Bool.and_eq_true_iff.mp (Bool.and_eq_true_iff.mp (Bool.and_eq_true_iff.mp h).1).1).2
theorem ex_2 {K : PySem.W.Frag} (h : ex K = true) : (He.tupB K "ZERO" [.int 0, .int 1]) = true := (Bool.and_eq_true_iff.mp (Bool.and_eq_true_iff.mp h).1).2
theorem ex_3 {K : PySem.W.Frag} (h : ex K = true) : (intB K "MILLION" 1000000) = true := (Bool.and_eq_true_iff.mp h).2
abbrev R : PySem.W.OpenRow := PySem.W.OpenLaw.row PySem.Challenge.rw_standfast_k05_roots_to_a_side
abbrev hk : PySem.W.Hook := hookE 4 fa fn ex
def ob (s : PySem.W.SharedT) : AlE := obsE 4 fa fn ex (HandSHeadRun.getT s)
theorem ob_eq (s : PySem.W.SharedT) : ob s = hk.obs s.abs := obsE_eq (HandSHeadRun.getT_eq s)
def loose0 : List Str := ["ZERO", "ratio", "MILLION", "root_below", "root_above", "millionths_above", "_law_rows", "_law_gcd", "_law_integer", "_law_is", "_law_number", "_law_steps"]
def loose : List Str := loose0
theorem run (w : World) : HandSHeadRun.RunEqI R (PySem.W.view R.prog [0, 16]) hk ob 4680 loose w := by
  unfold HandSHeadRun.RunEqI
  kernel_rfl
set_option maxHeartbeats 4000000 in
theorem facts {P : Program} {w : World} {K : PySem.W.Frag} {h : Heap} {mg : Str → Option Value} {f : Addr} (X : K.In h) (G : h.Ns mainGlobals mg) (hfa : mg ("law" : Str) = some (.ref f)) (c : He.SaysD fa fn K) (cx : ex K = true) :
    ∃ fd : FuncData, (∀ (s : Shared) (v : Value), BindsTo s fd ⟨[v], []⟩ [("script", v)]) ∧ ∀ base : Heap, K.In base → base.Ns mainGlobals mg → FnOk P w K mg base CX0 3 f fd ["script"] (spLaw K) := by
  obtain ⟨d_ratio, F_ratio⟩ := c.def_ 0 (d := h_ratio) rfl
  obtain ⟨d_root_below, F_root_below⟩ := c.def_ 1 (d := h_root_below) rfl
  obtain ⟨d_root_above, F_root_above⟩ := c.def_ 2 (d := h_root_above) rfl
  obtain ⟨d_millionths_above, F_millionths_above⟩ := c.def_ 3 (d := h_millionths_above) rfl
  obtain ⟨d__law_rows, F__law_rows⟩ := c.def_ 4 (d := h__law_rows) rfl
  obtain ⟨d__law_gcd, F__law_gcd⟩ := c.def_ 5 (d := h__law_gcd) rfl
  obtain ⟨d__law_integer, F__law_integer⟩ := c.def_ 6 (d := h__law_integer) rfl
  obtain ⟨d__law_is, F__law_is⟩ := c.def_ 7 (d := h__law_is) rfl
  obtain ⟨d__law_number, F__law_number⟩ := c.def_ 8 (d := h__law_number) rfl
  obtain ⟨d__law_steps, F__law_steps⟩ := c.def_ 9 (d := h__law_steps) rfl
  obtain ⟨d_law, F_law⟩ := c.def_ 10 (d := h_law) rfl
  have b_ratio : Binds K d_ratio ["n", "d"] [] := by
    obtain ⟨ds, r, b⟩ := FunD.binds1 F_ratio (ps := ["n", "d"]) 2 1 (by simp [h_ratio, He.DefD.dvs]) rfl fun _ _ _ _ _ _ _ us its hl hi => match us, its, hl, hi with | [_, _], [_], _, _ => ⟨_, rfl, rfl⟩
    cases r
    exact b
  have b_root_below : Binds K d_root_below ["a"] [] := FunD.bindsN F_root_below fun _ _ _ _ _ _ us hl => match us, hl with | [_], _ => rfl
  have b_root_above : Binds K d_root_above ["a"] [] := FunD.bindsN F_root_above fun _ _ _ _ _ _ us hl => match us, hl with | [_], _ => rfl
  have b_millionths_above : Binds K d_millionths_above ["n", "d"] [] := FunD.bindsN F_millionths_above fun _ _ _ _ _ _ us hl => match us, hl with | [_, _], _ => rfl
  have b__law_rows : Binds K d__law_rows ["script", "count"] [] := FunD.bindsN F__law_rows fun _ _ _ _ _ _ us hl => match us, hl with | [_, _], _ => rfl
  have b__law_gcd : Binds K d__law_gcd ["a", "b"] [] := FunD.bindsN F__law_gcd fun _ _ _ _ _ _ us hl => match us, hl with | [_, _], _ => rfl
  have b__law_integer : Binds K d__law_integer ["item"] [] := FunD.bindsN F__law_integer fun _ _ _ _ _ _ us hl => match us, hl with | [_], _ => rfl
  have b__law_is : Binds K d__law_is ["item", "n", "d"] [] := FunD.bindsN F__law_is fun _ _ _ _ _ _ us hl => match us, hl with | [_, _, _], _ => rfl
  have b__law_number : Binds K d__law_number ["row"] [] := FunD.bindsN F__law_number fun _ _ _ _ _ _ us hl => match us, hl with | [_], _ => rfl
  have b__law_steps : Binds K d__law_steps ["root"] [] := FunD.bindsN F__law_steps fun _ _ _ _ _ _ us hl => match us, hl with | [_], _ => rfl
  have b_law : Binds K d_law ["script"] [] := FunD.bindsN F_law fun _ _ _ _ _ _ us hl => match us, hl with | [_], _ => rfl
  obtain ⟨u_MILLION, g_MILLION, r_MILLION⟩ := intB_ok X G (ex_3 cx)
  have e := hfa.symm.trans (He.glo_ok X G (c.fact 10 (f := .glo "law") rfl))
  cases e
  let T : Txt K mg := {
    f_ratio := _,
    d_ratio := d_ratio,
    F_ratio := F_ratio,
    g_ratio := He.glo_ok X G (c.fact 0 (f := .glo "ratio") rfl),
    b_ratio := b_ratio,
    f_root_below := _,
    d_root_below := d_root_below,
    F_root_below := F_root_below,
    g_root_below := He.glo_ok X G (c.fact 1 (f := .glo "root_below") rfl),
    b_root_below := b_root_below,
    f_root_above := _,
    d_root_above := d_root_above,
    F_root_above := F_root_above,
    g_root_above := He.glo_ok X G (c.fact 2 (f := .glo "root_above") rfl),
    b_root_above := b_root_above,
    f_millionths_above := _,
    d_millionths_above := d_millionths_above,
    F_millionths_above := F_millionths_above,
    g_millionths_above := He.glo_ok X G (c.fact 3 (f := .glo "millionths_above") rfl),
    b_millionths_above := b_millionths_above,
    f__law_rows := _,
    d__law_rows := d__law_rows,
    F__law_rows := F__law_rows,
    g__law_rows := He.glo_ok X G (c.fact 4 (f := .glo "_law_rows") rfl),
    b__law_rows := b__law_rows,
    f__law_gcd := _,
    d__law_gcd := d__law_gcd,
    F__law_gcd := F__law_gcd,
    g__law_gcd := He.glo_ok X G (c.fact 5 (f := .glo "_law_gcd") rfl),
    b__law_gcd := b__law_gcd,
    f__law_integer := _,
    d__law_integer := d__law_integer,
    F__law_integer := F__law_integer,
    g__law_integer := He.glo_ok X G (c.fact 6 (f := .glo "_law_integer") rfl),
    b__law_integer := b__law_integer,
    f__law_is := _,
    d__law_is := d__law_is,
    F__law_is := F__law_is,
    g__law_is := He.glo_ok X G (c.fact 7 (f := .glo "_law_is") rfl),
    b__law_is := b__law_is,
    f__law_number := _,
    d__law_number := d__law_number,
    F__law_number := F__law_number,
    g__law_number := He.glo_ok X G (c.fact 8 (f := .glo "_law_number") rfl),
    b__law_number := b__law_number,
    f__law_steps := _,
    d__law_steps := d__law_steps,
    F__law_steps := F__law_steps,
    g__law_steps := He.glo_ok X G (c.fact 9 (f := .glo "_law_steps") rfl),
    b__law_steps := b__law_steps,
    f_law := _,
    d_law := d_law,
    F_law := F_law,
    g_law := He.glo_ok X G (c.fact 10 (f := .glo "law") rfl),
    b_law := b_law,
    a_ZERO := _,
    g_ZERO := He.glo_ok X G (c.fact 11 (f := .glo "ZERO") rfl),
    r_ZERO := rfl,
    t_ZERO := He.tupB_ok (ex_2 cx),
    u_MILLION := u_MILLION,
    g_MILLION := g_MILLION,
    r_MILLION := r_MILLION,
    z_abs := He.free_ok X G (c.fact 12 (f := .free "abs") rfl),
    z_bool := He.free_ok X G (c.fact 13 (f := .free "bool") rfl),
    z_int := He.free_ok X G (c.fact 14 (f := .free "int") rfl),
    z_isinstance := He.free_ok X G (c.fact 15 (f := .free "isinstance") rfl),
    z_len := He.free_ok X G (c.fact 16 (f := .free "len") rfl),
    z_range := He.free_ok X G (c.fact 17 (f := .free "range") rfl),
    z_tuple := He.free_ok X G (c.fact 18 (f := .free "tuple") rfl),
    g_gcd := isVal_ok X G (ex_0 cx),
    g_isqrt := isVal_ok X G (ex_1 cx) }
  exact ⟨d_law, fun s v => FunD.bindsA (ps := ["script"]) F_law (fun _ _ _ _ _ _ us hl => match us, hl with | [_], _ => rfl) s [v] rfl, fun base _ _ => ok_law T⟩
end Lw
open PySem PySem.W PySem.Calls PyProof.Rows
set_option maxHeartbeats 0 in
theorem PySem.Challenge.cw_standfast_k05_roots_to_a_side_holds : PySem.Challenge.rw_standfast_k05_roots_to_a_side.Holds := by
  w_on; o_law
  refine HandSHeadRun.head_imp (r := OpenLaw.row PySem.Challenge.rw_standfast_k05_roots_to_a_side) (q := view (OpenLaw.row PySem.Challenge.rw_standfast_k05_roots_to_a_side).prog [0, 16]) (H := Lw.hk) (ob := Lw.ob) (M := 4680) (loose := Lw.loose) (d := HandSHeadRun.topDef (OpenLaw.row PySem.Challenge.rw_standfast_k05_roots_to_a_side).prog 16) (kwd := []) Lw.ob_eq
    Lw.run (by kernel_rfl) (by kernel_rfl) (by kernel_rfl) (by rfl) (by first | assumption | decide +kernel) (by decide +kernel) ⟨rfl, rfl, rfl, rfl, rfl, by decide +kernel⟩ ?hw ?hc
  case hw => w_witness2
  case hc =>
    refine Fz.walk_E (l := PySem.Challenge.rw_standfast_k05_roots_to_a_side) (n := 63) (k := 3) (x := "script") rfl (by decide) (by kernel_rfl) ⟨rfl, by decide, by decide⟩ ?F
    intro w mg fa h Y G hmg0
    obtain ⟨K, KX, c, cx⟩ := Y
    have hmg : mg ("law" : PySem.Str) = some (.ref fa) := by
      have e : (HandSHeadRun.topDef (OpenLaw.row PySem.Challenge.rw_standfast_k05_roots_to_a_side).prog 16).name = ("law" : PySem.Str) := by kernel_rfl
      rw [← e]
      exact hmg0
    obtain ⟨fd, hb, hF⟩ := Lw.facts (P := (PySem.Challenge.rw_standfast_k05_roots_to_a_side).prog) (w := w) KX G hmg c cx
    exact ⟨K, fd, Fz.spLaw K, KX, hb, fun H a ns hl hbits hS => Fz.law_sp hl hbits hS, hF⟩
